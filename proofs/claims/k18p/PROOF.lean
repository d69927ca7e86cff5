import PyProof.Rows.All
import Wide.All
import OpenK.AllK
import Wide.FinOn
import HandS.ForMost
import HandS.ForExc
import HandS.OwnEq
import HandS.Property
import HandS.ClsMeth
import HandS.Star
import HandS.CallSlots
import HandS.Wide
import HandS.IsInst
import HandS.Conv
import HandS.Deep
import HandS.DeepEq
import HandS.TupAny
import HandS.Style
import HandS.Small
import PyProof.InstNe
import HandS.Defaults
import HandS.Flow
import HandS.ExcOwn
import HandS.More
import HandS.NoneIn
import HandS.Nested
import HandS.ExcInit
import HandS.ExcField
import HandS.FStr
import KE.KExcSuper
import HandS.TupMul
import HandS.SetFor
import HandS.Strs
import HandS.MakeKwOnly
import KE.GoesMore
import PyProof.EnumMake
import PyProof.Draws
import KE.KRevSl
import KE.RegKSuper
import PySem.Challenge.RW_shortkeys_k18_whole_plan_parts
set_option Elab.async false
set_option linter.all false
set_option maxRecDepth 100000
/-! A layer of plain data over the hand layer: what stands in the heap is read as a tree D, what an expression gives is a function of the slots' trees. -/
namespace Dl
open PySem PySem.Spec PyProof.Rows L2

inductive D where
  | non | bl (b : Bool) | int (i : Int) | str (x : Str)
  | tup (xs : List D) | lst (xs : List D)
  | dic (ks : List Key) (xs : List D)
  | ins (c : Nat) (ns : List Str) (xs : List D)
  | scr (ns : List Int)
  | cls (c : Nat)

/-- what there is of classes: their addresses, the errors' values and fields -/
structure Cl where
  at_ : Nat → Addr
  xv : Nat → Value
  xn : Nat → List Str

mutual
def Rep (K : PySem.W.Frag) (cl : Cl) (H : Hp) : D → V → Prop
  | .non, v => v = .non
  | .bl b, v => v = .bl b
  | .int i, v => v = .int i
  | .str x, v => v = .str x
  | .tup xs, v => ∃ a vs, v = .ref a ∧ SqT K H a vs ∧ Reps K cl H xs vs
  | .lst xs, v => ∃ a vs, v = .ref a ∧ H a = some (.lst vs) ∧ Reps K cl H xs vs
  | .dic ks xs, v => ∃ a vs, v = .ref a ∧ H a = some (.dK (ks.zip vs)) ∧ ks.length = vs.length ∧ Reps K cl H xs vs
  | .ins c ns xs, v => ∃ a dx vs, v = .ref a ∧ H a = some (.ins (cl.at_ c) dx (ns.zip vs)) ∧ ns.length = vs.length ∧ Reps K cl H xs vs
  | .scr ns, v => ∃ a, v = .ref a ∧ SqL K H a (ns.map V.int)
  | .cls c, v => v = .ref (cl.at_ c)
def Reps (K : PySem.W.Frag) (cl : Cl) (H : Hp) : List D → List V → Prop
  | [], vs => vs = []
  | x :: xs, vs => ∃ v ws, vs = v :: ws ∧ Rep K cl H x v ∧ Reps K cl H xs ws
end

section
variable {K : PySem.W.Frag} {cl : Cl} {H H' : Hp}
mutual
theorem rep_mono (e : Ext H H') : ∀ (d : D) (v : V), Rep K cl H d v → Rep K cl H' d v
  | .non, _, h => h
  | .bl _, _, h => h
  | .int _, _, h => h
  | .str _, _, h => h
  | .tup xs, _, h => by
    unfold Rep at h ⊢
    obtain ⟨a, vs, h1, h2, h3⟩ := h
    exact ⟨a, vs, h1, h2.ext e, reps_mono e xs vs h3⟩
  | .lst xs, _, h => by
    unfold Rep at h ⊢
    obtain ⟨a, vs, h1, h2, h3⟩ := h
    exact ⟨a, vs, h1, e _ _ h2, reps_mono e xs vs h3⟩
  | .dic ks xs, _, h => by
    unfold Rep at h ⊢
    obtain ⟨a, vs, h1, h2, h3, h4⟩ := h
    exact ⟨a, vs, h1, e _ _ h2, h3, reps_mono e xs vs h4⟩
  | .ins c ns xs, _, h => by
    unfold Rep at h ⊢
    obtain ⟨a, dx, vs, h1, h2, h3, h4⟩ := h
    exact ⟨a, dx, vs, h1, e _ _ h2, h3, reps_mono e xs vs h4⟩
  | .scr ns, _, h => by
    unfold Rep at h ⊢
    obtain ⟨a, h1, h2⟩ := h
    exact ⟨a, h1, h2.ext e⟩
  | .cls c, _, h => h
theorem reps_mono (e : Ext H H') : ∀ (ds : List D) (vs : List V), Reps K cl H ds vs → Reps K cl H' ds vs
  | [], _, h => h
  | x :: xs, _, h => by
    unfold Reps at h ⊢
    obtain ⟨v, ws, h1, h2, h3⟩ := h
    exact ⟨v, ws, h1, rep_mono e x v h2, reps_mono e xs ws h3⟩
end

theorem reps_len : ∀ {ds : List D} {vs : List V}, Reps K cl H ds vs → ds.length = vs.length
  | [], _, h => by unfold Reps at h; subst h; rfl
  | x :: xs, _, h => by
    unfold Reps at h
    obtain ⟨v, ws, rfl, _, h3⟩ := h
    rw [List.length_cons, List.length_cons, reps_len h3]
theorem reps_nil : Reps K cl H [] [] := by unfold Reps; rfl
theorem reps_cons {d : D} {ds : List D} {v : V} {vs : List V} (h : Rep K cl H d v) (hs : Reps K cl H ds vs) : Reps K cl H (d :: ds) (v :: vs) := by
  unfold Reps
  exact ⟨v, vs, rfl, h, hs⟩
theorem reps_get : ∀ {ds : List D} {vs : List V} {i : Nat} {d : D}, Reps K cl H ds vs → ds[i]? = some d → ∃ v, vs[i]? = some v ∧ Rep K cl H d v
  | [], _, _, _, _, e => by simp at e
  | x :: xs, _, 0, d, h, e => by
    unfold Reps at h
    obtain ⟨v, ws, rfl, h2, _⟩ := h
    simp at e
    subst e
    exact ⟨v, rfl, h2⟩
  | x :: xs, _, i + 1, d, h, e => by
    unfold Reps at h
    obtain ⟨v, ws, rfl, _, h3⟩ := h
    obtain ⟨u, h4, h5⟩ := reps_get (i := i) h3 (by simpa using e)
    exact ⟨u, by simpa using h4, h5⟩
theorem reps_get' : ∀ {ds : List D} {vs : List V} {i : Nat} {v : V}, Reps K cl H ds vs → vs[i]? = some v → ∃ d, ds[i]? = some d ∧ Rep K cl H d v := fun {ds vs i v} h e => by
  have hl := reps_len h
  have hi : i < vs.length := (List.getElem?_eq_some_iff.mp e).1
  obtain ⟨u, h1, h2⟩ := reps_get (i := i) h (List.getElem?_eq_getElem (by omega))
  rw [e] at h1
  cases h1
  exact ⟨_, List.getElem?_eq_getElem (by omega), h2⟩
theorem reps_app : ∀ {ds es : List D} {vs ws : List V}, Reps K cl H ds vs → Reps K cl H es ws → Reps K cl H (ds ++ es) (vs ++ ws)
  | [], _, _, _, h, k => by unfold Reps at h; subst h; exact k
  | x :: xs, _, _, _, h, k => by
    unfold Reps at h
    obtain ⟨v, us, rfl, h2, h3⟩ := h
    exact reps_cons h2 (reps_app h3 k)
theorem reps_take : ∀ {ds : List D} {vs : List V} (n : Nat), Reps K cl H ds vs → Reps K cl H (ds.take n) (vs.take n)
  | _, _, 0, _ => by simpa using reps_nil
  | [], _, n + 1, h => by unfold Reps at h; subst h; simpa using reps_nil
  | x :: xs, _, n + 1, h => by
    unfold Reps at h
    obtain ⟨v, us, rfl, h2, h3⟩ := h
    exact reps_cons h2 (reps_take n h3)
theorem reps_drop : ∀ {ds : List D} {vs : List V} (n : Nat), Reps K cl H ds vs → Reps K cl H (ds.drop n) (vs.drop n)
  | _, _, 0, h => h
  | [], _, n + 1, h => by unfold Reps at h; subst h; simpa using reps_nil
  | x :: xs, _, n + 1, h => by
    unfold Reps at h
    obtain ⟨v, us, rfl, h2, h3⟩ := h
    exact reps_drop n h3
theorem reps_rev : ∀ {ds : List D} {vs : List V}, Reps K cl H ds vs → Reps K cl H ds.reverse vs.reverse
  | [], _, h => by unfold Reps at h; subst h; exact reps_nil
  | x :: xs, _, h => by
    unfold Reps at h
    obtain ⟨v, us, rfl, h2, h3⟩ := h
    rw [List.reverse_cons, List.reverse_cons]
    exact reps_app (reps_rev h3) (reps_cons h2 reps_nil)
theorem reps_of_get {ds : List D} {vs : List V} (hl : ds.length = vs.length) (h : ∀ (i : Nat) d v, ds[i]? = some d → vs[i]? = some v → Rep K cl H d v) : Reps K cl H ds vs := by
  induction ds generalizing vs with
  | nil => cases vs with
    | nil => exact reps_nil
    | cons _ _ => simp at hl
  | cons x xs ih => cases vs with
    | nil => simp at hl
    | cons v vs => exact reps_cons (h 0 x v rfl rfl) (ih (by simpa using hl) fun i d v h1 h2 => h (i + 1) d v (by simpa using h1) (by simpa using h2))
theorem rep_tup {xs : List D} {vs : List V} {a : Addr} (h : SqT K H a vs) (r : Reps K cl H xs vs) : Rep K cl H (.tup xs) (.ref a) := by
  unfold Rep
  exact ⟨a, vs, rfl, h, r⟩
theorem rep_lst {xs : List D} {vs : List V} {a : Addr} (h : H a = some (.lst vs)) (r : Reps K cl H xs vs) : Rep K cl H (.lst xs) (.ref a) := by
  unfold Rep
  exact ⟨a, vs, rfl, h, r⟩
end

/-! ### the addresses that are owned are hidden -/
def hide (O : List Addr) (H : Hp) : Hp := fun a => if a ∈ O then none else H a
theorem hide_in {O : List Addr} {H : Hp} {a : Addr} (h : a ∈ O) : hide O H a = none := if_pos h
theorem hide_out {O : List Addr} {H : Hp} {a : Addr} (h : a ∉ O) : hide O H a = H a := if_neg h
theorem hide_sub {O : List Addr} {H : Hp} : Ext (hide O H) H := fun a o e => by
  unfold hide at e
  split at e
  · cases e
  · exact e
theorem hide_ext {O : List Addr} {H H' : Hp} (x : Ext H H') : Ext (hide O H) (hide O H') := fun a o e => by
  unfold hide at e ⊢
  split at e
  · cases e
  · rename_i h
    rw [if_neg h]
    exact x a o e
theorem hide_less {O O' : List Addr} {H : Hp} (h : ∀ a ∈ O', a ∈ O) : Ext (hide O H) (hide O' H) := fun a o e => by
  unfold hide at e ⊢
  split at e
  · cases e
  · rename_i n
    rw [if_neg fun z => n (h a z)]
    exact e
theorem hide_upd_in {O : List Addr} {H : Hp} {a : Addr} {o : HO} (h : a ∈ O) : hide O (upd H a o) = hide O H := by
  funext b
  unfold hide
  split
  · rfl
  · rename_i n
    rw [upd_ne fun z => n (by rw [z]; exact h)]

/-! ### slots -/
inductive Own where
  | lst (xs : List D) | dic (ks : List Key) (xs : List D) | ins (c : Nat) (ns : List Str) (xs : List D)
inductive Sl where
  | no | sh (d : D) | ow (o : Own)
abbrev En := List Sl

/-- what the activation begins with: the class table, the heap that is kept, the addresses that callers own -/
structure Cc where
  cl : Cl
  H0 : Hp
  O0 : List Addr
  /-- the instance that is being made -/
  me : Addr := 0

def OwnAt (K : PySem.W.Frag) (cl : Cl) (Hh H : Hp) (a : Addr) : Own → Prop
  | .lst xs => ∃ vs, H a = some (.lst vs) ∧ Reps K cl Hh xs vs
  | .dic ks xs => ∃ vs, H a = some (.dK (ks.zip vs)) ∧ ks.length = vs.length ∧ Reps K cl Hh xs vs
  | .ins c ns xs => ∃ dx vs, H a = some (.ins (cl.at_ c) dx (ns.zip vs)) ∧ ns.length = vs.length ∧ Reps K cl Hh xs vs

structure Rl (K : PySem.W.Frag) (c : Cc) (O : List Addr) (env : En) (σ : L2.St) (H : Hp) : Prop where
  len : env.length = σ.length
  ext : Ext c.H0 H
  sub : ∀ a ∈ c.O0, a ∈ O
  dom : ∀ a ∈ O, ∃ o, H a = some o
  sh : ∀ (i : Nat) d, env[i]? = some (.sh d) → ∃ v, σ[i]? = some (some v) ∧ Rep K c.cl (hide O H) d v
  ow : ∀ (i : Nat) o, env[i]? = some (.ow o) → ∃ a, σ[i]? = some (some (.ref a)) ∧ a ∈ O ∧ c.H0 a = none ∧ a ∉ c.O0 ∧ OwnAt K c.cl (hide O H) H a o
  me : ∀ (i : Nat) k ns xs, env[i]? = some (.ow (.ins k ns xs)) → σ[i]? = some (some (.ref c.me))
  inj : ∀ (i j : Nat) o u a, env[i]? = some (.ow o) → env[j]? = some (.ow u) → σ[i]? = some (some (.ref a)) → σ[j]? = some (some (.ref a)) → i = j

theorem OwnAt.mono {K : PySem.W.Frag} {cl : Cl} {Hh Hh' H H' : Hp} {a : Addr} {o : Own} (h : OwnAt K cl Hh H a o) (x : Ext Hh Hh') (y : Ext H H') : OwnAt K cl Hh' H' a o := by
  cases o with
  | lst xs => obtain ⟨vs, h1, h2⟩ := h; exact ⟨vs, y _ _ h1, reps_mono x _ _ h2⟩
  | dic ks xs => obtain ⟨vs, h1, h2, h3⟩ := h; exact ⟨vs, y _ _ h1, h2, reps_mono x _ _ h3⟩
  | ins c ns xs => obtain ⟨dx, vs, h1, h2, h3⟩ := h; exact ⟨dx, vs, y _ _ h1, h2, reps_mono x _ _ h3⟩

section
variable {K : PySem.W.Frag} {c : Cc} {O : List Addr} {env : En} {σ : L2.St} {H H' : Hp}
theorem Rl.mono (r : Rl K c O env σ H) (x : Ext H H') : Rl K c O env σ H' where
  len := r.len
  ext := r.ext.trans x
  sub := r.sub
  dom := fun a h => let ⟨o, e⟩ := r.dom a h; ⟨o, x _ _ e⟩
  sh := fun i d e => let ⟨v, h1, h2⟩ := r.sh i d e; ⟨v, h1, rep_mono (hide_ext x) d v h2⟩
  ow := fun i o e => let ⟨a, h1, h2, h3, h4, h5⟩ := r.ow i o e; ⟨a, h1, h2, h3, h4, h5.mono (hide_ext x) x⟩
  me := r.me
  inj := r.inj
theorem Rl.new (r : Rl K c O env σ H) {p : Addr} (h : H p = none) : p ∉ O := fun z => by
  obtain ⟨o, e⟩ := r.dom p z
  rw [h] at e
  cases e
theorem hide_new {p : Addr} {o : HO} (h : p ∉ O) : hide O (upd H p o) p = some o := by rw [hide_out h, upd_same]
theorem getE_set {env : En} {i j : Nat} {s u : Sl} (h : (env.set i s)[j]? = some u) : (j = i ∧ u = s) ∨ (j ≠ i ∧ env[j]? = some u) := by
  by_cases e : i = j
  · subst e
    rw [List.getElem?_set] at h
    simp at h
    exact .inl ⟨rfl, h.2.symm⟩
  · rw [List.getElem?_set_ne e] at h
    exact .inr ⟨fun z => e z.symm, h⟩
/-- a slot takes a tree -/
theorem Rl.set (r : Rl K c O env σ H) {i : Nat} {d : D} {v : V} (h : Rep K c.cl (hide O H) d v) (hi : i < env.length) : Rl K c O (env.set i (.sh d)) (σ.set i (some v)) H where
  len := by rw [List.length_set, List.length_set, r.len]
  ext := r.ext
  sub := r.sub
  dom := r.dom
  sh := fun j u e => by
    rcases getE_set e with ⟨rfl, q⟩ | ⟨n, e⟩
    · cases q
      exact ⟨v, List.getElem?_set_self (by rw [← r.len]; exact hi), h⟩
    · obtain ⟨w, h1, h2⟩ := r.sh j u e
      exact ⟨w, by rw [List.getElem?_set_ne (Ne.symm n)]; exact h1, h2⟩
  ow := fun j u e => by
    rcases getE_set e with ⟨rfl, q⟩ | ⟨n, e⟩
    · cases q
    · obtain ⟨w, h1, h2⟩ := r.ow j u e
      exact ⟨w, by rw [List.getElem?_set_ne (Ne.symm n)]; exact h1, h2⟩
  me := fun j k ns xs e => by
    rcases getE_set e with ⟨rfl, q⟩ | ⟨n, e⟩
    · cases q
    · rw [List.getElem?_set_ne (Ne.symm n)]
      exact r.me j k ns xs e
  inj := fun j k o u a e1 e2 e3 e4 => by
    rcases getE_set e1 with ⟨rfl, q1⟩ | ⟨n1, e1⟩
    · cases q1
    · rcases getE_set e2 with ⟨rfl, q2⟩ | ⟨n2, e2⟩
      · cases q2
      · rw [List.getElem?_set_ne (Ne.symm n1)] at e3
        rw [List.getElem?_set_ne (Ne.symm n2)] at e4
        exact r.inj j k o u a e1 e2 e3 e4
/-- slots may be forgotten, and the frame's values too -/
theorem Rl.weak {env' : En} {σ' : L2.St} (r : Rl K c O env σ H) (hl : env'.length = σ'.length) (he : ∀ (i : Nat) s, env'[i]? = some s → s ≠ .no → env[i]? = some s) (hs : ∀ (i : Nat) s v, env'[i]? = some s → s ≠ .no → σ[i]? = some (some v) → σ'[i]? = some (some v)) : Rl K c O env' σ' H where
  len := hl
  ext := r.ext
  sub := r.sub
  dom := r.dom
  sh := fun j u e => by
    obtain ⟨w, h1, h2⟩ := r.sh j u (he j _ e (fun z => nomatch z))
    exact ⟨w, hs j _ w e (fun z => nomatch z) h1, h2⟩
  ow := fun j u e => by
    obtain ⟨a, h1, h2⟩ := r.ow j u (he j _ e (fun z => nomatch z))
    exact ⟨a, hs j _ _ e (fun z => nomatch z) h1, h2⟩
  me := fun j k ns xs e => hs j _ _ e (fun z => nomatch z) (r.me j k ns xs (he j _ e (fun z => nomatch z)))
  inj := fun i j o u a e1 e2 e3 e4 => by
    obtain ⟨a1, h1, _⟩ := r.ow i o (he i _ e1 (fun z => nomatch z))
    obtain ⟨a2, h2, _⟩ := r.ow j u (he j _ e2 (fun z => nomatch z))
    have q1 := hs i _ _ e1 (fun z => nomatch z) h1
    have q2 := hs j _ _ e2 (fun z => nomatch z) h2
    rw [e3] at q1
    rw [e4] at q2
    cases q1
    cases q2
    exact r.inj i j o u a (he i _ e1 (fun z => nomatch z)) (he j _ e2 (fun z => nomatch z)) h1 h2
/-- the content of an owned object changes -/
theorem Rl.own_set (r : Rl K c O env σ H) {i : Nat} {o o' : Own} {a : Addr} {ho : HO} (e : env[i]? = some (.ow o)) (ha : σ[i]? = some (some (.ref a))) (h : OwnAt K c.cl (hide O H) (upd H a ho) a o') (hm : ∀ k ns xs, o' = .ins k ns xs → ∃ k' ns' xs', o = .ins k' ns' xs') :
    Rl K c O (env.set i (.ow o')) σ (upd H a ho) := by
  obtain ⟨b, hb, h1, h2, h3, h4⟩ := r.ow i o e
  rw [ha] at hb
  cases hb
  have hi : i < env.length := (List.getElem?_eq_some_iff.mp e).1
  have hh : hide O (upd H a ho) = hide O H := hide_upd_in h1
  refine ⟨by rw [List.length_set]; exact r.len, fun b u eb => ?_, r.sub, fun b hb => ?_, fun j d ed => ?_, fun j u eu => ?_, fun j k ns xs ej => ?_, fun j k u u' b e1 e2 e3 e4 => ?_⟩
  · rw [upd_ne (ne_of_none eb h2)]; exact r.ext b u eb
  · by_cases q : b = a
    · subst q; exact ⟨_, upd_same⟩
    · rw [upd_ne q]; exact r.dom b hb
  · rw [hh]
    rcases getE_set ed with ⟨_, q⟩ | ⟨_, q⟩
    · cases q
    · exact r.sh j d q
  · rw [hh]
    rcases getE_set eu with ⟨rfl, q⟩ | ⟨n, q⟩
    · cases q
      exact ⟨a, ha, h1, h2, h3, h⟩
    · obtain ⟨b, g1, g2, g3, g4, g5⟩ := r.ow j u q
      have nb : b ≠ a := fun z => n (r.inj j i u o b q e g1 (by rw [z]; exact ha))
      refine ⟨b, g1, g2, g3, g4, ?_⟩
      cases u with
      | lst xs => obtain ⟨vs, k1, k2⟩ := g5; exact ⟨vs, by rw [upd_ne nb]; exact k1, k2⟩
      | dic ks xs => obtain ⟨vs, k1, k2⟩ := g5; exact ⟨vs, by rw [upd_ne nb]; exact k1, k2⟩
      | ins k ns xs => obtain ⟨dx, vs, k1, k2⟩ := g5; exact ⟨dx, vs, by rw [upd_ne nb]; exact k1, k2⟩
  · rcases getE_set ej with ⟨rfl, q⟩ | ⟨_, q⟩
    · cases q
      obtain ⟨k', ns', xs', e'⟩ := hm k ns xs rfl
      subst e'
      exact r.me j _ _ _ e
    · exact r.me j k ns xs q
  · rcases getE_set e1 with ⟨z1, q1⟩ | ⟨n1, q1⟩
    · rcases getE_set e2 with ⟨z2, q2⟩ | ⟨n2, q2⟩
      · rw [z1, z2]
      · rw [z1] at e3 ⊢
        exact r.inj i k o u' b e q2 e3 e4
    · rcases getE_set e2 with ⟨z2, q2⟩ | ⟨n2, q2⟩
      · rw [z2] at e4 ⊢
        exact r.inj j i u o b q1 e e3 e4
      · exact r.inj j k u u' b q1 q2 e3 e4
end
end Dl
namespace Dl
open PySem PySem.Spec PyProof.Rows L2

/-! ### results -/
inductive Res (α : Type) where
  | ok (a : α) | ex (e : Nat) (p : List D) | bad
namespace Res
def bind {α β : Type} : Res α → (α → Res β) → Res β
  | .ok a, k => k a
  | .ex e p, _ => .ex e p
  | .bad, _ => .bad
def alt {α : Type} : Res α → Res α → Res α
  | .bad, r => r
  | r, _ => r
def map {α β : Type} (f : α → β) : Res α → Res β
  | .ok a => .ok (f a)
  | .ex e p => .ex e p
  | .bad => .bad
@[simp] theorem bind_ok {α β : Type} (a : α) (k : α → Res β) : (Res.ok a).bind k = k a := rfl
@[simp] theorem bind_ex {α β : Type} (e : Nat) (p : List D) (k : α → Res β) : (Res.ex e p : Res α).bind k = .ex e p := rfl
@[simp] theorem bind_bad {α β : Type} (k : α → Res β) : (Res.bad : Res α).bind k = .bad := rfl
@[simp] theorem alt_bad {α : Type} (r : Res α) : (Res.bad).alt r = r := rfl
@[simp] theorem alt_ok {α : Type} (a : α) (r : Res α) : (Res.ok a).alt r = .ok a := rfl
@[simp] theorem alt_ex {α : Type} (e : Nat) (p : List D) (r : Res α) : (Res.ex e p).alt r = .ex e p := rfl
end Res

/-- what is wished of an error -/
def Rz (K : PySem.W.Frag) (c : Cc) (W : WX) (e : Nat) (p : List D) (σ : L2.St) (H : Hp) : Prop :=
  match p with
  | [] => W (c.cl.xv e) none σ H
  | _ => ∀ dx vs, H dx = some (.xd ((c.cl.xn e).zip vs)) → Reps K c.cl (hide c.O0 H) p vs → W (c.cl.xv e) (some dx) σ H

def Post {α β : Type} (K : PySem.W.Frag) (c : Cc) (W : WX) (σ : L2.St) (H : Hp) (P : Hp → α → β → Prop) (r : Res α) (Q : β → Hp → Prop) : Prop :=
  match r with
  | .ok a => ∀ b H', Ext H H' → P H' a b → Q b H'
  | .ex e p => ∀ H', Ext H H' → Rz K c W e p σ H'
  | .bad => False
section
variable {α β α' β' : Type} {K : PySem.W.Frag} {c : Cc} {W : WX} {σ : L2.St} {H H1 : Hp} {P : Hp → α → β → Prop} {P' : Hp → α' → β' → Prop} {r : Res α'} {k : α' → Res α} {Q : β → Hp → Prop} {Q' : β' → Hp → Prop}
theorem post_mono {r : Res α} (x : Ext H H1) (h : Post K c W σ H P r Q) : Post K c W σ H1 P r Q := by
  cases r with
  | ok a => exact fun b H' e p => h b H' (x.trans e) p
  | ex e p => exact fun H' e => h H' (x.trans e)
  | bad => exact h
theorem post_bind (h : Post K c W σ H P (r.bind k) Q) (step : ∀ a b H1, Ext H H1 → P' H1 a b → Post K c W σ H1 P (k a) Q → Q' b H1) : Post K c W σ H P' r Q' := by
  cases r with
  | ok a => exact fun b H1 e p => step a b H1 e p (post_mono e h)
  | ex e p => exact h
  | bad => exact h
theorem post_ok {a : α} {b : β} (h : Post K c W σ H P (.ok a) Q) (x : Ext H H1) (p : P H1 a b) : Q b H1 := h b H1 x p
theorem post_now {a : α} {b : β} (h : Post K c W σ H P (.ok a) Q) (p : P H a b) : Q b H := h b H Ext.rfl' p
end

/-! ### trees and values -/
def Own.toD : Own → D
  | .lst xs => .lst xs
  | .dic ks xs => .dic ks xs
  | .ins c ns xs => .ins c ns xs
def RepS (K : PySem.W.Frag) (c : Cc) (O : List Addr) (H : Hp) (d : D) (v : V) : Prop := Rep K c.cl (hide O H) d v
def RepsS (K : PySem.W.Frag) (c : Cc) (O : List Addr) (H : Hp) (d : List D) (v : List V) : Prop := Reps K c.cl (hide O H) d v
def RepW (K : PySem.W.Frag) (c : Cc) (O : List Addr) (H : Hp) (d : D) (v : V) : Prop := RepS K c O H d v ∨ ∃ o a, v = .ref a ∧ OwnAt K c.cl (hide O H) H a o ∧ d = o.toD ∧ a ∉ c.O0
def RepB (_ : Hp) (a b : Bool) : Prop := a = b
section
variable {K : PySem.W.Frag} {c : Cc} {O : List Addr} {H H1 : Hp} {d : D} {v : V}
theorem RepS.mono (h : RepS K c O H d v) (x : Ext H H1) : RepS K c O H1 d v := rep_mono (hide_ext x) d v h
theorem RepW.mono (h : RepW K c O H d v) (x : Ext H H1) : RepW K c O H1 d v := by
  rcases h with h | ⟨o, a, h1, h2, h3, hn⟩
  · exact .inl (RepS.mono h x)
  · exact .inr ⟨o, a, h1, h2.mono (hide_ext x) x, h3, hn⟩
theorem RepW.lst {xs : List D} (h : RepW K c O H (.lst xs) v) : ∃ a vs, v = .ref a ∧ H a = some (.lst vs) ∧ Reps K c.cl (hide O H) xs vs := by
  rcases h with h | ⟨o, a, h1, h2, h3, hn⟩
  · unfold RepS Rep at h
    obtain ⟨a, vs, h1, h2, h3⟩ := h
    exact ⟨a, vs, h1, hide_sub _ _ h2, h3⟩
  · cases o with
    | lst ys => cases h3; obtain ⟨vs, h4, h5⟩ := h2; exact ⟨a, vs, h1, h4, h5⟩
    | dic _ _ => cases h3
    | ins _ _ _ => cases h3
theorem RepW.dic {ks : List Key} {xs : List D} (h : RepW K c O H (.dic ks xs) v) : ∃ a vs, v = .ref a ∧ H a = some (.dK (ks.zip vs)) ∧ ks.length = vs.length ∧ Reps K c.cl (hide O H) xs vs := by
  rcases h with h | ⟨o, a, h1, h2, h3, hn⟩
  · unfold RepS Rep at h
    obtain ⟨a, vs, h1, h2, h3⟩ := h
    exact ⟨a, vs, h1, hide_sub _ _ h2, h3⟩
  · cases o with
    | lst _ => cases h3
    | dic _ _ => cases h3; obtain ⟨vs, h4, h5⟩ := h2; exact ⟨a, vs, h1, h4, h5⟩
    | ins _ _ _ => cases h3
theorem RepW.ins {k : Nat} {ns : List Str} {xs : List D} (h : RepW K c O H (.ins k ns xs) v) : ∃ a dx vs, v = .ref a ∧ H a = some (.ins (c.cl.at_ k) dx (ns.zip vs)) ∧ ns.length = vs.length ∧ Reps K c.cl (hide O H) xs vs := by
  rcases h with h | ⟨o, a, h1, h2, h3, hn⟩
  · unfold RepS Rep at h
    obtain ⟨a, dx, vs, h1, h2, h3⟩ := h
    exact ⟨a, dx, vs, h1, hide_sub _ _ h2, h3⟩
  · cases o with
    | lst _ => cases h3
    | dic _ _ => cases h3
    | ins _ _ _ => cases h3; obtain ⟨dx, vs, h4, h5⟩ := h2; exact ⟨a, dx, vs, h1, h4, h5⟩
theorem SqT.sub {K : PySem.W.Frag} {a : Addr} {xs : List V} (h : SqT K (hide O H) a xs) : SqT K H a xs := h.ext hide_sub
theorem RepW.tup {xs : List D} (h : RepW K c O H (.tup xs) v) : ∃ a vs, v = .ref a ∧ SqT K H a vs ∧ Reps K c.cl (hide O H) xs vs := by
  rcases h with h | ⟨o, a, h1, h2, h3, hn⟩
  · unfold RepS Rep at h
    obtain ⟨a, vs, h1, h2, h3⟩ := h
    exact ⟨a, vs, h1, SqT.sub h2, h3⟩
  · cases o <;> cases h3
theorem RepW.int {i : Int} (h : RepW K c O H (.int i) v) : v = .int i := by
  rcases h with h | ⟨o, a, h1, h2, h3, hn⟩
  · unfold RepS Rep at h; exact h
  · cases o <;> cases h3
theorem RepW.bl {i : Bool} (h : RepW K c O H (.bl i) v) : v = .bl i := by
  rcases h with h | ⟨o, a, h1, h2, h3, hn⟩
  · unfold RepS Rep at h; exact h
  · cases o <;> cases h3
theorem RepW.str {i : Str} (h : RepW K c O H (.str i) v) : v = .str i := by
  rcases h with h | ⟨o, a, h1, h2, h3, hn⟩
  · unfold RepS Rep at h; exact h
  · cases o <;> cases h3
theorem RepW.non (h : RepW K c O H .non v) : v = .non := by
  rcases h with h | ⟨o, a, h1, h2, h3, hn⟩
  · unfold RepS Rep at h; exact h
  · cases o <;> cases h3
theorem RepW.scr {ns : List Int} (h : RepW K c O H (.scr ns) v) : ∃ a, v = .ref a ∧ SqL K H a (ns.map V.int) := by
  rcases h with h | ⟨o, a, h1, h2, h3, hn⟩
  · unfold RepS Rep at h
    obtain ⟨a, h1, h2⟩ := h
    exact ⟨a, h1, h2.ext hide_sub⟩
  · cases o <;> cases h3
theorem repS_int {i : Int} : RepS K c O H (.int i) (.int i) := by unfold RepS Rep; rfl
theorem repS_bl {i : Bool} : RepS K c O H (.bl i) (.bl i) := by unfold RepS Rep; rfl
theorem repS_str {i : Str} : RepS K c O H (.str i) (.str i) := by unfold RepS Rep; rfl
theorem repS_non : RepS K c O H .non .non := by unfold RepS Rep; rfl
theorem repS_newL {xs : List D} {vs : List V} {p : Addr} (hp : p ∉ O) (n : H p = none) (r : Reps K c.cl (hide O H) xs vs) : RepS K c O (upd H p (.lst vs)) (.lst xs) (.ref p) :=
  rep_lst (hide_new hp) (reps_mono (hide_ext (Ext.upd n)) _ _ r)
theorem repS_newT {xs : List D} {vs : List V} {p : Addr} (hp : p ∉ O) (n : H p = none) (r : Reps K c.cl (hide O H) xs vs) : RepS K c O (upd H p (.tup vs)) (.tup xs) (.ref p) :=
  rep_tup (Or.inl (Or.inl (hide_new hp))) (reps_mono (hide_ext (Ext.upd n)) _ _ r)
end

/-! ### the judgements -/
def tEP (P : List Addr → Hp → D → V → Prop) (K : PySem.W.Frag) (c : Cc) (W : WX) (f : En → Res D) : TE := fun σ H Q => ∃ env O, Rl K c O env σ H ∧ Post K c W σ H (P O) (f env) Q
abbrev tE (K : PySem.W.Frag) (c : Cc) (W : WX) (f : En → Res D) : TE := tEP (RepS K c) K c W f
abbrev tEW (K : PySem.W.Frag) (c : Cc) (W : WX) (f : En → Res D) : TE := tEP (RepW K c) K c W f
def tA (K : PySem.W.Frag) (c : Cc) (W : WX) (f : En → Res (List D)) : TA := fun σ H Q => ∃ env O, Rl K c O env σ H ∧ Post K c W σ H (RepsS K c O) (f env) Q
def tTt (K : PySem.W.Frag) (c : Cc) (W : WX) (f : En → Res Bool) : TT := fun σ H Q => ∃ env O, Rl K c O env σ H ∧ Post K c W σ H RepB (f env) Q
/-- an expression gives a tree | .. a tree, or what a slot owns | arguments | a test -/
abbrev DE (X : Cx) (c : Cc) (W : WX) (e : Expr) (f : En → Res D) : Prop := PE X e (tE X.K c W f)
abbrev DW (X : Cx) (c : Cc) (W : WX) (e : Expr) (f : En → Res D) : Prop := PE X e (tEW X.K c W f)
abbrev DA (X : Cx) (c : Cc) (W : WX) (es : List Expr) (f : En → Res (List D)) : Prop := PA X es (tA X.K c W f)
abbrev DT (X : Cx) (c : Cc) (W : WX) (e : Expr) (f : En → Res Bool) : Prop := PT X e (tTt X.K c W f)
abbrev DTw (X : Cx) (c : Cc) (W : WX) (e : Expr) (f : En → Res Bool) : Prop := PW X e (tTt X.K c W f)

theorem pe_imp {X : Cx} {e : Expr} {t t' : TE} (h : PE X e t) (k : ∀ σ H Q, t' σ H Q → t σ H Q) : PE X e t' := ⟨fun pins s σ H Q I q => h.run pins s σ H Q I (k σ H Q q)⟩
theorem pt_imp {X : Cx} {e : Expr} {t t' : TT} (h : PT X e t) (k : ∀ σ H Q, t' σ H Q → t σ H Q) : PT X e t' := ⟨fun pins s σ H Q I q => h.run pins s σ H Q I (k σ H Q q)⟩
theorem pw_imp {X : Cx} {e : Expr} {t t' : TT} (h : PW X e t) (k : ∀ σ H Q, t' σ H Q → t σ H Q) : PW X e t' := ⟨fun whole pins s σ H Q I q => h.run whole pins s σ H Q I (k σ H Q q)⟩
theorem pa_imp {X : Cx} {es : List Expr} {t t' : TA} (h : PA X es t) (k : ∀ σ H Q, t' σ H Q → t σ H Q) : PA X es t' := ⟨fun pos pins s σ H Q I q => h.run pos pins s σ H Q I (k σ H Q q)⟩

section
variable {X : Cx} {c : Cc} {W : WX} {a b e t : Expr} {es : List Expr} {fa fb fe : En → Res D} {fs : En → Res (List D)} {ft fu : En → Res Bool} {pos : Pos}
theorem DE.w (h : DE X c W e fe) : DW X c W e fe := pe_imp h fun σ H Q ⟨env, O, R, p⟩ => ⟨env, O, R, by
  cases q : fe env with
  | ok d => rw [q] at p; exact fun v H' x r => p v H' x (.inl r)
  | ex e l => rw [q] at p; exact p
  | bad => rw [q] at p; exact p⟩

def eVar (i : Nat) : En → Res D := fun env => match env[i]? with
  | some (.sh d) => .ok d
  | _ => .bad
def eOwn (i : Nat) : En → Res D := fun env => match env[i]? with
  | some (.sh d) => .ok d
  | some (.ow o) => .ok o.toD
  | _ => .bad
theorem de_var (i : Nat) {x : Str} (hN : X.N[i]? = some x := by rfl) (hv : Vis X.env.scope x := by first | exact Or.inl rfl | exact Or.inr (Or.inl rfl) | exact Or.inr (Or.inr rfl)) (hd : (x == ("__debug__" : Str)) = false := by decide)
    (hcd : (x == ("__classdict__" : Str)) = false := by decide) : DE X c W (.Name x pos) (eVar i) := pe_imp (pe_var hN hv hd hcd) fun σ H Q ⟨env, O, R, p⟩ => by
  unfold eVar at p
  split at p
  · rename_i d h
    obtain ⟨v, h1, h2⟩ := R.sh i d h
    exact ⟨v, h1, post_now p h2⟩
  · exact p.elim
theorem dw_own (i : Nat) {x : Str} (hN : X.N[i]? = some x := by rfl) (hv : Vis X.env.scope x := by first | exact Or.inl rfl | exact Or.inr (Or.inl rfl) | exact Or.inr (Or.inr rfl)) (hd : (x == ("__debug__" : Str)) = false := by decide)
    (hcd : (x == ("__classdict__" : Str)) = false := by decide) : DW X c W (.Name x pos) (eOwn i) := pe_imp (pe_var hN hv hd hcd) fun σ H Q ⟨env, O, R, p⟩ => by
  unfold eOwn at p
  split at p
  · rename_i d h
    obtain ⟨v, h1, h2⟩ := R.sh i d h
    exact ⟨v, h1, post_now p (.inl h2)⟩
  · rename_i o h
    obtain ⟨a, h1, _, _, h4, h5⟩ := R.ow i o h
    exact ⟨_, h1, post_now p (.inr ⟨o, a, rfl, h5, rfl, h4⟩)⟩
  · exact p.elim
def eC (d : D) : En → Res D := fun _ => .ok d
theorem de_c {v : V} {d : D} (h : PE X e (tC v)) (r : ∀ O H, RepS X.K c O H d v) : DE X c W e (eC d) := pe_imp h fun σ H Q ⟨env, O, R, p⟩ => post_now p (r O H)
theorem de_int {i : Int} {j} : DE X c W (.Constant (.int i) j pos) (eC (.int i)) := de_c pe_int fun _ _ => repS_int
theorem de_bl {i : Bool} {j} : DE X c W (.Constant (.bool i) j pos) (eC (.bl i)) := de_c pe_bl fun _ _ => repS_bl
theorem de_str {i : Str} {j} : DE X c W (.Constant (.str i) j pos) (eC (.str i)) := de_c pe_str fun _ _ => repS_str
theorem de_non {j} : DE X c W (.Constant .none j pos) (eC .non) := de_c pe_non fun _ _ => repS_non
/-- a constant of the module -/
theorem de_glob {x : Str} {v : V} {u : Value} {d : D} (hm : X.mg x = some u) (r : RelV v u) (rd : ∀ O H, RepS X.K c O H d v) (hg : Gl X x := by rfl) (hd : (x == ("__debug__" : Str)) = false := by decide) : DE X c W (.Name x pos) (eC d) :=
  de_c (pe_glob hg hm r hd) rd

def aNil : En → Res (List D) := fun _ => .ok []
def aCons (fe : En → Res D) (fs : En → Res (List D)) : En → Res (List D) := fun env => (fe env).bind fun d => (fs env).bind fun ds => .ok (d :: ds)
theorem da_nil : DA X c W [] aNil := pa_imp pa_nil fun σ H Q ⟨env, O, R, p⟩ => post_now p (show Reps _ _ _ _ _ from reps_nil)
theorem da_cons (h : DE X c W e fe) (hs : DA X c W es fs) (hst : starEach (e :: es) X.env = (false, eval e X.env) :: starEach es X.env := by rfl) : DA X c W (e :: es) (aCons fe fs) :=
  pa_imp (pa_cons h hs hst) fun σ H Q ⟨env, O, R, p⟩ => ⟨env, O, R, post_bind p fun d v H1 x1 r1 p1 => ⟨env, O, R.mono x1, post_bind p1 fun ds vs H2 x2 r2 p2 => post_now p2 (reps_cons (rep_mono (hide_ext x2) _ _ r1) r2)⟩⟩
def eTup (fs : En → Res (List D)) : En → Res D := fun env => (fs env).bind fun ds => if ds.length ≤ 100000 then .ok (.tup ds) else .bad
def eLst (fs : En → Res (List D)) : En → Res D := fun env => (fs env).bind fun ds => if ds.length ≤ 100000 then .ok (.lst ds) else .bad
theorem line100 {n : Nat} (h : n ≤ 100000) : n ≤ sizeLine := Nat.le_trans h (by decide)
theorem de_tup {k} (h : DA X c W es fs) : DE X c W (.Tuple es k pos) (eTup fs) := pe_imp (pe_tup h) fun σ H Q ⟨env, O, R, p⟩ => ⟨env, O, R, post_bind p fun ds vs H1 x1 r1 p1 => by
  split at p1
  · rename_i hl
    refine ⟨by rw [← reps_len r1]; exact line100 hl, fun q hq => post_ok p1 (Ext.upd hq) (repS_newT ((R.mono x1).new hq) hq r1)⟩
  · exact p1.elim⟩
theorem de_lst (h : DA X c W es fs) : DE X c W (.List es pos) (eLst fs) := pe_imp (pe_lst h) fun σ H Q ⟨env, O, R, p⟩ => ⟨env, O, R, post_bind p fun ds vs H1 x1 r1 p1 => by
  split at p1
  · rename_i hl
    refine ⟨by rw [← reps_len r1]; exact line100 hl, fun q hq => post_ok p1 (Ext.upd hq) (repS_newL ((R.mono x1).new hq) hq r1)⟩
  · exact p1.elim⟩

/-! ### operators by values -/
/-- an operator of two values, at every state of the body -/
def OpW (X : Cx) (c : Cc) (W : WX) (f : Value → Value → Sem Value) (g : D → D → Res D) : Prop :=
  ∀ (pins : List (Addr × Obj)) (s : Shared) (σ : L2.St) (H : Hp) (O : List Addr) (env : En) (x y : D) (v u : Value) (vx vy : V) (Q : VK), Inv X pins σ H s → Rl X.K c O env σ H → RelV vx v → RelV vy u → RepW X.K c O H x vx → RepW X.K c O H y vy →
    Post X.K c W σ H (RepS X.K c O) (g x y) Q → wpAny (model X.prog X.w) X.A (f v u) (EP X pins σ Q) X.xe s
def gAlt (g g' : D → D → Res D) : D → D → Res D := fun x y => (g x y).alt (g' x y)
/-- .. by a rule of the hand layer -/
theorem opW_of {f : Value → Value → Sem Value} {g : D → D → Res D} {r : R2} (h : OpR X f r)
    (k : ∀ (σ : L2.St) (H : Hp) (O : List Addr) (env : En) (x y : D) (vx vy : V) (Q : VK), Rl X.K c O env σ H → RepW X.K c O H x vx → RepW X.K c O H y vy → Post X.K c W σ H (RepS X.K c O) (g x y) Q → r vx vy H Q) : OpW X c W f g :=
  fun pins s σ H O env x y v u vx vy Q I R rx ry px py p => h pins s σ H vx vy v u Q I rx ry (k σ H O env x y vx vy Q R px py p)
theorem OpW.alt {f : Value → Value → Sem Value} {g g' : D → D → Res D} (h : OpW X c W f g) (h' : OpW X c W f g') : OpW X c W f (gAlt g g') :=
  fun pins s σ H O env x y v u vx vy Q I R rx ry px py p => by
    unfold gAlt at p
    cases q : g x y with
    | ok d => rw [q] at p; exact h pins s σ H O env x y v u vx vy Q I R rx ry px py (by rw [q]; exact p)
    | ex e l => rw [q] at p; exact h pins s σ H O env x y v u vx vy Q I R rx ry px py (by rw [q]; exact p)
    | bad => rw [q] at p; exact h' pins s σ H O env x y v u vx vy Q I R rx ry px py p
def eBin (g : D → D → Res D) (fa fb : En → Res D) : En → Res D := fun env => (fa env).bind fun x => (fb env).bind fun y => g x y
theorem binW {g : D → D → Res D} {f : Value → Value → Sem Value} (ho : OpW X c W f g) (ha : DW X c W a fa) (hb : DW X c W b fb) {pins : List (Addr × Obj)} {s : Shared} {σ : L2.St} {H : Hp} {Q : VK} (I : Inv X pins σ H s) (h : tE X.K c W (eBin g fa fb) σ H Q) :
    wpAny (model X.prog X.w) X.A (eval a X.env) (fun v s₁ => wpAny (model X.prog X.w) X.A (eval b X.env) (fun u s₂ => wpAny (model X.prog X.w) X.A (f v u) (EP X pins σ Q) X.xe s₂) X.xe s₁) X.xe s := by
  obtain ⟨env, O, R, p⟩ := h
  refine bin (R := fun vx vy H2 => ∃ x y, Rl X.K c O env σ H2 ∧ RepW X.K c O H2 x vx ∧ RepW X.K c O H2 y vy ∧ Post X.K c W σ H2 (RepS X.K c O) (g x y) Q) ha hb I ?_ fun v u s2 vx vy H2 I2 rx ry ⟨x, y, R2, px, py, q⟩ => ho pins s2 σ H2 O env x y v u vx vy Q I2 R2 rx ry px py q
  exact ⟨env, O, R, post_bind p fun x vx H1 x1 r1 p1 => ⟨env, O, R.mono x1, post_bind p1 fun y vy H2 x2 r2 p2 => ⟨x, y, (R.mono x1).mono x2, r1.mono x2, r2, p2⟩⟩⟩
theorem de_bin {op : Operator} {g : D → D → Res D} (ho : OpW X c W (binaryOp op) g) (ha : DW X c W a fa) (hb : DW X c W b fb) : DE X c W (.BinOp a op b pos) (eBin g fa fb) :=
  ⟨fun pins s σ H Q I h => wpAny_BinOp (binW ho ha hb I h)⟩
theorem dc_of {op : CmpOp} {g : D → D → Res D} (ho : OpW X c W (compareOp op) g) (ha : DW X c W a fa) (hb : DW X c W b fb) : PC X op a b (tE X.K c W (eBin g fa fb)) :=
  ⟨fun pins s σ H Q I h => binW ho ha hb I h⟩
theorem de_cmp {op : CmpOp} {g : D → D → Res D} (ho : OpW X c W (compareOp op) g) (ha : DW X c W a fa) (hb : DW X c W b fb) (hm : behindInMarks op b = false := by first | exact nobehind _ (by decide) (by decide) | rfl) : DE X c W (.Compare a [op] [b] pos) (eBin g fa fb) :=
  pe_cmp (dc_of ho ha hb) hm

/-! ### tests -/
def bOf (r : Res D) : Res Bool := r.bind fun d => match d with
  | .bl k => .ok k
  | _ => .bad
def eB (fe : En → Res D) : En → Res Bool := fun env => bOf (fe env)
theorem dt_val (h : DE X c W e fe) (he : ∀ whole, isTrue e X.env whole = (do let v ← whole; standAt e.pos; holding [v] (truthy v)) := by intro _; rfl) : DT X c W e (eB fe) := pt_imp (pt_val h he) fun σ H Q ⟨env, O, R, p⟩ =>
  ⟨env, O, R, post_bind p fun d v H1 x1 r1 p1 => by
    cases d with
    | bl k => exact ⟨k, RepW.bl (.inl r1), post_now p1 rfl⟩
    | _ => exact p1.elim⟩
theorem dt_cmp {op : CmpOp} {g : D → D → Res D} (ho : OpW X c W (compareOp op) g) (ha : DW X c W a fa) (hb : DW X c W b fb) (hm : behindInMarks op b = false := by first | exact nobehind _ (by decide) (by decide) | rfl) : DT X c W (.Compare a [op] [b] pos) (eB (eBin g fa fb)) :=
  pt_imp (pt_cmp (dc_of ho ha hb) hm) fun σ H Q ⟨env, O, R, p⟩ => ⟨env, O, R, post_bind p fun d v H1 x1 r1 p1 => by
    cases d with
    | bl k => exact ⟨k, RepW.bl (.inl r1), post_now p1 rfl⟩
    | _ => exact p1.elim⟩
end
end Dl
namespace Dl
open PySem PySem.Spec PyProof.Rows L2
section
variable {X : Cx} {c : Cc} {W : WX} {a b e t : Expr} {es rest : List Expr} {fa fb fe : En → Res D} {fs : En → Res (List D)} {ft fu : En → Res Bool} {pos : Pos}

/-! ### and, or, not, if -/
def eAnd (fa fb : En → Res D) : En → Res D := fun env => (fa env).bind fun d => match d with
  | .bl true => fb env
  | .bl false => .ok (.bl false)
  | _ => .bad
def eOr (fa fb : En → Res D) : En → Res D := fun env => (fa env).bind fun d => match d with
  | .bl false => fb env
  | .bl true => .ok (.bl true)
  | _ => .bad
def eNot (fa : En → Res D) : En → Res D := fun env => (fa env).bind fun d => match d with
  | .bl k => .ok (.bl (!k))
  | _ => .bad
theorem de_one {op} (h : DE X c W a fa) : DE X c W (.BoolOp op [a] pos) fa := pe_one h
theorem de_and (ha : DE X c W a fa) (hb : DE X c W (.BoolOp .And (b :: rest) pos) fb) : DE X c W (.BoolOp .And (a :: b :: rest) pos) (eAnd fa fb) := pe_imp (pe_and ha hb) fun σ H Q ⟨env, O, R, p⟩ =>
  ⟨env, O, R, post_bind p fun d v H1 x1 r1 p1 => by
    cases d with
    | bl k =>
      refine ⟨k, RepW.bl (.inl r1), ?_⟩
      cases k with
      | true => exact iteT ⟨env, O, R.mono x1, p1⟩
      | false => exact iteF (post_now p1 repS_bl)
    | _ => exact p1.elim⟩
theorem de_or (ha : DE X c W a fa) (hb : DE X c W (.BoolOp .Or (b :: rest) pos) fb) : DE X c W (.BoolOp .Or (a :: b :: rest) pos) (eOr fa fb) := pe_imp (pe_or ha hb) fun σ H Q ⟨env, O, R, p⟩ =>
  ⟨env, O, R, post_bind p fun d v H1 x1 r1 p1 => by
    cases d with
    | bl k =>
      refine ⟨k, RepW.bl (.inl r1), ?_⟩
      cases k with
      | false => exact iteF ⟨env, O, R.mono x1, p1⟩
      | true => exact iteT (post_now p1 repS_bl)
    | _ => exact p1.elim⟩
theorem de_not (ha : DE X c W a fa) : DE X c W (.UnaryOp .Not a pos) (eNot fa) := pe_imp (pe_not ha) fun σ H Q ⟨env, O, R, p⟩ =>
  ⟨env, O, R, post_bind p fun d v H1 x1 r1 p1 => by
    cases d with
    | bl k => exact ⟨k, RepW.bl (.inl r1), post_now p1 repS_bl⟩
    | _ => exact p1.elim⟩
def eIf (ft : En → Res Bool) (fa fb : En → Res D) : En → Res D := fun env => (ft env).bind fun k => if k = true then fa env else fb env
theorem de_if (ht : DT X c W t ft) (ha : DE X c W a fa) (hb : DE X c W b fb) : DE X c W (.IfExp t a b pos) (eIf ft fa fb) := pe_imp (pe_ifExp ht ha hb) fun σ H Q ⟨env, O, R, p⟩ =>
  ⟨env, O, R, post_bind p fun k k' H1 x1 r1 p1 => by
    have r1 : k = k' := r1
    subst r1
    cases k with
    | true => exact ⟨env, O, R.mono x1, p1⟩
    | false => exact ⟨env, O, R.mono x1, p1⟩⟩
def bAnd (ft fu : En → Res Bool) : En → Res Bool := fun env => (ft env).bind fun k => if k = true then fu env else .ok false
def bOr (ft fu : En → Res Bool) : En → Res Bool := fun env => (ft env).bind fun k => if k = true then .ok true else fu env
def bNot (ft : En → Res Bool) : En → Res Bool := fun env => (ft env).bind fun k => .ok (!k)
theorem dt_and1 (h : DT X c W a ft) : DTw X c W (.BoolOp .And [a] pos) ft := pw_and1 h
theorem dt_or1 (h : DT X c W a ft) : DTw X c W (.BoolOp .Or [a] pos) ft := pw_or1 h
theorem dt_and (ha : DT X c W a ft) (hb : DTw X c W (.BoolOp .And (b :: rest) pos) fu) : DTw X c W (.BoolOp .And (a :: b :: rest) pos) (bAnd ft fu) := pw_imp (pw_and ha hb) fun σ H Q ⟨env, O, R, p⟩ =>
  ⟨env, O, R, post_bind p fun k k' H1 x1 r1 p1 => by
    have r1 : k = k' := r1
    subst r1
    cases k with
    | true => exact ⟨env, O, R.mono x1, p1⟩
    | false => exact post_now p1 rfl⟩
theorem dt_or (ha : DT X c W a ft) (hb : DTw X c W (.BoolOp .Or (b :: rest) pos) fu) : DTw X c W (.BoolOp .Or (a :: b :: rest) pos) (bOr ft fu) := pw_imp (pw_or ha hb) fun σ H Q ⟨env, O, R, p⟩ =>
  ⟨env, O, R, post_bind p fun k k' H1 x1 r1 p1 => by
    have r1 : k = k' := r1
    subst r1
    cases k with
    | true => exact post_now p1 rfl
    | false => exact ⟨env, O, R.mono x1, p1⟩⟩
theorem dt_pt (h : DTw X c W a ft) : DT X c W a ft := h.pt
theorem dt_not (h : DT X c W a ft) : DT X c W (.UnaryOp .Not a pos) (bNot ft) := pt_imp (pt_not h) fun σ H Q ⟨env, O, R, p⟩ =>
  ⟨env, O, R, post_bind p fun k k' H1 x1 r1 p1 => by
    have r1 : k = k' := r1
    subst r1
    exact post_now p1 rfl⟩

/-! ### truth -/
def truD : D → Res Bool
  | .non => .ok false
  | .bl b => .ok b
  | .int i => .ok (i != 0)
  | .str x => if x.length ≤ 100000 then .ok ((x.length : Int) != 0) else .bad
  | .lst xs => .ok (!xs.isEmpty)
  | .tup xs => .ok (!xs.isEmpty)
  | .scr ns => .ok (!ns.isEmpty)
  | .dic ks _ => .ok (!ks.isEmpty)
  | _ => .bad
theorem tru_noex (d : D) {e : Nat} {l : List D} : truD d ≠ .ex e l := by
  cases d with
  | str x =>
    intro h
    have h' : (if x.length ≤ 100000 then Res.ok ((x.length : Int) != 0) else Res.bad) = Res.ex e l := h
    by_cases q : x.length ≤ 100000
    · rw [if_pos q] at h'; cases h'
    · rw [if_neg q] at h'; cases h'
  | _ => intro h; cases h
theorem isEmpty_len {α β : Type} {xs : List α} {ys : List β} (h : xs.length = ys.length) : xs.isEmpty = ys.isEmpty := by cases xs <;> cases ys <;> first | rfl | simp at h
theorem zip_empty {α β : Type} {xs : List α} {ys : List β} (h : xs.length = ys.length) : (xs.zip ys).isEmpty = xs.isEmpty := by cases xs <;> cases ys <;> first | rfl | simp at h
theorem tru_repW {K : PySem.W.Frag} {O : List Addr} {H : Hp} {d : D} {v : V} {k : Bool} (h : RepW K c O H d v) (e : truD d = .ok k) : TruV K v H k := by
  cases d with
  | non => rw [RepW.non h]; cases e; rfl
  | bl b => rw [RepW.bl h]; cases e; rfl
  | int i => rw [RepW.int h]; cases e; rfl
  | str x =>
    rw [RepW.str h]
    have e' : (if x.length ≤ 100000 then Res.ok ((x.length : Int) != 0) else Res.bad) = Res.ok k := e
    by_cases q : x.length ≤ 100000
    · rw [if_pos q] at e'; cases e'; exact ⟨line100 q, rfl⟩
    · rw [if_neg q] at e'; cases e'
  | lst xs =>
    obtain ⟨a, vs, rfl, h1, h2⟩ := RepW.lst h
    cases e
    exact .inl ⟨vs, Or.inl (Or.inl h1), congrArg not (isEmpty_len (reps_len h2))⟩
  | tup xs =>
    obtain ⟨a, vs, rfl, h1, h2⟩ := RepW.tup h
    cases e
    exact .inr (.inl ⟨vs, h1, congrArg not (isEmpty_len (reps_len h2))⟩)
  | scr ns =>
    obtain ⟨a, rfl, h1⟩ := RepW.scr h
    cases e
    exact .inl ⟨_, h1, congrArg not (isEmpty_len (List.length_map ..).symm)⟩
  | dic ks xs =>
    obtain ⟨a, vs, rfl, h1, h2, h3⟩ := RepW.dic h
    cases e
    exact .inr (.inr ⟨_, h1, congrArg not (zip_empty h2).symm⟩)
  | _ => cases e
def eTru (fe : En → Res D) : En → Res Bool := fun env => (fe env).bind truD
theorem dt_tru (h : DW X c W e fe) (he : ∀ whole, isTrue e X.env whole = (do let v ← whole; standAt e.pos; holding [v] (truthy v)) := by intro _; rfl) : DT X c W e (eTru fe) := pt_imp (pt_truth h he) fun σ H Q ⟨env, O, R, p⟩ =>
  ⟨env, O, R, post_bind p fun d v H1 x1 r1 p1 => by
    cases q : truD d with
    | ok k => rw [q] at p1; exact ⟨k, tru_repW r1 q, post_now p1 rfl⟩
    | ex e l => exact absurd q (tru_noex d)
    | bad => rw [q] at p1; exact p1.elim⟩

/-! ### operators -/
def gI (g : Int → Int → Res D) : D → D → Res D
  | .int i, .int j => g i j
  | _, _ => .bad
theorem opW_I {f : Value → Value → Sem Value} {C : Int → Int → Prop} [∀ i j, Decidable (C i j)] {g : Int → Int → V} {g' : Int → Int → D} (h : OpR X f (rI C g)) (hg : ∀ O H i j, RepS X.K c O H (g' i j) (g i j)) : OpW X c W f (gI fun i j => if C i j then .ok (g' i j) else .bad) :=
  opW_of h fun σ H O env x y vx vy Q R px py p => by
    cases x with
    | int i => cases y with
      | int j =>
        unfold gI at p
        dsimp only at p
        split at p
        · rename_i hc
          exact ⟨i, j, RepW.int px, RepW.int py, hc, post_now p (hg O H i j)⟩
        · exact p.elim
      | _ => exact p.elim
    | _ => exact p.elim
theorem opW_I0 {f : Value → Value → Sem Value} {g : Int → Int → V} {g' : Int → Int → D} (h : OpR X f (rI0 g)) (hg : ∀ O H i j, RepS X.K c O H (g' i j) (g i j)) : OpW X c W f (gI fun i j => .ok (g' i j)) :=
  opW_of h fun σ H O env x y vx vy Q R px py p => by
    cases x with
    | int i => cases y with
      | int j => exact ⟨i, j, RepW.int px, RepW.int py, post_now p (hg O H i j)⟩
      | _ => exact p.elim
    | _ => exact p.elim
def gAddI := gI fun i j => .ok (.int (i + j))
def gSubI := gI fun i j => .ok (.int (i - j))
def gMulI := gI fun i j => if i.natAbs.log2 + j.natAbs.log2 < 1000000 then .ok (.int (i * j)) else .bad
def gDivI := gI fun i j => if 0 < j ∧ j.natAbs.log2 < 9000 then .ok (.int (i / j)) else .bad
def gModI := gI fun i j => if 0 < j then .ok (.int (i % j)) else .bad
def gLtI := gI fun i j => .ok (.bl (decide (i < j)))
def gLeI := gI fun i j => .ok (.bl (decide (i ≤ j)))
def gGtI := gI fun i j => .ok (.bl (decide (j < i)))
def gGeI := gI fun i j => .ok (.bl (decide (j ≤ i)))
theorem ow_addI : OpW X c W (binaryOp .Add) gAddI := opW_I0 op_add fun _ _ _ _ => repS_int
theorem ow_subI : OpW X c W (binaryOp .Sub) gSubI := opW_I0 op_sub fun _ _ _ _ => repS_int
instance {i j : Int} : Decidable (CMulW i j) := inferInstanceAs (Decidable (_ < _))
instance {i j : Int} : Decidable (CDivW i j) := inferInstanceAs (Decidable (_ ∧ _))
theorem ow_mulI : OpW X c W (binaryOp .Mult) gMulI := opW_I (C := CMulW) op_mulW fun _ _ _ _ => repS_int
theorem ow_divI : OpW X c W (binaryOp .FloorDiv) gDivI := opW_I (C := CDivW) op_fdivW fun _ _ _ _ => repS_int
theorem ow_modI : OpW X c W (binaryOp .Mod) gModI := opW_I (C := fun _ j => 0 < j) op_mod fun _ _ _ _ => repS_int
theorem ow_ltI : OpW X c W (compareOp .Lt) gLtI := opW_I0 op_lt fun _ _ _ _ => repS_bl
theorem ow_leI : OpW X c W (compareOp .LtE) gLeI := opW_I0 op_le fun _ _ _ _ => repS_bl
theorem ow_gtI : OpW X c W (compareOp .Gt) gGtI := opW_I0 op_gt fun _ _ _ _ => repS_bl
theorem ow_geI : OpW X c W (compareOp .GtE) gGeI := opW_I0 op_ge fun _ _ _ _ => repS_bl
/-- list + list -/
def gCat : D → D → Res D
  | .lst xs, .lst ys => if xs.length + ys.length ≤ 100000 then .ok (.lst (xs ++ ys)) else .bad
  | _, _ => .bad
theorem ow_cat : OpW X c W (binaryOp .Add) gCat := opW_of op_cat fun σ H O env x y vx vy Q R px py p => by
  cases x with
  | lst xs => cases y with
    | lst ys =>
      obtain ⟨a, vs, rfl, h1, h2⟩ := RepW.lst px
      obtain ⟨b, ws, rfl, h3, h4⟩ := RepW.lst py
      unfold gCat at p
      dsimp only at p
      split at p
      · rename_i hl
        exact ⟨a, b, vs, ws, rfl, rfl, h1, h3, by rw [← reps_len h2, ← reps_len h4]; exact line100 hl, fun q hq => post_ok p (Ext.upd hq) (repS_newL (R.new hq) hq (reps_app h2 h4))⟩
      · exact p.elim
    | _ => exact p.elim
  | _ => exact p.elim
/-- text + text -/
def gCatS : D → D → Res D
  | .str x, .str y => if x.length + y.length ≤ 100000 then .ok (.str (x ++ y)) else .bad
  | _, _ => .bad
theorem ow_catS : OpW X c W (binaryOp .Add) gCatS := opW_of op_add_str fun σ H O env x y vx vy Q R px py p => by
  cases x with
  | str xs => cases y with
    | str ys =>
      unfold gCatS at p
      dsimp only at p
      split at p
      · rename_i hl
        exact ⟨xs, ys, RepW.str px, RepW.str py, line100 hl, post_now p repS_str⟩
      · exact p.elim
    | _ => exact p.elim
  | _ => exact p.elim

/-! ### is None -/
def isNon : D → Bool
  | .non => true
  | _ => false
theorem isNon_W {K : PySem.W.Frag} {O : List Addr} {H : Hp} {d : D} {v : V} (h : RepW K c O H d v) : decide (v = .non) = isNon d := by
  rcases h with h | ⟨o, a, rfl, _, rfl, _⟩
  · cases d <;> unfold RepS Rep at h
    case non => subst h; rfl
    case bl => subst h; rfl
    case int => subst h; rfl
    case str => subst h; rfl
    case tup => obtain ⟨a, vs, rfl, _⟩ := h; rfl
    case lst => obtain ⟨a, vs, rfl, _⟩ := h; rfl
    case dic => obtain ⟨a, vs, rfl, _⟩ := h; rfl
    case ins => obtain ⟨a, dx, vs, rfl, _⟩ := h; rfl
    case scr => obtain ⟨a, rfl, _⟩ := h; rfl
    case cls => subst h; rfl
  · cases o <;> rfl
def gIsN : D → D → Res D
  | x, .non => .ok (.bl (isNon x))
  | _, _ => .bad
def gNotN : D → D → Res D
  | x, .non => .ok (.bl (!isNon x))
  | _, _ => .bad
theorem ow_isN : OpW X c W (compareOp .Is) gIsN := opW_of op_isN fun σ H O env x y vx vy Q R px py p => by
  cases y with
  | non => exact ⟨RepW.non py, by rw [isNon_W px]; exact post_now (a := D.bl (isNon x)) p repS_bl⟩
  | _ => cases x <;> exact p.elim
theorem ow_notN : OpW X c W (compareOp .IsNot) gNotN := opW_of op_notN fun σ H O env x y vx vy Q R px py p => by
  cases y with
  | non => exact ⟨RepW.non py, by rw [isNon_W px]; exact post_now (a := D.bl (!isNon x)) p repS_bl⟩
  | _ => cases x <;> exact p.elim

/-! ### == of plain data -/
mutual
def toPy : D → Option PyData
  | .non => some .none
  | .bl b => some (.bool b)
  | .int i => some (.int i)
  | .str x => some (.str x)
  | .tup xs => (toPys xs).map .tuple
  | .lst xs => (toPys xs).map .list
  | .scr ns => some (.list (ns.map .int))
  | _ => none
def toPys : List D → Option (List PyData)
  | [] => some []
  | x :: xs => (toPy x).bind fun d => (toPys xs).map fun ds => d :: ds
end
theorem dpAll_ints {K : PySem.W.Frag} {H : Hp} : ∀ (ns : List Int), DpAll K H (ns.map V.int) (ns.map PyData.int)
  | [] => .nil
  | n :: ns => .cons (.int n) (dpAll_ints ns)
mutual
theorem dp_rep {K : PySem.W.Frag} {cl : Cl} {H : Hp} : ∀ (d : D) (v : V) (q : PyData), Rep K cl H d v → toPy d = some q → Dp K H v q
  | .non, _, _, h, e => by unfold Rep at h; subst h; unfold toPy at e; cases e; exact .non
  | .bl b, _, _, h, e => by unfold Rep at h; subst h; unfold toPy at e; cases e; exact .bl b
  | .int i, _, _, h, e => by unfold Rep at h; subst h; unfold toPy at e; cases e; exact .int i
  | .str x, _, _, h, e => by unfold Rep at h; subst h; unfold toPy at e; cases e; exact .str x
  | .tup xs, _, _, h, e => by
    unfold Rep at h
    obtain ⟨a, vs, rfl, h2, h3⟩ := h
    unfold toPy at e
    cases q : toPys xs with
    | none => rw [q] at e; cases e
    | some qs => rw [q] at e; cases e; exact .tup h2 (dpAll_rep xs vs qs h3 q)
  | .lst xs, _, _, h, e => by
    unfold Rep at h
    obtain ⟨a, vs, rfl, h2, h3⟩ := h
    unfold toPy at e
    cases q : toPys xs with
    | none => rw [q] at e; cases e
    | some qs => rw [q] at e; cases e; exact .lst (Or.inl (Or.inl h2)) (dpAll_rep xs vs qs h3 q)
  | .scr ns, _, _, h, e => by
    unfold Rep at h
    obtain ⟨a, rfl, h2⟩ := h
    unfold toPy at e
    cases e
    exact .lst h2 (dpAll_ints ns)
  | .dic _ _, _, _, _, e => by unfold toPy at e; cases e
  | .ins _ _ _, _, _, _, e => by unfold toPy at e; cases e
  | .cls _, _, _, _, e => by unfold toPy at e; cases e
theorem dpAll_rep {K : PySem.W.Frag} {cl : Cl} {H : Hp} : ∀ (ds : List D) (vs : List V) (qs : List PyData), Reps K cl H ds vs → toPys ds = some qs → DpAll K H vs qs
  | [], _, _, h, e => by unfold Reps at h; subst h; unfold toPys at e; cases e; exact .nil
  | x :: xs, _, _, h, e => by
    unfold Reps at h
    obtain ⟨v, ws, rfl, h2, h3⟩ := h
    unfold toPys at e
    cases q1 : toPy x with
    | none => rw [q1] at e; cases e
    | some q =>
      rw [q1] at e
      cases q2 : toPys xs with
      | none => rw [q2] at e; cases e
      | some qs => rw [q2] at e; cases e; exact .cons (dp_rep x v q h2 q1) (dpAll_rep xs ws qs h3 q2)
end
theorem dp_W {K : PySem.W.Frag} {O : List Addr} {H : Hp} {d : D} {v : V} {q : PyData} (h : RepW K c O H d v) (e : toPy d = some q) : Dp K H v q := by
  rcases h with h | ⟨o, a, rfl, h2, rfl, _⟩
  · exact dp_rep d v q (rep_mono hide_sub d v h) e
  · cases o with
    | lst xs =>
      obtain ⟨vs, h3, h4⟩ := h2
      exact dp_rep (cl := c.cl) (.lst xs) _ q (rep_lst h3 (reps_mono hide_sub _ _ h4)) e
    | dic _ _ => unfold Own.toD toPy at e; cases e
    | ins _ _ _ => unfold Own.toD toPy at e; cases e
def gEq (neg : Bool) : D → D → Res D := fun x y => match toPy x, toPy y with
  | some d, some e => if SeqAt.shaped d = true ∧ SeqAt.shaped e = true then .ok (.bl (if neg then !PyData.eqv d e else PyData.eqv d e)) else .bad
  | _, _ => .bad
theorem ow_eq (hu : X.A.units + 64 < cLine) : OpW X c W (compareOp .Eq) (gEq false) := opW_of (op_eqD hu) fun σ H O env x y vx vy Q R px py p => by
  unfold gEq at p
  split at p
  · rename_i d e h1 h2
    split at p
    · rename_i hs
      exact ⟨d, e, dp_W px h1, dp_W py h2, hs.1, hs.2, post_now p repS_bl⟩
    · exact p.elim
  · exact p.elim
theorem ow_ne (hu : X.A.units + 64 < cLine) : OpW X c W (compareOp .NotEq) (gEq true) := opW_of (op_neD hu) fun σ H O env x y vx vy Q R px py p => by
  unfold gEq at p
  split at p
  · rename_i d e h1 h2
    split at p
    · rename_i hs
      exact ⟨d, e, dp_W px h1, dp_W py h2, hs.1, hs.2, post_now p repS_bl⟩
    · exact p.elim
  · exact p.elim

/-! ### in, of flat items -/
def flatD : D → Option V
  | .non => some .non
  | .bl b => some (.bl b)
  | .int i => some (.int i)
  | .str x => some (.str x)
  | _ => none
def flatDs : List D → Option (List V)
  | [] => some []
  | x :: xs => (flatD x).bind fun v => (flatDs xs).map fun vs => v :: vs
theorem flat_rep {K : PySem.W.Frag} {cl : Cl} {H : Hp} {d : D} {v w : V} (h : Rep K cl H d v) (e : flatD d = some w) : v = w ∧ flatV w = true := by
  cases d <;> unfold Rep at h <;> unfold flatD at e
  case non => cases e; exact ⟨h, rfl⟩
  case bl => cases e; exact ⟨h, rfl⟩
  case int => cases e; exact ⟨h, rfl⟩
  case str => cases e; exact ⟨h, rfl⟩
  all_goals cases e
theorem flats_rep {K : PySem.W.Frag} {cl : Cl} {H : Hp} : ∀ {ds : List D} {vs ws : List V}, Reps K cl H ds vs → flatDs ds = some ws → vs = ws ∧ ws.all flatV = true
  | [], _, _, h, e => by unfold Reps at h; unfold flatDs at e; cases e; exact ⟨h, rfl⟩
  | x :: xs, _, _, h, e => by
    unfold Reps at h
    obtain ⟨v, us, rfl, h2, h3⟩ := h
    unfold flatDs at e
    cases q1 : flatD x with
    | none => rw [q1] at e; cases e
    | some w =>
      rw [q1] at e
      cases q2 : flatDs xs with
      | none => rw [q2] at e; cases e
      | some ws =>
        rw [q2] at e
        cases e
        obtain ⟨e1, f1⟩ := flat_rep h2 q1
        obtain ⟨e2, f2⟩ := flats_rep h3 q2
        exact ⟨by rw [e1, e2], by rw [List.all_cons, f1, f2]; rfl⟩
theorem flat_W {K : PySem.W.Frag} {O : List Addr} {H : Hp} {d : D} {v w : V} (h : RepW K c O H d v) (e : flatD d = some w) : v = w ∧ flatV w = true := by
  rcases h with h | ⟨o, a, rfl, h2, rfl, _⟩
  · exact flat_rep h e
  · cases o <;> cases e
def gIn (neg : Bool) : D → D → Res D := fun x y => match y with
  | .lst ys => match flatD x, flatDs ys with
    | some v, some vs => .ok (.bl (if neg then !inV v vs else inV v vs))
    | _, _ => .bad
  | .tup ys => match flatD x, flatDs ys with
    | some v, some vs => .ok (.bl (if neg then !inV v vs else inV v vs))
    | _, _ => .bad
  | _ => .bad
theorem in_aux {neg : Bool} {σ : L2.St} {H : Hp} {O : List Addr} {env : En} {x y : D} {vx vy : V} {Q : VK} (px : RepW X.K c O H x vx) (py : RepW X.K c O H y vy) (p : Post X.K c W σ H (RepS X.K c O) (gIn neg x y) Q) : rIn X.K neg vx vy H Q := by
  unfold gIn at p
  split at p
  · split at p
    · rename_i ys v vs h1 h2
      obtain ⟨a, us, rfl, h3, h4⟩ := RepW.lst py
      obtain ⟨rfl, f1⟩ := flat_W px h1
      obtain ⟨rfl, f2⟩ := flats_rep h4 h2
      exact ⟨a, _, rfl, .inl (Or.inl (Or.inl h3)), f1, f2, post_now p repS_bl⟩
    · exact p.elim
  · split at p
    · rename_i ys v vs h1 h2
      obtain ⟨a, us, rfl, h3, h4⟩ := RepW.tup py
      obtain ⟨rfl, f1⟩ := flat_W px h1
      obtain ⟨rfl, f2⟩ := flats_rep h4 h2
      exact ⟨a, _, rfl, .inr h3, f1, f2, post_now p repS_bl⟩
    · exact p.elim
  · exact p.elim
theorem ow_in : OpW X c W (compareOp .In) (gIn false) := opW_of op_in_seq fun σ H O env x y vx vy Q R px py p => in_aux (env := env) px py p
theorem ow_notIn : OpW X c W (compareOp .NotIn) (gIn true) := opW_of op_notIn_seq fun σ H O env x y vx vy Q R px py p => in_aux (env := env) px py p
end
end Dl
namespace Dl
open PySem PySem.Spec PyProof.Rows L2

/-! ### arguments that may be owned -/
def RepsW (K : PySem.W.Frag) (c : Cc) (O : List Addr) (H : Hp) (ds : List D) (vs : List V) : Prop := Paired (RepW K c O H) ds vs
theorem paired_mono {α β : Type} {F G : α → β → Prop} (k : ∀ a b, F a b → G a b) : ∀ {xs : List α} {ys : List β}, Paired F xs ys → Paired G xs ys
  | _, _, .nil => .nil
  | _, _, .cons h t => .cons (k _ _ h) (paired_mono k t)
theorem paired_nil {α β : Type} {F : α → β → Prop} {ys : List β} (h : Paired F [] ys) : ys = [] := by cases h; rfl
theorem paired_cons {α β : Type} {F : α → β → Prop} {x : α} {xs : List α} {ys : List β} (h : Paired F (x :: xs) ys) : ∃ y zs, ys = y :: zs ∧ F x y ∧ Paired F xs zs := by
  cases h with
  | cons a b => exact ⟨_, _, rfl, a, b⟩
theorem paired_one {α β : Type} {F : α → β → Prop} {x : α} {ys : List β} (h : Paired F [x] ys) : ∃ y, ys = [y] ∧ F x y := by
  obtain ⟨y, zs, rfl, h1, h2⟩ := paired_cons h
  rw [paired_nil h2]
  exact ⟨y, rfl, h1⟩
theorem paired_two {α β : Type} {F : α → β → Prop} {x x' : α} {ys : List β} (h : Paired F [x, x'] ys) : ∃ y y', ys = [y, y'] ∧ F x y ∧ F x' y' := by
  obtain ⟨y, zs, rfl, h1, h2⟩ := paired_cons h
  obtain ⟨y', rfl, h3⟩ := paired_one h2
  exact ⟨y, y', rfl, h1, h3⟩
def tAW (K : PySem.W.Frag) (c : Cc) (W : WX) (f : En → Res (List D)) : TA := fun σ H Q => ∃ env O, Rl K c O env σ H ∧ Post K c W σ H (RepsW K c O) (f env) Q
abbrev DAW (X : Cx) (c : Cc) (W : WX) (es : List Expr) (f : En → Res (List D)) : Prop := PA X es (tAW X.K c W f)
section
variable {X : Cx} {c : Cc} {W : WX} {a b e t : Expr} {es rest : List Expr} {fa fb fe : En → Res D} {fs : En → Res (List D)} {ft fu : En → Res Bool} {pos : Pos}
theorem dw_nil : DAW X c W [] aNil := pa_imp pa_nil fun σ H Q ⟨env, O, R, p⟩ => post_now p (show RepsW _ _ _ _ _ _ from .nil)
theorem dw_cons (h : DW X c W e fe) (hs : DAW X c W es fs) (hst : starEach (e :: es) X.env = (false, eval e X.env) :: starEach es X.env := by rfl) : DAW X c W (e :: es) (aCons fe fs) :=
  pa_imp (pa_cons h hs hst) fun σ H Q ⟨env, O, R, p⟩ => ⟨env, O, R, post_bind p fun d v H1 x1 r1 p1 => ⟨env, O, R.mono x1, post_bind p1 fun ds vs H2 x2 r2 p2 => post_now p2 (.cons (r1.mono x2) r2)⟩⟩

/-! ### built-ins by values -/
/-- a call of a value -/
def CaW (X : Cx) (c : Cc) (W : WX) (f : Value) (F : List D → Res D) : Prop :=
  ∀ (pins : List (Addr × Obj)) (s : Shared) (σ : L2.St) (H : Hp) (O : List Addr) (env : En) (ds : List D) (vs : List V) (us : List Value) (Q : VK), Inv X pins σ H s → Rl X.K c O env σ H → Vals vs us → RepsW X.K c O H ds vs →
    Post X.K c W σ H (RepS X.K c O) (F ds) Q → wpAny (model X.prog X.w) X.A (call f us) (EP X pins σ Q) X.xe s
theorem caW_of {f : Value} {F : List D → Res D} {r : List V → Hp → VK → Prop} (h : CallR X f r)
    (k : ∀ (σ : L2.St) (H : Hp) (O : List Addr) (env : En) (ds : List D) (vs : List V) (Q : VK), Rl X.K c O env σ H → RepsW X.K c O H ds vs → Post X.K c W σ H (RepS X.K c O) (F ds) Q → r vs H Q) : CaW X c W f F :=
  fun pins s σ H O env ds vs us Q I R rv pv p => h pins s σ H vs us Q I rv (k σ H O env ds vs Q R pv p)
def fAlt (F F' : List D → Res D) : List D → Res D := fun ds => (F ds).alt (F' ds)
theorem CaW.alt {f : Value} {F F' : List D → Res D} (h : CaW X c W f F) (h' : CaW X c W f F') : CaW X c W f (fAlt F F') :=
  fun pins s σ H O env ds vs us Q I R rv pv p => by
    unfold fAlt at p
    cases q : F ds with
    | ok d => rw [q] at p; exact h pins s σ H O env ds vs us Q I R rv pv (by rw [q]; exact p)
    | ex e l => rw [q] at p; exact h pins s σ H O env ds vs us Q I R rv pv (by rw [q]; exact p)
    | bad => rw [q] at p; exact h' pins s σ H O env ds vs us Q I R rv pv p
def eCall (F : List D → Res D) (fs : En → Res (List D)) : En → Res D := fun env => (fs env).bind F
theorem de_callB {x : Str} {id : String} {p : Pos} {F : List D → Res D} (hc : CaW X c W (.builtin id) F) (ha : DAW X c W (e :: es) fs) (hm : X.mg x = none) (hv : bootBuiltins x = some (.builtin id)) (hg : Gl X x := by rfl) (hn : x ≠ "__name__" := by decide) (hdb : (x == ("__debug__" : Str)) = false := by decide)
    (he : starEach (e :: es) X.env = (false, eval e X.env) :: starEach es X.env := by rfl) (hpl : (backTo pos (starEach es X.env)).any (·.1) = false := by rfl) : DE X c W (.Call (.Name x p) (e :: es) [] pos) (eCall F fs) := by
  refine ⟨fun pins s σ H Q I ⟨env, O, R, h⟩ => ?_⟩
  refine wpAny_Call_Name_kw (ld_blt I hg hm hv ?_ hn hdb)
  refine PyProof.Rows.callWith_builtin1 (thn (ha.run pos pins s σ H (fun vs H1 => ∃ ds, Rl X.K c O env σ H1 ∧ RepsW X.K c O H1 ds vs ∧ Post X.K c W σ H1 (RepS X.K c O) (F ds) Q) I ⟨env, O, R, post_bind h fun ds vs H1 x1 r1 p1 => ⟨ds, R.mono x1, r1, p1⟩⟩) fun us s1 ⟨vs, H1, I1, r1, ds, R1, p1, q1⟩ => hc pins s1 σ H1 O env ds vs us Q I1 R1 r1 p1 q1) he hpl
theorem de_callT {x : Str} {id : String} {p : Pos} {F : List D → Res D} (hc : CaW X c W (.type id) F) (ha : DAW X c W (e :: es) fs) (hm : X.mg x = none) (hv : bootBuiltins x = some (.type id)) (hg : Gl X x := by rfl) (hn : x ≠ "__name__" := by decide) (hdb : (x == ("__debug__" : Str)) = false := by decide)
    (he : starEach (e :: es) X.env = (false, eval e X.env) :: starEach es X.env := by rfl) (hpl : (backTo pos (starEach es X.env)).any (·.1) = false := by rfl) : DE X c W (.Call (.Name x p) (e :: es) [] pos) (eCall F fs) := by
  refine ⟨fun pins s σ H Q I ⟨env, O, R, h⟩ => ?_⟩
  refine wpAny_Call_Name_kw (ld_blt I hg hm hv ?_ hn hdb)
  refine PyProof.Rows.callWith_type1 (thn (ha.run pos pins s σ H (fun vs H1 => ∃ ds, Rl X.K c O env σ H1 ∧ RepsW X.K c O H1 ds vs ∧ Post X.K c W σ H1 (RepS X.K c O) (F ds) Q) I ⟨env, O, R, post_bind h fun ds vs H1 x1 r1 p1 => ⟨ds, R.mono x1, r1, p1⟩⟩) fun us s1 ⟨vs, H1, I1, r1, ds, R1, p1, q1⟩ => hc pins s1 σ H1 O env ds vs us Q I1 R1 r1 p1 q1) he hpl

/-- len -/
def fLen : List D → Res D
  | [.lst xs] => .ok (.int xs.length)
  | [.tup xs] => .ok (.int xs.length)
  | [.scr ns] => .ok (.int ns.length)
  | [.str x] => if x.length ≤ 100000 then .ok (.int x.length) else .bad
  | _ => .bad
theorem ca_len : CaW X c W (.builtin "len") fLen := caW_of call_len fun σ H O env ds vs Q R pv p => by
  cases ds with
  | nil => exact p.elim
  | cons d ds => cases ds with
    | cons _ _ => cases d <;> exact p.elim
    | nil =>
      obtain ⟨v, rfl, r⟩ := paired_one pv
      cases d with
      | lst xs =>
        obtain ⟨a, us, rfl, h1, h2⟩ := RepW.lst r
        exact ⟨_, us.length, rfl, .inl ⟨us, Or.inl (Or.inl h1), rfl⟩, by rw [← reps_len h2]; exact post_now p repS_int⟩
      | tup xs =>
        obtain ⟨a, us, rfl, h1, h2⟩ := RepW.tup r
        exact ⟨_, us.length, rfl, .inr ⟨us, h1, rfl⟩, by rw [← reps_len h2]; exact post_now p repS_int⟩
      | scr ns =>
        obtain ⟨a, rfl, h1⟩ := RepW.scr r
        exact ⟨_, ns.length, rfl, .inl ⟨_, h1, (List.length_map ..).symm⟩, post_now p repS_int⟩
      | str x =>
        have p' : Post X.K c W σ H (RepS X.K c O) (if x.length ≤ 100000 then Res.ok (D.int x.length) else Res.bad) Q := p
        by_cases hl : x.length ≤ 100000
        · rw [if_pos hl] at p'
          exact ⟨_, x.length, rfl, by rw [RepW.str r]; exact ⟨line100 hl, rfl⟩, post_now p' repS_int⟩
        · rw [if_neg hl] at p'; exact p'.elim
      | _ => exact p.elim
/-- int, bool of numbers -/
def fInt : List D → Res D
  | [.int i] => .ok (.int i)
  | [.bl k] => .ok (.int (if k then 1 else 0))
  | _ => .bad
theorem ca_int : CaW X c W (.type "int") fInt := caW_of call_int1 fun σ H O env ds vs Q R pv p => by
  cases ds with
  | nil => exact p.elim
  | cons d ds => cases ds with
    | cons _ _ => cases d <;> exact p.elim
    | nil =>
      obtain ⟨v, rfl, r⟩ := paired_one pv
      cases d with
      | int i => exact .inl ⟨i, by rw [RepW.int r], post_now p repS_int⟩
      | bl k => exact .inr ⟨k, by rw [RepW.bl r], post_now p repS_int⟩
      | _ => exact p.elim
/-- tuple, list -/
def fTup : List D → Res D
  | [.lst xs] => .ok (.tup xs)
  | [.tup xs] => .ok (.tup xs)
  | _ => .bad
theorem ca_tup : CaW X c W (.type "tuple") fTup := caW_of call_tuple_of fun σ H O env ds vs Q R pv p => by
  cases ds with
  | nil => exact p.elim
  | cons d ds => cases ds with
    | cons _ _ => cases d <;> exact p.elim
    | nil =>
      obtain ⟨v, rfl, r⟩ := paired_one pv
      cases d with
      | lst xs =>
        obtain ⟨a, us, rfl, h1, h2⟩ := RepW.lst r
        exact ⟨a, us, rfl, .inl ⟨Or.inl (Or.inl h1), fun l hl => post_ok p (Ext.upd hl) (repS_newT (R.new hl) hl h2)⟩⟩
      | tup xs =>
        have r' : RepS X.K c O H (.tup xs) v := by
          rcases r with r | ⟨o, a, _, _, z, _⟩
          · exact r
          · cases o <;> cases z
        obtain ⟨a, us, rfl, h1, h2⟩ := RepW.tup r
        exact ⟨a, us, rfl, .inr ⟨h1, post_now p r'⟩⟩
      | _ => exact p.elim
def fLst : List D → Res D
  | [.lst xs] => .ok (.lst xs)
  | [.tup xs] => .ok (.lst xs)
  | _ => .bad
theorem ca_lst : CaW X c W (.type "list") fLst := caW_of call_list_of fun σ H O env ds vs Q R pv p => by
  cases ds with
  | nil => exact p.elim
  | cons d ds => cases ds with
    | cons _ _ => cases d <;> exact p.elim
    | nil =>
      obtain ⟨v, rfl, r⟩ := paired_one pv
      cases d with
      | lst xs =>
        obtain ⟨a, us, rfl, h1, h2⟩ := RepW.lst r
        exact ⟨a, us, rfl, .inl (Or.inl (Or.inl h1)), fun l hl => post_ok p (Ext.upd hl) (repS_newL (R.new hl) hl h2)⟩
      | tup xs =>
        obtain ⟨a, us, rfl, h1, h2⟩ := RepW.tup r
        exact ⟨a, us, rfl, .inr h1, fun l hl => post_ok p (Ext.upd hl) (repS_newL (R.new hl) hl h2)⟩
      | _ => exact p.elim
/-- sum, all, any -/
def intsD : List D → Option (List Int)
  | [] => some []
  | .int i :: xs => (intsD xs).map fun ns => i :: ns
  | _ => none
def blsD : List D → Option (List Bool)
  | [] => some []
  | .bl i :: xs => (blsD xs).map fun ns => i :: ns
  | _ => none
theorem ints_rep {K : PySem.W.Frag} {cl : Cl} {H : Hp} : ∀ {ds : List D} {vs : List V} {ns : List Int}, Reps K cl H ds vs → intsD ds = some ns → vs = ns.map V.int
  | [], _, _, h, e => by unfold Reps at h; cases e; exact h
  | .int i :: xs, _, _, h, e => by
    unfold Reps at h
    obtain ⟨v, us, rfl, h2, h3⟩ := h
    unfold intsD at e
    cases q : intsD xs with
    | none => rw [q] at e; cases e
    | some ms =>
      rw [q] at e
      cases e
      unfold Rep at h2
      rw [h2, ints_rep h3 q]
      rfl
  | .non :: _, _, _, _, e | .bl _ :: _, _, _, _, e | .str _ :: _, _, _, _, e | .tup _ :: _, _, _, _, e | .lst _ :: _, _, _, _, e | .dic _ _ :: _, _, _, _, e | .ins _ _ _ :: _, _, _, _, e | .scr _ :: _, _, _, _, e | .cls _ :: _, _, _, _, e => by cases e
theorem bls_rep {K : PySem.W.Frag} {cl : Cl} {H : Hp} : ∀ {ds : List D} {vs : List V} {ns : List Bool}, Reps K cl H ds vs → blsD ds = some ns → vs = ns.map V.bl
  | [], _, _, h, e => by unfold Reps at h; cases e; exact h
  | .bl i :: xs, _, _, h, e => by
    unfold Reps at h
    obtain ⟨v, us, rfl, h2, h3⟩ := h
    unfold blsD at e
    cases q : blsD xs with
    | none => rw [q] at e; cases e
    | some ms =>
      rw [q] at e
      cases e
      unfold Rep at h2
      rw [h2, bls_rep h3 q]
      rfl
  | .non :: _, _, _, _, e | .int _ :: _, _, _, _, e | .str _ :: _, _, _, _, e | .tup _ :: _, _, _, _, e | .lst _ :: _, _, _, _, e | .dic _ _ :: _, _, _, _, e | .ins _ _ _ :: _, _, _, _, e | .scr _ :: _, _, _, _, e | .cls _ :: _, _, _, _, e => by cases e
def fSum : List D → Res D
  | [.lst xs] => match intsD xs with
    | some ns => .ok (.int ns.sum)
    | none => .bad
  | _ => .bad
theorem ca_sum (hc : X.calm = true) : CaW X c W (.builtin "sum") fSum := caW_of (cr_sum hc) fun σ H O env ds vs Q R pv p => by
  unfold fSum at p
  split at p
  · split at p
    · rename_i xs ns h
      obtain ⟨v, rfl, r⟩ := paired_one pv
      obtain ⟨a, us, rfl, h1, h2⟩ := RepW.lst r
      have e := ints_rep h2 h
      subst e
      exact ⟨a, ns, rfl, Or.inl (Or.inl h1), post_now p repS_int⟩
    · exact p.elim
  · exact p.elim
def fAll : List D → Res D
  | [.lst xs] => match blsD xs with
    | some ns => .ok (.bl (ns.all id))
    | none => .bad
  | _ => .bad
theorem ca_all (hc : X.calm = true) : CaW X c W (.builtin "all") fAll := caW_of (cr_all hc) fun σ H O env ds vs Q R pv p => by
  unfold fAll at p
  split at p
  · split at p
    · rename_i xs ns h
      obtain ⟨v, rfl, r⟩ := paired_one pv
      obtain ⟨a, us, rfl, h1, h2⟩ := RepW.lst r
      have e := bls_rep h2 h
      subst e
      exact ⟨a, ns, rfl, Or.inl (Or.inl h1), post_now p repS_bl⟩
    · exact p.elim
  · exact p.elim

/-! ### subscripts -/
def atD (xs : List D) (i : Int) : Res D := match atI xs i with
  | some d => .ok d
  | none => .bad
def gIx : D → D → Res D
  | .lst xs, .int i => atD xs i
  | .tup xs, .int i => atD xs i
  | .scr ns, .int i => match atI ns i with
    | some n => .ok (.int n)
    | none => .bad
  | .str x, .int i => if x.length ≤ 100000 then (match atI x.cps.toList i with
    | some n => .ok (.str ⟨#[n]⟩)
    | none => .bad) else .bad
  | _, _ => .bad
theorem atI_reps {K : PySem.W.Frag} {cl : Cl} {H : Hp} {ds : List D} {vs : List V} {i : Int} {d : D} (r : Reps K cl H ds vs) (h : atI ds i = some d) : ∃ v, atI vs i = some v ∧ Rep K cl H d v := by
  unfold atI at h ⊢
  rw [← reps_len r]
  cases q : ixN ds.length i with
  | none => rw [q] at h; cases h
  | some j =>
    rw [q] at h
    obtain ⟨v, h1, h2⟩ := reps_get r h
    exact ⟨v, h1, h2⟩
theorem atI_map {α β : Type} (f : α → β) (xs : List α) (i : Int) : atI (xs.map f) i = (atI xs i).map f := by
  unfold atI
  rw [List.length_map]
  cases ixN xs.length i with
  | none => rfl
  | some j => simp
theorem de_ix (ha : DW X c W a fa) (hb : DE X c W b fb) (hs : PlainIx b := by exact fun _ _ => rfl) : DE X c W (.Subscript a b pos) (eBin gIx fa fb) :=
  pe_imp (pe_ix (IxR.or ix_list (IxR.or ix_tup ix_str)) ha hb hs) fun σ H Q ⟨env, O, R, p⟩ => ⟨env, O, R, post_bind p fun x vx H1 x1 r1 p1 => ⟨env, O, R.mono x1, post_bind p1 fun y vy H2 x2 r2 p2 => by
    have r1 := r1.mono x2
    cases y with
    | int i =>
      have e2 := RepW.int (.inl r2)
      subst e2
      cases x with
      | lst xs =>
        obtain ⟨q, us, rfl, h1, h2⟩ := RepW.lst r1
        have p2 : Post X.K c W σ H2 (RepS X.K c O) (atD xs i) Q := p2
        unfold atD at p2
        cases h : atI xs i with
        | none => rw [h] at p2; exact p2.elim
        | some d =>
          rw [h] at p2
          obtain ⟨v, h3, h4⟩ := atI_reps h2 h
          exact .inl ⟨q, us, i, v, rfl, rfl, Or.inl (Or.inl h1), h3, post_now p2 h4⟩
      | tup xs =>
        obtain ⟨q, us, rfl, h1, h2⟩ := RepW.tup r1
        have p2 : Post X.K c W σ H2 (RepS X.K c O) (atD xs i) Q := p2
        unfold atD at p2
        cases h : atI xs i with
        | none => rw [h] at p2; exact p2.elim
        | some d =>
          rw [h] at p2
          obtain ⟨v, h3, h4⟩ := atI_reps h2 h
          exact .inr (.inl ⟨q, us, i, v, rfl, rfl, h1, h3, post_now p2 h4⟩)
      | scr ns =>
        obtain ⟨q, rfl, h1⟩ := RepW.scr r1
        have p2 : Post X.K c W σ H2 (RepS X.K c O) (match atI ns i with | some n => Res.ok (D.int n) | none => Res.bad) Q := p2
        cases h : atI ns i with
        | none => rw [h] at p2; exact p2.elim
        | some d =>
          rw [h] at p2
          exact .inl ⟨q, _, i, .int d, rfl, rfl, h1, by rw [atI_map, h]; rfl, post_now p2 repS_int⟩
      | str z =>
        have e1 := RepW.str r1
        subst e1
        have p2 : Post X.K c W σ H2 (RepS X.K c O) (if z.length ≤ 100000 then (match atI z.cps.toList i with | some n => Res.ok (D.str ⟨#[n]⟩) | none => Res.bad) else Res.bad) Q := p2
        by_cases hl : z.length ≤ 100000
        · rw [if_pos hl] at p2
          cases h : atI z.cps.toList i with
          | none => rw [h] at p2; exact p2.elim
          | some n => rw [h] at p2; exact .inr (.inr ⟨z, i, n, rfl, rfl, line100 hl, h, post_now p2 repS_str⟩)
        · rw [if_neg hl] at p2; exact p2.elim
      | _ => exact p2.elim
    | _ => cases x <;> exact p2.elim⟩⟩

/-! ### slices -/
abbrev DO (X : Cx) (c : Cc) (W : WX) (e : Option Expr) (f : En → Res (Option Int)) : Prop := PO X e (fun σ H Q => ∃ env O, Rl X.K c O env σ H ∧ Post X.K c W σ H (fun _ (a b : Option Int) => a = b) (f env) Q)
def oNo : En → Res (Option Int) := fun _ => .ok none
def oSome (fe : En → Res D) : En → Res (Option Int) := fun env => (fe env).bind fun d => match d with
  | .int i => .ok (some i)
  | _ => .bad
theorem do_no : DO X c W none oNo := ⟨fun pins s σ H Q I ⟨env, O, R, p⟩ => po_none.run pins s σ H Q I (post_now p rfl)⟩
theorem do_some (h : DE X c W e fe) : DO X c W (some e) (oSome fe) := ⟨fun pins s σ H Q I ⟨env, O, R, p⟩ => (po_some h).run pins s σ H Q I ⟨env, O, R, post_bind p fun d v H1 x1 r1 p1 => by
  cases d with
  | int i => exact ⟨i, RepW.int (.inl r1), post_now p1 rfl⟩
  | _ => exact p1.elim⟩⟩
def cutD {α : Type} (xs : List α) (lo hi : Option Int) : List α := (xs.drop (HT.sIx xs.length 0 lo)).take (HT.sIx xs.length xs.length hi - HT.sIx xs.length 0 lo)
theorem cut_reps {K : PySem.W.Frag} {cl : Cl} {H : Hp} {ds : List D} {vs : List V} {lo hi : Option Int} (r : Reps K cl H ds vs) : Reps K cl H (cutD ds lo hi) (cutV vs lo hi) := by
  unfold cutD cutV
  rw [← reps_len r]
  exact reps_take _ (reps_drop _ r)
def gSl : D → Option Int → Option Int → Res D
  | .lst xs, lo, hi => .ok (.lst (cutD xs lo hi))
  | .tup xs, lo, hi => .ok (.tup (cutD xs lo hi))
  | .scr ns, lo, hi => .ok (.lst ((cutD ns lo hi).map .int))
  | _, _, _ => .bad
theorem reps_ints {K : PySem.W.Frag} {cl : Cl} {H : Hp} : ∀ ns : List Int, Reps K cl H (ns.map D.int) (ns.map V.int)
  | [] => reps_nil
  | n :: ns => reps_cons (by unfold Rep; rfl) (reps_ints ns)
theorem cut_map {lo hi : Option Int} (ns : List Int) : cutV (ns.map V.int) lo hi = (cutD ns lo hi).map V.int := by
  unfold cutV cutD
  rw [List.length_map, List.map_take, List.map_drop]
theorem cut_whole {α : Type} {xs : List α} {lo hi : Option Int} (h : HT.sIx xs.length 0 lo = 0 ∧ HT.sIx xs.length xs.length hi = xs.length) : cutD xs lo hi = xs := by
  unfold cutD
  rw [h.1, h.2, List.drop_zero, Nat.sub_zero, List.take_length]
def eSl (fe : En → Res D) (fl fh : En → Res (Option Int)) : En → Res D := fun env => (fe env).bind fun x => (fl env).bind fun lo => (fh env).bind fun hi => gSl x lo hi
theorem de_sl {lo hi : Option Expr} {fl fh : En → Res (Option Int)} {p2 : Pos} (he : DW X c W e fe) (hl : DO X c W lo fl) (hh : DO X c W hi fh) : DE X c W (.Subscript e (.Slice lo hi none p2) pos) (eSl fe fl fh) :=
  pe_imp (pe_slice (SlR.or sl_list sl_tupA) he hl hh) fun σ H Q ⟨env, O, R, p⟩ => ⟨env, O, R, post_bind p fun x vx H1 x1 r1 p1 => ⟨env, O, R.mono x1, post_bind p1 fun l l' H2 x2 r2 p2 => ⟨env, O, (R.mono x1).mono x2, post_bind p2 fun h h' H3 x3 r3 p3 => by
    have r1 := (r1.mono x2).mono x3
    have R3 := ((R.mono x1).mono x2).mono x3
    subst r2
    subst r3
    cases x with
    | lst xs =>
      obtain ⟨q, us, rfl, h1, h2⟩ := RepW.lst r1
      exact .inl ⟨q, us, rfl, Or.inl (Or.inl h1), fun z hz => post_ok p3 (Ext.upd hz) (repS_newL (R3.new hz) hz (cut_reps h2))⟩
    | scr ns =>
      obtain ⟨q, rfl, h1⟩ := RepW.scr r1
      exact .inl ⟨q, _, rfl, h1, fun z hz => post_ok p3 (Ext.upd hz) (repS_newL (R3.new hz) hz (by rw [cut_map]; exact reps_ints _))⟩
    | tup xs =>
      have r' : RepS X.K c O H3 (.tup xs) vx := by
        rcases r1 with r | ⟨o, a, _, _, z, _⟩
        · exact r
        · cases o <;> cases z
      obtain ⟨q, us, rfl, h1, h2⟩ := RepW.tup r1
      have hlen := reps_len h2
      refine .inr ⟨q, us, rfl, h1, fun hw => ?_, fun _ z hz => post_ok p3 (Ext.upd hz) (repS_newT (R3.new hz) hz (cut_reps h2))⟩
      rw [← hlen] at hw
      have p3 : Post X.K c W σ H3 (RepS X.K c O) (.ok (.tup (cutD xs l h))) Q := p3
      rw [cut_whole hw] at p3
      exact post_now p3 r'
    | _ => exact p3.elim⟩⟩⟩
def eRev (fe : En → Res D) : En → Res D := fun env => (fe env).bind fun x => match x with
  | .lst xs => .ok (.lst xs.reverse)
  | _ => .bad
theorem de_rev {k : Nat} {p1 p2 p3 : Pos} (he : DW X c W e fe) : DE X c W (.Subscript e (.Slice none none (some (.UnaryOp .USub (.Constant (.int 1) k p1) p2)) p3) pos) (eRev fe) :=
  pe_imp (pe_revL he) fun σ H Q ⟨env, O, R, p⟩ => ⟨env, O, R, post_bind p fun x vx H1 x1 r1 p1 => by
    cases x with
    | lst xs =>
      obtain ⟨q, us, rfl, h1, h2⟩ := RepW.lst r1
      exact ⟨q, us, rfl, Or.inl (Or.inl h1), fun z hz => post_ok p1 (Ext.upd hz) (repS_newL ((R.mono x1).new hz) hz (reps_rev h2))⟩
    | _ => exact p1.elim⟩

/-- tuple + tuple -/
def gCatT : D → D → Res D
  | .tup xs, .tup ys => if xs.length + ys.length ≤ 100000 then .ok (.tup (xs ++ ys)) else .bad
  | _, _ => .bad
theorem RepW.tupS {K : PySem.W.Frag} {O : List Addr} {H : Hp} {xs : List D} {v : V} (r : RepW K c O H (.tup xs) v) : RepS K c O H (.tup xs) v := by
  rcases r with r | ⟨o, a, _, _, z, _⟩
  · exact r
  · cases o <;> cases z
theorem ow_catT : OpW X c W (binaryOp .Add) gCatT := opW_of op_catA fun σ H O env x y vx vy Q R px py p => by
  cases x with
  | tup xs => cases y with
    | tup ys =>
      have sx := RepW.tupS px
      have sy := RepW.tupS py
      obtain ⟨a, vs, rfl, h1, h2⟩ := RepW.tup px
      obtain ⟨b, ws, rfl, h3, h4⟩ := RepW.tup py
      have p : Post X.K c W σ H (RepS X.K c O) (if xs.length + ys.length ≤ 100000 then .ok (.tup (xs ++ ys)) else .bad) Q := p
      by_cases hl : xs.length + ys.length ≤ 100000
      · rw [if_pos hl] at p
        refine ⟨a, b, vs, ws, rfl, rfl, h1, h3, by rw [← reps_len h2, ← reps_len h4]; exact line100 hl, fun z => ?_, fun _ z => ?_, fun _ _ q hq => post_ok p (Ext.upd hq) (repS_newT (R.new hq) hq (reps_app h2 h4))⟩
        · subst z
          have e : xs = [] := List.eq_nil_of_length_eq_zero (by rw [reps_len h2]; rfl)
          subst e
          exact post_now p sy
        · subst z
          have e : ys = [] := List.eq_nil_of_length_eq_zero (by rw [reps_len h4]; rfl)
          subst e
          rw [List.append_nil] at p
          exact post_now p sx
      · rw [if_neg hl] at p; exact p.elim
    | _ => exact p.elim
  | _ => exact p.elim
end
end Dl
namespace Dl
open PySem PySem.Spec PyProof.Rows L2

/-! ### statements -/
inductive Out where
  | nx (env : En) | rt (d : D) | bk (env : En) | ct (env : En) | xx (e : Nat) (p : List D) (env : En) | bad
def PostS (K : PySem.W.Frag) (c : Cc) (W : WX) (O : List Addr) (H : Hp) (D : Ends) (r : Out) : Prop :=
  match r with
  | .nx env => ∀ σ' H' O', Rl K c O' env σ' H' → Ext (hide O H) (hide O' H') → D.nx σ' H'
  | .bk env => ∀ σ' H' O', Rl K c O' env σ' H' → Ext (hide O H) (hide O' H') → D.bk σ' H'
  | .ct env => ∀ σ' H' O', Rl K c O' env σ' H' → Ext (hide O H) (hide O' H') → D.ct σ' H'
  | .rt d => ∀ v H', Ext c.H0 H' → RepS K c c.O0 H' d v → D.rt v H'
  | .xx e p env => ∀ σ' H' O', Rl K c O' env σ' H' → Rz K c W e p σ' H'
  | .bad => False
def tS (K : PySem.W.Frag) (c : Cc) (W : WX) (f : En → Out) : TS := fun D σ H => ∃ env O, Rl K c O env σ H ∧ PostS K c W O H D (f env)
abbrev DS (X : Cx) (c : Cc) (W : WX) (st : Stmt) (f : En → Out) : Prop := PS X st (tS X.K c W f)
abbrev DSs (X : Cx) (c : Cc) (W : WX) (st : List Stmt) (f : En → Out) : Prop := PSs X st (tS X.K c W f)
theorem ps_imp {X : Cx} {st : Stmt} {t t' : TS} (h : PS X st t) (k : ∀ D σ H, t' D σ H → t D σ H) : PS X st t' := ⟨fun pins s σ H D I q => h.run pins s σ H D I (k D σ H q)⟩
theorem pss_imp {X : Cx} {st : List Stmt} {t t' : TS} (h : PSs X st t) (k : ∀ D σ H, t' D σ H → t D σ H) : PSs X st t' := ⟨fun pins s σ H D I q => h.run pins s σ H D I (k D σ H q)⟩
def lift {α : Type} (r : Res α) (env : En) (k : α → Out) : Out :=
  match r with
  | .ok a => k a
  | .ex e p => .xx e p env
  | .bad => .bad
@[simp] theorem lift_ok {α : Type} (a : α) (env : En) (k : α → Out) : lift (.ok a) env k = k a := rfl
@[simp] theorem lift_ex {α : Type} (e : Nat) (p : List D) (env : En) (k : α → Out) : lift (.ex e p : Res α) env k = .xx e p env := rfl
@[simp] theorem lift_bad {α : Type} (env : En) (k : α → Out) : lift (.bad : Res α) env k = .bad := rfl
section
variable {K : PySem.W.Frag} {c : Cc} {W : WX} {O O1 : List Addr} {σ : L2.St} {H H1 : Hp} {D : Ends} {env : En}
theorem postS_mono {r : Out} (x : Ext (hide O H) (hide O1 H1)) (h : PostS K c W O H D r) : PostS K c W O1 H1 D r := by
  cases r with
  | nx env => exact fun σ' H' O' R y => h σ' H' O' R (x.trans y)
  | bk env => exact fun σ' H' O' R y => h σ' H' O' R (x.trans y)
  | ct env => exact fun σ' H' O' R y => h σ' H' O' R (x.trans y)
  | rt d => exact h
  | xx e p env => exact h
  | bad => exact h
/-- an expression, then the rest -/
theorem post_lift {α β : Type} {P : Hp → α → β → Prop} {r : Res α} {k : α → Out} {Q : β → Hp → Prop} (R : Rl K c O env σ H) (h : PostS K c W O H D (lift r env k))
    (step : ∀ a b H1, Ext H H1 → P H1 a b → Rl K c O env σ H1 → PostS K c W O H1 D (k a) → Q b H1) : Post K c W σ H P r Q := by
  cases r with
  | ok a => exact fun b H1 x p => step a b H1 x p (R.mono x) (postS_mono (hide_ext x) h)
  | ex e p => exact fun H' x => h σ H' O (R.mono x)
  | bad => exact h
theorem RepW.ret {d : Dl.D} {v : V} (R : Rl K c O env σ H) (r : RepW K c O H d v) : RepS K c c.O0 H d v := by
  rcases r with r | ⟨o, a, rfl, h2, rfl, hn⟩
  · exact rep_mono (hide_less R.sub) _ _ r
  · cases o with
    | lst xs => obtain ⟨vs, h3, h4⟩ := h2; exact rep_lst (by rw [hide_out hn]; exact h3) (reps_mono (hide_less R.sub) _ _ h4)
    | dic ks xs =>
      obtain ⟨vs, h3, h4, h5⟩ := h2
      unfold RepS Own.toD Rep
      exact ⟨a, vs, rfl, by rw [hide_out hn]; exact h3, h4, reps_mono (hide_less R.sub) _ _ h5⟩
    | ins k ns xs =>
      obtain ⟨dx, vs, h3, h4, h5⟩ := h2
      unfold RepS Own.toD Rep
      exact ⟨a, dx, vs, rfl, by rw [hide_out hn]; exact h3, h4, reps_mono (hide_less R.sub) _ _ h5⟩
theorem Rl.lt (R : Rl K c O env σ H) {i : Nat} {v : Option V} (h : σ[i]? = some v) : i < env.length := by
  rw [R.len]
  exact (List.getElem?_eq_some_iff.mp h).1
end

section
variable {X : Cx} {c : Cc} {W : WX} {a b e t : Expr} {es : List Expr} {st : Stmt} {rest body els : List Stmt} {fa fb fe : En → Res D} {fs : En → Res (List D)} {ft : En → Res Bool} {f g h : En → Out} {pos : Pos}

def sNext : En → Out := fun env => .nx env
def sSeq (f g : En → Out) : En → Out := fun env => match f env with
  | .nx env' => g env'
  | r => r
theorem dss_nil : DSs X c W [] sNext := pss_imp pss_nil fun D σ H ⟨env, O, R, p⟩ => p σ H O R Ext.rfl'
theorem dss_one (h : DS X c W st f) : DSs X c W [st] f := pss_one h
theorem dss_cons (h : DS X c W st f) (hr : DSs X c W rest g) : DSs X c W (st :: rest) (sSeq f g) := pss_imp (pss_cons h hr) fun D σ H ⟨env, O, R, p⟩ => ⟨env, O, R, by
  unfold sSeq at p
  cases q : f env with
  | nx env' => rw [q] at p; exact fun σ' H' O' R' x => ⟨env', O', R', postS_mono x p⟩
  | rt d => rw [q] at p; exact p
  | bk env' => rw [q] at p; exact p
  | ct env' => rw [q] at p; exact p
  | xx e l env' => rw [q] at p; exact p
  | bad => rw [q] at p; exact p⟩
def sExpr (fe : En → Res D) : En → Out := fun env => lift (fe env) env fun _ => .nx env
theorem ds_expr (h : DE X c W e fe) (hs : swapsWith e none pos.line X.env = pure false := by rfl) : DS X c W (.Expr e pos) (sExpr fe) := ps_imp (ps_expr h hs) fun D σ H ⟨env, O, R, p⟩ =>
  ⟨env, O, R, post_lift R p fun d v H1 x1 r1 R1 p1 => p1 σ H1 O R1 Ext.rfl'⟩
def sRet (fe : En → Res D) : En → Out := fun env => lift (fe env) env fun d => .rt d
theorem ds_ret (h : DW X c W e fe) : DS X c W (.Return (some e) pos) (sRet fe) := ps_imp (ps_ret h) fun D σ H ⟨env, O, R, p⟩ =>
  ⟨env, O, R, post_lift R p fun d v H1 x1 r1 R1 p1 => p1 v H1 R1.ext (RepW.ret R1 r1)⟩
def sRetN : En → Out := fun _ => .rt .non
theorem ds_retN : DS X c W (.Return none pos) sRetN := ps_imp ps_retN fun D σ H ⟨env, O, R, p⟩ => p .non H R.ext (by unfold RepS Rep; rfl)
def sIf (ft : En → Res Bool) (f g : En → Out) : En → Out := fun env => lift (ft env) env fun k => if k = true then f env else g env
theorem ds_if (ht : DT X c W t ft) (h1 : DSs X c W body f) (h2 : DSs X c W els g) : DS X c W (.If t body els pos) (sIf ft f g) := ps_imp (ps_if ht h1 h2) fun D σ H ⟨env, O, R, p⟩ =>
  ⟨env, O, R, post_lift R p fun k k' H1 x1 r1 R1 p1 => by
    have r1 : k = k' := r1
    subst r1
    cases k with
    | true => exact iteT ⟨env, O, R1, p1⟩
    | false => exact iteF ⟨env, O, R1, p1⟩⟩
theorem ds_pass : DS X c W (.Pass pos) sNext := ps_imp ps_pass fun D σ H ⟨env, O, R, p⟩ => p σ H O R Ext.rfl'
def sBk : En → Out := fun env => .bk env
def sCt : En → Out := fun env => .ct env
theorem ds_bk : DS X c W (.Break pos) sBk := ps_imp ps_break fun D σ H ⟨env, O, R, p⟩ => p σ H O R Ext.rfl'
theorem ds_ct : DS X c W (.Continue pos) sCt := ps_imp ps_continue fun D σ H ⟨env, O, R, p⟩ => p σ H O R Ext.rfl'

/-! ### targets -/
/-- all slots but these are as they were -/
def SameBut (T : List Nat) (σ σ' : L2.St) : Prop := σ'.length = σ.length ∧ ∀ j : Nat, j ∉ T → σ'[j]? = σ[j]?
theorem SameBut.trans {T T' : List Nat} {σ σ1 σ2 : L2.St} (a : SameBut T σ σ1) (b : SameBut T' σ1 σ2) : SameBut (T ++ T') σ σ2 :=
  ⟨b.1.trans a.1, fun j h => (b.2 j fun z => h (List.mem_append_right _ z)).trans (a.2 j fun z => h (List.mem_append_left _ z))⟩
def PostG (K : PySem.W.Frag) (c : Cc) (T : List Nat) (O : List Addr) (σ : L2.St) (H : Hp) (Q : L2.St → Hp → Prop) (r : Option En) : Prop :=
  match r with
  | some env => ∀ σ' H', Rl K c O env σ' H' → Ext H H' → SameBut T σ σ' → Q σ' H'
  | none => False
def tG (K : PySem.W.Frag) (c : Cc) (T : List Nat) (h : D → En → Option En) : TG := fun v σ H Q => ∃ d env O, Rl K c O env σ H ∧ RepS K c O H d v ∧ PostG K c T O σ H Q (h d env)
def tGs (K : PySem.W.Frag) (c : Cc) (T : List Nat) (h : List D → En → Option En) : TGs := fun vs σ H Q => ∃ ds env O, Rl K c O env σ H ∧ Reps K c.cl (hide O H) ds vs ∧ PostG K c T O σ H Q (h ds env)
abbrev DG (X : Cx) (c : Cc) (T : List Nat) (t : Expr) (h : D → En → Option En) : Prop := PG X t (tG X.K c T h)
abbrev DGs (X : Cx) (c : Cc) (T : List Nat) (ts : List Expr) (h : List D → En → Option En) : Prop := PGs X ts (tGs X.K c T h)
theorem pg_imp {X : Cx} {e : Expr} {t t' : TG} (h : PG X e t) (k : ∀ v σ H Q, t' v σ H Q → t v σ H Q) : PG X e t' := ⟨fun pins s σ H v u Q I r q => h.run pins s σ H v u Q I r (k v σ H Q q)⟩
theorem pgs_imp {X : Cx} {e : List Expr} {t t' : TGs} (h : PGs X e t) (k : ∀ v σ H Q, t' v σ H Q → t v σ H Q) : PGs X e t' := ⟨fun pins s σ H v u Q I r q => h.run pins s σ H v u Q I r (k v σ H Q q)⟩
def gV (i : Nat) : D → En → Option En := fun d env => if i < env.length then some (env.set i (.sh d)) else none
theorem dg_name (i : Nat) {x : Str} (hN : X.N.Nodup) (hi : X.N[i]? = some x := by rfl) (hx : Loc X.env.scope x := by first | exact Or.inl rfl | exact Or.inr rfl) (hf : X.fn x = true ∨ X.env.scope.names.lookup x = some .local := by first | exact .inl rfl | exact .inr rfl) :
    DG X c [i] (.Name x pos) (gV i) := pg_imp (pg_name hN hi hx hf) fun v σ H Q ⟨d, env, O, R, r, p⟩ => by
  unfold gV at p
  by_cases hl : i < env.length
  · rw [if_pos hl] at p
    exact p _ _ (R.set r hl) Ext.rfl' ⟨List.length_set .., fun j hj => List.getElem?_set_ne fun z => hj (by rw [z]; exact List.mem_cons_self)⟩
  · rw [if_neg hl] at p
    exact p.elim
def gsNil : List D → En → Option En := fun ds env => match ds with
  | [] => some env
  | _ => none
def gsCons (h : D → En → Option En) (hs : List D → En → Option En) : List D → En → Option En := fun ds env => match ds with
  | d :: ds => (h d env).bind fun env' => hs ds env'
  | [] => none
theorem dgs_nil : DGs X c [] [] gsNil := pgs_imp pgs_nil fun vs σ H Q ⟨ds, env, O, R, r, p⟩ => by
  unfold gsNil at p
  cases ds with
  | nil =>
    unfold Reps at r
    exact ⟨r, p σ H R Ext.rfl' ⟨rfl, fun _ _ => rfl⟩⟩
  | cons _ _ => exact p.elim
theorem dgs_cons {T T' : List Nat} {h : D → En → Option En} {hs : List D → En → Option En} (h1 : DG X c T e h) (h2 : DGs X c T' es hs)
    (hst : (assignEach (e :: es) X.env).map (·.2) = assign e X.env :: (assignEach es X.env).map (·.2) := by rfl) : DGs X c (T ++ T') (e :: es) (gsCons h hs) := pgs_imp (pgs_cons h1 h2 hst) fun vs σ H Q ⟨ds, env, O, R, r, p⟩ => by
  cases ds with
  | nil => exact p.elim
  | cons d ds =>
    unfold Reps at r
    obtain ⟨v, ws, rfl, r1, r2⟩ := r
    refine ⟨v, ws, rfl, d, env, O, R, r1, ?_⟩
    have p : PostG X.K c (T ++ T') O σ H Q ((h d env).bind fun env' => hs ds env') := p
    cases q : h d env with
    | none => rw [q] at p; exact p.elim
    | some env' =>
      rw [q] at p
      have p : PostG X.K c (T ++ T') O σ H Q (hs ds env') := p
      refine fun σ' H' R' x s => ⟨ds, env', O, R', reps_mono (hide_ext x) _ _ r2, ?_⟩
      cases q2 : hs ds env' with
      | none => rw [q2] at p; exact p.elim
      | some env2 => rw [q2] at p; exact fun σ2 H2 R2 x2 s2 => p σ2 H2 R2 (x.trans x2) (s.trans s2)
def gT (n : Nat) (hs : List D → En → Option En) : D → En → Option En := fun d env => match d with
  | .tup ds => if ds.length = n then hs ds env else none
  | _ => none
theorem dg_tup {T : List Nat} {hs : List D → En → Option En} {k n : Nat} (hc : X.calm = true) (h : DGs X c T es hs) (hn : (assignEach es X.env).length = n := by rfl) (hst : (assignEach es X.env).findIdx? (·.1) = none := by rfl) : DG X c T (.Tuple es k pos) (gT n hs) :=
  pg_imp (pg_tup hc h hn hst) fun v σ H Q ⟨d, env, O, R, r, p⟩ => by
    cases d with
    | tup ds =>
      unfold RepS Rep at r
      obtain ⟨a, vs, rfl, h1, h2⟩ := r
      have p : PostG X.K c T O σ H Q (if ds.length = n then hs ds env else none) := p
      by_cases hl : ds.length = n
      · rw [if_pos hl] at p
        exact ⟨a, vs, rfl, SqT.sub h1, by rw [← reps_len h2]; exact hl, ds, env, O, R, h2, p⟩
      · rw [if_neg hl] at p; exact p.elim
    | _ => exact p.elim
def sAsg (fe : En → Res D) (h : D → En → Option En) : En → Out := fun env => lift (fe env) env fun d => match h d env with
  | some env' => .nx env'
  | none => .bad
theorem ds_asg {T : List Nat} {tg : Expr} {h : D → En → Option En} (he : DE X c W e fe) (hg : DG X c T tg h) (hs : swapsWithSole [tg] e pos.line X.env = pure false := by rfl) (hw : swappedStores [tg] e X.env = pure none := by rfl)
    (h1 : (assignEach [tg] X.env).map (·.2) = [assign tg X.env] := by rfl) : DS X c W (.Assign [tg] e pos) (sAsg fe h) := ps_imp (ps_asg he hg hs hw h1) fun D σ H ⟨env, O, R, p⟩ =>
  ⟨env, O, R, post_lift R p fun d v H1 x1 r1 R1 p1 => ⟨d, env, O, R1, r1, by
    cases q : h d env with
    | some env' => rw [q] at p1; exact fun σ' H' R' x _ => p1 σ' H' O R' (hide_ext x)
    | none => rw [q] at p1; exact p1.elim⟩⟩

/-! ### for -/
def forL (h : D → En → Option En) (body : En → Out) : List D → En → Out
  | [], env => .nx env
  | d :: ds, env => match h d env with
    | none => .bad
    | some env1 => match body env1 with
      | .nx env2 => forL h body ds env2
      | .ct env2 => forL h body ds env2
      | .bk env2 => .nx env2
      | r => r
/-- what is walked, as a list of trees -/
def itD : D → Res (List D)
  | .lst xs => .ok xs
  | .tup xs => .ok xs
  | .scr ns => .ok (ns.map .int)
  | _ => .bad
def sFor (fi : En → Res (List D)) (h : D → En → Option En) (body : En → Out) : En → Out := fun env => lift (fi env) env fun ds => forL h body ds env
def eIt (fe : En → Res D) : En → Res (List D) := fun env => (fe env).bind itD
theorem scr_rep {K : PySem.W.Frag} {cl : Cl} {H : Hp} (ns : List Int) : Reps K cl H (ns.map D.int) (ns.map V.int) := reps_ints ns
/-- the turns of a loop over a list of values that stands -/
theorem for_turns {K : PySem.W.Frag} {T : List Nat} {H : Hp} {O : List Addr} {env : En} {σ : L2.St} {D : Ends} {h : Dl.D → En → Option En} {g : TG} {tb : TS} {ds : List Dl.D} {vs : List V} (R : Rl K c O env σ H) (r : Reps K c.cl (hide O H) ds vs)
    (hg : ∀ v σ H Q, tG K c T h v σ H Q → g v σ H Q) (hb : ∀ D σ H, tS K c W f D σ H → tb D σ H) (p : PostS K c W O H D (forL h f ds env)) :
    ∃ Pv : Nat → L2.St → Hp → Prop, Pv 0 σ H ∧ (∀ i σ' H', i ≤ vs.length → Pv i σ' H' → ∃ O', Ext (hide O H) (hide O' H')) ∧
      (∀ i x σ' H', vs[i]? = some x → Pv i σ' H' → g x σ' H' fun σ2 H2 => tb { D with nx := Pv (i + 1), ct := Pv (i + 1), bk := D.nx } σ2 H2) ∧ ∀ σ' H', Pv vs.length σ' H' → D.nx σ' H' := by
  refine ⟨fun i σ' H' => ∃ env' O', Rl K c O' env' σ' H' ∧ Ext (hide O H) (hide O' H') ∧ PostS K c W O' H' D (forL h f (ds.drop i) env'), ⟨env, O, R, Ext.rfl', p⟩, fun i σ' H' _ ⟨env', O', _, x, _⟩ => ⟨O', x⟩, fun i x σ' H' hi ⟨env', O', R', y, p'⟩ => ?_, fun σ' H' ⟨env', O', R', _, p'⟩ => ?_⟩
  · obtain ⟨d, hd, rd⟩ := reps_get' r hi
    have hlt : i < ds.length := (List.getElem?_eq_some_iff.mp hd).1
    have e : ds.drop i = d :: ds.drop (i + 1) := by
      rw [List.drop_eq_getElem_cons hlt]
      rw [(List.getElem?_eq_some_iff.mp hd).2]
    rw [e] at p'
    unfold forL at p'
    refine hg _ _ _ _ ⟨d, env', O', R', rep_mono y _ _ rd, ?_⟩
    cases q : h d env' with
    | none => rw [q] at p'; exact p'.elim
    | some env1 =>
      rw [q] at p'
      refine fun σ1 H1 R1 x1 _ => hb _ _ _ ⟨env1, O', R1, ?_⟩
      dsimp only at p'
      have x1 := hide_ext (O := O') x1
      cases q2 : f env1 with
      | nx env2 => rw [q2] at p'; exact fun σ2 H2 O2 R2 x2 => ⟨env2, O2, R2, y.trans (x1.trans x2), postS_mono (x1.trans x2) p'⟩
      | ct env2 => rw [q2] at p'; exact fun σ2 H2 O2 R2 x2 => ⟨env2, O2, R2, y.trans (x1.trans x2), postS_mono (x1.trans x2) p'⟩
      | bk env2 => rw [q2] at p'; exact fun σ2 H2 O2 R2 x2 => p' σ2 H2 O2 R2 (x1.trans x2)
      | rt d => rw [q2] at p'; exact p'
      | xx e l env2 => rw [q2] at p'; exact p'
      | bad => rw [q2] at p'; exact p'
  · rw [← reps_len r, List.drop_length] at p'
    exact p' σ' H' O' R' Ext.rfl'
def itT : D → Res (List D)
  | .tup xs => .ok xs
  | _ => .bad
def itL : D → Res (List D)
  | .lst xs => .ok xs
  | .scr ns => .ok (ns.map .int)
  | _ => .bad
def eItT (fe : En → Res D) : En → Res (List D) := fun env => (fe env).bind itT
def eItL (fe : En → Res D) : En → Res (List D) := fun env => (fe env).bind itL
theorem ds_forT {T : List Nat} {tg iter : Expr} {h : D → En → Option En} (hp : PassesOwn (model X.prog X.w) X.A X.env X.xe) (hc : X.calm = true) (hi : DE X c W iter fe) (hg : DG X c T tg h) (hb : DSs X c W body f)
    (hs : ∀ x, foldedSetIterable iter X.env x = pure x := by intro _; rfl) : DS X c W (.For tg iter body [] pos) (sFor (eItT fe) h f) := by
  refine ps_imp (ps_for hp hc (pi_tup hi) hg hb hs) fun D σ H ⟨env, O, R, p⟩ => ⟨env, O, R, ?_⟩
  unfold sFor eItT at p
  cases q : fe env with
  | ex e l => rw [q] at p; exact fun H' x => p σ H' O (R.mono x)
  | bad => rw [q] at p; exact p
  | ok d =>
    rw [q] at p
    intro v H1 x1 r1
    cases d with
    | tup xs =>
      have p : PostS X.K c W O H D (forL h f xs env) := p
      have r1 : Rep X.K c.cl (hide O H1) (.tup xs) v := r1
      unfold Rep at r1
      obtain ⟨a, vs, rfl, h1, h2⟩ := r1
      obtain ⟨Pv, g0, g1, g2, g3⟩ := for_turns (R.mono x1) h2 (fun _ _ _ _ z => z) (fun _ _ _ z => z) (postS_mono (hide_ext x1) p)
      exact ⟨a, rfl, ⟨vs, SqT.sub h1⟩, for_tup (K := X.K) (a := a) (xs := vs) Pv g0 (fun i σ' H' hi hp => let ⟨O', z⟩ := g1 i σ' H' hi hp; SqT.sub (h1.ext z)) g2 g3⟩
    | _ => exact p.elim
theorem ds_forL {T : List Nat} {tg iter : Expr} {h : D → En → Option En} (hp : PassesOwn (model X.prog X.w) X.A X.env X.xe) (hc : X.calm = true) (hi : DE X c W iter fe) (hg : DG X c T tg h) (hb : DSs X c W body f)
    (hs : ∀ x, foldedSetIterable iter X.env x = pure x := by intro _; rfl) : DS X c W (.For tg iter body [] pos) (sFor (eItL fe) h f) := by
  refine ps_imp (ps_for hp hc (pi_list hi) hg hb hs) fun D σ H ⟨env, O, R, p⟩ => ⟨env, O, R, ?_⟩
  unfold sFor eItL at p
  cases q : fe env with
  | ex e l => rw [q] at p; exact fun H' x => p σ H' O (R.mono x)
  | bad => rw [q] at p; exact p
  | ok d =>
    rw [q] at p
    intro v H1 x1 r1
    cases d with
    | lst xs =>
      have p : PostS X.K c W O H D (forL h f xs env) := p
      have r1 : Rep X.K c.cl (hide O H1) (.lst xs) v := r1
      unfold Rep at r1
      obtain ⟨a, vs, rfl, h1, h2⟩ := r1
      obtain ⟨Pv, g0, g1, g2, g3⟩ := for_turns (R.mono x1) h2 (fun _ _ _ _ z => z) (fun _ _ _ z => z) (postS_mono (hide_ext x1) p)
      exact ⟨a, rfl, ⟨vs, Or.inl (Or.inl (hide_sub _ _ h1))⟩, for_list (K := X.K) (a := a) (xs := vs) Pv g0 (fun i σ' H' hi hp => let ⟨O', z⟩ := g1 i σ' H' hi hp; Or.inl (Or.inl (hide_sub _ _ (z _ _ h1)))) g2 g3⟩
    | scr ns =>
      have p : PostS X.K c W O H D (forL h f (ns.map .int) env) := p
      have r1 : Rep X.K c.cl (hide O H1) (.scr ns) v := r1
      unfold Rep at r1
      obtain ⟨a, rfl, h1⟩ := r1
      obtain ⟨Pv, g0, g1, g2, g3⟩ := for_turns (R.mono x1) (scr_rep ns) (fun _ _ _ _ z => z) (fun _ _ _ z => z) (postS_mono (hide_ext x1) p)
      exact ⟨a, rfl, ⟨_, h1.ext hide_sub⟩, for_list (K := X.K) (a := a) (xs := ns.map V.int) Pv g0 (fun i σ' H' hi hp => let ⟨O', z⟩ := g1 i σ' H' hi hp; (h1.ext z).ext hide_sub) g2 g3⟩
    | _ => exact p.elim
end
end Dl
namespace Dl
open PySem PySem.Spec PyProof.Rows L2

/-! ### list comprehensions -/
def noex {α : Type} : Res α → Res α
  | .ok a => .ok a
  | _ => .bad
def W0 : WX := fun _ _ _ _ => False
def wipeE (env : En) : List Nat → En
  | [] => env
  | v :: vs => (wipeE env vs).set v .no
def lcL (h : D → En → Option En) (ft : En → Res Bool) (fe : En → Res D) (env : En) : List D → Res (List D)
  | [] => .ok []
  | d :: ds => match h d env with
    | none => .bad
    | some env1 => (noex (ft env1)).bind fun k => if k = true then (noex (fe env1)).bind fun y => (lcL h ft fe env ds).bind fun ys => .ok (y :: ys) else lcL h ft fe env ds
def eLc (vs : List Nat) (fi : En → Res (List D)) (h : D → En → Option En) (ft : En → Res Bool) (fe : En → Res D) : En → Res D := fun env =>
  (fi env).bind fun ds => (lcL h ft fe (wipeE env vs) ds).bind fun ys => if ys.length ≤ 100000 then .ok (.lst ys) else .bad
def bYes : En → Res Bool := fun _ => .ok true
abbrev DTs (X : Cx) (c : Cc) (W : WX) (es : List Expr) (f : En → Res Bool) : Prop := PTs X es (tTt X.K c W f)
theorem dts_nil {X : Cx} {c : Cc} {W : WX} : DTs X c W [] bYes := ⟨fun pins s σ H Q I ⟨env, O, R, p⟩ => pts_nil.run pins s σ H Q I (post_now p rfl)⟩
theorem dts_one {X : Cx} {c : Cc} {W : WX} {e : Expr} {ft : En → Res Bool} (h : DT X c W e ft) : DTs X c W [e] ft := pts_one h

theorem wipeE_len (env : En) : ∀ vs : List Nat, (wipeE env vs).length = env.length
  | [] => rfl
  | v :: vs => by unfold wipeE; rw [List.length_set, wipeE_len env vs]
theorem wipeE_get {env : En} {i : Nat} {s : Sl} : ∀ {vs : List Nat}, (wipeE env vs)[i]? = some s → s ≠ .no → env[i]? = some s ∧ i ∉ vs
  | [], h, _ => ⟨h, by simp⟩
  | v :: vs, h, n => by
    unfold wipeE at h
    rcases getE_set h with ⟨_, q⟩ | ⟨q, h⟩
    · exact absurd q n
    · obtain ⟨h1, h2⟩ := wipeE_get h n
      exact ⟨h1, by simp only [List.mem_cons, not_or]; exact ⟨q, h2⟩⟩
theorem wipe_get {σ : L2.St} {i : Nat} : ∀ {vs : List Nat}, i ∉ vs → (wipe σ vs)[i]? = σ[i]?
  | [], _ => rfl
  | v :: vs, h => by
    simp only [List.mem_cons, not_or] at h
    unfold wipe
    rw [List.getElem?_set_ne (Ne.symm h.1), wipe_get h.2]
theorem wipe_in {σ : L2.St} {i : Nat} (hi : i < σ.length) : ∀ {vs : List Nat}, i ∈ vs → (wipe σ vs)[i]? = some none
  | [], h => by simp at h
  | v :: vs, h => by
    unfold wipe
    by_cases e : v = i
    · subst e
      exact List.getElem?_set_self (by rw [wipe_length]; exact hi)
    · rw [List.getElem?_set_ne e]
      rcases List.mem_cons.mp h with z | z
      · exact absurd z.symm e
      · exact wipe_in hi z
theorem wipe_same {σ σ2 : L2.St} {T vs : List Nat} (h : SameBut T (wipe σ vs) σ2) (hT : ∀ i ∈ T, i ∈ vs) : wipe σ2 vs = wipe σ vs := by
  have hl : σ2.length = σ.length := h.1.trans (wipe_length σ vs)
  refine List.ext_getElem? fun i => ?_
  by_cases hi : i ∈ vs
  · by_cases hlt : i < σ.length
    · rw [wipe_in hlt hi, wipe_in (by rw [hl]; exact hlt) hi]
    · rw [List.getElem?_eq_none (by rw [wipe_length]; omega), List.getElem?_eq_none (by rw [wipe_length]; omega)]
  · rw [wipe_get hi, h.2 i fun z => hi (hT i z)]
section
variable {K : PySem.W.Frag} {c : Cc} {O : List Addr} {env : En} {σ : L2.St} {H : Hp}
theorem Rl.wipe (r : Rl K c O env σ H) (vs : List Nat) : Rl K c O (wipeE env vs) (L2.wipe σ vs) H :=
  r.weak (by rw [wipeE_len, wipe_length, r.len]) (fun i s h n => (wipeE_get h n).1) fun i s v h n e => by rw [wipe_get (wipeE_get h n).2]; exact e
theorem hide_hide {p : Addr} : hide (p :: O) H = hide O (hide [p] H) := by
  funext b
  unfold hide
  by_cases h1 : b ∈ O
  · simp [h1]
  · by_cases h2 : b = p
    · subst h2; simp
    · simp [h1, h2]
/-- a new object that no slot holds, hidden -/
theorem Rl.over {p : Addr} (r : Rl K c O env σ (hide [p] H)) (hp : ∃ o, H p = some o) : Rl K c (p :: O) env σ H where
  len := r.len
  ext := r.ext.trans hide_sub
  sub := fun a h => List.mem_cons_of_mem _ (r.sub a h)
  dom := fun a h => by
    rcases List.mem_cons.mp h with z | z
    · rw [z]; exact hp
    · obtain ⟨o, e⟩ := r.dom a z
      exact ⟨o, hide_sub _ _ e⟩
  sh := fun i d e => by rw [hide_hide]; exact r.sh i d e
  ow := fun i o e => by
    obtain ⟨a, h1, h2, h3, h4, h5⟩ := r.ow i o e
    exact ⟨a, h1, List.mem_cons_of_mem _ h2, h3, h4, by rw [hide_hide]; exact h5.mono Ext.rfl' hide_sub⟩
  me := r.me
  inj := r.inj
theorem hide_one_upd {p : Addr} {o : HO} : hide [p] (upd H p o) = hide [p] H := hide_upd_in (List.mem_cons_self ..)
theorem hide_new' {p : Addr} {o : HO} (n : H p = none) : hide [p] (upd H p o) = H := by
  funext b
  by_cases e : b = p
  · subst e
    rw [hide_in (List.mem_cons_self ..), n]
  · rw [hide_out (by simpa using e), upd_ne e]
end
/-- the turns of a comprehension -/
theorem lc_turns {K : PySem.W.Frag} {c : Cc} {T vs : List Nat} {H1 : Hp} {O : List Addr} {env : En} {σ : L2.St} {W : WX} {h : D → En → Option En} {ft : En → Res Bool} {fe : En → Res D} {ds : List D} {xs : List V} {Q : VK} {Da : Addr}
    (R : Rl K c O env σ H1) (r : Reps K c.cl (hide O H1) ds xs) (hD : H1 Da = none) (hT : ∀ i ∈ T, i ∈ vs)
    (p : Post K c W σ H1 (RepS K c O) ((lcL h ft fe (wipeE env vs) ds).bind fun ys => if ys.length ≤ 100000 then .ok (.lst ys) else .bad) Q)
    (hx : ∀ e l, lcL h ft fe (wipeE env vs) ds ≠ .ex e l) :
    ∃ Pv : Nat → Hp → Prop, Pv 0 (upd H1 Da (.lst [])) ∧ (∀ i H, i ≤ xs.length → Pv i H → Ext (hide O H1) H) ∧
      (∀ i x H, xs[i]? = some x → Pv i H → tG K c T h x (wipe σ vs) H fun σ2 H2 => wipe σ2 vs = wipe σ vs ∧ tTt K c W0 ft σ2 H2 fun b H3 =>
        if b = true then tE K c W0 fe σ2 H3 fun y H4 => ∃ acc, H4 Da = some (.lst acc) ∧ acc.length < sizeLine ∧ Pv (i + 1) (upd H4 Da (.lst (acc ++ [y]))) else Pv (i + 1) H3) ∧
      ∀ H, Pv xs.length H → Q (.ref Da) H := by
  have hDO : Da ∉ O := R.new hD
  cases q : lcL h ft fe (wipeE env vs) ds with
  | ex e l => exact absurd q (hx e l)
  | bad => rw [q] at p; exact p.elim
  | ok ys =>
    rw [q] at p
    have p : Post K c W σ H1 (RepS K c O) (if ys.length ≤ 100000 then .ok (.lst ys) else .bad) Q := p
    by_cases hl : ys.length ≤ 100000
    · rw [if_pos hl] at p
      refine ⟨fun i H => ∃ acc accD rest, H Da = some (.lst acc) ∧ Reps K c.cl (hide O (hide [Da] H)) accD acc ∧ Rl K c O (wipeE env vs) (wipe σ vs) (hide [Da] H) ∧ Ext (hide O H1) (hide O (hide [Da] H)) ∧ Ext H1 H ∧
        lcL h ft fe (wipeE env vs) (ds.drop i) = .ok rest ∧ accD ++ rest = ys, ⟨[], [], ys, upd_same, reps_nil, ?_, ?_, Ext.upd hD, q, rfl⟩, fun i H _ ⟨_, _, _, _, _, _, x, _⟩ => x.trans (hide_sub.trans hide_sub), ?_, ?_⟩
      · rw [hide_new' hD]; exact R.wipe vs
      · rw [hide_new' hD]; exact Ext.rfl'
      · rintro i x H hi ⟨acc, accD, rest, a1, a2, a3, a4, a5, a6, a7⟩
        obtain ⟨d, hd, rd⟩ := reps_get' r hi
        have hlt : i < ds.length := (List.getElem?_eq_some_iff.mp hd).1
        have e : ds.drop i = d :: ds.drop (i + 1) := by
          rw [List.drop_eq_getElem_cons hlt]
          rw [(List.getElem?_eq_some_iff.mp hd).2]
        rw [e] at a6
        unfold lcL at a6
        cases q1 : h d (wipeE env vs) with
        | none => rw [q1] at a6; cases a6
        | some env1 =>
          rw [q1] at a6
          dsimp only at a6
          refine ⟨d, wipeE env vs, Da :: O, a3.over ⟨_, a1⟩, by show Rep _ _ _ _ _; rw [hide_hide]; exact rep_mono a4 _ _ rd, ?_⟩
          rw [q1]
          intro σ2 H2 R2 x2 s2
          refine ⟨wipe_same s2 hT, env1, Da :: O, R2, ?_⟩
          -- what stands at Da, the slots and the items stay while expressions are evaluated
          have keep : ∀ {H3 : Hp}, Ext H H3 → H3 Da = some (.lst acc) ∧ Reps K c.cl (hide O (hide [Da] H3)) accD acc ∧ Rl K c O (wipeE env vs) (wipe σ vs) (hide [Da] H3) ∧ Ext (hide O H1) (hide O (hide [Da] H3)) ∧ Ext H1 H3 := fun {H3} z =>
            ⟨z _ _ a1, reps_mono (hide_ext (hide_ext z)) _ _ a2, a3.mono (hide_ext z), a4.trans (hide_ext (hide_ext z)), a5.trans z⟩
          cases q2 : ft env1 with
          | ex _ _ => rw [q2] at a6; cases a6
          | bad => rw [q2] at a6; cases a6
          | ok k =>
            rw [q2] at a6
            intro b H3 x3 hb
            have hb : k = b := hb
            subst hb
            cases k with
            | false =>
              refine iteF ?_
              obtain ⟨k1, k2, k3, k4, k5⟩ := keep (x2.trans x3)
              exact ⟨acc, accD, rest, k1, k2, k3, k4, k5, a6, a7⟩
            | true =>
              refine iteT ⟨env1, Da :: O, R2.mono x3, ?_⟩
              have a6 : ((noex (fe env1)).bind fun y => (lcL h ft fe (wipeE env vs) (ds.drop (i + 1))).bind fun ys => .ok (y :: ys)) = .ok rest := a6
              cases q3 : fe env1 with
              | ex _ _ => rw [q3] at a6; cases a6
              | bad => rw [q3] at a6; cases a6
              | ok y =>
                rw [q3] at a6
                have a6 : ((lcL h ft fe (wipeE env vs) (ds.drop (i + 1))).bind fun ys => .ok (y :: ys)) = .ok rest := a6
                cases q4 : lcL h ft fe (wipeE env vs) (ds.drop (i + 1)) with
                | ex _ _ => rw [q4] at a6; cases a6
                | bad => rw [q4] at a6; cases a6
                | ok rest' =>
                  rw [q4] at a6
                  cases a6
                  intro v H4 x4 rv
                  obtain ⟨k1, k2, k3, k4, k5⟩ := keep ((x2.trans x3).trans x4)
                  have rv : Rep K c.cl (hide (Da :: O) H4) y v := rv
                  rw [hide_hide] at rv
                  have hlen : acc.length < sizeLine := by
                    have z := congrArg List.length a7
                    rw [List.length_append, List.length_cons] at z
                    rw [← reps_len a2]
                    exact Nat.lt_of_lt_of_le (show accD.length < 100000 by omega) (by decide)
                  have hE : Ext H1 (upd H4 Da (.lst (acc ++ [v]))) := fun b o eb => by
                    rw [upd_ne (ne_of_none eb hD)]
                    exact k5 b o eb
                  refine ⟨acc, k1, hlen, acc ++ [v], accD ++ [y], rest', upd_same, ?_, ?_, ?_, hE, q4, by rw [List.append_assoc]; exact a7⟩
                  · rw [hide_one_upd]; exact reps_app k2 (reps_cons rv reps_nil)
                  · rw [hide_one_upd]; exact k3
                  · rw [hide_one_upd]; exact k4
      · rintro H ⟨acc, accD, rest, a1, a2, a3, a4, a5, a6, a7⟩
        rw [← reps_len r, List.drop_length] at a6
        cases a6
        rw [List.append_nil] at a7
        subst a7
        exact p _ H a5 (rep_lst (by rw [hide_out hDO]; exact a1) (reps_mono (hide_ext hide_sub) _ _ a2))
    · rw [if_neg hl] at p; exact p.elim
theorem lcL_noex {h : D → En → Option En} {ft : En → Res Bool} {fe : En → Res D} {env : En} : ∀ {ds : List D} {e : Nat} {l : List D}, lcL h ft fe env ds ≠ .ex e l
  | [], _, _ => fun q => by cases q
  | d :: ds, e, l => fun q => by
    unfold lcL at q
    cases q1 : h d env with
    | none => rw [q1] at q; cases q
    | some env1 =>
      rw [q1] at q
      dsimp only at q
      cases q2 : ft env1 with
      | ex _ _ => rw [q2] at q; cases q
      | bad => rw [q2] at q; cases q
      | ok k =>
        rw [q2] at q
        cases k with
        | false => exact lcL_noex (ds := ds) q
        | true =>
          have q : ((noex (fe env1)).bind fun y => (lcL h ft fe env ds).bind fun ys => .ok (y :: ys)) = .ex e l := q
          cases q3 : fe env1 with
          | ex _ _ => rw [q3] at q; cases q
          | bad => rw [q3] at q; cases q
          | ok y =>
            rw [q3] at q
            have q : ((lcL h ft fe env ds).bind fun ys => .ok (y :: ys)) = .ex e l := q
            cases q4 : lcL h ft fe env ds with
            | ex _ _ => exact lcL_noex (ds := ds) q4
            | bad => rw [q4] at q; cases q
            | ok _ => rw [q4] at q; cases q

section
variable {X : Cx} {c : Cc} {W : WX} {e : Expr} {fi : En → Res D} {fe : En → Res D} {ft : En → Res Bool} {h : D → En → Option En}
/-- [elt for tg in iter if ..], iter a list -/
theorem tlc_list {K : PySem.W.Frag} {T vs : List Nat} (hT : ∀ i ∈ T, i ∈ vs) : ∀ σ H Q, tE K c W (eLc vs (eItL fi) h ft fe) σ H Q → tLc (iList K (tE K c W fi)) (tG K c T h) (tTt K c W0 ft) (tE K c W0 fe) vs σ H Q := fun σ H Q ⟨env, O, R, p⟩ => ⟨env, O, R, by
  unfold eLc eItL at p
  cases q : fi env with
  | ex e l => rw [q] at p; exact p
  | bad => rw [q] at p; exact p
  | ok d =>
    rw [q] at p
    intro v H1 x1 r1
    have R1 := R.mono x1
    cases d with
    | lst xs =>
      have p := post_mono x1 (show Post K c W σ H (RepS K c O) ((lcL h ft fe (wipeE env vs) xs).bind fun ys => if ys.length ≤ 100000 then .ok (.lst ys) else .bad) Q from p)
      unfold RepS Rep at r1
      obtain ⟨a, us, rfl, h1, h2⟩ := r1
      refine ⟨a, rfl, ⟨us, Or.inl (Or.inl (hide_sub _ _ h1))⟩, fun Da hD => ?_⟩
      obtain ⟨Pv, g0, g1, g2, g3⟩ := lc_turns R1 h2 hD hT p fun _ _ => lcL_noex
      exact lc_list (K := K) (a := a) (xs := us) Pv g0 (fun i H' hi hp => Or.inl (Or.inl (g1 i H' hi hp _ _ h1))) g2 g3
    | scr ns =>
      have p := post_mono x1 (show Post K c W σ H (RepS K c O) ((lcL h ft fe (wipeE env vs) (ns.map .int)).bind fun ys => if ys.length ≤ 100000 then .ok (.lst ys) else .bad) Q from p)
      unfold RepS Rep at r1
      obtain ⟨a, rfl, h1⟩ := r1
      refine ⟨a, rfl, ⟨_, h1.ext hide_sub⟩, fun Da hD => ?_⟩
      obtain ⟨Pv, g0, g1, g2, g3⟩ := lc_turns R1 (scr_rep ns) hD hT p fun _ _ => lcL_noex
      exact lc_list (K := K) (a := a) (xs := ns.map V.int) Pv g0 (fun i H' hi hp => h1.ext (g1 i H' hi hp)) g2 g3
    | _ => exact p.elim⟩
theorem tlc_tup {K : PySem.W.Frag} {T vs : List Nat} (hT : ∀ i ∈ T, i ∈ vs) : ∀ σ H Q, tE K c W (eLc vs (eItT fi) h ft fe) σ H Q → tLc (iTup K (tE K c W fi)) (tG K c T h) (tTt K c W0 ft) (tE K c W0 fe) vs σ H Q := fun σ H Q ⟨env, O, R, p⟩ => ⟨env, O, R, by
  unfold eLc eItT at p
  cases q : fi env with
  | ex e l => rw [q] at p; exact p
  | bad => rw [q] at p; exact p
  | ok d =>
    rw [q] at p
    intro v H1 x1 r1
    have R1 := R.mono x1
    cases d with
    | tup xs =>
      have p := post_mono x1 (show Post K c W σ H (RepS K c O) ((lcL h ft fe (wipeE env vs) xs).bind fun ys => if ys.length ≤ 100000 then .ok (.lst ys) else .bad) Q from p)
      unfold RepS Rep at r1
      obtain ⟨a, us, rfl, h1, h2⟩ := r1
      refine ⟨a, rfl, ⟨us, SqT.sub h1⟩, fun Da hD => ?_⟩
      obtain ⟨Pv, g0, g1, g2, g3⟩ := lc_turns R1 h2 hD hT p fun _ _ => lcL_noex
      exact lc_tup (K := K) (a := a) (xs := us) Pv g0 (fun i H' hi hp => h1.ext (g1 i H' hi hp)) g2 g3
    | _ => exact p.elim⟩
def rgD (lo : Int) (n : Nat) : List D := (List.range n).map fun k : Nat => .int (lo + (k : Int))
def rgV' (lo : Int) (n : Nat) : List V := (List.range n).map fun k : Nat => .int (lo + (k : Int))
def itR1 : List D → Res (List D)
  | [.int j] => if -(2 ^ 62) ≤ j ∧ j < 2 ^ 62 then .ok (rgD 0 j.toNat) else .bad
  | _ => .bad
def itR2 : List D → Res (List D)
  | [.int i, .int j] => if -(2 ^ 62) ≤ i ∧ i < 2 ^ 62 ∧ -(2 ^ 62) ≤ j ∧ j < 2 ^ 62 then .ok (rgD i (j - i).toNat) else .bad
  | _ => .bad
theorem itR1_ok {ds : List D} {r : Res (List D)} (h : itR1 ds = r) : r = .bad ∨ ∃ j, ds = [.int j] ∧ -(2 ^ 62) ≤ j ∧ j < 2 ^ 62 ∧ r = .ok (rgD 0 j.toNat) := by
  subst h
  unfold itR1
  split
  · rename_i j
    by_cases hj : -(2 ^ 62) ≤ j ∧ j < 2 ^ 62
    · rw [if_pos hj]; exact .inr ⟨j, rfl, hj.1, hj.2, rfl⟩
    · rw [if_neg hj]; exact .inl rfl
  · exact .inl rfl
theorem itR2_ok {ds : List D} {r : Res (List D)} (h : itR2 ds = r) : r = .bad ∨ ∃ i j, ds = [.int i, .int j] ∧ (-(2 ^ 62) ≤ i ∧ i < 2 ^ 62 ∧ -(2 ^ 62) ≤ j ∧ j < 2 ^ 62) ∧ r = .ok (rgD i (j - i).toNat) := by
  subst h
  unfold itR2
  split
  · rename_i i j
    by_cases hj : -(2 ^ 62) ≤ i ∧ i < 2 ^ 62 ∧ -(2 ^ 62) ≤ j ∧ j < 2 ^ 62
    · rw [if_pos hj]; exact .inr ⟨i, j, rfl, hj, rfl⟩
    · rw [if_neg hj]; exact .inl rfl
  · exact .inl rfl
def eR1 (fs : En → Res (List D)) : En → Res (List D) := fun env => (fs env).bind itR1
def eR2 (fs : En → Res (List D)) : En → Res (List D) := fun env => (fs env).bind itR2
theorem rg_reps {K : PySem.W.Frag} {cl : Cl} {H : Hp} {lo : Int} {n : Nat} : Reps K cl H (rgD lo n) (rgV' lo n) := by
  unfold rgD rgV'
  refine reps_of_get (by rw [List.length_map, List.length_map]) fun i d v h1 h2 => ?_
  rw [List.getElem?_map] at h1 h2
  cases q : (List.range n)[i]? with
  | none => rw [q] at h1; cases h1
  | some k => rw [q] at h1 h2; cases h1; cases h2; unfold Rep; rfl
theorem rg_get {lo : Int} {n i : Nat} (h : i < n) : (rgV' lo n)[i]? = some (.int (lo + i)) := by
  unfold rgV'
  rw [List.getElem?_map, List.getElem?_range h]
  rfl
theorem rg_len {lo : Int} {n : Nat} : (rgV' lo n).length = n := by unfold rgV'; rw [List.length_map, List.length_range]
theorem reps_int1 {K : PySem.W.Frag} {cl : Cl} {H : Hp} {j : Int} {us : List V} (r : Reps K cl H [.int j] us) : us = [.int j] := by
  unfold Reps at r
  obtain ⟨v, ws, rfl, h1, h2⟩ := r
  unfold Reps at h2
  subst h2
  unfold Rep at h1
  subst h1
  rfl
theorem reps_int2 {K : PySem.W.Frag} {cl : Cl} {H : Hp} {i j : Int} {us : List V} (r : Reps K cl H [.int i, .int j] us) : us = [.int i, .int j] := by
  unfold Reps at r
  obtain ⟨v, ws, rfl, h1, h2⟩ := r
  rw [reps_int1 h2]
  unfold Rep at h1
  subst h1
  rfl
theorem tlc_r1 {K : PySem.W.Frag} {T vs : List Nat} {fs : En → Res (List D)} (hT : ∀ i ∈ T, i ∈ vs) : ∀ σ H Q, tE K c W (eLc vs (eR1 fs) h ft fe) σ H Q → tLc (iRng1 (tA K c W fs)) (tG K c T h) (tTt K c W0 ft) (tE K c W0 fe) vs σ H Q := fun σ H Q ⟨env, O, R, p⟩ => ⟨env, O, R, by
  unfold eLc eR1 at p
  cases q : fs env with
  | ex e l => rw [q] at p; exact p
  | bad => rw [q] at p; exact p
  | ok ds =>
    rw [q] at p
    have p : Post K c W σ H (RepS K c O) ((itR1 ds).bind fun ds => (lcL h ft fe (wipeE env vs) ds).bind fun ys => if ys.length ≤ 100000 then .ok (.lst ys) else .bad) Q := p
    intro us H1 x1 r1
    have R1 := R.mono x1
    rcases itR1_ok (ds := ds) rfl with z | ⟨j, rfl, h1, h2, z⟩
    · rw [z] at p; exact p.elim
    · rw [z] at p
      have p := post_mono x1 (show Post K c W σ H (RepS K c O) ((lcL h ft fe (wipeE env vs) (rgD 0 j.toNat)).bind fun ys => if ys.length ≤ 100000 then .ok (.lst ys) else .bad) Q from p)
      refine ⟨j, reps_int1 r1, h1, h2, fun Da hD => ?_⟩
      obtain ⟨Pv, g0, g1, g2, g3⟩ := lc_turns R1 (rg_reps (lo := 0) (n := j.toNat)) hD hT p fun _ _ => lcL_noex
      exact lc_range (lo := 0) (n := j.toNat) Pv g0 (fun i H' hi hp => g2 i _ H' (rg_get hi) hp) (fun H' hp => g3 H' (by rw [rg_len]; exact hp))⟩
theorem tlc_r2 {K : PySem.W.Frag} {T vs : List Nat} {fs : En → Res (List D)} (hT : ∀ i ∈ T, i ∈ vs) : ∀ σ H Q, tE K c W (eLc vs (eR2 fs) h ft fe) σ H Q → tLc (iRng2 (tA K c W fs)) (tG K c T h) (tTt K c W0 ft) (tE K c W0 fe) vs σ H Q := fun σ H Q ⟨env, O, R, p⟩ => ⟨env, O, R, by
  unfold eLc eR2 at p
  cases q : fs env with
  | ex e l => rw [q] at p; exact p
  | bad => rw [q] at p; exact p
  | ok ds =>
    rw [q] at p
    have p : Post K c W σ H (RepS K c O) ((itR2 ds).bind fun ds => (lcL h ft fe (wipeE env vs) ds).bind fun ys => if ys.length ≤ 100000 then .ok (.lst ys) else .bad) Q := p
    intro us H1 x1 r1
    have R1 := R.mono x1
    rcases itR2_ok (ds := ds) rfl with z | ⟨i, j, rfl, h1, z⟩
    · rw [z] at p; exact p.elim
    · rw [z] at p
      have p := post_mono x1 (show Post K c W σ H (RepS K c O) ((lcL h ft fe (wipeE env vs) (rgD i (j - i).toNat)).bind fun ys => if ys.length ≤ 100000 then .ok (.lst ys) else .bad) Q from p)
      refine ⟨i, j, reps_int2 r1, h1, fun Da hD => ?_⟩
      obtain ⟨Pv, g0, g1, g2, g3⟩ := lc_turns R1 (rg_reps (lo := i) (n := (j - i).toNat)) hD hT p fun _ _ => lcL_noex
      exact lc_range (lo := i) (n := (j - i).toNat) Pv g0 (fun k H' hi hp => g2 k _ H' (rg_get hi) hp) (fun H' hp => g3 H' (by rw [rg_len]; exact hp))⟩
/-- the whole: for a comprehension as a value -/
theorem de_lc {own : List (Str × Nat)} {elt tg iter : Expr} {ifs : List Expr} {scope : Scope} {pos : Pos} {wi : TI} {T : List Nat} {f : En → Res D} (hw : ∀ σ H Q, tE X.K c W f σ H Q → tLc wi (tG X.K c T h) (tTt X.K c W0 ft) (tE X.K c W0 fe) (own.map (·.2)) σ H Q)
    (hc : X.calm = true) (hN : X.N.Nodup) (hi : PI X tg iter wi) (ok : BlkOk X.N X.env.scope scope own)
    (hg : ∀ (s : Shared) (H : Hp) (C : Addr) (cl : List (Str × Addr)) (fp : List Addr), DG (X.blk s H scope (compEnvC scope cl C X.env) fp) c T tg h) (ht : ∀ (s : Shared) (H : Hp) (C : Addr) (cl : List (Str × Addr)) (fp : List Addr), DTs (X.blk s H scope (compEnvC scope cl C X.env) fp) c W0 ifs ft)
    (he : ∀ (s : Shared) (H : Hp) (C : Addr) (cl : List (Str × Addr)) (fp : List Addr), DE (X.blk s H scope (compEnvC scope cl C X.env) fp) c W0 elt fe) (hs : ∀ x, foldedSetIterable iter X.env x = pure x := by intro _; rfl) :
    DE X c W (.ListComp elt [⟨tg, iter, ifs, 0⟩] scope pos) f := pe_imp (pe_lc hc hN hi ok hg ht he hs) hw
end
end Dl
namespace Dl
open PySem PySem.Spec PyProof.Rows L2

section
variable {X : Cx} {c : Cc} {W : WX} {a b e t : Expr} {es : List Expr} {st : Stmt} {rest body els : List Stmt} {fa fb fe : En → Res D} {fs : En → Res (List D)} {ft : En → Res Bool} {f g h : En → Out} {pos : Pos}

/-! ### for over range, enumerate -/
theorem ds_forR1 {T : List Nat} {tg : Expr} {h : D → En → Option En} {p pos' : Pos} (hp : PassesOwn (model X.prog X.w) X.A X.env X.xe) (hc : X.calm = true) (hm : X.mg "range" = none) (ha : DA X c W [a] fs) (hg : DG X c T tg h) (hb : DSs X c W body f) (hgl : Gl X "range" := by rfl)
    (hst : starEach [a] X.env = [(false, eval a X.env)] := by rfl) (hs : ∀ x, foldedSetIterable (.Call (.Name "range" p) [a] [] pos') X.env x = pure x := by intro _; rfl) : DS X c W (.For tg (.Call (.Name "range" p) [a] [] pos') body [] pos) (sFor (eR1 fs) h f) := by
  refine ps_imp (ps_for hp hc (pi_range1 hgl hm ha hst) hg hb hs) fun D σ H ⟨env, O, R, p⟩ => ⟨env, O, R, ?_⟩
  unfold sFor eR1 at p
  cases q : fs env with
  | ex e l => rw [q] at p; exact fun H' x => p σ H' O (R.mono x)
  | bad => rw [q] at p; exact p
  | ok ds =>
    rw [q] at p
    have p : PostS X.K c W O H D (lift (itR1 ds) env fun ds => forL h f ds env) := p
    intro us H1 x1 r1
    rcases itR1_ok (ds := ds) rfl with z | ⟨j, rfl, h1, h2, z⟩
    · rw [z] at p; exact p.elim
    · rw [z] at p
      have p : PostS X.K c W O H D (forL h f (rgD 0 j.toNat) env) := p
      obtain ⟨Pv, g0, g1, g2, g3⟩ := for_turns (R.mono x1) (rg_reps (lo := 0) (n := j.toNat)) (fun _ _ _ _ z => z) (fun _ _ _ z => z) (postS_mono (hide_ext x1) p)
      exact ⟨j, reps_int1 r1, h1, h2, for_range (lo := 0) (n := j.toNat) Pv g0 (fun i σ' H' hi hp => g2 i _ σ' H' (rg_get hi) hp) (fun σ' H' hp => g3 σ' H' (by rw [rg_len]; exact hp))⟩
theorem ds_forR2 {T : List Nat} {tg : Expr} {h : D → En → Option En} {p pos' : Pos} (hp : PassesOwn (model X.prog X.w) X.A X.env X.xe) (hc : X.calm = true) (hm : X.mg "range" = none) (ha : DA X c W [a, b] fs) (hg : DG X c T tg h) (hb : DSs X c W body f) (hgl : Gl X "range" := by rfl)
    (hst : starEach [a, b] X.env = [(false, eval a X.env), (false, eval b X.env)] := by rfl) (hst2 : starEach [b] X.env = [(false, eval b X.env)] := by rfl) (hs : ∀ x, foldedSetIterable (.Call (.Name "range" p) [a, b] [] pos') X.env x = pure x := by intro _; rfl) : DS X c W (.For tg (.Call (.Name "range" p) [a, b] [] pos') body [] pos) (sFor (eR2 fs) h f) := by
  refine ps_imp (ps_for hp hc (pi_range2 hgl hm ha hst hst2) hg hb hs) fun D σ H ⟨env, O, R, p⟩ => ⟨env, O, R, ?_⟩
  unfold sFor eR2 at p
  cases q : fs env with
  | ex e l => rw [q] at p; exact fun H' x => p σ H' O (R.mono x)
  | bad => rw [q] at p; exact p
  | ok ds =>
    rw [q] at p
    have p : PostS X.K c W O H D (lift (itR2 ds) env fun ds => forL h f ds env) := p
    intro us H1 x1 r1
    rcases itR2_ok (ds := ds) rfl with z | ⟨i, j, rfl, h1, z⟩
    · rw [z] at p; exact p.elim
    · rw [z] at p
      have p : PostS X.K c W O H D (forL h f (rgD i (j - i).toNat) env) := p
      obtain ⟨Pv, g0, g1, g2, g3⟩ := for_turns (R.mono x1) (rg_reps (lo := i) (n := (j - i).toNat)) (fun _ _ _ _ z => z) (fun _ _ _ z => z) (postS_mono (hide_ext x1) p)
      exact ⟨i, j, reps_int2 r1, h1, for_range (lo := i) (n := (j - i).toNat) Pv g0 (fun k σ' H' hi hp => g2 k _ σ' H' (rg_get hi) hp) (fun σ' H' hp => g3 σ' H' (by rw [rg_len]; exact hp))⟩
def enD (n : Nat) : List D → List D
  | [] => []
  | d :: ds => .tup [.int n, d] :: enD (n + 1) ds
def itEn : List D → Res (List D)
  | [.lst xs] => .ok (enD 0 xs)
  | _ => .bad
theorem itEn_ok {ds : List D} {r : Res (List D)} (h : itEn ds = r) : r = .bad ∨ ∃ xs, ds = [.lst xs] ∧ r = .ok (enD 0 xs) := by
  subst h
  unfold itEn
  split
  · rename_i xs
    exact .inr ⟨xs, rfl, rfl⟩
  · exact .inl rfl
def eEn (fs : En → Res (List D)) : En → Res (List D) := fun env => (fs env).bind itEn
theorem enD_get : ∀ (ds : List D) (n i : Nat), (enD n ds)[i]? = (ds[i]?).map fun d => D.tup [.int ((n + i : Nat) : Int), d]
  | [], n, i => by unfold enD; simp
  | d :: ds, n, 0 => by unfold enD; simp
  | d :: ds, n, i + 1 => by
    unfold enD
    rw [List.getElem?_cons_succ, List.getElem?_cons_succ, enD_get ds (n + 1) i, show n + 1 + i = n + (i + 1) by omega]
theorem enD_len : ∀ (ds : List D) (n : Nat), (enD n ds).length = ds.length
  | [], _ => rfl
  | d :: ds, n => by unfold enD; rw [List.length_cons, List.length_cons, enD_len ds]
/-- turns over pairs that are made on the way -/
theorem enum_turns {K : PySem.W.Frag} {T : List Nat} {H : Hp} {O : List Addr} {env : En} {σ : L2.St} {D : Ends} {h : Dl.D → En → Option En} {g : TG} {tb : TS} {ds : List Dl.D} {vs : List V} {a : Addr} (R : Rl K c O env σ H) (hv : hide O H a = some (.lst vs)) (r : Reps K c.cl (hide O H) ds vs)
    (hg : ∀ v σ H Q, tG K c T h v σ H Q → g v σ H Q) (hb : ∀ D σ H, tS K c W f D σ H → tb D σ H) (p : PostS K c W O H D (forL h f (enD 0 ds) env)) :
    ∃ W : Nat → Nat → L2.St → Hp → Prop, (∃ m, W 0 m σ H) ∧ ∀ i m σ H, W i m σ H →
      ((Ite K a).stop i H ∧ D.nx σ H) ∨ ((Ite K a).go i H ∧ ∃ N : L2.St → Hp → Prop, (∀ σ' H', N σ' H' → ∃ m', m' < m ∧ W (i + 1) m' σ' H') ∧ ∀ x H', (Ite K a).yld i H x H' → g x σ H' fun σ2 H2 => tb { D with nx := N, ct := N, bk := D.nx } σ2 H2) := by
  refine ⟨fun i m σ' H' => m = vs.length - i ∧ i ≤ vs.length ∧ ∃ env' O', Rl K c O' env' σ' H' ∧ Ext (hide O H) (hide O' H') ∧ PostS K c W O' H' D (forL h f ((enD 0 ds).drop i) env'), ⟨vs.length, by simp, Nat.zero_le _, env, O, R, Ext.rfl', p⟩, ?_⟩
  rintro i m σ' H' ⟨rfl, hi, env', O', R', y, p'⟩
  have hl : SqL K H' a vs := Or.inl (Or.inl (hide_sub _ _ (y _ _ hv)))
  by_cases hlt : i < vs.length
  · obtain ⟨v, hv'⟩ : ∃ v, vs[i]? = some v := ⟨_, List.getElem?_eq_getElem hlt⟩
    obtain ⟨d, hd, rd⟩ := reps_get' r hv'
    have hlt2 : i < (enD 0 ds).length := by rw [enD_len, reps_len r]; exact hlt
    have ee : (enD 0 ds)[i]? = some (.tup [.int (i : Nat), d]) := by
      rw [enD_get, hd, Nat.zero_add]
      rfl
    have e : (enD 0 ds).drop i = .tup [.int (i : Nat), d] :: (enD 0 ds).drop (i + 1) := by
      rw [List.drop_eq_getElem_cons hlt2]
      rw [(List.getElem?_eq_some_iff.mp ee).2]
    rw [e] at p'
    unfold forL at p'
    refine .inr ⟨⟨vs, v, hl, hv'⟩, fun σ2 H2 => i < vs.length ∧ ∃ env' O', Rl K c O' env' σ2 H2 ∧ Ext (hide O H) (hide O' H2) ∧ PostS K c W O' H2 D (forL h f ((enD 0 ds).drop (i + 1)) env'), fun σ2 H2 ⟨_, z⟩ => ⟨vs.length - (i + 1), by omega, rfl, hlt, z⟩, ?_⟩
    rintro x H2 ⟨Ta, u, rfl, hT, rfl, hu⟩
    have eu : v = u := by
      have := hu vs hl
      rw [hv'] at this
      exact Option.some.inj this
    subst eu
    have R2 := R'.mono (Ext.upd (o := .tup [V.int (i : Nat), v]) hT)
    have x2 : Ext (hide O' H') (hide O' (upd H' Ta (.tup [V.int (i : Nat), v]))) := hide_ext (Ext.upd hT)
    have hi0 : Rep K c.cl (hide O' H') (.int (i : Nat)) (.int (i : Nat)) := by unfold Rep; rfl
    refine hg _ _ _ _ ⟨.tup [.int (i : Nat), d], env', O', R2, repS_newT (R'.new hT) hT (reps_cons hi0 (reps_cons (rep_mono y _ _ rd) reps_nil)), ?_⟩
    cases q : h (.tup [.int (i : Nat), d]) env' with
    | none => rw [q] at p'; exact p'.elim
    | some env1 =>
      rw [q] at p'
      refine fun σ1 H1 R1 x1 _ => hb _ _ _ ⟨env1, O', R1, ?_⟩
      dsimp only at p'
      have x1 := x2.trans (hide_ext (O := O') x1)
      cases q2 : f env1 with
      | nx env2 => rw [q2] at p'; exact fun σ2 H2 O2 R2 x2 => ⟨hlt, env2, O2, R2, y.trans (x1.trans x2), postS_mono (x1.trans x2) p'⟩
      | ct env2 => rw [q2] at p'; exact fun σ2 H2 O2 R2 x2 => ⟨hlt, env2, O2, R2, y.trans (x1.trans x2), postS_mono (x1.trans x2) p'⟩
      | bk env2 => rw [q2] at p'; exact fun σ2 H2 O2 R2 x2 => p' σ2 H2 O2 R2 (x1.trans x2)
      | rt d => rw [q2] at p'; exact p'
      | xx e l env2 => rw [q2] at p'; exact p'
      | bad => rw [q2] at p'; exact p'
  · have e : i = vs.length := by omega
    subst e
    rw [← reps_len r, ← enD_len ds 0, List.drop_length] at p'
    exact .inl ⟨⟨vs, hl, Nat.le_refl _⟩, p' σ' H' O' R' Ext.rfl'⟩
theorem ds_forEn {T : List Nat} {h : D → En → Option En} {p pos' tpos : Pos} {elts : List Expr} {kk : Nat} (hp : PassesOwn (model X.prog X.w) X.A X.env X.xe) (hc : X.calm = true) (hm : X.mg "enumerate" = none) (ha : DA X c W [a] fs) (hg : DG X c T (.Tuple elts kk tpos) h) (hb : DSs X c W body f) (hgl : Gl X "enumerate" := by rfl)
    (hst : starEach [a] X.env = [(false, eval a X.env)] := by rfl) (hs : ∀ x, foldedSetIterable (.Call (.Name "enumerate" p) [a] [] pos') X.env x = pure x := by intro _; rfl) : DS X c W (.For (.Tuple elts kk tpos) (.Call (.Name "enumerate" p) [a] [] pos') body [] pos) (sFor (eEn fs) h f) := by
  refine ps_imp (ps_for hp hc (pi_enum hgl hm ha hst) hg hb hs) fun D σ H ⟨env, O, R, p⟩ => ⟨env, O, R, ?_⟩
  unfold sFor eEn at p
  cases q : fs env with
  | ex e l => rw [q] at p; exact fun H' x => p σ H' O (R.mono x)
  | bad => rw [q] at p; exact p
  | ok ds =>
    rw [q] at p
    have p : PostS X.K c W O H D (lift (itEn ds) env fun ds => forL h f ds env) := p
    intro us H1 x1 r1
    rcases itEn_ok (ds := ds) rfl with z | ⟨xs, rfl, z⟩
    · rw [z] at p; exact p.elim
    · rw [z] at p
      have p : PostS X.K c W O H D (forL h f (enD 0 xs) env) := p
      unfold RepsS Reps at r1
      obtain ⟨v, ws, rfl, h1, h2⟩ := r1
      unfold Reps at h2
      subst h2
      unfold Rep at h1
      obtain ⟨ad, vs, rfl, h3, h4⟩ := h1
      exact ⟨ad, vs, rfl, Or.inl (Or.inl (hide_sub _ _ h3)), enum_turns (R.mono x1) h3 h4 (fun _ _ _ _ z => z) (fun _ _ _ z => z) (postS_mono (hide_ext x1) p)⟩

/-! ### while -/
def whL (ft : En → Res Bool) (body : En → Out) : Nat → En → Out
  | 0, _ => .bad
  | n + 1, env => lift (ft env) env fun k => if k = true then (match body env with
      | .nx env' => whL ft body n env'
      | .ct env' => whL ft body n env'
      | .bk env' => .nx env'
      | r => r) else .nx env
def sWhile (n : Nat) (ft : En → Res Bool) (body : En → Out) : En → Out := whL ft body n
theorem ds_while (n : Nat) (hp : PassesOwn (model X.prog X.w) X.A X.env X.xe) (ht : DT X c W t ft) (hb : DSs X c W body f) : DS X c W (.While t body [] pos) (sWhile n ft f) := by
  refine ps_imp (ps_while hp ht hb) fun D σ H ⟨env, O, R, p⟩ => ?_
  refine ⟨fun m σ' H' => ∃ env' O', Rl X.K c O' env' σ' H' ∧ Ext (hide O H) (hide O' H') ∧ PostS X.K c W O' H' D (whL ft f m env'), ⟨n, env, O, R, Ext.rfl', p⟩, ?_⟩
  rintro m σ' H' ⟨env', O', R', y, p'⟩
  cases m with
  | zero => exact p'.elim
  | succ m =>
    unfold whL at p'
    refine ⟨env', O', R', post_lift R' p' fun k k' H1 x1 r1 R1 p1 => ?_⟩
    have r1 : k = k' := r1
    subst r1
    cases k with
    | false => exact iteF (p1 σ' H1 O' R1 Ext.rfl')
    | true =>
      have p1 : PostS X.K c W O' H1 D (match f env' with
        | .nx env' => whL ft f m env'
        | .ct env' => whL ft f m env'
        | .bk env' => .nx env'
        | r => r) := p1
      refine iteT ⟨fun σ2 H2 => ∃ env' O', Rl X.K c O' env' σ2 H2 ∧ Ext (hide O H) (hide O' H2) ∧ PostS X.K c W O' H2 D (whL ft f m env'), fun σ2 H2 z => ⟨m, Nat.lt_succ_self m, z⟩, env', O', R1, ?_⟩
      have y1 := y.trans (hide_ext (O := O') x1)
      cases q2 : f env' with
      | nx env2 => rw [q2] at p1; exact fun σ2 H2 O2 R2 x2 => ⟨env2, O2, R2, y1.trans x2, postS_mono x2 p1⟩
      | ct env2 => rw [q2] at p1; exact fun σ2 H2 O2 R2 x2 => ⟨env2, O2, R2, y1.trans x2, postS_mono x2 p1⟩
      | bk env2 => rw [q2] at p1; exact fun σ2 H2 O2 R2 x2 => p1 σ2 H2 O2 R2 x2
      | rt d => rw [q2] at p1; exact p1
      | xx e l env2 => rw [q2] at p1; exact p1
      | bad => rw [q2] at p1; exact p1

/-! ### a, b = x, y -/
def setE (i : Nat) (d : D) (env : En) : Option En := if i < env.length then some (env.set i (.sh d)) else none
def sPar2 (i j : Nat) (fs : En → Res (List D)) : En → Out := fun env => lift (fs env) env fun ds => match ds with
  | [x, y] => if i < env.length ∧ j < env.length then .nx ((env.set i (.sh x)).set j (.sh y)) else .bad
  | _ => .bad
theorem ds_par2 {i j : Nat} {x y : Str} {px py pt : Pos} {kt k2 pt2} (hc : X.calm = true) (hN : X.N.Nodup) (ha : DA X c W [a, b] fs) (hi : X.N[i]? = some x := by rfl) (hj : X.N[j]? = some y := by rfl) (hij : i ≠ j := by decide)
    (hx : X.env.scope.names.lookup x = some .local := by rfl) (hy : X.env.scope.names.lookup y = some .local := by rfl)
    (hw : swappedStores [.Tuple [.Name x px, .Name y py] kt pt] (.Tuple [a, b] k2 pt2) X.env = pure (some [x, y]) := by rfl)
    (hs : swapsWithSole [.Tuple [.Name x px, .Name y py] kt pt] (.Tuple [a, b] k2 pt2) pos.line X.env = pure false := by rfl) :
    DS X c W (.Assign [.Tuple [.Name x px, .Name y py] kt pt] (.Tuple [a, b] k2 pt2) pos) (sPar2 i j fs) := ps_imp (ps_par hc hN hi hj hij hx hy ha hw hs) fun D σ H ⟨env, O, R, p⟩ =>
  ⟨env, O, R, post_lift R p fun ds vs H1 x1 r1 R1 p1 => by
    split at p1
    · rename_i d1 d2
      by_cases hl : i < env.length ∧ j < env.length
      · rw [if_pos hl] at p1
        unfold RepsS Reps at r1
        obtain ⟨v, ws, rfl, h1, h2⟩ := r1
        unfold Reps at h2
        obtain ⟨v2, ws2, rfl, h3, h4⟩ := h2
        unfold Reps at h4
        subst h4
        exact ⟨v, v2, rfl, p1 _ H1 O ((R1.set h1 hl.1).set h3 (by rw [List.length_set]; exact hl.2)) Ext.rfl'⟩
      · rw [if_neg hl] at p1; exact p1.elim
    · exact p1.elim⟩
def sPar3 (i j l : Nat) (fs : En → Res (List D)) : En → Out := fun env => lift (fs env) env fun ds => match ds with
  | [x, y, z] => if i < env.length ∧ j < env.length ∧ l < env.length then .nx (((env.set i (.sh x)).set j (.sh y)).set l (.sh z)) else .bad
  | _ => .bad
theorem ds_par3 {i j l : Nat} {x y z : Str} {e3 : Expr} {px py pz pt : Pos} {kt k2 pt2} (hc : X.calm = true) (hN : X.N.Nodup) (ha : DA X c W [a, b, e3] fs) (hi : X.N[i]? = some x := by rfl) (hj : X.N[j]? = some y := by rfl) (hl : X.N[l]? = some z := by rfl) (hij : i ≠ j := by decide) (hil : i ≠ l := by decide) (hjl : j ≠ l := by decide)
    (hx : X.env.scope.names.lookup x = some .local := by rfl) (hy : X.env.scope.names.lookup y = some .local := by rfl) (hz : X.env.scope.names.lookup z = some .local := by rfl)
    (hw : swappedStores [.Tuple [.Name x px, .Name y py, .Name z pz] kt pt] (.Tuple [a, b, e3] k2 pt2) X.env = pure (some [x, y, z]) := by rfl)
    (hs : swapsWithSole [.Tuple [.Name x px, .Name y py, .Name z pz] kt pt] (.Tuple [a, b, e3] k2 pt2) pos.line X.env = pure false := by rfl) :
    DS X c W (.Assign [.Tuple [.Name x px, .Name y py, .Name z pz] kt pt] (.Tuple [a, b, e3] k2 pt2) pos) (sPar3 i j l fs) := ps_imp (ps_par3 hc hN hi hj hl hij hil hjl hx hy hz ha hw hs) fun D σ H ⟨env, O, R, p⟩ =>
  ⟨env, O, R, post_lift R p fun ds vs H1 x1 r1 R1 p1 => by
    split at p1
    · rename_i d1 d2 d3
      by_cases hl : i < env.length ∧ j < env.length ∧ l < env.length
      · rw [if_pos hl] at p1
        unfold RepsS Reps at r1
        obtain ⟨v, ws, rfl, h1, h2⟩ := r1
        unfold Reps at h2
        obtain ⟨v2, ws2, rfl, h3, h4⟩ := h2
        unfold Reps at h4
        obtain ⟨v3, ws3, rfl, h5, h6⟩ := h4
        unfold Reps at h6
        subst h6
        exact ⟨v, v2, v3, rfl, p1 _ H1 O (((R1.set h1 hl.1).set h3 (by rw [List.length_set]; exact hl.2.1)).set h5 (by rw [List.length_set, List.length_set]; exact hl.2.2)) Ext.rfl'⟩
      · rw [if_neg hl] at p1; exact p1.elim
    · exact p1.elim⟩
end
end Dl
namespace Dl
open PySem PySem.Spec PyProof.Rows L2

/-! ### what is not served -/
theorem de_bad {X : Cx} {c : Cc} {W : WX} {e : Expr} : DE X c W e (fun _ => .bad) := ⟨fun pins s σ H Q I ⟨_, _, _, p⟩ => p.elim⟩
theorem ds_bad {X : Cx} {c : Cc} {W : WX} {e : Stmt} : DS X c W e (fun _ => .bad) := ⟨fun pins s σ H Q I ⟨_, _, _, p⟩ => p.elim⟩

/-! ### defs -/
def spR (K : PySem.W.Frag) (cl : Cl) (F : List D → Res D) : Sp := fun vs H Q E => ∃ ds O, (∀ a ∈ O, ∃ o, H a = some o) ∧ Reps K cl (hide O H) ds vs ∧
  match F ds with
  | .ok d => ∀ v H', Ext H H' → Rep K cl (hide O H') d v → Q v H'
  | .ex e p => ∀ H', Ext H H' → Rz K ⟨cl, H, O, 0⟩ (fun k d _ h => E k d h) e p [] H'
  | .bad => False
def FnD (P : Program) (w : World) (K : PySem.W.Frag) (mg : Str → Option Value) (base : Heap) (cl : Cl) (k : Nat) (f : Addr) (F : List D → Res D) : Prop := FnR P w K mg base (L2.CX P w) k f (spR K cl F)
abbrev Wb (E : XK) : WX := fun cls d _ H => E cls d H
def startE (N : List Str) (ds : List D) : En := ds.map .sh ++ List.replicate (N.length - ds.length) .no
def outR : Out → Res D
  | .rt d => .ok d
  | .nx _ => .ok .non
  | .xx e p _ => .ex e p
  | _ => .bad
theorem start_rl {K : PySem.W.Frag} {cl : Cl} {O : List Addr} {H : Hp} {me : Addr} {N : List Str} {ds : List D} {vs : List V} (dom : ∀ a ∈ O, ∃ o, H a = some o) (r : Reps K cl (hide O H) ds vs) : Rl K ⟨cl, H, O, me⟩ O (startE N ds) (L2.start N vs) H := by
  have hl := reps_len r
  have key : ∀ (i : Nat) s, (startE N ds)[i]? = some s → s ≠ .no → ∃ d, ds[i]? = some d ∧ s = .sh d := fun i s e n => by
    unfold startE at e
    by_cases hi : i < ds.length
    · rw [List.getElem?_append_left (by rw [List.length_map]; exact hi), List.getElem?_map] at e
      cases q : ds[i]? with
      | none => rw [q] at e; cases e
      | some d => rw [q] at e; cases e; exact ⟨d, rfl, rfl⟩
    · rw [List.getElem?_append_right (by rw [List.length_map]; omega), List.getElem?_replicate] at e
      split at e
      · cases e; exact absurd rfl n
      · cases e
  refine ⟨?_, Ext.rfl', fun a h => h, dom, fun i d e => ?_, fun i o e => ?_, fun i k ns xs e => ?_, fun i j o u a e _ _ _ => ?_⟩
  · unfold startE L2.start
    rw [List.length_append, List.length_append, List.length_map, List.length_map, List.length_replicate, List.length_replicate, hl]
  · obtain ⟨d', hd, q⟩ := key i _ e (fun z => nomatch z)
    cases q
    obtain ⟨v, hv, rv⟩ := reps_get r hd
    refine ⟨v, ?_, rv⟩
    unfold L2.start
    rw [List.getElem?_append_left (by rw [List.length_map]; exact (List.getElem?_eq_some_iff.mp hv).1), List.getElem?_map, hv]
    rfl
  · obtain ⟨d', hd, q⟩ := key i _ e (fun z => nomatch z)
    cases q
  · obtain ⟨d', hd, q⟩ := key i _ e (fun z => nomatch z)
    cases q
  · obtain ⟨d', hd, q⟩ := key i _ e (fun z => nomatch z)
    cases q
theorem rz_less {K : PySem.W.Frag} {c c' : Cc} {W W' : WX} {e : Nat} {p : List D} {σ σ' : L2.St} {H : Hp} (hcl : c'.cl = c.cl) (hO : ∀ a ∈ c.O0, a ∈ c'.O0) (hW : ∀ k d H, W k d σ H → W' k d σ' H) (h : Rz K c W e p σ H) : Rz K c' W' e p σ' H := by
  unfold Rz at h ⊢
  rw [hcl]
  cases p with
  | nil => exact hW _ _ _ h
  | cons d ds => exact fun dx vs h1 h2 => hW _ _ _ (h dx vs h1 (reps_mono (hide_less hO) _ _ h2))
/-- the reading of a def's body, at its entry -/
theorem body_run {K : PySem.W.Frag} {cl : Cl} {O : List Addr} {H : Hp} {N : List Str} {ds : List D} {vs : List V} {Q : VK} {E : XK} {fb : En → Out} {t : TS} (dom : ∀ a ∈ O, ∃ o, H a = some o) (r : Reps K cl (hide O H) ds vs)
    (p : match outR (fb (startE N ds)) with
      | .ok d => ∀ v H', Ext H H' → Rep K cl (hide O H') d v → Q v H'
      | .ex e p => ∀ H', Ext H H' → Rz K ⟨cl, H, O, 0⟩ (fun k d _ h => E k d h) e p [] H'
      | .bad => False) : tS K ⟨cl, H, O, 0⟩ (Wb E) fb { nx := fun _ H' => Q .non H', rt := Q } (L2.start N vs) H := by
  refine ⟨_, O, start_rl dom r, ?_⟩
  cases q : fb (startE N ds) with
  | rt d => rw [q] at p; exact p
  | nx env => rw [q] at p; exact fun σ' H' O' R _ => p .non H' R.ext (by unfold Rep; rfl)
  | xx e l env => rw [q] at p; exact fun σ' H' O' R => rz_less rfl (fun _ h => h) (fun _ _ _ h => h) (p H' R.ext)
  | bk env => rw [q] at p; exact p.elim
  | ct env => rw [q] at p; exact p.elim
  | bad => rw [q] at p; exact p.elim
section
variable {P : Program} {w : World} {K : PySem.W.Frag} {mg : Str → Option Value} {base : Heap} {cl : Cl}
/-- the context of a def's body -/
abbrev Xb (P : Program) (w : World) (K : PySem.W.Frag) (mg : Str → Option Value) (base : Heap) (N : List Str) (qual : Str) (st : Stmt) (f : Addr) (cdv : Value) (A : Around) (outer : List PySem.Env) (s : Shared) (H : Hp) (E : XK) : Cx := cxOf (L2.CX P w) P w K mg base N qual (defScope st) f cdv A outer s H E
theorem takes_b {N : List Str} {qual : Str} {st : Stmt} {f : Addr} {cdv : Value} {A : Around} {outer : List PySem.Env} {s : Shared} {H : Hp} {E : XK} : Takes (Xb P w K mg base N qual st f cdv A outer s H E) (Wb E) := takes_of rfl rfl rfl rfl
theorem passes_b {N : List Str} {qual : Str} {st : Stmt} {f : Addr} {cdv : Value} {A : Around} {outer : List PySem.Env} {s : Shared} {H : Hp} {E : XK} : PassesOwn (model P w) (Xb P w K mg base N qual st f cdv A outer s H E).A (Xb P w K mg base N qual st f cdv A outer s H E).env (Xb P w K mg base N qual st f cdv A outer s H E).xe := passes_of rfl
/-- a def: dd the defaults that fill up -/
theorem fnD_of {x qual : Str} {st : Stmt} {f : Addr} {fd : FuncData} {N ps : List Str} {k : Nat} {fb : En → Out} {dd : List D} {dvs : List V} {dus : List Value} (F : Fun K x qual st f fd) (S : FnScope N ps (defScope st)) (hb : Binds K fd ps dus) (hd : Vals dvs dus) (hr : ∀ H, Reps K cl H dd dvs)
    (body : ∀ (cdv : Value) (A : Around) (outer : List PySem.Env) (s : Shared) (H : Hp) (E : XK) (c : Cc), c.cl = cl → Room k (A.deeper (envOfC qual (defScope st) s.heap.objs.size f cdv)) → DSs (Xb P w K mg base N qual st f cdv A outer s H E) c (Wb E) (defBody st) fb) :
    FnD P w K mg base cl (k + 1) f (fun ds => if ds.length + dd.length = ps.length then outR (fb (startE N (ds ++ dd))) else .bad) := by
  have F1 : FnOk P w K mg base (L2.CX P w) (k + 1) f fd ps (spR K cl fun ds => if ds.length = ps.length then outR (fb (startE N ds)) else .bad) := by
    refine F.okX S (fun vs H Q E h => ?_) fun cdv A outer s H vs Q E hr h => ?_
    · obtain ⟨ds, O, _, r, p⟩ := h
      dsimp only at p
      by_cases hl : ds.length = ps.length
      · rw [← hl, reps_len r]
      · rw [if_neg hl] at p; exact p.elim
    · obtain ⟨ds, O, dom, r, p⟩ := h
      dsimp only at p
      by_cases hl : ds.length = ps.length
      · rw [if_pos hl] at p
        exact ⟨_, body cdv A outer s H E ⟨cl, H, O, 0⟩ rfl hr, body_run (t := tNext) dom r p⟩
      · rw [if_neg hl] at p; exact p.elim
  refine FnR.imp (F1.raw hb hd) fun vs H Q E ⟨ds, O, dom, r, p⟩ => ⟨ds ++ dd, O, dom, reps_app r (hr _), by
    dsimp only at p ⊢
    rw [List.length_append]
    exact p⟩
theorem FnD.mono {j k : Nat} {f : Addr} {F : List D → Res D} (h : FnD P w K mg base cl j f F) (l : j ≤ k) : FnD P w K mg base cl k f F := FnR.mono h l
theorem FnD.alt {k : Nat} {f : Addr} {F F' : List D → Res D} (h : FnD P w K mg base cl k f F) (h' : FnD P w K mg base cl k f F') : FnD P w K mg base cl k f (fAlt F F') := fun A outer s H us vs Q E hr e0 r ⟨ds, O, dom, rr, p⟩ => by
  unfold fAlt at p
  cases q : F ds with
  | ok d => rw [q] at p; exact h A outer s H us vs Q E hr e0 r ⟨ds, O, dom, rr, by rw [q]; exact p⟩
  | ex e l => rw [q] at p; exact h A outer s H us vs Q E hr e0 r ⟨ds, O, dom, rr, by rw [q]; exact p⟩
  | bad => rw [q] at p; exact h' A outer s H us vs Q E hr e0 r ⟨ds, O, dom, rr, p⟩
/-- the same promise by another name -/
theorem FnD.eq {k : Nat} {f : Addr} {F F' : List D → Res D} (h : FnD P w K mg base cl k f F) (e : ∀ ds, F' ds ≠ .bad → F ds = F' ds) : FnD P w K mg base cl k f F' := FnR.imp h fun vs H Q E ⟨ds, O, dom, r, p⟩ => ⟨ds, O, dom, r, by
  have n : F' ds ≠ .bad := fun z => by rw [z] at p; exact p
  rw [e ds n]
  exact p⟩
end

/-! ### calls by trees -/
def CaD (X : Cx) (c : Cc) (W : WX) (f : Value) (F : List D → Res D) : Prop :=
  ∀ (pins : List (Addr × Obj)) (s : Shared) (σ : L2.St) (H : Hp) (O : List Addr) (env : En) (ds : List D) (vs : List V) (us : List Value) (Q : VK), L2.Inv X pins σ H s → Rl X.K c O env σ H → Vals vs us → Reps X.K c.cl (hide O H) ds vs →
    Post X.K c W σ H (RepS X.K c O) (F ds) Q → wpAny (model X.prog X.w) X.A (call f us) (EP X pins σ Q) X.xe s
section
variable {X : Cx} {c : Cc} {W : WX} {a b e t o : Expr} {es : List Expr} {fa fb fe fo : En → Res D} {fs : En → Res (List D)} {ft : En → Res Bool} {pos p apos : Pos} {k : Nat} {f : Addr} {F : List D → Res D} {x m : Str}
/-- what the callee is told -/
theorem spR_of {O : List Addr} {env : En} {σ : L2.St} {H : Hp} {ds : List D} {vs : List V} {Q : VK} (R : Rl X.K c O env σ H) (r : Reps X.K c.cl (hide O H) ds vs) (p : Post X.K c W σ H (RepS X.K c O) (F ds) Q) : spR X.K c.cl F vs H Q (WE W σ) := by
  refine ⟨ds, O, R.dom, r, ?_⟩
  cases q : F ds with
  | ok d => rw [q] at p; exact p
  | ex e l => rw [q] at p; exact fun H' x => rz_less (c := c) rfl R.sub (fun _ _ _ h => h) (p H' x)
  | bad => rw [q] at p; exact p
theorem fnR_run {pins : List (Addr × Obj)} {s : Shared} {σ : L2.St} {H : Hp} {Q : VK} {us : List Value} {vs : List V} {sp : Sp} (Fn : FnR X.prog X.w X.K X.mg X.base (L2.CX X.prog X.w) k f sp) (hr : Room k X.A) (tk : Takes X W) (I : L2.Inv X pins σ H s) (rv : Vals vs us) (h : sp vs H Q (WE W σ)) :
    wpAny (model X.prog X.w) X.A (call (.ref f) us) (EP X pins σ Q) X.xe s := by
  refine wpAny_call (codeAny_mono (Fn X.A X.stack s H us vs Q (WE W σ) hr I.env0 rv h) fun r s' hq => ?_)
  cases r with
  | error e => exact passAt tk σ pins H s e s' I hq
  | ok fl =>
    cases fl with
    | ret u => exact I.after hq
    | next => exact False.elim hq
    | brk => exact False.elim hq
    | cont => exact False.elim hq
theorem caD_of (Fn : FnD X.prog X.w X.K X.mg X.base c.cl k f F) (hr : Room k X.A) (tk : Takes X W) : CaD X c W (.ref f) F :=
  fun pins s σ H O env ds vs us Q I R rv r p => fnR_run Fn hr tk I rv (spR_of R r p)
/-- f(..), f a def or a class of the module -/
theorem de_call (hc : CaD X c W (.ref f) F) (hk : PySem.W.keepIn X.K (.ref f) = true) (hm : X.mg x = some (.ref f)) (ha : DA X c W (e :: es) fs) (hg : Gl X x := by rfl) (hdb : (x == ("__debug__" : Str)) = false := by decide)
    (he : starEach (e :: es) X.env = (false, eval e X.env) :: starEach es X.env := by rfl) (hpl : (backTo pos (starEach es X.env)).any (·.1) = false := by rfl) : DE X c W (.Call (.Name x p) (e :: es) [] pos) (eCall F fs) := by
  refine ⟨fun pins s σ H Q I ⟨env, O, R, h⟩ => ?_⟩
  refine wpAny_Call_Name_kw (ld_glob I hg hm ?_ hdb)
  refine PySem.W.callWith_K (h₀ := X.base) I.ok.mod.kin hk (thn (ha.run pos pins s σ H (fun vs H1 => ∃ ds, Rl X.K c O env σ H1 ∧ RepsS X.K c O H1 ds vs ∧ Post X.K c W σ H1 (RepS X.K c O) (F ds) Q) I ⟨env, O, R, post_bind h fun ds vs H1 x1 r1 p1 => ⟨ds, R.mono x1, r1, p1⟩⟩) fun us s1 ⟨vs, H1, I1, r1, ds, R1, p1, q1⟩ => ⟨I1.kIn, hc pins s1 σ H1 O env ds vs us Q I1 R1 r1 p1 q1⟩) he hpl
def eCall0 (F : List D → Res D) : En → Res D := fun _ => F []
theorem de_call0 (hc : CaD X c W (.ref f) F) (hk : PySem.W.keepIn X.K (.ref f) = true) (hm : X.mg x = some (.ref f)) (hg : Gl X x := by rfl) (hdb : (x == ("__debug__" : Str)) = false := by decide) : DE X c W (.Call (.Name x p) [] [] pos) (eCall0 F) := by
  refine ⟨fun pins s σ H Q I ⟨env, O, R, h⟩ => ?_⟩
  refine wpAny_Call_Name_kw (ld_glob I hg hm ?_ hdb)
  exact PySem.W.callWith_K0 I.kIn hk (hc pins s σ H O env [] [] [] Q I R .nil reps_nil h)

/-! ### own classes -/
/-- what of the text a class must have: read, called -/
def gFld (k : Nat) (f : Str) : D → Res D
  | .ins k' ns xs => if k' = k then (match (ns.zip xs).lookup f with
    | some d => .ok d
    | none => .bad) else .bad
  | _ => .bad
theorem zip_look {K : PySem.W.Frag} {cl : Cl} {H : Hp} {f : Str} {d : D} : ∀ {ns : List Str} {xs : List D} {vs : List V}, Reps K cl H xs vs → (ns.zip xs).lookup f = some d → ∃ v, (ns.zip vs).lookup f = some v ∧ Rep K cl H d v
  | [], _, _, _, h => by simp at h
  | n :: ns, [], _, _, h => by simp at h
  | n :: ns, x :: xs, _, r, h => by
    unfold Reps at r
    obtain ⟨v, ws, rfl, h1, h2⟩ := r
    rw [List.zip_cons_cons, List.lookup_cons] at h
    rw [List.zip_cons_cons, List.lookup_cons]
    cases q : f == n with
    | true => rw [q] at h; cases h; exact ⟨v, rfl, h1⟩
    | false => rw [q] at h; exact zip_look h2 h
theorem zip_none {α : Type} {f : Str} : ∀ {ns : List Str} {vs : List α}, f ∉ ns → (ns.zip vs).lookup f = none
  | [], _, _ => by simp
  | n :: ns, [], _ => by simp
  | n :: ns, v :: vs, h => by
    rw [List.zip_cons_cons, List.lookup_cons]
    have hn : (f == n) = false := beq_eq_false_iff_ne.mpr fun z => h (by rw [z]; exact List.mem_cons_self)
    rw [hn]
    exact zip_none fun z => h (List.mem_cons_of_mem _ z)
def eAt (g : D → Res D) (fe : En → Res D) : En → Res D := fun env => (fe env).bind g
theorem de_fld {k : Nat} {f : Str} (h : DW X c W e fe) (C : Cls X.K (c.cl.at_ k)) (n : NoAttr X.K (c.cl.at_ k) f) (hb : attributeBase e f X.env (eval e X.env) = eval e X.env := by rfl) : DE X c W (.Attribute e f pos) (eAt (gFld k f) fe) :=
  pe_imp (pe_fld h hb) fun σ H Q ⟨env, O, R, p⟩ => ⟨env, O, R, post_bind p fun d v H1 x1 r1 p1 => by
    cases d with
    | ins k' ns xs =>
      have p1 : Post X.K c W σ H1 (RepS X.K c O) (if k' = k then (match (ns.zip xs).lookup f with | some d => Res.ok d | none => Res.bad) else .bad) Q := p1
      by_cases hk : k' = k
      · subst hk
        rw [if_pos rfl] at p1
        obtain ⟨a, dx, vs, rfl, h1, h2, h3⟩ := RepW.ins r1
        cases q : (ns.zip xs).lookup f with
        | none => rw [q] at p1; exact p1.elim
        | some d =>
          rw [q] at p1
          obtain ⟨v, h4, h5⟩ := zip_look h3 q
          exact ⟨a, _, dx, _, v, rfl, h1, C, n, h4, post_now p1 h5⟩
      · rw [if_neg hk] at p1; exact p1.elim
    | _ => exact p1.elim⟩
/-- a property -/
def gProp (k : Nat) (F : List D → Res D) : D → Res D
  | .ins k' ns xs => if k' = k then noex (F [.ins k' ns xs]) else .bad
  | _ => .bad
theorem FnD.fd {P : Program} {w : World} {K : PySem.W.Frag} {mg : Str → Option Value} {base : Heap} {cl : Cl} {k : Nat} {f : Addr} {F : List D → Res D} (h : FnD P w K mg base cl k f F) : FnR P w K mg base (L2.CX P w) k f (spR K cl F) := h
theorem de_prop {kc : Nat} {m : Str} {q g : Addr} (h : DE X c W e fe) (C : Cls X.K (c.cl.at_ kc)) (hp : PropOf X.K (c.cl.at_ kc) m q g) (Fn : FnD X.prog X.w X.K X.mg X.base c.cl k g F) (hr : Room (k + 1) X.A) (hb : attributeBase e m X.env (eval e X.env) = eval e X.env := by rfl) : DE X c W (.Attribute e m pos) (eAt (gProp kc F) fe) := by
  refine ⟨fun pins s σ H Q I ⟨env, O, R, p⟩ => ?_⟩
  refine attr_of hb (thn (h.run pins s σ H (fun v H1 => ∃ d, Rl X.K c O env σ H1 ∧ RepS X.K c O H1 d v ∧ Post X.K c W σ H1 (RepS X.K c O) (gProp kc F d) Q) I ⟨env, O, R, post_bind p fun d v H1 x1 r1 p1 => ⟨d, R.mono x1, r1, p1⟩⟩) fun u s1 ⟨v, H1, I1, ru, d, R1, r1, p1⟩ => ?_)
  cases d with
  | ins k' ns xs =>
    have p1 : Post X.K c W σ H1 (RepS X.K c O) (if k' = kc then noex (F [.ins k' ns xs]) else .bad) Q := p1
    by_cases hk : k' = kc
    · subst hk
      rw [if_pos rfl] at p1
      obtain ⟨a, dx, vs, rfl, h1, h2, h3⟩ := RepW.ins (.inl r1)
      obtain rfl : u = Value.ref a := ru
      obtain ⟨mA, Ob, _, _, _, _⟩ := ins_get I1.hok h1
      obtain ⟨od, J, _⟩ := Ob.look
      obtain ⟨rest, hrec⟩ := hp.rec_
      have I2 := I1.tok (s1.toks + 1)
      have hc : (PySem.W.clsIn X.K (c.cl.at_ k')).isSome = true := by
        obtain ⟨cd, hc, _⟩ := PySem.W.any_some C.hd
        rw [hc] <;> rfl
      refine PySem.W.get_bind I1.kIn J (PySem.W.plainGet_of (C.get m)).1 (PySem.W.findObj_data hc hp.at_ hp.get hp.tak) (PySem.W.plainGet_of (C.get m)).2 (wpAny_call (PySem.W.prop_get (s := { s1 with toks := s1.toks + 1 }) I1.kIn hrec ?_))
      have hsp : spR X.K c.cl F [.ref a] H1 Q (fun _ _ _ => False) := by
        refine ⟨[.ins k' ns xs], O, R1.dom, reps_cons r1 reps_nil, ?_⟩
        cases z : F [.ins k' ns xs] with
        | ok d => rw [z] at p1; exact p1
        | ex _ _ => rw [z] at p1; exact p1.elim
        | bad => rw [z] at p1; exact p1.elim
      refine codeAny_mono (Fn X.A.in1 X.stack { s1 with toks := s1.toks + 1 } H1 [.ref a] [.ref a] Q (fun _ _ _ => False) hr.in1 I2.env0.in1 (.cons rfl .nil) hsp) fun r s' hq => ?_
      cases r with
      | error er =>
        obtain ⟨_, _, _, _, _, _, _, _, _, _, _, _, z⟩ := hq
        exact z.elim
      | ok fl =>
        cases fl with
        | ret u =>
          obtain ⟨v, H', I3, rv, q3⟩ := I2.after hq
          show wpAny _ _ (handedOut u) _ _ _
          rw [PySem.W.handedOut_of (handed_of rv)]
          exact wpAny_pure ⟨v, H', I3, rv, q3⟩
        | next => exact False.elim hq
        | brk => exact False.elim hq
        | cont => exact False.elim hq
    · rw [if_neg hk] at p1; exact p1.elim
  | _ => exact p1.elim
/-- o.m(..) -/
def eMeth (k : Nat) (m : Str) (F : List D → Res D) (fo : En → Res D) (fs : En → Res (List D)) : En → Res D := fun env => (fo env).bind fun d => match d with
  | .ins k' ns xs => if k' = k ∧ m ∉ ns then (fs env).bind fun ds => F (.ins k' ns xs :: ds) else .bad
  | _ => .bad
theorem de_meth {kc : Nat} {pl : Sem Bool} (h : DE X c W o fo) (C : Cls X.K (c.cl.at_ kc)) (hm : Meth X.K (c.cl.at_ kc) m f) (hc : CaD X c W (.ref f) F) (ha : DA X c W (e :: es) fs)
    (hst : starEach (e :: es) X.env = (false, eval e X.env) :: starEach es X.env := by rfl) (hpl : (backTo pos (starEach es X.env)).any (·.1) = false := by rfl)
    (ht : eval (.Call (.Attribute o m apos) (e :: es) [] pos) X.env = (do
      let ov ← eval o X.env
      standAt apos.atName
      let (f, first) ← holding [ov] (getMethod ov m pl)
      callWith pos f first (backTo pos (starEach (e :: es) X.env)) (backToKw pos (keywordEach [] X.env))) := by rfl) :
    DE X c W (.Call (.Attribute o m apos) (e :: es) [] pos) (eMeth kc m F fo fs) := by
  refine ⟨fun pins s σ H Q I ⟨env, O, R, p⟩ => ?_⟩
  refine PySem.W.methodCall_KW (pl := pl) (thn (h.run pins s σ H (fun v H1 => ∃ k' ns xs, k' = kc ∧ m ∉ ns ∧ Rl X.K c O env σ H1 ∧ RepS X.K c O H1 (.ins k' ns xs) v ∧ Post X.K c W σ H1 (RepS X.K c O) ((fs env).bind fun ds => F (.ins k' ns xs :: ds)) Q) I ⟨env, O, R, post_bind p fun d v H1 x1 r1 p1 => ?_⟩) fun u s1 ⟨v, H1, I1, ru, k', ns, xs, e1, e2, R1, r1, p1⟩ => ?_) ht
  · cases d with
    | ins k' ns xs =>
      have p1 : Post X.K c W σ H1 (RepS X.K c O) (if k' = kc ∧ m ∉ ns then (fs env).bind fun ds => F (.ins k' ns xs :: ds) else .bad) Q := p1
      by_cases hk : k' = kc ∧ m ∉ ns
      · rw [if_pos hk] at p1; exact ⟨k', ns, xs, hk.1, hk.2, R.mono x1, r1, p1⟩
      · rw [if_neg hk] at p1; exact p1.elim
    | _ => exact p1.elim
  · subst e1
    obtain ⟨a, dx, vs, rfl, h1, h2, h3⟩ := RepW.ins (.inl r1)
    obtain rfl : u = Value.ref a := ru
    refine getmeth_ok I1 h1 C hm (zip_none e2) ?_
    refine PySem.W.callWith_K (first := [.ref a]) (h₀ := X.base) I.ok.mod.kin hm.kp (thn (ha.run pos pins s1 σ H1 (fun vs H2 => ∃ ds, Rl X.K c O env σ H2 ∧ RepsS X.K c O H2 (.ins k' ns xs :: ds) (.ref a :: vs) ∧ Post X.K c W σ H2 (RepS X.K c O) (F (.ins k' ns xs :: ds)) Q) I1 ⟨env, O, R1, post_bind p1 fun ds vs H2 x2 r2 p2 => ⟨ds, R1.mono x2, reps_cons (rep_mono (hide_ext x2) _ _ r1) r2, p2⟩⟩) fun us s2 ⟨vs, H2, I2, rv, ds, R2, r2, q2⟩ => ⟨I2.kIn, hc pins s2 σ H2 O env _ (.ref a :: vs) (.ref a :: us) Q I2 R2 (.cons rfl rv) r2 q2⟩) hst hpl
theorem de_meth0 {kc : Nat} {pl : Sem Bool} (h : DE X c W o fo) (C : Cls X.K (c.cl.at_ kc)) (hm : Meth X.K (c.cl.at_ kc) m f) (hc : CaD X c W (.ref f) F)
    (ht : eval (.Call (.Attribute o m apos) [] [] pos) X.env = (do
      let ov ← eval o X.env
      standAt apos.atName
      let (f, first) ← holding [ov] (getMethod ov m pl)
      callWith pos f first (backTo pos (starEach [] X.env)) (backToKw pos (keywordEach [] X.env))) := by rfl) :
    DE X c W (.Call (.Attribute o m apos) [] [] pos) (eMeth kc m F fo aNil) := by
  refine ⟨fun pins s σ H Q I ⟨env, O, R, p⟩ => ?_⟩
  refine PySem.W.methodCall_KW (pl := pl) (thn (h.run pins s σ H (fun v H1 => ∃ k' ns xs, k' = kc ∧ m ∉ ns ∧ Rl X.K c O env σ H1 ∧ RepS X.K c O H1 (.ins k' ns xs) v ∧ Post X.K c W σ H1 (RepS X.K c O) (F [.ins k' ns xs]) Q) I ⟨env, O, R, post_bind p fun d v H1 x1 r1 p1 => ?_⟩) fun u s1 ⟨v, H1, I1, ru, k', ns, xs, e1, e2, R1, r1, p1⟩ => ?_) ht
  · cases d with
    | ins k' ns xs =>
      have p1 : Post X.K c W σ H1 (RepS X.K c O) (if k' = kc ∧ m ∉ ns then (aNil env).bind fun ds => F (.ins k' ns xs :: ds) else .bad) Q := p1
      by_cases hk : k' = kc ∧ m ∉ ns
      · rw [if_pos hk] at p1; exact ⟨k', ns, xs, hk.1, hk.2, R.mono x1, r1, p1⟩
      · rw [if_neg hk] at p1; exact p1.elim
    | _ => exact p1.elim
  · subst e1
    obtain ⟨a, dx, vs, rfl, h1, h2, h3⟩ := RepW.ins (.inl r1)
    obtain rfl : u = Value.ref a := ru
    refine getmeth_ok I1 h1 C hm (zip_none e2) ?_
    exact PySem.W.callWith_K0 (first := [.ref a]) I1.kIn hm.kp (hc pins s1 σ H1 O env _ [.ref a] [.ref a] Q I1 R1 (.cons rfl .nil) (reps_cons r1 reps_nil) p1)
end
end Dl
namespace Dl
open PySem PySem.Spec PyProof.Rows L2

theorem back_of {v : V} {u : Value} {s' : Shared} {Q : Value → Shared → Prop} (r : RelV v u) (q : Q u s') : PySem.W.CmpBack Q u s' := by
  cases v with
  | non => cases r; exact q
  | bl b => cases r; exact q
  | int i => obtain ⟨t, rfl⟩ := r; exact q
  | str i => obtain ⟨t, rfl⟩ := r; exact q
  | byt i => obtain ⟨t, rfl⟩ := r; exact q
  | flt i => obtain ⟨t, rfl⟩ := r; exact q
  | ref a => cases r; exact q
  | ty n => cases r; exact q
section
variable {X : Cx} {c : Cc} {W : WX} {F : List D → Res D} {f : Addr} {kc : Nat}
/-- operators of two instances of one class: the own def -/
def gOwn (k : Nat) (F : List D → Res D) : D → D → Res D
  | .ins k1 ns xs, .ins k2 ms ys => if k1 = k ∧ k2 = k then F [.ins k1 ns xs, .ins k2 ms ys] else .bad
  | _, _ => .bad
/-- strong operands -/
def OpS (X : Cx) (c : Cc) (W : WX) (f : Value → Value → Sem Value) (g : D → D → Res D) : Prop :=
  ∀ (pins : List (Addr × Obj)) (s : Shared) (σ : L2.St) (H : Hp) (O : List Addr) (env : En) (x y : D) (v u : Value) (vx vy : V) (Q : VK), L2.Inv X pins σ H s → Rl X.K c O env σ H → RelV vx v → RelV vy u → RepS X.K c O H x vx → RepS X.K c O H y vy →
    Post X.K c W σ H (RepS X.K c O) (g x y) Q → wpAny (model X.prog X.w) X.A (f v u) (EP X pins σ Q) X.xe s
theorem OpW.s {f : Value → Value → Sem Value} {g : D → D → Res D} (h : OpW X c W f g) : OpS X c W f g := fun pins s σ H O env x y v u vx vy Q I R rx ry px py p => h pins s σ H O env x y v u vx vy Q I R rx ry (.inl px) (.inl py) p
theorem OpS.alt {f : Value → Value → Sem Value} {g g' : D → D → Res D} (h : OpS X c W f g) (h' : OpS X c W f g') : OpS X c W f (gAlt g g') :=
  fun pins s σ H O env x y v u vx vy Q I R rx ry px py p => by
    unfold gAlt at p
    cases q : g x y with
    | ok d => rw [q] at p; exact h pins s σ H O env x y v u vx vy Q I R rx ry px py (by rw [q]; exact p)
    | ex e l => rw [q] at p; exact h pins s σ H O env x y v u vx vy Q I R rx ry px py (by rw [q]; exact p)
    | bad => rw [q] at p; exact h' pins s σ H O env x y v u vx vy Q I R rx ry px py p
theorem binS {a b : Expr} {fa fb : En → Res D} {g : D → D → Res D} {f : Value → Value → Sem Value} (ho : OpS X c W f g) (ha : DE X c W a fa) (hb : DE X c W b fb) {pins : List (Addr × Obj)} {s : Shared} {σ : L2.St} {H : Hp} {Q : VK} (I : L2.Inv X pins σ H s) (h : tE X.K c W (eBin g fa fb) σ H Q) :
    wpAny (model X.prog X.w) X.A (eval a X.env) (fun v s₁ => wpAny (model X.prog X.w) X.A (eval b X.env) (fun u s₂ => wpAny (model X.prog X.w) X.A (f v u) (EP X pins σ Q) X.xe s₂) X.xe s₁) X.xe s := by
  obtain ⟨env, O, R, p⟩ := h
  refine bin (R := fun vx vy H2 => ∃ x y, Rl X.K c O env σ H2 ∧ RepS X.K c O H2 x vx ∧ RepS X.K c O H2 y vy ∧ Post X.K c W σ H2 (RepS X.K c O) (g x y) Q) ha hb I ?_ fun v u s2 vx vy H2 I2 rx ry ⟨x, y, R2, px, py, q⟩ => ho pins s2 σ H2 O env x y v u vx vy Q I2 R2 rx ry px py q
  exact ⟨env, O, R, post_bind p fun x vx H1 x1 r1 p1 => ⟨env, O, R.mono x1, post_bind p1 fun y vy H2 x2 r2 p2 => ⟨x, y, (R.mono x1).mono x2, r1.mono x2, r2, p2⟩⟩⟩
theorem de_binS {a b : Expr} {fa fb : En → Res D} {pos : Pos} {op : Operator} {g : D → D → Res D} (ho : OpS X c W (binaryOp op) g) (ha : DE X c W a fa) (hb : DE X c W b fb) : DE X c W (.BinOp a op b pos) (eBin g fa fb) :=
  ⟨fun pins s σ H Q I h => wpAny_BinOp (binS ho ha hb I h)⟩
theorem dc_ofS {a b : Expr} {fa fb : En → Res D} {op : CmpOp} {g : D → D → Res D} (ho : OpS X c W (compareOp op) g) (ha : DE X c W a fa) (hb : DE X c W b fb) : PC X op a b (tE X.K c W (eBin g fa fb)) :=
  ⟨fun pins s σ H Q I h => binS ho ha hb I h⟩
theorem de_cmpS {a b : Expr} {fa fb : En → Res D} {pos : Pos} {op : CmpOp} {g : D → D → Res D} (ho : OpS X c W (compareOp op) g) (ha : DE X c W a fa) (hb : DE X c W b fb) (hm : behindInMarks op b = false := by first | exact nobehind _ (by decide) (by decide) | rfl) : DE X c W (.Compare a [op] [b] pos) (eBin g fa fb) :=
  pe_cmp (dc_ofS ho ha hb) hm
theorem dt_cmpS {a b : Expr} {fa fb : En → Res D} {pos : Pos} {op : CmpOp} {g : D → D → Res D} (ho : OpS X c W (compareOp op) g) (ha : DE X c W a fa) (hb : DE X c W b fb) (hm : behindInMarks op b = false := by first | exact nobehind _ (by decide) (by decide) | rfl) : DT X c W (.Compare a [op] [b] pos) (eB (eBin g fa fb)) :=
  pt_imp (pt_cmp (dc_ofS ho ha hb) hm) fun σ H Q ⟨env, O, R, p⟩ => ⟨env, O, R, post_bind p fun d v H1 x1 r1 p1 => by
    cases d with
    | bl k => exact ⟨k, RepW.bl (.inl r1), post_now p1 rfl⟩
    | _ => exact p1.elim⟩
/-- an instance that stands, for the library's rules -/
theorem ins_inst {pins : List (Addr × Obj)} {s : Shared} {σ : L2.St} {H : Hp} {a C dx : Addr} {fs : List (Str × V)} (I : L2.Inv X pins σ H s) (h : H a = some (.ins C dx fs)) : ∃ od, PySem.W.InstAt s.heap a (PySem.W.instObj C dx) C (some od) := by
  obtain ⟨mA, Ob, _, _, _, _⟩ := ins_get I.hok h
  obtain ⟨od, J, _⟩ := Ob.look
  exact ⟨od, J⟩
theorem os_own {op : Operator} (hc : CaD X c W (.ref f) F) (hs : PySem.W.selfFirst X.K (c.cl.at_ kc) = true) (hf : PySem.W.findIn X.K (.ref (c.cl.at_ kc)) (PySem.dunder op.info.2) = some (some (.ref f))) (hi : PySem.W.isFn X.K (.ref f) = true) : OpS X c W (binaryOp op) (gOwn kc F) :=
  fun pins s σ H O env x y v u vx vy Q I R rx ry px py p => by
    cases x with
    | ins k1 ns xs =>
      cases y with
      | ins k2 ms ys =>
        have q0 : Post X.K c W σ H (RepS X.K c O) (if k1 = kc ∧ k2 = kc then F [.ins k1 ns xs, .ins k2 ms ys] else .bad) Q := p
        by_cases hk : k1 = kc ∧ k2 = kc
        · rw [if_pos hk] at q0
          obtain ⟨e1, e2⟩ := hk
          subst e1
          subst e2
          obtain ⟨a, dx, vs, rfl, h1, _, _⟩ := RepW.ins (.inl px)
          obtain ⟨b, dy, ws, rfl, h2, _, _⟩ := RepW.ins (.inl py)
          obtain rfl : v = Value.ref a := rx
          obtain rfl : u = Value.ref b := ry
          obtain ⟨od, J⟩ := ins_inst I h1
          obtain ⟨od', J'⟩ := ins_inst I h2
          obtain ⟨m, hF⟩ := I.fr
          exact PySem.W.binop_K hF I.ok.mod.kin J J'.type hs hf hi (thn (hc pins s σ H O env _ [.ref a, .ref b] [.ref a, .ref b] Q I R (.cons rfl (.cons rfl .nil)) (reps_cons px (reps_cons py reps_nil)) q0) fun u s' ⟨z, H', I', rz, qz⟩ => back_of rz ⟨z, H', I', rz, qz⟩)
        · rw [if_neg hk] at q0; exact q0.elim
      | _ => exact p.elim
    | _ => exact p.elim
theorem os_cmp {op : CmpOp} (hop : compareOp op = richCompare op) (hc : CaD X c W (.ref f) F) (hu : X.A.units < cLine) (hf : PySem.W.findIn X.K (.ref (c.cl.at_ kc)) (cmpInfo op).2.1 = some (some (.ref f))) (hi : PySem.W.isFn X.K (.ref f) = true) : OpS X c W (compareOp op) (gOwn kc F) :=
  fun pins s σ H O env x y v u vx vy Q I R rx ry px py p => by
    cases x with
    | ins k1 ns xs =>
      cases y with
      | ins k2 ms ys =>
        have q0 : Post X.K c W σ H (RepS X.K c O) (if k1 = kc ∧ k2 = kc then F [.ins k1 ns xs, .ins k2 ms ys] else .bad) Q := p
        by_cases hk : k1 = kc ∧ k2 = kc
        · rw [if_pos hk] at q0
          obtain ⟨e1, e2⟩ := hk
          subst e1
          subst e2
          obtain ⟨a, dx, vs, rfl, h1, _, _⟩ := RepW.ins (.inl px)
          obtain ⟨b, dy, ws, rfl, h2, _, _⟩ := RepW.ins (.inl py)
          obtain rfl : v = Value.ref a := rx
          obtain rfl : u = Value.ref b := ry
          obtain ⟨od, J⟩ := ins_inst I h1
          obtain ⟨od', J'⟩ := ins_inst I h2
          obtain ⟨m, hF⟩ := I.fr
          rw [hop]
          exact PySem.W.cmp_K (tb := .ref (c.cl.at_ k2)) hu hF I.ok.mod.kin J J'.type (by simp [PySem.W.notFirst]) hf hi (thn (hc pins s σ H O env _ [.ref a, .ref b] [.ref a, .ref b] Q I R (.cons rfl (.cons rfl .nil)) (reps_cons px (reps_cons py reps_nil)) q0) fun u s' ⟨z, H', I', rz, qz⟩ => back_of rz ⟨z, H', I', rz, qz⟩)
        · rw [if_neg hk] at q0; exact q0.elim
      | _ => exact p.elim
    | _ => exact p.elim
/-- x in o, o an instance with an own __contains__ -/
def gInOwn (k : Nat) (neg : Bool) (F : List D → Res D) : D → D → Res D
  | x, .ins k2 ms ys => if k2 = k then (bOf (F [.ins k2 ms ys, x])).bind fun b => .ok (.bl (if neg then !b else b)) else .bad
  | _, _ => .bad
theorem bOf_bl {r : Res D} {b : Bool} (h : bOf r = .ok b) : r = .ok (.bl b) := by
  unfold bOf at h
  cases r with
  | ok d => cases d <;> first | (cases h; rfl) | cases h
  | ex _ _ => cases h
  | bad => cases h
theorem bOf_post {σ : L2.St} {H : Hp} {O : List Addr} {r : Res D} {Q : VK} {g : Bool → Bool} (p : Post X.K c W σ H (RepS X.K c O) ((bOf r).bind fun b => .ok (.bl (g b))) Q) : Post X.K c W σ H (RepS X.K c O) r fun v H' => ∃ b, v = .bl b ∧ Q (.bl (g b)) H' := by
  cases r with
  | ok d =>
    cases d with
    | bl b => exact fun v H' x r => ⟨b, RepW.bl (.inl r), p _ H' x repS_bl⟩
    | _ => exact p.elim
  | ex _ _ => exact p
  | bad => exact p
theorem os_in (hc : CaD X c W (.ref f) F) (hf : PySem.W.findIn X.K (.ref (c.cl.at_ kc)) "__contains__" = some (some (.ref f))) (hi : PySem.W.isFn X.K (.ref f) = true) : OpS X c W (compareOp .In) (gInOwn kc false F) :=
  fun pins s σ H O env x y v u vx vy Q I R rx ry px py p => by
    cases y with
    | ins k2 ms ys =>
      have q0 : Post X.K c W σ H (RepS X.K c O) (if k2 = kc then (bOf (F [.ins k2 ms ys, x])).bind fun b => .ok (.bl (if false then !b else b)) else .bad) Q := by cases x <;> exact p
      by_cases hk : k2 = kc
      · rw [if_pos hk] at q0
        subst hk
        obtain ⟨b, dy, ws, rfl, h2, _, _⟩ := RepW.ins (.inl py)
        obtain rfl : u = Value.ref b := ry
        obtain ⟨od', J'⟩ := ins_inst I h2
        obtain ⟨m, hF⟩ := I.fr
        refine PySem.W.in_K hF I.ok.mod.kin J' hf hi (thn (hc pins s σ H O env _ [.ref b, vx] [.ref b, v] _ I R (.cons rfl (.cons rx .nil)) (reps_cons py (reps_cons px reps_nil)) (bOf_post (g := fun b => b) q0)) fun u s' ⟨z, H', I', rz, k, ez, qz⟩ => ?_)
        subst ez
        cases rz
        exact wpAny_truthy_bool ⟨.bl k, H', I', rfl, qz⟩
      · rw [if_neg hk] at q0; exact q0.elim
    | _ => cases x <;> exact p.elim
theorem os_notIn (hc : CaD X c W (.ref f) F) (hf : PySem.W.findIn X.K (.ref (c.cl.at_ kc)) "__contains__" = some (some (.ref f))) (hi : PySem.W.isFn X.K (.ref f) = true) : OpS X c W (compareOp .NotIn) (gInOwn kc true F) :=
  fun pins s σ H O env x y v u vx vy Q I R rx ry px py p => by
    cases y with
    | ins k2 ms ys =>
      have q0 : Post X.K c W σ H (RepS X.K c O) (if k2 = kc then (bOf (F [.ins k2 ms ys, x])).bind fun b => .ok (.bl (!b)) else .bad) Q := by cases x <;> exact p
      by_cases hk : k2 = kc
      · rw [if_pos hk] at q0
        subst hk
        obtain ⟨b, dy, ws, rfl, h2, _, _⟩ := RepW.ins (.inl py)
        obtain rfl : u = Value.ref b := ry
        obtain ⟨od', J'⟩ := ins_inst I h2
        obtain ⟨m, hF⟩ := I.fr
        refine PySem.W.notIn_K hF I.ok.mod.kin J' hf hi (thn (hc pins s σ H O env _ [.ref b, vx] [.ref b, v] _ I R (.cons rfl (.cons rx .nil)) (reps_cons py (reps_cons px reps_nil)) (bOf_post (g := fun b => !b) q0)) fun u s' ⟨z, H', I', rz, k, ez, qz⟩ => ?_)
        subst ez
        cases rz
        exact wpAny_truthy_bool ⟨.bl (!k), H', I', rfl, qz⟩
      · rw [if_neg hk] at q0; exact q0.elim
    | _ => cases x <;> exact p.elim

/-! ### != by an own == -/
/-- != of two instances where only == is the text's own -/
def gNe (k : Nat) (F : List D → Res D) : D → D → Res D
  | .ins k1 ns xs, .ins k2 ms ys => if k1 = k ∧ k2 = k then (bOf (F [.ins k1 ns xs, .ins k2 ms ys])).bind fun b => .ok (.bl (!b)) else .bad
  | _, _ => .bad
end
end Dl
namespace Dl
open PySem PySem.Spec PyProof.Rows L2

section
variable {prog : Program} {w : World} {A : Around} {E : Value → Shared → Prop} {s : Shared} {K : PySem.W.Frag} {x y C f : Addr} {ox : Obj} {od : Option Obj}
/-- object.__ne__ by an own == -/
theorem objNe_K {Q : Fin → Shared → Prop} (X : K.In s.heap) (I : PySem.W.InstAt s.heap x ox C od) (hs : PySem.W.findIn K (.ref C) "__eq__" = some (some (.ref f))) (hf : PySem.W.isFn K (.ref f) = true) (hu : A.units < cLine)
    (hcall : wpAny (model prog w) A (call (.ref f) [.ref x, .ref y]) (fun v s' => ∃ b, v = .bool b ∧ Q (.done (.ret (.bool (!b)))) s') E s) :
    wpAny (model prog w) A (Builtin.«object.__ne__» ⟨[.ref x, .ref y], []⟩) Q E s := by
  obtain ⟨h, g, d, t, os⟩ := s
  unfold Builtin.«object.__ne__»
  repeat (first
    | with_reducible refine wpAny_cRoomFor hu ?_
    | (refine wpAny_bind (m := callSpecialIfBound? (.ref x) (Str.ofString "__eq__") [.ref y])
        (PySem.W.ifBound_K X I hs hf (wpAny_mono hcall (fun r s' hr => by
          obtain ⟨b, rfl, hq⟩ := hr
          repeat (first | exact hq | exact wpAny_pure hq | exact wpAny_truthy_bool hq | (refine wpAny_bind (m := truthy (.bool _)) (wpAny_truthy_bool ?_)) | wp_step)) fun _ _ e => e)))
    | wp_step)
theorem tryNe_K {Q : Option Value → Shared → Prop} (X : K.In s.heap) (I : PySem.W.InstAt s.heap x ox C od) (hn : PySem.W.findIn K (.ref C) "__ne__" = some (some (.builtin "object.__ne__"))) (hp : PySem.W.plainOver K C = true)
    (hs : PySem.W.findIn K (.ref C) "__eq__" = some (some (.ref f))) (hf : PySem.W.isFn K (.ref f) = true) (hu : A.units + 1 < cLine)
    (hcall : wpAny (model prog w) A.in1 (call (.ref f) [.ref x, .ref y]) (fun v s' => ∃ b, v = .bool b ∧ Q (some (.bool (!b))) s') E s) :
    wpAny (model prog w) A (tryCompare (.ref x) "__ne__" (.ref y)) Q E s := by
  obtain ⟨cd, hc, ho⟩ := PySem.W.any_some hp
  have ne : cd.mro.isEmpty = false := by cases q : cd.mro with | nil => rw [q] at ho; cases ho | cons _ _ => rfl
  have sub : PySem.W.Looks (model prog w) s.heap (isInstance (.ref x) (.type "object")) true := I.type.andThen (PySem.W.looks_mroIn X (by unfold PySem.W.mroIn; rw [hc, Option.bind_some, if_neg (by rw [ne]; decide), PySem.W.only_has ho]))
  simp only [tryCompare]
  refine wpAny_bind ?_
  simp only [callSpecialIfBound?, bindSpecialIfBound?]
  have S := (PySem.F.cmp_object).ne
  have fin : wpAny (model prog w) A (call (.builtin "object.__ne__") ([.ref x] ++ [.ref y]) >>= fun v => pure (some v)) (fun r s' => wpAny (model prog w) A (match r with | some .notImplemented | none => pure none | some v => pure (some v)) Q E s') E s := by
    refine wpAny_bind (wpAny_call (codeAny_call_builtin S.plain PySem.F.cmpEntry_ne (@PySem.W.check_slot (model prog w) _ _ s "object.__ne__" "object" "__ne__" (.ref x) [.ref y] [] _ PySem.F.cmpKind_ne PySem.F.cmpSplit_ne sub (PySem.F.cmpArgs_ne _ _) ?_)))
    refine objNe_K (A := A.in1) X I hs hf hu (wpAny_mono hcall (fun v s' hv => ?_) fun _ _ e => e)
    obtain ⟨b, rfl, hq⟩ := hv
    first | exact ⟨b, rfl, wpAny_pure (wpAny_pure hq)⟩ | exact ⟨b, rfl, wpAny_pure hq⟩ | exact ⟨b, rfl, hq⟩
  refine wpAny_holding (wpAny_bind (wpAny_bind (wpAny_bind (I.type.here ((PySem.W.looks_findIn X hn).here ?_)))))
  simp only [S.bind]
  refine wpAny_bind (wpAny_askSetting (wpAny_ite ?_))
  split
  · exact wpAny_bind (wpAny_pure (wpAny_pure fin))
  · exact wpAny_tryCatch (wpAny_bind (wpAny_pure (wpAny_pure fin)))
theorem ne_K {Q : Value → Shared → Prop} {oy : Obj} {ody : Option Obj} (X : K.In s.heap) (I : PySem.W.InstAt s.heap x ox C od) (J : PySem.W.InstAt s.heap y oy C ody) (hn : PySem.W.findIn K (.ref C) "__ne__" = some (some (.builtin "object.__ne__"))) (hp : PySem.W.plainOver K C = true)
    (hs : PySem.W.findIn K (.ref C) "__eq__" = some (some (.ref f))) (hf : PySem.W.isFn K (.ref f) = true) (hu : A.units + 1 < cLine)
    (hcall : wpAny (model prog w) A.in1 (call (.ref f) [.ref x, .ref y]) (fun v s' => ∃ b, v = .bool b ∧ Q (.bool (!b)) s') E s) :
    wpAny (model prog w) A (richCompare .NotEq (.ref x) (.ref y)) Q E s := by
  unfold richCompare
  simp only [oneThing_ref]
  refine wpAny_holding (wpAny_bind (wpAny_cRoomFor (Nat.lt_of_succ_lt hu) ?_))
  rw [cmpInfo_NotEq]
  dsimp only
  refine wpAny_bind (I.type.here (wpAny_bind (J.type.here ?_)))
  rw [show (Value.ref C != Value.ref C) = false from by simp]
  simp only [Bool.false_eq_true, if_false]
  refine wpAny_bind (wpAny_pure ?_)
  simp only [Bool.false_eq_true, if_false]
  refine wpAny_bind (tryNe_K X I hn hp hs hf hu (wpAny_mono hcall (fun v s' hv => ?_) fun _ _ e => e))
  obtain ⟨b, rfl, hq⟩ := hv
  first | exact ⟨b, rfl, wpAny_pure hq⟩ | exact ⟨b, rfl, wpAny_pure (wpAny_pure hq)⟩
/-- truth by an own __len__ -/
theorem truthy_len {Q : Bool → Shared → Prop} (hF : ∃ h₀ L m, Fr h₀ L s.heap m ∧ K.In h₀) (I : PySem.W.InstAt s.heap x ox C od) (hb : PySem.W.findIn K (.ref C) "__bool__" = some none) (hl : PySem.W.findIn K (.ref C) "__len__" = some (some (.ref f))) (hf : PySem.W.isFn K (.ref f) = true)
    (h : wpAny (model prog w) A.in1 (call (.ref f) [.ref x]) (PySem.W.LenBack fun v s' => ∃ n t, v = .int n t ∧ Q (n != 0) s') E s) : wpAny (model prog w) A (truthy (.ref x)) Q E s := by
  obtain ⟨h₀, L, m, F, X₀⟩ := hF
  have X := X₀.keeps F.keep
  unfold truthy
  refine wpAny_bind (m := callSpecial? (.ref x) (Str.ofString "__bool__")) (wpAny_bind (wpAny_bind (I.type.here ((PySem.W.looks_findIn X hb).here (wpAny_pure ?_)))))
  refine wpAny_bind (wpAny_bind (I.type.here ((PySem.W.looks_findIn X hl).here ?_)))
  show wpAny _ _ (if (some (Value.ref f)).isNone = true then _ else _) _ _ _
  rw [if_neg (by simp)]
  refine wpAny_bind (wpAny_runValue (codeAny_builtin entry_len ?_))
  unfold Builtin.«len»
  refine wpAny_bind (m := oneArg "len" _) (wpAny_pure ?_)
  refine wpAny_bind (m := callSpecial? (.ref x) (Str.ofString "__len__")) (PySem.W.special_fn X I hl (beq_iff_eq.mp hf) (wpAny_mono h (fun r s' hr => ?_) fun _ _ y => y))
  cases r <;> first | exact hr.elim | skip
  rename_i n u
  obtain ⟨⟨h0, h1⟩, n', t', e, hq⟩ := hr
  refine wpAny_bind (wpAny_holding (wpAny_pure ?_))
  refine wpAny_bind (wpAny_letGo ?_)
  show wpAny _ _ (if n < 0 then _ else _) _ _ _
  rw [if_neg (by omega)]
  show wpAny _ _ (if n ≥ 2 ^ 63 then _ else _) _ _ _
  rw [if_neg (by omega)]
  cases e
  exact wpAny_bind (wpAny_mkInt (wpAny_pure (wpAny_pure hq)))
end
section
variable {prog : Program} {w : World} {A : Around} {E : Value → Shared → Prop} {s : Shared}
theorem bool_meets (x : Value) : MeetsIn prog w (Builtin.«bool.__new__» ⟨[.type "bool", x], []⟩) (fun A R s => wpAny (model prog w) A.in1 (truthy x) (fun b s' => R (.ok (.ret (.bool b))) s') (fun e s' => R (.error e) s') s) :=
  MeetsIn.of_wp fun A R s hs => by
    have f1 := F.conv_sub_bool
    have z : wpAny (model prog w) A.in1 (truthy x >>= fun b => ret (.bool b)) (fun fin s' => ∃ v, fin = .done (.ret v) ∧ R (.ok (.ret v)) s') (fun e s' => R (.error e) s') s := wpAny_bind (wpAny_mono hs (fun b s' q => wpAny_pure ⟨_, rfl, q⟩) fun _ _ q => q)
    obtain ⟨hp, g, d, tk, os⟩ := s
    unfold Builtin.«bool.__new__»
    repeat (first | exact z | assumption | wp_step)
theorem call_bool_by {x : Value} {Q : Value → Shared → Prop} (h : wpAny (model prog w) A.in1.in1 (truthy x) (fun b s' => s'.TypeIs (.bool b) "bool" ∧ Q (.bool b) s') E s) : wpAny (model prog w) A (call (.type "bool") [x]) Q E s :=
  callType_newIn F.called_bool F.newNe_bool (F.typeCall_bool_1 x) (F.newCall_bool_1 x) (fun obj => F.args_object_init_2 obj x) F.entry_bool_new (bool_meets x) h
end
end Dl
namespace Dl
open PySem PySem.Spec PyProof.Rows L2

section
variable {X : Cx} {c : Cc} {W : WX} {a b e t o : Expr} {es : List Expr} {fa fb fe fo : En → Res D} {fs : En → Res (List D)} {ft : En → Res Bool} {pos p apos : Pos} {k kc : Nat} {f : Addr} {F : List D → Res D} {x m : Str}
/-- a call of a def somewhere below -/
theorem fnR_below {A' : Around} {pins : List (Addr × Obj)} {s : Shared} {σ : L2.St} {H : Hp} {Q : VK} {us : List Value} {vs : List V} {sp : Sp} (Fn : FnR X.prog X.w X.K X.mg X.base (L2.CX X.prog X.w) k f sp) (hr : Room k A') (e0 : Env0 X.prog X.w X.K X.mg X.base A' X.stack s H) (tk : Takes X W) (I : L2.Inv X pins σ H s) (rv : Vals vs us) (h : sp vs H Q (WE W σ)) :
    wpAny (model X.prog X.w) A' (call (.ref f) us) (EP X pins σ Q) X.xe s := by
  refine wpAny_call (codeAny_mono (Fn A' X.stack s H us vs Q (WE W σ) hr e0 rv h) fun r s' hq => ?_)
  cases r with
  | error e => exact passAt tk σ pins H s e s' I hq
  | ok fl =>
    cases fl with
    | ret u => exact I.after hq
    | next => exact False.elim hq
    | brk => exact False.elim hq
    | cont => exact False.elim hq
theorem os_ne (Fn : FnD X.prog X.w X.K X.mg X.base c.cl k f F) (hr : Room (k + 1) X.A) (tk : Takes X W) (C : Cls X.K (c.cl.at_ kc)) (hn : PySem.W.findIn X.K (.ref (c.cl.at_ kc)) "__ne__" = some (some (.builtin "object.__ne__")))
    (hs : PySem.W.findIn X.K (.ref (c.cl.at_ kc)) "__eq__" = some (some (.ref f))) (hi : PySem.W.isFn X.K (.ref f) = true) : OpS X c W (compareOp .NotEq) (gNe kc F) :=
  fun pins s σ H O env x y v u vx vy Q I R rx ry px py p => by
    cases x with
    | ins k1 ns xs =>
      cases y with
      | ins k2 ms ys =>
        have q0 : Post X.K c W σ H (RepS X.K c O) (if k1 = kc ∧ k2 = kc then (bOf (F [.ins k1 ns xs, .ins k2 ms ys])).bind fun b => .ok (.bl (!b)) else .bad) Q := p
        by_cases hk : k1 = kc ∧ k2 = kc
        · rw [if_pos hk] at q0
          obtain ⟨e1, e2⟩ := hk
          subst e1
          subst e2
          obtain ⟨a, dx, vs, rfl, h1, _, _⟩ := RepW.ins (.inl px)
          obtain ⟨b, dy, ws, rfl, h2, _, _⟩ := RepW.ins (.inl py)
          obtain rfl : v = Value.ref a := rx
          obtain rfl : u = Value.ref b := ry
          obtain ⟨od, J⟩ := ins_inst I h1
          obtain ⟨od', J'⟩ := ins_inst I h2
          show wpAny _ _ (richCompare .NotEq (.ref a) (.ref b)) _ _ _
          refine ne_K I.kIn J J' hn C.po hs hi (by have := hr.units; omega) (thn (fnR_below Fn hr.in1 I.env0.in1 tk I (vs := [.ref a, .ref b]) (.cons rfl (.cons rfl .nil)) (spR_of R (reps_cons px (reps_cons py reps_nil)) (bOf_post (g := fun b => !b) q0))) fun u s' ⟨z, H', I', rz, bb, ez, qz⟩ => ?_)
          subst ez
          cases rz
          exact ⟨bb, rfl, .bl (!bb), H', I', rfl, qz⟩
        · rw [if_neg hk] at q0; exact q0.elim
      | _ => exact p.elim
    | _ => exact p.elim

/-! ### len, truth by an own __len__ -/
def lenI (r : Res D) : Res Int := r.bind fun d => match d with
  | .int n => if 0 ≤ n ∧ n < 2 ^ 63 then .ok n else .bad
  | _ => .bad
theorem lenI_post {σ : L2.St} {H : Hp} {O : List Addr} {r : Res D} {Q : VK} {g : Int → D} (p : Post X.K c W σ H (RepS X.K c O) ((lenI r).bind fun n => .ok (g n)) Q) : Post X.K c W σ H (RepS X.K c O) r fun v H' => ∃ n, v = .int n ∧ 0 ≤ n ∧ n < 2 ^ 63 ∧ Post X.K c W σ H' (RepS X.K c O) (.ok (g n)) Q := by
  cases r with
  | ok d =>
    cases d with
    | int n =>
      have p : Post X.K c W σ H (RepS X.K c O) ((if 0 ≤ n ∧ n < 2 ^ 63 then Res.ok n else .bad).bind fun n => .ok (g n)) Q := p
      by_cases hn : 0 ≤ n ∧ n < 2 ^ 63
      · rw [if_pos hn] at p
        exact fun v H' x r => ⟨n, RepW.int (.inl r), hn.1, hn.2, post_mono x p⟩
      · rw [if_neg hn] at p; exact p.elim
    | _ => exact p.elim
  | ex _ _ => exact p
  | bad => exact p
def fLenOwn (k : Nat) (F : List D → Res D) : List D → Res D
  | [.ins k' ns xs] => if k' = k then (lenI (F [.ins k' ns xs])).bind fun n => .ok (.int n) else .bad
  | _ => .bad
theorem reps_one {K : PySem.W.Frag} {cl : Cl} {H : Hp} {d : D} {vs : List V} (r : Reps K cl H [d] vs) : ∃ v, vs = [v] ∧ Rep K cl H d v := by
  unfold Reps at r
  obtain ⟨v, ws, rfl, h1, h2⟩ := r
  unfold Reps at h2
  subst h2
  exact ⟨v, rfl, h1⟩
theorem cd_len (Fn : FnD X.prog X.w X.K X.mg X.base c.cl k f F) (hr : Room (k + 1) X.A) (tk : Takes X W) (hs : PySem.W.findIn X.K (.ref (c.cl.at_ kc)) "__len__" = some (some (.ref f))) (hi : PySem.W.isFn X.K (.ref f) = true) : CaD X c W (.builtin "len") (fLenOwn kc F) :=
  fun pins s σ H O env ds vs us Q I R rv r p => by
    unfold fLenOwn at p
    split at p
    · rename_i k' ns xs
      by_cases hk : k' = kc
      · rw [if_pos hk] at p
        subst hk
        obtain ⟨v, rfl, r1⟩ := reps_one r
        obtain ⟨a, dx, ws, rfl, h1, _, _⟩ := RepW.ins (.inl r1)
        obtain ⟨u, rfl, ru⟩ := vals1 rv
        obtain rfl : u = Value.ref a := ru
        obtain ⟨od, J⟩ := ins_inst I h1
        obtain ⟨m, hF⟩ := I.fr
        refine PySem.W.len_K hF I.ok.mod.kin J hs hi (thn (fnR_below Fn hr.in1 I.env0.in1 tk I (vs := [.ref a]) (.cons rfl .nil) (spR_of R r (lenI_post p))) fun u s' ⟨z, H', I', rz, n, ez, n0, n1, qz⟩ => ?_)
        subst ez
        obtain ⟨t, rfl⟩ := rz
        exact ⟨⟨n0, n1⟩, .int n, H', I'.tok _, ⟨_, rfl⟩, post_now qz repS_int⟩
      · rw [if_neg hk] at p; exact p.elim
    · exact p.elim
/-- truth of an instance, by its own length -/
theorem tru_own {A' : Around} {pins : List (Addr × Obj)} {s : Shared} {σ : L2.St} {H : Hp} {O : List Addr} {env : En} {ns : List Str} {xs : List D} {v : V} {u : Value} {Q : VK} {Q' : Bool → Shared → Prop} (Fn : FnD X.prog X.w X.K X.mg X.base c.cl k f F) (hr : Room k A'.in1) (e0 : Env0 X.prog X.w X.K X.mg X.base A'.in1 X.stack s H) (tk : Takes X W)
    (hb : PySem.W.findIn X.K (.ref (c.cl.at_ kc)) "__bool__" = some none) (hs : PySem.W.findIn X.K (.ref (c.cl.at_ kc)) "__len__" = some (some (.ref f))) (hi : PySem.W.isFn X.K (.ref f) = true)
    (I : L2.Inv X pins σ H s) (R : Rl X.K c O env σ H) (ru : RelV v u) (r : RepS X.K c O H (.ins kc ns xs) v) (p : Post X.K c W σ H (RepS X.K c O) ((lenI (F [.ins kc ns xs])).bind fun n => .ok (.bl (n != 0))) Q)
    (hq : ∀ b H' s', L2.Inv X pins σ H' s' → Q (.bl b) H' → Q' b s') : wpAny (model X.prog X.w) A' (truthy u) Q' X.xe s := by
  obtain ⟨a, dx, ws, rfl, h1, _, _⟩ := RepW.ins (.inl r)
  obtain rfl : u = Value.ref a := ru
  obtain ⟨od, J⟩ := ins_inst I h1
  obtain ⟨m, hF⟩ := I.fr
  refine truthy_len ⟨_, _, m, hF, I.ok.mod.kin⟩ J hb hs hi (thn (fnR_below Fn hr e0 tk I (vs := [.ref a]) (.cons rfl .nil) (spR_of R (reps_cons r reps_nil) (lenI_post p))) fun u s' ⟨z, H', I', rz, n, ez, n0, n1, qz⟩ => ?_)
  subst ez
  obtain ⟨t, rfl⟩ := rz
  exact ⟨⟨n0, n1⟩, n, _, rfl, hq _ H' _ (I'.tok _) (post_now qz repS_bl)⟩
def truOwn (k : Nat) (F : List D → Res D) : D → Res Bool
  | .ins k' ns xs => if k' = k then (lenI (F [.ins k' ns xs])).bind fun n => .ok (n != 0) else .bad
  | _ => .bad
def fBoolOwn (k : Nat) (F : List D → Res D) : List D → Res D
  | [.ins k' ns xs] => if k' = k then (lenI (F [.ins k' ns xs])).bind fun n => .ok (.bl (n != 0)) else .bad
  | _ => .bad
theorem cd_bool (Fn : FnD X.prog X.w X.K X.mg X.base c.cl k f F) (hr : Room (k + 3) X.A) (tk : Takes X W) (hb : PySem.W.findIn X.K (.ref (c.cl.at_ kc)) "__bool__" = some none) (hs : PySem.W.findIn X.K (.ref (c.cl.at_ kc)) "__len__" = some (some (.ref f))) (hi : PySem.W.isFn X.K (.ref f) = true) : CaD X c W (.type "bool") (fBoolOwn kc F) :=
  fun pins s σ H O env ds vs us Q I R rv r p => by
    unfold fBoolOwn at p
    split at p
    · rename_i k' ns xs
      by_cases hk : k' = kc
      · rw [if_pos hk] at p
        subst hk
        obtain ⟨v, rfl, r1⟩ := reps_one r
        obtain ⟨u, rfl, ru⟩ := vals1 rv
        exact call_bool_by (tru_own Fn hr.in1.in1.in1 I.env0.in1.in1.in1 tk hb hs hi I R ru r1 p fun b H' s' I' q => ⟨rfl, .bl b, H', I', rfl, q⟩)
      · rw [if_neg hk] at p; exact p.elim
    · exact p.elim
theorem dt_truOwn (h : DE X c W e fe) (Fn : FnD X.prog X.w X.K X.mg X.base c.cl k f F) (hr : Room (k + 1) X.A) (tk : Takes X W) (hb : PySem.W.findIn X.K (.ref (c.cl.at_ kc)) "__bool__" = some none) (hs : PySem.W.findIn X.K (.ref (c.cl.at_ kc)) "__len__" = some (some (.ref f))) (hi : PySem.W.isFn X.K (.ref f) = true)
    (he : ∀ whole, isTrue e X.env whole = (do let v ← whole; standAt e.pos; holding [v] (truthy v)) := by intro _; rfl) : DT X c W e (fun env => (fe env).bind (truOwn kc F)) := by
  refine ⟨fun pins s σ H Q I ⟨env, O, R, p⟩ => ?_⟩
  refine isTrue_plain (thn (h.run pins s σ H (fun v H1 => ∃ d, Rl X.K c O env σ H1 ∧ RepS X.K c O H1 d v ∧ Post X.K c W σ H1 RepB (truOwn kc F d) Q) I ⟨env, O, R, post_bind p fun d v H1 x1 r1 p1 => ⟨d, R.mono x1, r1, p1⟩⟩) fun u s1 ⟨v, H1, I1, ru, d, R1, r1, p1⟩ => ?_) (he _)
  unfold truOwn at p1
  split at p1
  · rename_i k' ns xs
    by_cases hk : k' = kc
    · rw [if_pos hk] at p1
      subst hk
      refine tru_own (Q := fun v H' => ∃ b, v = .bl b ∧ Q b H') Fn hr.in1 I1.env0.in1 tk hb hs hi I1 R1 ru r1 ?_ fun b H' s' I' ⟨b', e', q⟩ => ⟨H', I', by cases e'; exact q⟩
      cases z : lenI (F [.ins k' ns xs]) with
      | ok n => rw [z] at p1; exact fun v H' x r => ⟨n != 0, RepW.bl (.inl r), p1 _ H' x rfl⟩
      | ex _ _ => rw [z] at p1; exact p1
      | bad => rw [z] at p1; exact p1.elim
    · rw [if_neg hk] at p1; exact p1.elim
  · exact p1.elim
/-- not e, by truth, as a value -/
def eNotT (ft : En → Res Bool) : En → Res D := fun env => (ft env).bind fun k => .ok (.bl (!k))

/-! ### built-ins by strong trees -/
theorem CaW.d {f : Value} {F : List D → Res D} (h : CaW X c W f F) : CaD X c W f F := fun pins s σ H O env ds vs us Q I R rv r p => h pins s σ H O env ds vs us Q I R rv (by
  clear p rv
  induction ds generalizing vs with
  | nil => unfold Reps at r; subst r; exact .nil
  | cons d ds ih =>
    unfold Reps at r
    obtain ⟨v, ws, rfl, h1, h2⟩ := r
    exact .cons (.inl h1) (ih ws h2)) p
theorem CaD.alt {f : Value} {F F' : List D → Res D} (h : CaD X c W f F) (h' : CaD X c W f F') : CaD X c W f (fAlt F F') :=
  fun pins s σ H O env ds vs us Q I R rv pv p => by
    unfold fAlt at p
    cases q : F ds with
    | ok d => rw [q] at p; exact h pins s σ H O env ds vs us Q I R rv pv (by rw [q]; exact p)
    | ex e l => rw [q] at p; exact h pins s σ H O env ds vs us Q I R rv pv (by rw [q]; exact p)
    | bad => rw [q] at p; exact h' pins s σ H O env ds vs us Q I R rv pv p
theorem de_callBS {id : String} {F : List D → Res D} (hc : CaD X c W (.builtin id) F) (ha : DA X c W (e :: es) fs) (hm : X.mg x = none) (hv : bootBuiltins x = some (.builtin id)) (hg : Gl X x := by rfl) (hn : x ≠ "__name__" := by decide) (hdb : (x == ("__debug__" : Str)) = false := by decide)
    (he : starEach (e :: es) X.env = (false, eval e X.env) :: starEach es X.env := by rfl) (hpl : (backTo pos (starEach es X.env)).any (·.1) = false := by rfl) : DE X c W (.Call (.Name x p) (e :: es) [] pos) (eCall F fs) := by
  refine ⟨fun pins s σ H Q I ⟨env, O, R, h⟩ => ?_⟩
  refine wpAny_Call_Name_kw (ld_blt I hg hm hv ?_ hn hdb)
  refine PyProof.Rows.callWith_builtin1 (thn (ha.run pos pins s σ H (fun vs H1 => ∃ ds, Rl X.K c O env σ H1 ∧ RepsS X.K c O H1 ds vs ∧ Post X.K c W σ H1 (RepS X.K c O) (F ds) Q) I ⟨env, O, R, post_bind h fun ds vs H1 x1 r1 p1 => ⟨ds, R.mono x1, r1, p1⟩⟩) fun us s1 ⟨vs, H1, I1, r1, ds, R1, p1, q1⟩ => hc pins s1 σ H1 O env ds vs us Q I1 R1 r1 p1 q1) he hpl
theorem de_callTS {id : String} {F : List D → Res D} (hc : CaD X c W (.type id) F) (ha : DA X c W (e :: es) fs) (hm : X.mg x = none) (hv : bootBuiltins x = some (.type id)) (hg : Gl X x := by rfl) (hn : x ≠ "__name__" := by decide) (hdb : (x == ("__debug__" : Str)) = false := by decide)
    (he : starEach (e :: es) X.env = (false, eval e X.env) :: starEach es X.env := by rfl) (hpl : (backTo pos (starEach es X.env)).any (·.1) = false := by rfl) : DE X c W (.Call (.Name x p) (e :: es) [] pos) (eCall F fs) := by
  refine ⟨fun pins s σ H Q I ⟨env, O, R, h⟩ => ?_⟩
  refine wpAny_Call_Name_kw (ld_blt I hg hm hv ?_ hn hdb)
  refine PyProof.Rows.callWith_type1 (thn (ha.run pos pins s σ H (fun vs H1 => ∃ ds, Rl X.K c O env σ H1 ∧ RepsS X.K c O H1 ds vs ∧ Post X.K c W σ H1 (RepS X.K c O) (F ds) Q) I ⟨env, O, R, post_bind h fun ds vs H1 x1 r1 p1 => ⟨ds, R.mono x1, r1, p1⟩⟩) fun us s1 ⟨vs, H1, I1, r1, ds, R1, p1, q1⟩ => hc pins s1 σ H1 O env ds vs us Q I1 R1 r1 p1 q1) he hpl
end
end Dl
namespace Dl
open PySem PySem.Spec PyProof.Rows L2

/-! ### walks over a list or a tuple -/
theorem pi_or {X : Cx} {tg l : Expr} {w1 w2 : TI} (h1 : PI X tg l w1) (h2 : PI X tg l w2) : PI X tg l (fun σ H R => w1 σ H R ∨ w2 σ H R) :=
  ⟨fun pins s σ H R I h => h.elim (h1.run pins s σ H R I) (h2.run pins s σ H R I)⟩
section
variable {X : Cx} {c : Cc} {W : WX} {a b e t o : Expr} {es : List Expr} {body : List Stmt} {fa fb fe fo fi : En → Res D} {fs : En → Res (List D)} {ft : En → Res Bool} {fo' g' : En → Out} {pos p apos : Pos} {k kc : Nat} {f : Addr} {F : List D → Res D} {x m : Str} {h : D → En → Option En}
theorem tlc_any {K : PySem.W.Frag} {T vs : List Nat} (hT : ∀ i ∈ T, i ∈ vs) : ∀ σ H Q, tE K c W (eLc vs (eIt fi) h ft fe) σ H Q → tLc (fun σ H R => iList K (tE K c W fi) σ H R ∨ iTup K (tE K c W fi) σ H R) (tG K c T h) (tTt K c W0 ft) (tE K c W0 fe) vs σ H Q := fun σ H Q ⟨env, O, R, p⟩ => by
  cases q : fi env with
  | ex e l => exact .inl (tlc_list hT σ H Q ⟨env, O, R, by unfold eLc eIt at p; unfold eLc eItL; rw [q] at p ⊢; exact p⟩)
  | bad => unfold eLc eIt at p; rw [q] at p; exact p.elim
  | ok d =>
    cases d with
    | lst xs => exact .inl (tlc_list hT σ H Q ⟨env, O, R, by unfold eLc eIt at p; unfold eLc eItL; rw [q] at p ⊢; exact p⟩)
    | scr xs => exact .inl (tlc_list hT σ H Q ⟨env, O, R, by unfold eLc eIt at p; unfold eLc eItL; rw [q] at p ⊢; exact p⟩)
    | tup xs => exact .inr (tlc_tup hT σ H Q ⟨env, O, R, by unfold eLc eIt at p; unfold eLc eItT; rw [q] at p ⊢; exact p⟩)
    | _ => unfold eLc eIt at p; rw [q] at p; exact p.elim
theorem ds_for {T : List Nat} {tg iter : Expr} (hp : PassesOwn (model X.prog X.w) X.A X.env X.xe) (hc : X.calm = true) (hi : DE X c W iter fe) (hg : DG X c T tg h) (hb : DSs X c W body fo')
    (hs : ∀ x, foldedSetIterable iter X.env x = pure x := by intro _; rfl) : DS X c W (.For tg iter body [] pos) (sFor (eIt fe) h fo') := by
  refine ⟨fun pins s σ H D I ⟨env, O, R, p⟩ => ?_⟩
  cases q : fe env with
  | ex e l => exact (ds_forL hp hc hi hg hb hs).run pins s σ H D I ⟨env, O, R, by unfold sFor eIt at p; unfold sFor eItL; rw [q] at p ⊢; exact p⟩
  | bad => unfold sFor eIt at p; rw [q] at p; exact p.elim
  | ok d =>
    cases d with
    | lst xs => exact (ds_forL hp hc hi hg hb hs).run pins s σ H D I ⟨env, O, R, by unfold sFor eIt at p; unfold sFor eItL; rw [q] at p ⊢; exact p⟩
    | scr xs => exact (ds_forL hp hc hi hg hb hs).run pins s σ H D I ⟨env, O, R, by unfold sFor eIt at p; unfold sFor eItL; rw [q] at p ⊢; exact p⟩
    | tup xs => exact (ds_forT hp hc hi hg hb hs).run pins s σ H D I ⟨env, O, R, by unfold sFor eIt at p; unfold sFor eItT; rw [q] at p ⊢; exact p⟩
    | _ => unfold sFor eIt at p; rw [q] at p; exact p.elim

/-! ### isinstance -/
inductive Tg where
  | non | bl | int | str | tup | lst | dic | ins (k : Nat)
  deriving DecidableEq
def tgD : D → Option Tg
  | .non => some .non
  | .bl _ => some .bl
  | .int _ => some .int
  | .str _ => some .str
  | .tup _ => some .tup
  | .lst _ => some .lst
  | .dic _ _ => some .dic
  | .ins k _ _ => some (.ins k)
  | _ => none
def tgV (cl : Cl) : Tg → Value
  | .non => .type "NoneType"
  | .bl => .type "bool"
  | .int => .type "int"
  | .str => .type "str"
  | .tup => .type "tuple"
  | .lst => .type "list"
  | .dic => .type "dict"
  | .ins k => .ref (cl.at_ k)
/-- what of a class isinstance asks -/
structure InsTy (K : PySem.W.Frag) (C : Addr) : Prop where
  cls : Cls K C
  ha : PySem.W.findIn K (.ref C) "__class__" = some (some (.builtin "object.__class__"))
  hn : PySem.W.specialIn K (.builtin "object.__class__") "__get__" = some (some (.builtin "getset_descriptor.__get__"))
  htk : PySem.W.takesIn K (.builtin "object.__class__") = some true
  hm : PySem.W.mroIn K C (.type "object") = some true
theorem tyX_of {K : PySem.W.Frag} {O : List Addr} {H : Hp} {d : D} {v : V} {tg : Tg} (r : RepW K c O H d v) (e : tgD d = some tg) (hi : ∀ k, tg = .ins k → InsTy K (c.cl.at_ k)) : TyX K H v (tgV c.cl tg) := by
  cases d with
  | non => cases e; rw [RepW.non r]; exact .base .non
  | bl b => cases e; rw [RepW.bl r]; exact .base (.bl b)
  | int i => cases e; rw [RepW.int r]; exact .base (.int i)
  | str z => cases e; rw [RepW.str r]; exact .base (.str z)
  | tup xs =>
    cases e
    obtain ⟨a, vs, rfl, h1, _⟩ := RepW.tup r
    rcases h1 with (h1 | ⟨o, h1⟩) | ⟨o, its, n, h1, h2, _⟩
    · exact .base (.tup h1)
    · exact .fTuple h1
    · exact .kTuple h1 h2
  | lst xs =>
    cases e
    obtain ⟨a, vs, rfl, h1, _⟩ := RepW.lst r
    exact .base (.lst h1)
  | dic ks xs =>
    cases e
    obtain ⟨a, vs, rfl, h1, _⟩ := RepW.dic r
    exact .base (.dK h1)
  | ins k ns xs =>
    cases e
    obtain ⟨a, dx, vs, rfl, h1, _⟩ := RepW.ins r
    have q := hi k rfl
    exact .base (.ins h1 q.cls q.ha q.hn q.htk q.hm)
  | scr _ => cases e
  | cls _ => cases e
def gIsi (g : Tg → Option Bool) : D → Res D := fun d => match (tgD d).bind g with
  | some r => .ok (.bl r)
  | none => .bad
theorem de_isi {cv : V} {u : Value} {g : Tg → Option Bool} (ha : DW X c W a fa) (h2 : PE X b (tC cv)) (kc : ClsV cv u) (hk : ∀ tg r, g tg = some r → PySem.W.kitOne X.K (tgV c.cl tg) u = some r) (hi : ∀ k r, g (.ins k) = some r → InsTy X.K (c.cl.at_ k)) (hm : X.mg "isinstance" = none) (hg : Gl X "isinstance" := by rfl)
    (he2 : starEach [b] X.env = (false, eval b X.env) :: starEach [] X.env := by rfl)
    (he : starEach [a, b] X.env = (false, eval a X.env) :: starEach [b] X.env := by rfl) (hpl : (backTo pos (starEach [b] X.env)).any (·.1) = false := by rfl) : DE X c W (.Call (.Name "isinstance" p) [a, b] [] pos) (eAt (gIsi g) fa) :=
  pe_imp (pe_callB call_isi hg hm (by decide +kernel) (pa_cons ha (pa_cons h2 pa_nil he2) he) (by decide) (by decide) he hpl) fun σ H Q ⟨env, O, R, p⟩ => ⟨env, O, R, post_bind p fun d v H1 x1 r1 p1 => by
    unfold gIsi at p1
    cases q : tgD d with
    | none => rw [q] at p1; exact p1.elim
    | some tg =>
      rw [q] at p1
      cases q2 : g tg with
      | none => rw [show (some tg).bind g = g tg from rfl, q2] at p1; exact p1.elim
      | some r =>
        rw [show (some tg).bind g = g tg from rfl, q2] at p1
        exact ⟨v, cv, tgV c.cl tg, u, r, rfl, kc, tyX_of r1 q (fun k e => hi k r (by rw [← e]; exact q2)), hk tg r q2, post_now p1 repS_bl⟩⟩
/-- isinstance(x, (T, ..)) -/
theorem de_isiT {cvs : List V} {us : List Value} {g : Tg → Option Bool} {es : List Expr} {kk : Nat} {pt : Pos} {ta : TA} (ha : DW X c W a fa) (h2 : PA X es ta) (hta : ∀ σ H Q, Q cvs H → ta σ H Q) (hz : cvs.length ≤ 1000) (kc : Paired ClsV cvs us) (hk : ∀ tg r, g tg = some r → PySem.W.kitAny X.K (tgV c.cl tg) us = some r) (hi : ∀ k r, g (.ins k) = some r → InsTy X.K (c.cl.at_ k)) (hm : X.mg "isinstance" = none) (hg : Gl X "isinstance" := by rfl)
    (he2 : starEach [.Tuple es kk pt] X.env = (false, eval (.Tuple es kk pt) X.env) :: starEach [] X.env := by rfl)
    (he : starEach [a, .Tuple es kk pt] X.env = (false, eval a X.env) :: starEach [.Tuple es kk pt] X.env := by rfl) (hpl : (backTo pos (starEach [.Tuple es kk pt] X.env)).any (·.1) = false := by rfl) : DE X c W (.Call (.Name "isinstance" p) [a, .Tuple es kk pt] [] pos) (eAt (gIsi g) fa) :=
  pe_imp (pe_callB call_isiT hg hm (by decide +kernel) (pa_cons ha (pa_cons (pe_tup h2) pa_nil he2) he) (by decide) (by decide) he hpl) fun σ H Q ⟨env, O, R, p⟩ => ⟨env, O, R, post_bind p fun d v H1 x1 r1 p1 => by
    unfold gIsi at p1
    refine hta _ _ _ ⟨Nat.le_trans hz (by decide), fun q hq => ?_⟩
    have r2 := r1.mono (Ext.upd (o := .tup cvs) hq)
    cases q0 : tgD d with
    | none => rw [q0] at p1; exact p1.elim
    | some tg =>
      rw [q0] at p1
      cases q2 : g tg with
      | none => rw [show (some tg).bind g = g tg from rfl, q2] at p1; exact p1.elim
      | some r =>
        rw [show (some tg).bind g = g tg from rfl, q2] at p1
        exact ⟨v, q, cvs, tgV c.cl tg, us, r, rfl, upd_same, kc, tyX_of r2 q0 (fun k e => hi k r (by rw [← e]; exact q2)), hk tg r q2, post_ok p1 (Ext.upd hq) repS_bl⟩⟩

/-! ### a local that holds a class or a def -/
def eCallL (i : Nat) (kc : Nat) (F : List D → Res D) (fs : En → Res (List D)) : En → Res D := fun env => match env[i]? with
  | some (.sh (.cls k)) => if k = kc then (fs env).bind F else .bad
  | _ => .bad
theorem de_callL {i : Nat} (hc : CaD X c W (.ref (c.cl.at_ kc)) F) (hk : PySem.W.keepIn X.K (.ref (c.cl.at_ kc)) = true) (ha : DA X c W (e :: es) fs) (hN : X.N[i]? = some x := by rfl) (hv : Vis X.env.scope x := by first | exact Or.inl rfl | exact Or.inr (Or.inl rfl) | exact Or.inr (Or.inr rfl))
    (hdb : (x == ("__debug__" : Str)) = false := by decide) (hcd : (x == ("__classdict__" : Str)) = false := by decide)
    (he : starEach (e :: es) X.env = (false, eval e X.env) :: starEach es X.env := by rfl) (hpl : (backTo pos (starEach es X.env)).any (·.1) = false := by rfl) : DE X c W (.Call (.Name x p) (e :: es) [] pos) (eCallL i kc F fs) := by
  refine ⟨fun pins s σ H Q I ⟨env, O, R, h⟩ => ?_⟩
  unfold eCallL at h
  split at h
  · rename_i k' hl
    by_cases hkc : k' = kc
    · rw [if_pos hkc] at h
      subst hkc
      obtain ⟨v, hv1, hv2⟩ := R.sh i _ hl
      unfold Rep at hv2
      subst hv2
      refine wpAny_Call_Name_kw (thn ((pe_var (pos := p) hN hv hdb hcd).run pins s σ H (fun v H1 => v = .ref (c.cl.at_ k') ∧ H1 = H) I ⟨_, hv1, rfl, rfl⟩) fun u s1 ⟨v, H1, I1, r1, q1⟩ => ?_)
      obtain ⟨rfl, rfl⟩ := q1
      cases r1
      refine PySem.W.callWith_K (h₀ := X.base) I.ok.mod.kin hk (thn (ha.run pos pins s1 σ H1 (fun vs H2 => ∃ ds, Rl X.K c O env σ H2 ∧ RepsS X.K c O H2 ds vs ∧ Post X.K c W σ H2 (RepS X.K c O) (F ds) Q) I1 ⟨env, O, R, post_bind h fun ds vs H1 x1 r1 p1 => ⟨ds, R.mono x1, r1, p1⟩⟩) fun us s2 ⟨vs, H2, I2, r2, ds, R2, p2, q2⟩ => ⟨I2.kIn, hc pins s2 σ H2 O env ds vs us Q I2 R2 r2 p2 q2⟩) he hpl
    · rw [if_neg hkc] at h; exact h.elim
  · exact h.elim

/-! ### making an instance -/
def spI (K : PySem.W.Frag) (cl : Cl) (kc : Nat) (F : List D → Res (List Str × List D)) : Sp := fun vs H Q E => ∃ H1 x dx ws ds O, vs = .ref x :: ws ∧ H = upd (upd H1 dx (.own x)) x (.ins (cl.at_ kc) dx []) ∧ H1 x = none ∧ H1 dx = none ∧ dx ≠ x ∧ (∀ a ∈ O, ∃ o, H1 a = some o) ∧ Reps K cl (hide O H1) ds ws ∧
  match F ds with
  | .ok r => ∀ H' dx' us, Ext H1 H' → H' x = some (.ins (cl.at_ kc) dx' (r.1.zip us)) → r.1.length = us.length → Reps K cl (hide O H') r.2 us → Q .non H'
  | .ex e p => ∀ H', Ext H1 H' → Rz K ⟨cl, H1, O, 0⟩ (fun k d _ h => E k d h) e p [] H'
  | .bad => False
def insR (kc : Nat) (r : Res (List Str × List D)) : Res D := r.bind fun r => .ok (.ins kc r.1 r.2)
theorem cd_make {C : Addr} {Fi : List D → Res (List Str × List D)} (M : Mk X.K (c.cl.at_ kc) f) (Fn : FnR X.prog X.w X.K X.mg X.base (L2.CX X.prog X.w) k f (spI X.K c.cl kc Fi)) (hr : Room (k + 1) X.A) (tk : Takes X W) : CaD X c W (.ref (c.cl.at_ kc)) (fun ds => insR kc (Fi ds)) :=
  fun pins s σ H O env ds vs us Q I R rv r p => by
    have n1 : H (s.heap.objs.size + 1) = none := I.hok.fresh (Nat.le_succ _)
    have n2 : H s.heap.objs.size = none := I.hok.fresh (Nat.le_refl _)
    have ne : s.heap.objs.size ≠ s.heap.objs.size + 1 := Nat.ne_of_lt (Nat.lt_succ_self _)
    have I2 := L2.Inv.made (C := c.cl.at_ kc) I
    have hsp : spI X.K c.cl kc Fi (V.ref (s.heap.objs.size + 1) :: vs) (upd (upd H s.heap.objs.size (.own (s.heap.objs.size + 1))) (s.heap.objs.size + 1) (.ins (c.cl.at_ kc) s.heap.objs.size [])) (fun v H2 => v = .non ∧ Q (.ref (s.heap.objs.size + 1)) H2) (WE W σ) := by
      refine ⟨H, _, _, vs, ds, O, rfl, rfl, n1, n2, ne, R.dom, r, ?_⟩
      have p0 : Post X.K c W σ H (RepS X.K c O) (insR kc (Fi ds)) Q := p
      clear p
      cases q : Fi ds with
      | ok z =>
        rw [q] at p0
        have p : Post X.K c W σ H (RepS X.K c O) (.ok (.ins kc z.1 z.2)) Q := p0
        refine fun H' dx' us x e1 e2 e3 => ⟨rfl, p _ H' x ?_⟩
        unfold RepS Rep
        exact ⟨_, dx', us, rfl, by rw [hide_out (R.new n1)]; exact e1, e2, e3⟩
      | ex e l => rw [q] at p0; exact fun H' x => rz_less (c := c) rfl R.sub (fun _ _ _ h => h) (p0 H' x)
      | bad => rw [q] at p0; exact p0
    refine wpAny_call (make_map (f := f) I.kIn M.makes M.init (beq_iff_eq.mp M.fn) (codeAny_mono (Fn _ X.stack _ _ (Value.ref (s.heap.objs.size + 1) :: us) (V.ref (s.heap.objs.size + 1) :: vs) _ (WE W σ) (hr.make (c.cl.at_ kc) us []) (I2.env0.make (c.cl.at_ kc) us []) (.cons rfl rv) hsp) fun r s' hq' => ?_))
    cases r with
    | error e => exact passAt tk σ pins _ _ e s' I2 hq'
    | ok fl =>
      cases fl with
      | ret u =>
        obtain ⟨v, H', I3, rv, ev, q3⟩ := I2.after hq'
        subst ev
        exact ⟨rv, ⟨V.ref (s.heap.objs.size + 1), H', I3, rfl, q3⟩⟩
      | next => exact False.elim hq'
      | brk => exact False.elim hq'
      | cont => exact False.elim hq'
/-- self.f = e within __init__ -/
def sSetF (i : Nat) (f : Str) (fe : En → Res D) : En → Out := fun env => lift (fe env) env fun d => match env[i]? with
  | some (.ow (.ins k ns xs)) => if f ∉ ns ∧ ns.length < 900 then .nx (env.set i (.ow (.ins k (ns ++ [f]) (xs ++ [d])))) else .bad
  | _ => .bad
theorem putF_new {f : Str} {y : V} : ∀ {ns : List Str} {vs : List V}, f ∉ ns → ns.length = vs.length → putF f y (ns.zip vs) = (ns ++ [f]).zip (vs ++ [y])
  | [], [], _, _ => rfl
  | [], _ :: _, _, h => by simp at h
  | _ :: _, [], _, h => by simp at h
  | n :: ns, v :: vs, h, hl => by
    have hn : ¬ n = f := fun z => h (by rw [z]; exact List.mem_cons_self)
    show (if n = f then _ else (n, v) :: putF f y (ns.zip vs)) = (n, v) :: (ns ++ [f]).zip (vs ++ [y])
    rw [if_neg hn, putF_new (fun z => h (List.mem_cons_of_mem _ z)) (by simpa using hl)]
theorem ds_setF (i : Nat) {x f : Str} {pos' p' : Pos} {value : Expr} (kc : Nat) (hv : DE X c W value fe) (C : Cls X.K (c.cl.at_ kc)) (n : NoAttr X.K (c.cl.at_ kc) f) (hN : X.N[i]? = some x := by rfl) (hvi : Vis X.env.scope x := by first | exact Or.inl rfl | exact Or.inr (Or.inl rfl) | exact Or.inr (Or.inr rfl))
    (hs : swapsWith value (some (.Attribute (.Name x p') f pos')) pos.line X.env = pure false := by rfl) (hdb : (x == ("__debug__" : Str)) = false := by decide) (hcd : (x == ("__classdict__" : Str)) = false := by decide) :
    DS X c W (.Assign [.Attribute (.Name x p') f pos'] value pos) (fun env => match env[i]? with | some (.ow (.ins k _ _)) => if k = kc then sSetF i f fe env else .bad | _ => .bad) :=
  ps_imp (ps_fld (pe_var hN hvi hdb hcd) hv hs) fun D σ H ⟨env, O, R, p⟩ => ⟨env, O, R, by
    dsimp only at p
    split at p
    · rename_i k' ns xs he
      by_cases hk : k' = kc
      · rw [if_pos hk] at p
        subst hk
        unfold sSetF at p
        refine post_lift R p fun d v H1 x1 r1 R1 p1 => ?_
        rw [he] at p1
        have p1 : PostS X.K c W O H1 D (if f ∉ ns ∧ ns.length < 900 then .nx (env.set i (.ow (.ins k' (ns ++ [f]) (xs ++ [d])))) else .bad) := p1
        by_cases hf : f ∉ ns ∧ ns.length < 900
        · rw [if_pos hf] at p1
          obtain ⟨a, g1, g2, g3, g4, dx, vs, g5, g6, g7⟩ := R1.ow i _ he
          have hz : (ns.zip vs).length < 1000 := by rw [List.length_zip]; omega
          refine ⟨_, g1, a, _, dx, _, rfl, g5, C, n, hz, ?_⟩
          have hown : OwnAt X.K c.cl (hide O H1) (upd H1 a (.ins (c.cl.at_ k') dx (putF f v (ns.zip vs)))) a (.ins k' (ns ++ [f]) (xs ++ [d])) := by
            refine ⟨dx, vs ++ [v], ?_, by rw [List.length_append, List.length_append, g6]; rfl, reps_app g7 (reps_cons r1 reps_nil)⟩
            rw [upd_same, putF_new hf.1 g6]
          refine p1 σ _ O ?_ (by rw [hide_upd_in g2]; exact Ext.rfl')
          exact R1.own_set he g1 hown fun _ _ _ _ => ⟨_, _, _, rfl⟩
        · rw [if_neg hf] at p1; exact p1.elim
      · rw [if_neg hk] at p; exact p.elim
    · exact p.elim⟩
end
section
variable {P : Program} {w : World} {K : PySem.W.Frag} {mg : Str → Option Value} {base : Heap} {cl : Cl}
def startI (N : List Str) (kc : Nat) (ds : List D) : En := .ow (.ins kc [] []) :: startE N.tail ds
def slot0 : En → Option (Nat × List Str × List D)
  | .ow (.ins k ns xs) :: _ => some (k, ns, xs)
  | _ => none
theorem slot0_get {env : En} {k : Nat} {ns : List Str} {xs : List D} (h : slot0 env = some (k, ns, xs)) : env[0]? = some (.ow (.ins k ns xs)) := by
  unfold slot0 at h
  split at h
  · cases h; rfl
  · cases h
def outI (kc : Nat) : Out → Res (List Str × List D)
  | .nx env => match slot0 env with
    | some (k, ns, xs) => if k = kc then .ok (ns, xs) else .bad
    | none => .bad
  | .xx e p _ => .ex e p
  | _ => .bad
theorem startI_rl {kc : Nat} {O : List Addr} {H1 : Hp} {x dx : Addr} {n0 : Str} {N : List Str} {ds : List D} {ws : List V} (n1 : H1 x = none) (n2 : H1 dx = none) (ne : dx ≠ x) (dom : ∀ a ∈ O, ∃ o, H1 a = some o) (r : Reps K cl (hide O H1) ds ws) :
    Rl K ⟨cl, H1, O, x⟩ (x :: O) (startI (n0 :: N) kc ds) (L2.start (n0 :: N) (.ref x :: ws)) (upd (upd H1 dx (.own x)) x (.ins (cl.at_ kc) dx [])) := by
  have R0 := start_rl (me := x) (N := N) dom r
  have hx : x ∉ O := fun z => by obtain ⟨o, e⟩ := dom x z; rw [n1] at e; cases e
  have e1 : Ext H1 (upd (upd H1 dx (.own x)) x (.ins (cl.at_ kc) dx [])) := fun b o eb => by rw [upd_ne (ne_of_none eb n1), upd_ne (ne_of_none eb n2)]; exact eb
  have e2 : Ext (hide O H1) (hide (x :: O) (upd (upd H1 dx (.own x)) x (.ins (cl.at_ kc) dx []))) := fun b o eb => by
    have nb : b ≠ x := ne_of_none (hide_sub _ _ eb) n1
    have nO : b ∉ O := fun z => by rw [hide_in z] at eb; cases eb
    rw [hide_out (by simp only [List.mem_cons, not_or]; exact ⟨nb, nO⟩)]
    exact e1 _ _ (hide_sub _ _ eb)
  have es : L2.start (n0 :: N) (.ref x :: ws) = some (.ref x) :: L2.start N ws := by
    unfold L2.start
    rw [List.map_cons, List.length_cons, List.length_cons, Nat.add_sub_add_right]
    rfl
  rw [es]
  have key : ∀ (i : Nat) o, (startE N ds)[i]? ≠ some (.ow o) := fun i o z => by
    unfold startE at z
    by_cases hi : i < ds.length
    · rw [List.getElem?_append_left (by rw [List.length_map]; exact hi), List.getElem?_map] at z
      cases q : ds[i]? with
      | none => rw [q] at z; cases z
      | some d => rw [q] at z; cases z
    · rw [List.getElem?_append_right (by rw [List.length_map]; omega), List.getElem?_replicate] at z
      split at z <;> cases z
  refine ⟨?_, e1, fun a h => List.mem_cons_of_mem _ h, fun a h => ?_, fun i d e => ?_, fun i o e => ?_, fun i k ns xs e => ?_, fun i j o u a e3 e4 _ _ => ?_⟩
  · show (startE N ds).length + 1 = (L2.start N ws).length + 1
    rw [R0.len]
  · rcases List.mem_cons.mp h with z | z
    · rw [z]; exact ⟨_, upd_same⟩
    · obtain ⟨o, e⟩ := dom a z; exact ⟨o, e1 _ _ e⟩
  · cases i with
    | zero => cases e
    | succ i =>
      obtain ⟨v, h1, h2⟩ := R0.sh i d e
      exact ⟨v, h1, rep_mono e2 _ _ h2⟩
  · cases i with
    | zero => cases e; exact ⟨x, rfl, List.mem_cons_self, n1, hx, dx, [], upd_same, rfl, reps_nil⟩
    | succ i => exact absurd e (key i o)
  · cases i with
    | zero => rfl
    | succ i => exact absurd e (key i _)
  · cases i with
    | zero => cases j with
      | zero => rfl
      | succ j => exact absurd e4 (key j u)
    | succ i => exact absurd e3 (key i o)
/-- a def by its parts (defaults or none) -/
theorem fnOk_of {CX : CXT} {x qual : Str} {st : Stmt} {f : Addr} {fd : FuncData} {dvs : List V} {kws : List (Str × V)} {N ps : List Str} {k : Nat} {sp : Sp} (F : FunD K x qual (defArgs st) (defBody st) (defScope st) dvs kws f fd) (S : FnScope N ps (defScope st)) (len : ∀ vs H Q E, sp vs H Q E → vs.length = ps.length)
    (hbody : ∀ (cdv : Value) (A : Around) (outer : List PySem.Env) (s : Shared) (H : Hp) (vs : List V) (Q : VK) (E : XK), Room k (A.deeper (envOfC qual (defScope st) s.heap.objs.size f cdv)) → sp vs H Q E →
      ∃ t, PSs (cxOf CX P w K mg base N qual (defScope st) f cdv A outer s H E) (defBody st) t ∧ t { nx := fun _ H' => Q .non H', rt := Q } (L2.start N vs) H) : FnOk P w K mg base CX (k + 1) f fd ps sp := F.ok S len hbody
/-- __init__ -/
theorem fnI_of {x qual : Str} {st : Stmt} {f : Addr} {fd : FuncData} {dvs0 : List V} {kws : List (Str × V)} {n0 : Str} {N ps : List Str} {k kc : Nat} {fb : En → Out} {dd : List D} {dvs : List V} {dus : List Value} (F : FunD K x qual (defArgs st) (defBody st) (defScope st) dvs0 kws f fd) (S : FnScope (n0 :: N) (n0 :: ps) (defScope st)) (hb : Binds K fd (n0 :: ps) dus) (hd : Vals dvs dus) (hr : ∀ H, Reps K cl H dd dvs)
    (body : ∀ (cdv : Value) (A : Around) (outer : List PySem.Env) (s : Shared) (H : Hp) (E : XK) (c : Cc), c.cl = cl → Room k (A.deeper (envOfC qual (defScope st) s.heap.objs.size f cdv)) → DSs (Xb P w K mg base (n0 :: N) qual st f cdv A outer s H E) c (Wb E) (defBody st) fb) :
    FnR P w K mg base (L2.CX P w) (k + 1) f (spI K cl kc fun ds => if ds.length + dd.length = ps.length then outI kc (fb (startI (n0 :: N) kc (ds ++ dd))) else .bad) := by
  have F1 : FnOk P w K mg base (L2.CX P w) (k + 1) f fd (n0 :: ps) (spI K cl kc fun ds => if ds.length = ps.length then outI kc (fb (startI (n0 :: N) kc ds)) else .bad) := by
    refine fnOk_of F S (fun vs H Q E h => ?_) fun cdv A outer s H vs Q E hr h => ?_
    · obtain ⟨H1, x, dx, ws, ds, O, rfl, _, _, _, _, _, r, p⟩ := h
      dsimp only at p
      by_cases hl : ds.length = ps.length
      · rw [List.length_cons, List.length_cons, ← hl, reps_len r]
      · rw [if_neg hl] at p; exact p.elim
    · obtain ⟨H1, x, dx, ws, ds, O, rfl, rfl, n1, n2, ne, dom, r, p⟩ := h
      dsimp only at p
      by_cases hl : ds.length = ps.length
      · rw [if_pos hl] at p
        refine ⟨_, body cdv A outer s _ E ⟨cl, H1, O, x⟩ rfl hr, _, x :: O, startI_rl n1 n2 ne dom r, ?_⟩
        cases q : fb (startI (n0 :: N) kc ds) with
        | nx env =>
          rw [q] at p
          refine fun σ' H' O' R _ => ?_
          unfold outI at p
          dsimp only at p
          cases q0 : slot0 env with
          | none => rw [q0] at p; exact p.elim
          | some z =>
            obtain ⟨kk, ns, xs⟩ := z
            rw [q0] at p
            dsimp only at p
            have he := slot0_get q0
            have g0 := R.me 0 kk ns xs he
            obtain ⟨a, g1, g2, g3, g4, dx', us, g5, g6, g7⟩ := R.ow 0 _ he
            rw [g0] at g1
            cases g1
            by_cases hk : kk = kc
            · rw [if_pos hk] at p
              subst hk
              exact p H' dx' us R.ext g5 g6 (reps_mono (hide_less R.sub) _ _ g7)
            · rw [if_neg hk] at p; exact p.elim
        | xx e l env => rw [q] at p; exact fun σ' H' O' R => rz_less (c := ⟨cl, H1, O, 0⟩) rfl (fun _ h => h) (fun _ _ _ h => h) (p H' R.ext)
        | rt d => rw [q] at p; exact p.elim
        | bk env => rw [q] at p; exact p.elim
        | ct env => rw [q] at p; exact p.elim
        | bad => rw [q] at p; exact p.elim
      · rw [if_neg hl] at p; exact p.elim
  refine FnR.imp (F1.raw hb hd) fun vs H Q E ⟨H1, x, dx, ws, ds, O, e1, e2, n1, n2, ne, dom, r, p⟩ => ⟨H1, x, dx, ws ++ dvs, ds ++ dd, O, by rw [e1]; rfl, e2, n1, n2, ne, dom, reps_app r (hr _), by
    dsimp only at p ⊢
    rw [List.length_append]
    exact p⟩
end
end Dl
namespace Dl
open PySem PySem.Spec PyProof.Rows L2
section
variable {P : Program} {w : World} {K : PySem.W.Frag} {mg : Str → Option Value} {base : Heap} {cl : Cl}
/-- def f(a, .., *v) -/
def starF (n : Nat) (F : List D → Res D) : List D → Res D := fun ds => if n ≤ ds.length ∧ ds.length ≤ 100000 then F (ds.take n ++ [.tup (ds.drop n)]) else .bad
theorem fnD_star {x qual pv : Str} {st : Stmt} {f : Addr} {fd : FuncData} {kws : List (Str × V)} {N ps : List Str} {k : Nat} {fb : En → Out} (F : FunD K x qual (defArgs st) (defBody st) (defScope st) [] kws f fd) (S : FnScope N (ps ++ [pv]) (defScope st))
    (hb : ∀ (kV doc pm : Value) (an : Option Addr) (cdv ct : Value) (us rest : List Value), us.length = ps.length → bindArgs (PySem.W.fnOf x qual (defArgs st) (defBody st) (defScope st) .none kV doc pm an cdv ct) ⟨us ++ rest, []⟩ = (newTuple rest >>= fun t => pure (ps.zip us ++ [(pv, t)])))
    (body : ∀ (cdv : Value) (A : Around) (outer : List PySem.Env) (s : Shared) (H : Hp) (E : XK) (c : Cc), c.cl = cl → Room k (A.deeper (envOfC qual (defScope st) s.heap.objs.size f cdv)) → DSs (Xb P w K mg base N qual st f cdv A outer s H E) c (Wb E) (defBody st) fb) :
    FnD P w K mg base cl (k + 1) f (starF ps.length fun ds => outR (fb (startE N ds))) := by
  obtain ⟨oc, od, dV, kV, doc, pm, an, cdv, ct, osl, rfl, lk, hcd, hD, _⟩ := F.ex
  obtain rfl : dV = .none := by
    rcases hD with ⟨_, rfl⟩ | ⟨e, _⟩
    · rfl
    · exact absurd rfl e
  have F1 := StX.fn_star (P := P) (w := w) (mg := mg) (base := base) (k := k) (sp := spR K cl fun ds => outR (fb (startE N ds))) lk hcd S StX.cxUp (hb kV doc pm an cdv ct) (fun A outer s H vs Q E hr ⟨ds, O, dom, r, p⟩ => ⟨_, body cdv A outer s H E ⟨cl, H, O, 0⟩ rfl hr, body_run (t := tNext) dom r p⟩)
  refine FnR.imp F1 fun vs H Q E ⟨ds, O, dom, r, p⟩ => ?_
  unfold starF at p
  by_cases hl : ps.length ≤ ds.length ∧ ds.length ≤ 100000
  · rw [if_pos hl] at p
    have hlen := reps_len r
    refine ⟨vs.take ps.length, vs.drop ps.length, (List.take_append_drop ..).symm, by rw [List.length_take]; omega, by rw [List.length_drop]; exact line100 (by omega), fun q hq => ?_⟩
    have x := Ext.upd (o := .tup (vs.drop ps.length)) hq
    have hqO : q ∉ O := fun z => by obtain ⟨o, e⟩ := dom q z; rw [hq] at e; cases e
    refine ⟨ds.take ps.length ++ [.tup (ds.drop ps.length)], O, fun a ha => let ⟨o, e⟩ := dom a ha; ⟨o, x _ _ e⟩, reps_app (reps_mono (hide_ext x) _ _ (reps_take _ r)) (reps_cons (rep_tup (Or.inl (Or.inl (hide_new hqO))) (reps_mono (hide_ext x) _ _ (reps_drop _ r))) reps_nil), ?_⟩
    dsimp only at p ⊢
    cases z : outR (fb (startE N (ds.take ps.length ++ [.tup (ds.drop ps.length)]))) with
    | ok d => rw [z] at p; exact fun v H' y rr => p v H' (x.trans y) rr
    | ex e l => rw [z] at p; exact fun H' y => rz_less (c := ⟨cl, H, O, 0⟩) rfl (fun _ h => h) (fun _ _ _ h => h) (p H' (x.trans y))
    | bad => rw [z] at p; exact p
  · rw [if_neg hl] at p; exact p.elim
/-- a def by its parts -/
theorem fnD_ofD {x qual : Str} {st : Stmt} {f : Addr} {fd : FuncData} {dvs0 : List V} {kws : List (Str × V)} {N ps : List Str} {k : Nat} {fb : En → Out} {dd : List D} {dvs : List V} {dus : List Value} (F : FunD K x qual (defArgs st) (defBody st) (defScope st) dvs0 kws f fd) (S : FnScope N ps (defScope st)) (hb : Binds K fd ps dus) (hd : Vals dvs dus) (hr : ∀ H, Reps K cl H dd dvs)
    (body : ∀ (cdv : Value) (A : Around) (outer : List PySem.Env) (s : Shared) (H : Hp) (E : XK) (c : Cc), c.cl = cl → Room k (A.deeper (envOfC qual (defScope st) s.heap.objs.size f cdv)) → DSs (Xb P w K mg base N qual st f cdv A outer s H E) c (Wb E) (defBody st) fb) :
    FnD P w K mg base cl (k + 1) f (fun ds => if ds.length + dd.length = ps.length then outR (fb (startE N (ds ++ dd))) else .bad) := by
  have F1 : FnOk P w K mg base (L2.CX P w) (k + 1) f fd ps (spR K cl fun ds => if ds.length = ps.length then outR (fb (startE N ds)) else .bad) := by
    refine fnOk_of F S (fun vs H Q E h => ?_) fun cdv A outer s H vs Q E hr h => ?_
    · obtain ⟨ds, O, _, r, p⟩ := h
      dsimp only at p
      by_cases hl : ds.length = ps.length
      · rw [← hl, reps_len r]
      · rw [if_neg hl] at p; exact p.elim
    · obtain ⟨ds, O, dom, r, p⟩ := h
      dsimp only at p
      by_cases hl : ds.length = ps.length
      · rw [if_pos hl] at p
        exact ⟨_, body cdv A outer s H E ⟨cl, H, O, 0⟩ rfl hr, body_run (t := tNext) dom r p⟩
      · rw [if_neg hl] at p; exact p.elim
  refine FnR.imp (F1.raw hb hd) fun vs H Q E ⟨ds, O, dom, r, p⟩ => ⟨ds ++ dd, O, dom, reps_app r (hr _), by
    dsimp only at p ⊢
    rw [List.length_append]
    exact p⟩
/-- no defaults: binds -/
theorem fnD_of0 {x qual : Str} {st : Stmt} {f : Addr} {fd : FuncData} {kws : List (Str × V)} {N ps : List Str} {k : Nat} {fb : En → Out} (F : FunD K x qual (defArgs st) (defBody st) (defScope st) [] kws f fd) (S : FnScope N ps (defScope st))
    (h : ∀ (kV doc pm : Value) (an : Option Addr) (cdv ct : Value) (us : List Value), us.length = ps.length → bindArgs (PySem.W.fnOf x qual (defArgs st) (defBody st) (defScope st) .none kV doc pm an cdv ct) ⟨us, []⟩ = pure (ps.zip us))
    (body : ∀ (cdv : Value) (A : Around) (outer : List PySem.Env) (s : Shared) (H : Hp) (E : XK) (c : Cc), c.cl = cl → Room k (A.deeper (envOfC qual (defScope st) s.heap.objs.size f cdv)) → DSs (Xb P w K mg base N qual st f cdv A outer s H E) c (Wb E) (defBody st) fb) :
    FnD P w K mg base cl (k + 1) f (fun ds => if ds.length = ps.length then outR (fb (startE N ds)) else .bad) := by
  have z := fnD_ofD (dd := []) (dvs := []) F S (F.bindsN h) .nil (fun _ => reps_nil) body
  refine FnD.eq z fun ds _ => ?_
  simp
end
section
variable {X : Cx} {c : Cc} {W : WX} {e o : Expr} {es : List Expr} {fs : En → Res (List D)} {pos apos : Pos} {k kc : Nat} {p g : Addr} {F : List D → Res D} {m : Str} {mc : Value}
/-- C.m(..), m a classmethod of C -/
def eCm (kc : Nat) (F : List D → Res D) (fs : En → Res (List D)) : En → Res D := fun env => (fs env).bind fun ds => F (.cls kc :: ds)
theorem de_cm {pl : Sem Bool} (he : PE X o (tC (.ref (c.cl.at_ kc)))) (r : ClX.CRead X.K (c.cl.at_ kc) mc) (cm : ClX.CMet X.K (c.cl.at_ kc) mc m p g) (Fn : FnD X.prog X.w X.K X.mg X.base c.cl k g F) (hr : Room k X.A) (tk : Takes X W) (ha : DA X c W (e :: es) fs)
    (hst : starEach (e :: es) X.env = (false, eval e X.env) :: starEach es X.env := by rfl) (hpl : (backTo pos (starEach es X.env)).any (·.1) = false := by rfl)
    (ht : eval (.Call (.Attribute o m apos) (e :: es) [] pos) X.env = (do
      let ov ← eval o X.env
      standAt apos.atName
      let (f, first) ← holding [ov] (getMethod ov m pl)
      callWith pos f first (backTo pos (starEach (e :: es) X.env)) (backToKw pos (keywordEach [] X.env))) := by rfl) :
    DE X c W (.Call (.Attribute o m apos) (e :: es) [] pos) (eCm kc F fs) := by
  refine ⟨fun pins s σ H Q I ⟨env, O, R, h⟩ => ?_⟩
  refine PySem.W.methodCall_KW (pl := pl) (thn (he.run pins s σ H (fun v H1 => v = .ref (c.cl.at_ kc) ∧ H1 = H) I ⟨rfl, rfl⟩) fun u s1 ⟨v, H1, I1, ru, ev, eH⟩ => ?_) ht
  subst ev
  subst eH
  obtain rfl : u = Value.ref (c.cl.at_ kc) := ru
  refine ClX.getmethcm_ok I1 r cm fun s2 I2 => ?_
  refine ClX.callwith_cm I2 (ClX.base_none I1 (Nat.le_refl _)) cm.fi (thn (ha.run pos _ s2 σ H1 (fun vs H2 => ∃ ds, Rl X.K c O env σ H2 ∧ RepsS X.K c O H2 (.cls kc :: ds) (.ref (c.cl.at_ kc) :: vs) ∧ Post X.K c W σ H2 (RepS X.K c O) (F (.cls kc :: ds)) Q) I2 ⟨env, O, R, post_bind h fun ds vs H2 x2 r2 p2 => ⟨ds, R.mono x2, reps_cons (by unfold Rep; rfl) r2, p2⟩⟩) fun us s3 ⟨vs, H2, I3, rv, ds, R3, r3, q3⟩ => ⟨⟨ClX.pin_at I3, I3.kIn⟩, ?_⟩) hst hpl
  have z : wpAny (model X.prog X.w) X.A (call (.ref s1.heap.objs.size) us) (EP X ((s1.heap.objs.size, PySem.W.methodObj (.ref g) (.ref (c.cl.at_ kc))) :: pins) σ Q) X.xe s3 := by
    refine wpAny_call (PySem.W.method_call (ClX.pin_at I3) ?_)
    refine codeAny_mono (Fn X.A X.stack s3 H2 (.ref (c.cl.at_ kc) :: us) (.ref (c.cl.at_ kc) :: vs) Q (WE W σ) hr I3.env0 (.cons rfl rv) (spR_of R3 r3 q3)) fun r s' hq => ?_
    cases r with
    | error e => exact passAt tk σ _ H2 s3 e s' I3 hq
    | ok fl =>
      cases fl with
      | ret u => exact I3.after hq
      | next => exact False.elim hq
      | brk => exact False.elim hq
      | cont => exact False.elim hq
  exact thn z fun _ _ y => ClX.unpinE y
theorem de_cm0 {pl : Sem Bool} (he : PE X o (tC (.ref (c.cl.at_ kc)))) (r : ClX.CRead X.K (c.cl.at_ kc) mc) (cm : ClX.CMet X.K (c.cl.at_ kc) mc m p g) (Fn : FnD X.prog X.w X.K X.mg X.base c.cl k g F) (hr : Room k X.A) (tk : Takes X W)
    (ht : eval (.Call (.Attribute o m apos) [] [] pos) X.env = (do
      let ov ← eval o X.env
      standAt apos.atName
      let (f, first) ← holding [ov] (getMethod ov m pl)
      callWith pos f first (backTo pos (starEach [] X.env)) (backToKw pos (keywordEach [] X.env))) := by rfl) :
    DE X c W (.Call (.Attribute o m apos) [] [] pos) (eCm kc F aNil) := by
  refine ⟨fun pins s σ H Q I ⟨env, O, R, h⟩ => ?_⟩
  refine PySem.W.methodCall_KW (pl := pl) (thn (he.run pins s σ H (fun v H1 => v = .ref (c.cl.at_ kc) ∧ H1 = H) I ⟨rfl, rfl⟩) fun u s1 ⟨v, H1, I1, ru, ev, eH⟩ => ?_) ht
  subst ev
  subst eH
  obtain rfl : u = Value.ref (c.cl.at_ kc) := ru
  refine ClX.getmethcm_ok I1 r cm fun s2 I2 => ?_
  refine PySem.W.callWith_M0 (first := []) ⟨ClX.pin_at I2, I2.kIn⟩ cm.fi ?_
  have hrep : Reps X.K c.cl (hide O H1) [.cls kc] [.ref (c.cl.at_ kc)] := reps_cons (by unfold Rep; rfl) reps_nil
  have z : wpAny (model X.prog X.w) X.A (call (.ref s1.heap.objs.size) []) (EP X ((s1.heap.objs.size, PySem.W.methodObj (.ref g) (.ref (c.cl.at_ kc))) :: pins) σ Q) X.xe s2 := by
    refine wpAny_call (PySem.W.method_call (ClX.pin_at I2) ?_)
    refine codeAny_mono (Fn X.A X.stack s2 H1 [.ref (c.cl.at_ kc)] [.ref (c.cl.at_ kc)] Q (WE W σ) hr I2.env0 (.cons rfl .nil) (spR_of R hrep h)) fun r s' hq => ?_
    cases r with
    | error e => exact passAt tk σ _ H1 s2 e s' I2 hq
    | ok fl =>
      cases fl with
      | ret u => exact I2.after hq
      | next => exact False.elim hq
      | brk => exact False.elim hq
      | cont => exact False.elim hq
  exact thn z fun _ _ y => ClX.unpinE y
theorem ds_setLc {i : Nat} {y : Str} {py : Pos} {own : List (Str × Nat)} {elt tg iter : Expr} {ifs : List Expr} {scope : Scope} {spos : Pos} {wi : TI} {T : List Nat} {f : En → Res D} {fe : En → Res D} {ft : En → Res Bool} {h : D → En → Option En} (hw : ∀ σ H Q, tE X.K c W f σ H Q → tLc wi (tG X.K c T h) (tTt X.K c W0 ft) (tE X.K c W0 fe) (own.map (·.2)) σ H Q)
    (hc : X.calm = true) (hN : X.N.Nodup) (hi : PI X tg iter wi) (ok : BlkOk X.N X.env.scope scope own)
    (hg : ∀ (s : Shared) (H : Hp) (C : Addr) (cl : List (Str × Addr)) (fp : List Addr), DG (X.blk s H scope (compEnvC scope cl C X.env) fp) c T tg h) (ht : ∀ (s : Shared) (H : Hp) (C : Addr) (cl : List (Str × Addr)) (fp : List Addr), DTs (X.blk s H scope (compEnvC scope cl C X.env) fp) c W0 ifs ft)
    (he : ∀ (s : Shared) (H : Hp) (C : Addr) (cl : List (Str × Addr)) (fp : List Addr), DE (X.blk s H scope (compEnvC scope cl C X.env) fp) c W0 elt fe)
    (hy : X.N[i]? = some y := by rfl) (hyl : X.env.scope.names.lookup y = some .local := by rfl) (hsw : swapsWith (.ListComp elt [⟨tg, iter, ifs, 0⟩] scope pos) (some (.Name y py)) spos.line X.env = pure true := by exact sw_true rfl rfl rfl (by decide +kernel)) (hs : ∀ x, foldedSetIterable iter X.env x = pure x := by intro _; rfl) :
    DS X c W (.Assign [.Name y py] (.ListComp elt [⟨tg, iter, ifs, 0⟩] scope pos) spos) (sAsg f (gV i)) := ps_imp (ps_setLc hc hN hy hyl hsw hi ok hg ht he hs) fun D σ H ⟨env, O, R, p⟩ =>
  hw σ H _ ⟨env, O, R, post_lift R p fun d v H1 x1 r1 R1 p1 => by
    unfold gV at p1
    by_cases hl : i < env.length
    · rw [if_pos hl] at p1; exact p1 _ H1 O (R1.set r1 hl) Ext.rfl'
    · rw [if_neg hl] at p1; exact p1.elim⟩
end
end Dl
namespace Dl
open PySem PySem.Spec PyProof.Rows L2
section
variable {X : Cx} {c : Cc} {W : WX} {a b e t o : Expr} {fa fb fe : En → Res D} {ft : En → Res Bool} {pos p : Pos}
/-! ### + of all kinds, powers -/
def gAddW : D → D → Res D := gAlt gAddI (gAlt gCat (gAlt gCatT gCatS))
theorem ow_addW : OpW X c W (binaryOp .Add) gAddW := ow_addI.alt (ow_cat.alt (ow_catT.alt ow_catS))
instance {i j : Int} : Decidable (CPow i j) := inferInstanceAs (Decidable (_ ∧ _ ∧ _))
def gPowI := gI fun i j => if 0 ≤ j ∧ j ≤ 1000000 ∧ i.natAbs < 2 ^ 64 then .ok (.int (i ^ j.toNat)) else .bad
theorem ow_powI : OpW X c W (binaryOp .Pow) gPowI := opW_I (C := CPow) op_pow fun _ _ _ _ => repS_int
/-! ### isinstance, by classes -/
def isiB (T : String) : Tg → Option Bool
  | .non => some (T == "NoneType")
  | .bl => some (T == "bool" || T == "int")
  | .int => some (T == "int")
  | .str => some (T == "str")
  | .tup => some (T == "tuple")
  | .lst => some (T == "list")
  | .dic => some (T == "dict")
  | .ins _ => none
def isiT_str := isiB "str"
def isiT_int := isiB "int"
def isiT_bool := isiB "bool"
def isiT_tuple := isiB "tuple"
def isiT_list := isiB "list"
def isiT_dict := isiB "dict"
theorem isiT_str_ok {K : PySem.W.Frag} {cl : Cl} : ∀ tg r, isiT_str tg = some r → PySem.W.kitOne K (tgV cl tg) (.type "str") = some r := fun tg r h => by
  cases tg <;> cases h <;> exact kit_ty (by decide +kernel)
theorem isiT_int_ok {K : PySem.W.Frag} {cl : Cl} : ∀ tg r, isiT_int tg = some r → PySem.W.kitOne K (tgV cl tg) (.type "int") = some r := fun tg r h => by
  cases tg <;> cases h <;> exact kit_ty (by decide +kernel)
theorem isiT_bool_ok {K : PySem.W.Frag} {cl : Cl} : ∀ tg r, isiT_bool tg = some r → PySem.W.kitOne K (tgV cl tg) (.type "bool") = some r := fun tg r h => by
  cases tg <;> cases h <;> exact kit_ty (by decide +kernel)
theorem isiT_tuple_ok {K : PySem.W.Frag} {cl : Cl} : ∀ tg r, isiT_tuple tg = some r → PySem.W.kitOne K (tgV cl tg) (.type "tuple") = some r := fun tg r h => by
  cases tg <;> cases h <;> exact kit_ty (by decide +kernel)
theorem isiT_list_ok {K : PySem.W.Frag} {cl : Cl} : ∀ tg r, isiT_list tg = some r → PySem.W.kitOne K (tgV cl tg) (.type "list") = some r := fun tg r h => by
  cases tg <;> cases h <;> exact kit_ty (by decide +kernel)
theorem isiT_dict_ok {K : PySem.W.Frag} {cl : Cl} : ∀ tg r, isiT_dict tg = some r → PySem.W.kitOne K (tgV cl tg) (.type "dict") = some r := fun tg r h => by
  cases tg <;> cases h <;> exact kit_ty (by decide +kernel)
def isiT_lt : Tg → Option Bool
  | .ins _ => none
  | .tup => some true
  | .lst => some true
  | _ => some false
theorem isiT_lt_ok {K : PySem.W.Frag} {cl : Cl} : ∀ tg r, isiT_lt tg = some r → PySem.W.kitAny K (tgV cl tg) [.type "list", .type "tuple"] = some r := fun tg r h => by
  have k : ∀ (a : String) (r1 r2 : Bool), PySem.W.kitOne K (.type a) (.type "list") = some r1 → PySem.W.kitOne K (.type a) (.type "tuple") = some r2 → PySem.W.kitAny K (.type a) [.type "list", .type "tuple"] = some (r1 || r2) := fun a r1 r2 h1 h2 => by
    show (match PySem.W.kitOne K (.type a) (.type "list") with | _ => _) = _
    simp only [PySem.W.kitAny, h1, h2]
    cases r1 <;> cases r2 <;> rfl
  cases tg <;> cases h
  · exact k "NoneType" false false (kit_ty (by decide +kernel)) (kit_ty (by decide +kernel))
  · exact k "bool" false false (kit_ty (by decide +kernel)) (kit_ty (by decide +kernel))
  · exact k "int" false false (kit_ty (by decide +kernel)) (kit_ty (by decide +kernel))
  · exact k "str" false false (kit_ty (by decide +kernel)) (kit_ty (by decide +kernel))
  · exact k "tuple" false true (kit_ty (by decide +kernel)) (kit_ty (by decide +kernel))
  · exact k "list" true false (kit_ty (by decide +kernel)) (kit_ty (by decide +kernel))
  · exact k "dict" false false (kit_ty (by decide +kernel)) (kit_ty (by decide +kernel))
def isiC (k : Nat) : Tg → Option Bool
  | .ins j => if j = k then some true else none
  | _ => none
theorem isiC_ok {K : PySem.W.Frag} {cl : Cl} {k : Nat} : ∀ tg r, isiC k tg = some r → PySem.W.kitOne K (tgV cl tg) (.ref (cl.at_ k)) = some r := fun tg r h => by
  cases tg with
  | ins j =>
    unfold isiC at h
    dsimp only at h
    by_cases e : j = k
    · subst e; rw [if_pos rfl] at h; cases h
      show (if (Value.ref (cl.at_ j) == Value.ref (cl.at_ j)) = true then some true else _) = _
      rw [if_pos (by simp)]
    · rw [if_neg e] at h; cases h
  | _ => cases h
theorem isiC_in {K : PySem.W.Frag} {cl : Cl} {k : Nat} (h : InsTy K (cl.at_ k)) : ∀ j r, isiC k (.ins j) = some r → InsTy K (cl.at_ j) := fun j r e => by
  unfold isiC at e
  dsimp only at e
  by_cases q : j = k
  · subst q; exact h
  · rw [if_neg q] at e; cases e
/-! ### constants of the module: a tuple of texts -/
theorem tupK_rep {K : PySem.W.Frag} {a : Addr} {xs : List Str} (h : ∃ (o : Obj) (its : Array Value) (n : Nat), K.lookup a = some o ∧ o.cls = .type "tuple" ∧ o.data = .seq its n ∧ its.size ≤ sizeLine ∧ Vals (xs.map V.str) its.toList) (O : List Addr) (H : Hp) : RepS K c O H (.tup (xs.map D.str)) (.ref a) := by
  have q : ∀ (ys : List Str), Reps K c.cl (hide O H) (ys.map D.str) (ys.map V.str) := fun ys => by
    induction ys with
    | nil => exact reps_nil
    | cons y ys ih => exact reps_cons (by unfold Rep; rfl) ih
  exact rep_tup (Or.inr h) (q xs)
/-! ### not, of an instance by its length, as a value -/
theorem de_notO {k kc : Nat} {f : Addr} {F : List D → Res D} (h : DE X c W e fe) (Fn : FnD X.prog X.w X.K X.mg X.base c.cl k f F) (hr : Room (k + 1) X.A) (tk : Takes X W) (hb : PySem.W.findIn X.K (.ref (c.cl.at_ kc)) "__bool__" = some none) (hs : PySem.W.findIn X.K (.ref (c.cl.at_ kc)) "__len__" = some (some (.ref f))) (hi : PySem.W.isFn X.K (.ref f) = true) : DE X c W (.UnaryOp .Not e pos) (eNotT (fun env => (fe env).bind (truOwn kc F))) := by
  refine ⟨fun pins s σ H Q I ⟨env, O, R, p⟩ => ?_⟩
  have p' : Post X.K c W σ H (RepS X.K c O) ((fe env).bind fun d => (truOwn kc F d).bind fun k => .ok (.bl (!k))) Q := by
    unfold eNotT at p
    dsimp only at p
    cases z : fe env with
    | ok d => rw [z] at p; exact p
    | ex _ _ => rw [z] at p; exact p
    | bad => rw [z] at p; exact p
  refine UnaryOp_ (thn (h.run pins s σ H (fun v H1 => ∃ d, Rl X.K c O env σ H1 ∧ RepS X.K c O H1 d v ∧ Post X.K c W σ H1 (RepS X.K c O) ((truOwn kc F d).bind fun k => .ok (.bl (!k))) Q) I ⟨env, O, R, post_bind p' fun d v H1 x1 r1 p1 => ⟨d, R.mono x1, r1, p1⟩⟩) fun u s1 ⟨v, H1, I1, ru, d, R1, r1, p1⟩ => ?_)
  unfold truOwn at p1
  split at p1
  · rename_i k' ns xs
    by_cases hk : k' = kc
    · rw [if_pos hk] at p1
      subst hk
      refine not_of (tru_own (Q := fun v H' => ∃ b, v = .bl b ∧ Q (.bl (!b)) H') Fn hr.in1 I1.env0.in1 tk hb hs hi I1 R1 ru r1 ?_ fun b H' s' I' ⟨b', e', q⟩ => ⟨.bl (!b), H', I', rfl, by cases e'; exact q⟩)
      cases z : lenI (F [.ins k' ns xs]) with
      | ok n => rw [z] at p1; exact fun v H' x r => ⟨n != 0, RepW.bl (.inl r), p1 _ H' x repS_bl⟩
      | ex _ _ => rw [z] at p1; exact p1
      | bad => rw [z] at p1; exact p1.elim
    · rw [if_neg hk] at p1; exact p1.elim
  · exact p1.elim
end
section
variable {P : Program} {w : World} {K : PySem.W.Frag} {mg : Str → Option Value} {base : Heap} {cl : Cl} {k kc n : Nat} {f : Addr} {F G : List D → Res (List Str × List D)}
theorem fnI_two (hF : FnR P w K mg base (L2.CX P w) k f (spI K cl kc F)) (hG : FnR P w K mg base (L2.CX P w) k f (spI K cl kc G)) : FnR P w K mg base (L2.CX P w) k f (spI K cl kc fun ds => if ds.length = n then F ds else G ds) := by
  intro A outer s H us vs Q E hr e0 rv ⟨H1, x, dx, ws, ds, O, e1, e2, n1, n2, ne, dom, r, p⟩
  by_cases h : ds.length = n
  · dsimp only at p
    rw [if_pos h] at p
    exact hF A outer s H us vs Q E hr e0 rv ⟨H1, x, dx, ws, ds, O, e1, e2, n1, n2, ne, dom, r, p⟩
  · dsimp only at p
    rw [if_neg h] at p
    exact hG A outer s H us vs Q E hr e0 rv ⟨H1, x, dx, ws, ds, O, e1, e2, n1, n2, ne, dom, r, p⟩
end
section
/-- self.f = e within __init__, by the class of self -/
def sSetFk (kc i : Nat) (f : Str) (fe : En → Res D) : En → Out := fun env => match env[i]? with | some (.ow (.ins k _ _)) => if k = kc then sSetF i f fe env else .bad | _ => .bad
end
end Dl
namespace Dl
open PySem PySem.Spec PyProof.Rows L2
section
variable {P : Program} {w : World} {K : PySem.W.Frag} {mg : Str → Option Value} {base : Heap} {cl : Cl}
/-- what is wished of the law itself -/
def spL (K : PySem.W.Frag) : Sp := fun vs H Q _ => ∃ (a : Addr) (ns : List Int), vs = [V.ref a] ∧ SqL K H a (ns.map V.int) ∧ ns.length ≤ 63 ∧ ∀ H', Q (.bl true) H'
theorem law_fn {x qual pr : Str} {st : Stmt} {f : Addr} {fd : FuncData} {kws : List (Str × V)} {N : List Str} {k : Nat} {fb : En → Out} (F : FunD K x qual (defArgs st) (defBody st) (defScope st) [] kws f fd) (S : FnScope N [pr] (defScope st))
    (body : ∀ (cdv : Value) (A : Around) (outer : List PySem.Env) (s : Shared) (H : Hp) (E : XK) (c : Cc), c.cl = cl → Room k (A.deeper (envOfC qual (defScope st) s.heap.objs.size f cdv)) → DSs (Xb P w K mg base N qual st f cdv A outer s H E) c (Wb E) (defBody st) fb)
    (ht : ∀ ns : List Int, ns.length ≤ 63 → outR (fb (startE N [.scr ns])) = .ok (.bl true)) :
    FnOk P w K mg base (L2.CX P w) (k + 1) f fd [pr] (spL K) := by
  refine fnOk_of F S (fun vs H Q E ⟨a, ns, e, _⟩ => by rw [e]; rfl) fun cdv A outer s H vs Q E hr ⟨a, ns, e, hS, hl, hQ⟩ => ?_
  have hid : Ext H (hide [] H) := fun b o e => by unfold hide; rw [if_neg (by simp)]; exact e
  refine ⟨_, body cdv A outer s H E ⟨cl, H, [], 0⟩ rfl hr, body_run (O := []) (ds := [.scr ns]) (t := tNext) (fun _ h => nomatch h) ?_ ?_⟩
  · rw [e]
    exact reps_cons (by unfold Rep; exact ⟨a, rfl, hS.ext hid⟩) reps_nil
  · rw [ht ns hl]
    intro v H' _ r
    unfold Rep at r
    subst r
    exact hQ H'
end
theorem law_walk {l : PySem.W.OpenLaw} {q : Program} {loose : List Str} {XP : (Str → Option Value) → Heap → Prop} {YP : World → Heap → Prop} {d : DefRec} {K : Params → PySem.W.Frag} {k : Nat} {pr : Str} (hn : l.most = some 63) (hdf : d.params.defaults = []) (hr : Room k callerA)
    (hY : ∀ (w : World) (h : Heap), YP w h → (K w.params).In h)
    (F : ∀ (w : World) (mg : Str → Option Value) (fa : Addr) (h : Heap), (K w.params).In h → h.Ns mainGlobals mg → mg d.name = some (.ref fa) →
      ∃ fd : FuncData, (∀ (s : Shared) (u : Value), BindsTo s fd ⟨[u], []⟩ [(pr, u)]) ∧ ∀ base : Heap, (K w.params).In base → base.Ns mainGlobals mg → FnOk l.prog w (K w.params) mg base (L2.CX l.prog w) k fa fd [pr] (spL (K w.params))) :
    PySem.W.WalkO q loose XP YP l.row.toRowW d [] (fun f vs => PySem.call f vs) :=
  L2.walk_of (n := 63) (k := k) (x := pr) (CX := fun w => L2.CX l.prog w) (sp := fun w => spL (K w.params)) hn (by decide) hdf hr hY F (fun _ _ a ns hl _ hS => ⟨a, ns, rfl, hS, hl, fun _ => rfl⟩) fun _ _ _ _ _ ⟨_, _, _, _, _, _, _, _, _, _, _, _, h⟩ => h
end Dl
namespace Dl
open PySem PySem.Spec PyProof.Rows L2
section
variable {X : Cx} {c : Cc} {W : WX} {a b e t o : Expr} {es : List Expr} {fa fb fe ff : En → Res D} {fs : En → Res (List D)} {ft : En → Res Bool} {pos pos3 p p2 : Pos} {x m : Str}
/-! ### raise X('..') of an own class -/
def sRaise (k : Nat) : En → Out := fun env => .xx k [] env
/-- what of an error's class the text must have -/
structure ErrC (K : PySem.W.Frag) (C : Addr) : Prop where
  ex : PySem.W.excIn K C [Value.type "ValueError", Value.type "Exception", Value.type "BaseException", Value.type "object"] "ValueError.__new__" = true
  kp : PySem.W.keepIn K (.ref C) = true
  sub : PySem.W.subIn K (.ref C) (.type "BaseException") = some true
  ty : PySem.W.typeIn K (.ref C) = some (.type "type")
theorem ds_raise {k : Nat} {C : Addr} {j} (hC : ErrC X.K C) (hx : c.cl.xv k = .ref C) (hm : X.mg x = some (.ref C)) (hc : X.calm = true) (tk : Takes X W) (hg : Gl X x := by rfl) (hdb : (x == ("__debug__" : Str)) = false := by decide) :
    DS X c W (.Raise (some (.Call (.Name x p) [.Constant (.str m) j p2] [] pos3)) none pos) (sRaise k) :=
  ps_imp (ps_raise hc tk (pmk_own PySem.F.excBase_ValueError hC.ex hm hC.kp (raises_own hC.sub hC.ty) hg hdb)) fun D σ H ⟨env, O, R, q⟩ => by
    have z : Rz X.K c W k [] σ H := q σ H O R
    unfold Rz at z
    rw [hx] at z
    exact z
/-! ### try .. except X -/
/-- which of the errors are of the class that is caught -/
def sTry (ex : Nat → Option Bool) (f g : En → Out) : En → Out := fun env => match f env with
  | .xx k [] env' => match ex k with
    | some true => (match g env' with | .rt d => .rt d | _ => .bad)
    | some false => .xx k [] env'
    | none => .bad
  | .xx _ _ _ => .bad
  | r => r
theorem ds_try {ex : Nat → Option Bool} {cv : Value} {body suite : List Stmt} {b₀ : Stmt} {np pos' : Pos} {f g : En → Out} (h1 : X.stack = X.env :: X.outer) (h2 : X.env.frame = some X.env.locals) (hn : Names X x cv) (tk : Takes X W)
    (hx : ∀ k r, ex k = some r → PySem.W.exmOne X.K (c.cl.xv k) cv = some r)
    (hb : ∀ (W : WX) (pn : List (Addr × Obj)) (xe : Value → Shared → Prop), Takes (X.tr pn xe) W → PassesOwn (model X.prog X.w) X.A X.env xe → DSs (X.tr pn xe) c W body f)
    (hs : ∀ (a : Addr) (oe : Obj) (pn : List (Addr × Obj)), DSs (X.suite a ((a, oe) :: pn)) c W0 (b₀ :: suite) g) :
    DS X c W (.Try body [.ExceptHandler (some (.Name x np)) none (b₀ :: suite) pos'] [] [] pos) (sTry ex f g) :=
  ps_imp (ps_try_only (tb := fun W => tS X.K c W f) (ts := fun _ _ _ => tS X.K c W0 g) h1 h2 hn tk hb fun a oe cls d pn _ _ => hs a oe pn) fun D σ H ⟨env, O, R, p⟩ => ⟨env, O, R, by
    unfold sTry at p
    cases q : f env with
    | nx e => rw [q] at p; exact p
    | rt d => rw [q] at p; exact p
    | bk e => rw [q] at p; exact p
    | ct e => rw [q] at p; exact p
    | bad => rw [q] at p; exact p
    | xx k l e =>
      rw [q] at p
      cases l with
      | cons _ _ => exact p.elim
      | nil =>
        dsimp only at p
        intro σ' H' O' R'
        unfold Rz
        cases z : ex k with
        | none => rw [z] at p; exact p.elim
        | some r =>
          rw [z] at p
          refine ⟨r, hx k r z, fun hr a ha => ?_, fun hr => ?_⟩
          · subst hr
            dsimp only at p
            refine ⟨e, O', R', ?_⟩
            cases y : g e with
            | rt d => rw [y] at p; exact p
            | nx _ => rw [y] at p; exact p.elim
            | bk _ => rw [y] at p; exact p.elim
            | ct _ => rw [y] at p; exact p.elim
            | bad => rw [y] at p; exact p.elim
            | xx _ _ _ => rw [y] at p; exact p.elim
          · subst hr
            exact p σ' H' O' R'⟩
end
end Dl
namespace Dl
open PySem PySem.Spec PyProof.Rows L2
section
variable {X : Cx} {c : Cc} {W : WX} {a b e t o : Expr} {es : List Expr} {fa fb fe ff fc : En → Res D} {fs : En → Res (List D)} {ft : En → Res Bool} {pos p p2 : Pos} {x m : Str}
/-! ### a <= b < c, of whole numbers -/
def eChain (g g' : Int → Int → Bool) (fa fb fc : En → Res D) : En → Res D := fun env => (fa env).bind fun x => (fb env).bind fun y => match x, y with
  | .int i, .int j => if g i j = true then (fc env).bind fun z => (match z with | .int k => .ok (.bl (g' j k)) | _ => .bad) else .ok (.bl false)
  | _, _ => .bad
theorem chain_t {K : PySem.W.Frag} {g g' : Int → Int → Bool} {σ : L2.St} {H : Hp} {Q : VK} (h : tE K c W (eChain g g' fa fb fc) σ H Q) :
    tChain (rI0 fun i j => .bl (g i j)) (rI0 fun i j => .bl (g' i j)) (tE K c W fa) (tE K c W fb) (tE K c W fc) σ H Q := by
  obtain ⟨env, O, R, p⟩ := h
  refine ⟨env, O, R, post_bind p fun d v H1 x1 r1 p1 => ⟨env, O, R.mono x1, post_bind p1 fun d2 v2 H2 x2 r2 p2 => ?_⟩⟩
  cases d with
  | int i => cases d2 with
    | int j =>
      refine ⟨i, j, RepW.int (.inl (r1.mono x2)), RepW.int (.inl r2), g i j, rfl, ?_⟩
      dsimp only at p2
      by_cases h : g i j = true
      · rw [if_pos h] at p2
        rw [if_pos h]
        refine ⟨env, O, (R.mono x1).mono x2, post_bind p2 fun d3 v3 H3 x3 r3 p3 => ?_⟩
        cases d3 with
        | int k => exact ⟨j, k, RepW.int (.inl (RepS.mono r2 x3)), RepW.int (.inl r3), post_now p3 repS_bl⟩
        | _ => exact p3.elim
      · rw [if_neg h] at p2
        rw [if_neg h]
        exact post_now p2 repS_bl
    | _ => exact p2.elim
  | _ => cases d2 <;> exact p2.elim
def cLe (i j : Int) : Bool := decide (i ≤ j)
def cLt (i j : Int) : Bool := decide (i < j)
theorem or_le : OpR X (compareOp .LtE) (rI0 fun i j => .bl (cLe i j)) := op_le
theorem or_lt : OpR X (compareOp .Lt) (rI0 fun i j => .bl (cLt i j)) := op_lt
theorem de_chain {e1 e2 e3 : Expr} {op op' : CmpOp} {g g' : Int → Int → Bool} (h1 : OpR X (compareOp op) (rI0 fun i j => .bl (g i j))) (h2 : OpR X (compareOp op') (rI0 fun i j => .bl (g' i j))) (ha : DE X c W e1 fa) (hb : DE X c W e2 fb) (hc : DE X c W e3 fc)
    (hm : lastMarks [op, op'] [e2, e3] = false := by first | rfl | decide) : DE X c W (.Compare e1 [op, op'] [e2, e3] pos) (eChain g g' fa fb fc) :=
  pe_imp (pe_chain h1 h2 ha hb hc hm) fun σ H Q h => chain_t h
theorem dt_chain {e1 e2 e3 : Expr} {op op' : CmpOp} {g g' : Int → Int → Bool} (h1 : OpR X (compareOp op) (rI0 fun i j => .bl (g i j))) (h2 : OpR X (compareOp op') (rI0 fun i j => .bl (g' i j))) (ha : DE X c W e1 fa) (hb : DE X c W e2 fb) (hc : DE X c W e3 fc)
    (hm : lastMarks [op, op'] [e2, e3] = false := by first | rfl | decide) : DT X c W (.Compare e1 [op, op'] [e2, e3] pos) (eB (eChain g g' fa fb fc)) :=
  pt_imp (pt_chain h1 h2 ha hb hc hm) fun σ H Q ⟨env, O, R, p⟩ => chain_t ⟨env, O, R, post_bind p fun d v H1 x1 r1 p1 => by
    cases d with
    | bl k => exact ⟨k, RepW.bl (.inl r1), post_now p1 rfl⟩
    | _ => exact p1.elim⟩
/-! ### a dict of the module's top, with texts as keys -/
structure TopD (X : Cx) (x : Str) (d : Addr) (tab : List (Str × D)) : Prop where
  mg : X.mg x = some (.ref d)
  kd : ∃ es n, KDict X.K X.w d es n
  no : ∀ z, tab.lookup z = none → PySem.W.nsIn X.K d z = some none
  is_ : ∀ z y, tab.lookup z = some y → ∃ (u : Value) (v : V), PySem.W.nsIn X.K d z = some (some u) ∧ RelV v u ∧ ∀ (cl : Cl) (H : Hp), Rep X.K cl H y v
def gTopIn (tab : List (Str × D)) (neg : Bool) : D → Res D
  | .str z => .ok (.bl (if neg then !(tab.lookup z).isSome else (tab.lookup z).isSome))
  | _ => .bad
def gTopAt (tab : List (Str × D)) : D → Res D
  | .str z => match tab.lookup z with
    | some y => .ok y
    | none => .bad
  | _ => .bad
theorem top_v {x : Str} {d : Addr} {tab : List (Str × D)} (T : TopD X x d tab) (hg : Gl X x) (hd : (x == ("__debug__" : Str)) = false) : PE X (.Name x p) (tC (.ref d)) := pe_glob hg T.mg rfl hd
end
section
variable {X : Cx} {c : Cc} {W : WX} {a : Expr} {fa : En → Res D} {pos p : Pos} {x : Str} {d : Addr} {tab : List (Str × D)}
theorem top_run {f : Value → Value → Sem Value} {g : D → Res D} (ha : DE X c W a fa) (T : TopD X x d tab) (hg : Gl X x) (hd : (x == ("__debug__" : Str)) = false)
    (ho : ∀ (pins : List (Addr × Obj)) (s : Shared) (σ : L2.St) (H : Hp) (O : List Addr) (y : D) (v u : Value) (vy : V) (Q : VK), L2.Inv X pins σ H s → RelV vy v → u = .ref d → RepS X.K c O H y vy → Post X.K c W σ H (RepS X.K c O) (g y) Q → wpAny (model X.prog X.w) X.A (f v u) (EP X pins σ Q) X.xe s)
    {pins : List (Addr × Obj)} {s : Shared} {σ : L2.St} {H : Hp} {Q : VK} (I : L2.Inv X pins σ H s) (h : tE X.K c W (eAt g fa) σ H Q) :
    wpAny (model X.prog X.w) X.A (eval a X.env) (fun v s₁ => wpAny (model X.prog X.w) X.A (eval (.Name x p) X.env) (fun u s₂ => wpAny (model X.prog X.w) X.A (f v u) (EP X pins σ Q) X.xe s₂) X.xe s₁) X.xe s := by
  obtain ⟨env, O, R, q⟩ := h
  refine bin (R := fun vy vd H2 => ∃ y, vd = .ref d ∧ RepS X.K c O H2 y vy ∧ Post X.K c W σ H2 (RepS X.K c O) (g y) Q) ha (top_v (p := p) T hg hd) I ?_ fun v u s2 vy vd H2 I2 ry rd ⟨y, e, r, q2⟩ => ?_
  · exact ⟨env, O, R, post_bind q fun y vy H1 x1 r1 p1 => ⟨y, rfl, r1, p1⟩⟩
  · subst e
    exact ho pins s2 σ H2 O y v u vy Q I2 ry rd r q2
theorem topIn_op {neg : Bool} (T : TopD X x d tab) : ∀ (pins : List (Addr × Obj)) (s : Shared) (σ : L2.St) (H : Hp) (O : List Addr) (y : D) (v u : Value) (vy : V) (Q : VK), L2.Inv X pins σ H s → RelV vy v → u = .ref d → RepS X.K c O H y vy → Post X.K c W σ H (RepS X.K c O) (gTopIn tab neg y) Q → wpAny (model X.prog X.w) X.A (compareOp (if neg then .NotIn else .In) v u) (EP X pins σ Q) X.xe s := by
  intro pins s σ H O y v u vy Q I ry eu r q
  subst eu
  cases y with
  | str z =>
    obtain rfl := RepW.str (.inl r)
    obtain ⟨es, n, KD⟩ := T.kd
    have h : ∃ r0 : Option Value, PySem.W.nsIn X.K d z = some r0 ∧ r0.isSome = (tab.lookup z).isSome := by
      cases e : tab.lookup z with
      | none => exact ⟨none, T.no z e, rfl⟩
      | some y => obtain ⟨u, v, h1, _⟩ := T.is_ z y e; exact ⟨some u, h1, rfl⟩
    obtain ⟨r0, h1, h2⟩ := h
    have q : Post X.K c W σ H (RepS X.K c O) (.ok (.bl (if neg then !(tab.lookup z).isSome else (tab.lookup z).isSome))) Q := q
    rw [← h2] at q
    cases neg with
    | false => exact op_in_kd KD pins s σ H (.str z) (.ref d) v (.ref d) Q I ry rfl ⟨z, r0, rfl, rfl, h1, post_now q repS_bl⟩
    | true => exact op_notIn_kd KD pins s σ H (.str z) (.ref d) v (.ref d) Q I ry rfl ⟨z, r0, rfl, rfl, h1, post_now q repS_bl⟩
  | _ => exact q.elim
theorem pc_topIn (T : TopD X x d tab) (ha : DE X c W a fa) (hg : Gl X x) (hd : (x == ("__debug__" : Str)) = false) : PC X .In a (.Name x p) (tE X.K c W (eAt (gTopIn tab false) fa)) :=
  ⟨fun pins s σ H Q I h => top_run ha T hg hd (topIn_op (neg := false) T) I h⟩
theorem pc_topNotIn (T : TopD X x d tab) (ha : DE X c W a fa) (hg : Gl X x) (hd : (x == ("__debug__" : Str)) = false) : PC X .NotIn a (.Name x p) (tE X.K c W (eAt (gTopIn tab true) fa)) :=
  ⟨fun pins s σ H Q I h => top_run ha T hg hd (topIn_op (neg := true) T) I h⟩
theorem de_topIn (T : TopD X x d tab) (ha : DE X c W a fa) (hg : Gl X x := by rfl) (hd : (x == ("__debug__" : Str)) = false := by decide) (hm : behindInMarks .In (.Name x p) = false := by first | exact nobehind _ (by decide) (by decide) | rfl) : DE X c W (.Compare a [.In] [.Name x p] pos) (eAt (gTopIn tab false) fa) :=
  pe_cmp (pc_topIn T ha hg hd) hm
theorem de_topNotIn (T : TopD X x d tab) (ha : DE X c W a fa) (hg : Gl X x := by rfl) (hd : (x == ("__debug__" : Str)) = false := by decide) (hm : behindInMarks .NotIn (.Name x p) = false := by first | exact nobehind _ (by decide) (by decide) | rfl) : DE X c W (.Compare a [.NotIn] [.Name x p] pos) (eAt (gTopIn tab true) fa) :=
  pe_cmp (pc_topNotIn T ha hg hd) hm
theorem bl_t {f : En → Res D} {σ : L2.St} {H : Hp} {Q : Bool → Hp → Prop} (h : tTt X.K c W (eB f) σ H Q) : tE X.K c W f σ H (fun v H1 => ∃ b, v = .bl b ∧ Q b H1) := by
  obtain ⟨env, O, R, p⟩ := h
  exact ⟨env, O, R, post_bind p fun d v H1 x1 r1 p1 => by
    cases d with
    | bl k => exact ⟨k, RepW.bl (.inl r1), post_now p1 rfl⟩
    | _ => exact p1.elim⟩
theorem dt_topIn (T : TopD X x d tab) (ha : DE X c W a fa) (hg : Gl X x := by rfl) (hd : (x == ("__debug__" : Str)) = false := by decide) (hm : behindInMarks .In (.Name x p) = false := by first | exact nobehind _ (by decide) (by decide) | rfl) : DT X c W (.Compare a [.In] [.Name x p] pos) (eB (eAt (gTopIn tab false) fa)) :=
  pt_imp (pt_cmp (pc_topIn T ha hg hd) hm) fun σ H Q h => bl_t h
theorem dt_topNotIn (T : TopD X x d tab) (ha : DE X c W a fa) (hg : Gl X x := by rfl) (hd : (x == ("__debug__" : Str)) = false := by decide) (hm : behindInMarks .NotIn (.Name x p) = false := by first | exact nobehind _ (by decide) (by decide) | rfl) : DT X c W (.Compare a [.NotIn] [.Name x p] pos) (eB (eAt (gTopIn tab true) fa)) :=
  pt_imp (pt_cmp (pc_topNotIn T ha hg hd) hm) fun σ H Q h => bl_t h
end
end Dl
namespace Dl
open PySem PySem.Spec PyProof.Rows L2
section
variable {X : Cx} {c : Cc} {W : WX} {a b e t o : Expr} {es : List Expr} {fa fb fe ff fc : En → Res D} {fs : En → Res (List D)} {ft : En → Res Bool} {pos p p2 : Pos} {x m : Str} {d : Addr} {tab : List (Str × D)}
/-- TABLE[e] -/
theorem de_topAt (T : TopD X x d tab) (hb : DE X c W b fb) (hg : Gl X x := by rfl) (hd : (x == ("__debug__" : Str)) = false := by decide) (hs : PlainIx b := by exact fun _ _ => rfl) : DE X c W (.Subscript (.Name x p) b pos) (eAt (gTopAt tab) fb) :=
  pe_imp (pe_ix ix_kdict (top_v (p := p) T hg hd) hb hs) fun σ H Q ⟨env, O, R, q⟩ => by
    show tE X.K c W fb σ H _
    exact ⟨env, O, R, post_bind q fun y vy H1 x1 r1 p1 => by
      cases y with
      | str z =>
        obtain rfl := RepW.str (.inl r1)
        obtain ⟨es, n, KD⟩ := T.kd
        have p1 : Post X.K c W σ H1 (RepS X.K c O) (match tab.lookup z with | some y => Res.ok y | none => .bad) Q := p1
        cases e : tab.lookup z with
        | none => rw [e] at p1; exact p1.elim
        | some y =>
          rw [e] at p1
          obtain ⟨u, v, h1, h2, h3⟩ := T.is_ z y e
          exact ⟨d, z, v, rfl, rfl, ⟨es, n, u, KD.at_, KD.lit, h1, h2⟩, post_now p1 (h3 _ _)⟩
      | _ => exact p1.elim⟩
/-- a number of the module's top -/
theorem de_globI {i : Int} (h : ∃ t, X.mg x = some (.int i t)) (hg : Gl X x := by rfl) (hd : (x == ("__debug__" : Str)) = false := by decide) : DE X c W (.Name x p) (eC (.int i)) := by
  obtain ⟨t, h⟩ := h
  exact de_glob (v := .int i) h ⟨t, rfl⟩ (fun _ _ => repS_int) hg hd
end
/-- the entries of a written table, beside what they are read as -/
inductive Rows (K : PySem.W.Frag) : List DictEntry → List (Str × D) → Prop where
  | nil : Rows K [] []
  | cons {e : DictEntry} {es : List DictEntry} {k : Str} {t : Tok} {v : V} {y : D} {tab : List (Str × D)} (hk : e.key = .str k t) (hv : RelV v e.val) (hr : ∀ (cl : Cl) (H : Hp), Rep K cl H y v) (r : Rows K es tab) : Rows K (e :: es) ((k, y) :: tab)
theorem Rows.plain {K : PySem.W.Frag} {es : List DictEntry} {tab : List (Str × D)} (r : Rows K es tab) : es.any (·.refKey) = false := by
  induction r with
  | nil => rfl
  | @cons e es k t v y tab hk hv hr r ih =>
    rw [List.any_cons, ih]
    have : e.refKey = false := by
      obtain ⟨key, hash, val⟩ := e
      dsimp only at hk
      subst hk
      rfl
    rw [this]
    rfl
theorem isStr_is (k z : Str) (t : Tok) : (Value.str k t).isStr z = (z == k) := by
  rw [PySem.W.isStr_of]
  show (k == z) = (z == k)
  exact Bool.eq_iff_iff.mpr (by rw [beq_iff_eq, beq_iff_eq]; exact eq_comm)
theorem Rows.find {K : PySem.W.Frag} {es : List DictEntry} {tab : List (Str × D)} (r : Rows K es tab) (z : Str) :
    (tab.lookup z = none → es.find? (·.key.isStr z) = none) ∧ ∀ y, tab.lookup z = some y → ∃ e v, es.find? (·.key.isStr z) = some e ∧ RelV v e.val ∧ ∀ (cl : Cl) (H : Hp), Rep K cl H y v := by
  induction r with
  | nil => exact ⟨fun _ => rfl, fun y h => by cases h⟩
  | @cons e es k t v y tab hk hv hr r ih =>
    have q : e.key.isStr z = (z == k) := by rw [hk, isStr_is]
    rw [List.find?_cons, q, List.lookup_cons]
    cases z == k with
    | true => exact ⟨fun h => (nomatch h), fun y' h => by cases h; exact ⟨e, v, rfl, hv, hr⟩⟩
    | false => exact ih
theorem topD_of {X : Cx} {x : Str} {d : Addr} {es : List DictEntry} {n : Nat} {tab : List (Str × D)} (hm : X.mg x = some (.ref d)) (hl : X.K.lookup d = some ⟨.type "dict", none, .dict es.toArray n, #[]⟩) (lit : PySem.W.KeysLit X.w.params es) (low : (d == sysModules) = false) (r : Rows X.K es tab) : TopD X x d tab :=
  ⟨hm, ⟨es.toArray, n, hl, by rw [List.toList_toArray]; exact lit, low⟩, fun z hz => by
    unfold PySem.W.nsIn
    rw [hl]
    dsimp only
    show (match es.find? (·.key.isStr z) with | some e => some (some e.val) | none => if es.any (·.refKey) then none else some none) = _
    simp only [(r.find z).1 hz, r.plain]
    rfl, fun z y hz => by
    obtain ⟨e, v, h1, h2, h3⟩ := (r.find z).2 y hz
    refine ⟨e.val, v, ?_, h2, h3⟩
    unfold PySem.W.nsIn
    rw [hl]
    dsimp only
    show (match es.find? (·.key.isStr z) with | some e => some (some e.val) | none => if es.any (·.refKey) then none else some none) = _
    rw [h1]⟩
theorem topD_pk {X : Cx} {x : Str} {d : Addr} {tab : List (Str × D)} (h : X.mg x = some (.ref d) ∧ ∃ (es : List DictEntry) (n : Nat), X.K.lookup d = some ⟨.type "dict", none, .dict es.toArray n, #[]⟩ ∧ PySem.W.KeysLit X.w.params es ∧ (d == sysModules) = false ∧ Rows X.K es tab) : TopD X x d tab := by
  obtain ⟨hm, es, n, h1, h2, h3, h4⟩ := h
  exact topD_of hm h1 h2 h3 h4
end Dl
namespace Dl
open PySem PySem.Spec PyProof.Rows L2
section
variable {K : PySem.W.Frag} {c : Cc} {O : List Addr} {env : En} {σ : L2.St} {H H' : Hp}
theorem hide_ext_new {p : Addr} {o : HO} (h : H p = none) : Ext (hide O H) (hide (p :: O) (upd H p o)) := fun b u e => by
  unfold hide at e ⊢
  by_cases q : b ∈ O
  · rw [if_pos q] at e; cases e
  · rw [if_neg q] at e
    have n : b ≠ p := fun z => by rw [z, h] at e; cases e
    rw [if_neg (fun z => (List.mem_cons.mp z).elim n q), upd_ne n]
    exact e
/-- a slot takes a new list that is its own -/
theorem Rl.own_new (r : Rl K c O env σ H) {i : Nat} {xs : List D} {vs : List V} {p : Addr} (hp : H p = none) (h : Reps K c.cl (hide O H) xs vs) (hi : i < env.length) :
    Rl K c (p :: O) (env.set i (.ow (.lst xs))) (σ.set i (some (.ref p))) (upd H p (.lst vs)) := by
  have x : Ext (hide O H) (hide (p :: O) (upd H p (.lst vs))) := hide_ext_new hp
  have x' : Ext H (upd H p (.lst vs)) := Ext.upd hp
  have np : p ∉ O := r.new hp
  have h0 : c.H0 p = none := by
    cases q : c.H0 p with
    | none => rfl
    | some u => have := r.ext p u q; rw [hp] at this; cases this
  have ng : ∀ (j : Nat) (u : Own) (a : Addr), env[j]? = some (.ow u) → σ[j]? = some (some (.ref a)) → a ≠ p := fun j u a e1 e2 z => by
    obtain ⟨b, g1, g2, _⟩ := r.ow j u e1
    rw [e2] at g1
    cases g1
    exact np (z ▸ g2)
  refine ⟨by rw [List.length_set, List.length_set, r.len], r.ext.trans x', fun a ha => List.mem_cons_of_mem _ (r.sub a ha), fun a ha => ?_, fun j d e => ?_, fun j u e => ?_, fun j k ns ys e => ?_, fun j k u u' a e1 e2 e3 e4 => ?_⟩
  · rcases List.mem_cons.mp ha with rfl | ha
    · exact ⟨_, upd_same⟩
    · obtain ⟨o, e⟩ := r.dom a ha
      exact ⟨o, x' _ _ e⟩
  · rcases getE_set e with ⟨rfl, q⟩ | ⟨n, e⟩
    · cases q
    · obtain ⟨w, h1, h2⟩ := r.sh j d e
      exact ⟨w, by rw [List.getElem?_set_ne (Ne.symm n)]; exact h1, rep_mono x d w h2⟩
  · rcases getE_set e with ⟨rfl, q⟩ | ⟨n, e⟩
    · cases q
      exact ⟨p, List.getElem?_set_self (by rw [← r.len]; exact hi), List.mem_cons_self .., h0, fun z => np (r.sub p z), vs, upd_same, reps_mono x _ _ h⟩
    · obtain ⟨a, h1, h2, h3, h4, h5⟩ := r.ow j u e
      exact ⟨a, by rw [List.getElem?_set_ne (Ne.symm n)]; exact h1, List.mem_cons_of_mem _ h2, h3, h4, h5.mono x x'⟩
  · rcases getE_set e with ⟨rfl, q⟩ | ⟨n, e⟩
    · cases q
    · rw [List.getElem?_set_ne (Ne.symm n)]
      exact r.me j k ns ys e
  · rcases getE_set e1 with ⟨z1, q1⟩ | ⟨n1, f1⟩
    · rcases getE_set e2 with ⟨z2, q2⟩ | ⟨n2, f2⟩
      · rw [z1, z2]
      · subst z1
        rw [List.getElem?_set_self (by rw [← r.len]; exact hi)] at e3
        cases e3
        rw [List.getElem?_set_ne (Ne.symm n2)] at e4
        exact absurd rfl (ng k u' p f2 e4)
    · rw [List.getElem?_set_ne (Ne.symm n1)] at e3
      rcases getE_set e2 with ⟨z2, q2⟩ | ⟨n2, f2⟩
      · subst z2
        rw [List.getElem?_set_self (by rw [← r.len]; exact hi)] at e4
        cases e4
        exact absurd rfl (ng j u p f1 e3)
      · rw [List.getElem?_set_ne (Ne.symm n2)] at e4
        exact r.inj j k u u' a f1 f2 e3 e4
end
section
variable {X : Cx} {c : Cc} {W : WX} {a b e t o : Expr} {es : List Expr} {fa fb fe ff fc : En → Res D} {fs : En → Res (List D)} {ft : En → Res Bool} {pos pos3 p p2 lp apos : Pos} {x m : Str}
/-! ### x = [..], a list that x alone holds | x.append(e) -/
def sNewL (i : Nat) (fs : En → Res (List D)) : En → Out := fun env => lift (fs env) env fun ds => if ds.length ≤ 100000 ∧ i < env.length then .nx (env.set i (.ow (.lst ds))) else .bad
theorem ds_newL (i : Nat) (hN : X.N.Nodup) (ha : DA X c W es fs) (hi : X.N[i]? = some x := by rfl) (hx : Loc X.env.scope x := by first | exact Or.inl rfl | exact Or.inr rfl) (hf : X.fn x = true ∨ X.env.scope.names.lookup x = some .local := by first | exact .inl rfl | exact .inr rfl)
    (hs : swapsWithSole [.Name x p] (.List es lp) pos.line X.env = pure false := by rfl) (hw : swappedStores [.Name x p] (.List es lp) X.env = pure none := by rfl)
    (h1 : (assignEach [.Name x p] X.env).map (·.2) = [assign (.Name x p) X.env] := by rfl) : DS X c W (.Assign [.Name x p] (.List es lp) pos) (sNewL i fs) :=
  ps_imp (ps_asg (pe_lst ha) (pg_name hN hi hx hf) hs hw h1) fun D σ H ⟨env, O, R, q⟩ => ⟨env, O, R, post_lift R q fun ds vs H1 x1 r1 R1 p1 => by
    by_cases hl : ds.length ≤ 100000 ∧ i < env.length
    · rw [if_pos hl] at p1
      refine ⟨by rw [← reps_len r1]; exact line100 hl.1, fun z hz => ?_⟩
      exact p1 _ _ _ (R1.own_new hz r1 hl.2) (hide_ext_new hz)
    · rw [if_neg hl] at p1
      exact p1.elim⟩
def sApp (i : Nat) (fe : En → Res D) : En → Out := fun env => match env[i]? with
  | some (.ow (.lst xs)) => lift (fe env) env fun d => if xs.length < 100000 then .nx (env.set i (.ow (.lst (xs ++ [d])))) else .bad
  | _ => .bad
theorem ds_app (i : Nat) (hb : DE X c W e fe) (hi : X.N[i]? = some x := by rfl) (hv : Vis X.env.scope x := by first | exact Or.inl rfl | exact Or.inr (Or.inl rfl) | exact Or.inr (Or.inr rfl)) (hd : (x == ("__debug__" : Str)) = false := by decide)
    (hcd : (x == ("__classdict__" : Str)) = false := by decide)
    (hbase : attributeBase (.Name x p) "append" X.env (eval (.Name x p) X.env) = eval (.Name x p) X.env := by rfl)
    (hfew : ((backTo pos3 (starEach [e] X.env)).all (fun x => !x.1) && (backToKw pos3 (keywordEach [] X.env)).all (fun x => x.1.isSome)
      && decide ([e].length + ([] : List Keyword).length + (if ([] : List Keyword).isEmpty then 0 else 1) < 30)) = true := by rfl)
    (hline : (apos.endLine == pos3.line) = true := by rfl) (hs : starEach [e] X.env = (false, eval e X.env) :: starEach [] X.env := by rfl) (hplain : (backTo pos3 (starEach [] X.env)).any (·.1) = false := by rfl) :
    DS X c W (.Expr (.Call (.Attribute (.Name x p) "append" apos) [e] [] pos3) pos) (sApp i fe) :=
  ps_imp (ps_expr (pe_bm PySem.F.plainAttrs_list PySem.F.slot_list_append PySem.F.type_list_append mt_append (pe_var hi hv hd hcd) (pa_cons hb pa_nil hs) hbase hfew hline hs hplain)) fun D σ H ⟨env, O, R, q⟩ => by
    unfold sApp at q
    split at q
    · rename_i xs he
      obtain ⟨l, h1, h2, h3, h4, vs, h5, h6⟩ := R.ow i _ he
      refine ⟨_, h1, .inl ⟨rfl, _, SqL.of h5⟩, env, O, R, post_lift R q fun d v H1 x1 r1 R1 p1 => ?_⟩
      by_cases hl : xs.length < 100000
      · rw [if_pos hl] at p1
        obtain ⟨l', g1, g2, g3, g4, ws, g5, g6⟩ := R1.ow i _ he
        rw [h1] at g1
        cases g1
        refine ⟨l, ws, v, rfl, rfl, g5, by rw [← reps_len g6]; exact Nat.lt_of_lt_of_le hl (line100 (Nat.le_refl _)), ?_⟩
        refine p1 _ _ _ (R1.own_set he h1 ⟨ws ++ [v], upd_same, reps_app g6 (reps_cons r1 reps_nil)⟩ (fun k ns xs z => nomatch z)) ?_
        rw [hide_upd_in g2]
        exact Ext.rfl'
      · rw [if_neg hl] at p1
        exact p1.elim
    · exact q.elim
/-- a if t else b, of what may be owned -/
theorem dw_if (ht : DT X c W t ft) (ha : DW X c W a fa) (hb : DW X c W b fb) : DW X c W (.IfExp t a b pos) (eIf ft fa fb) := pe_imp (pe_ifExp ht ha hb) fun σ H Q ⟨env, O, R, p⟩ =>
  ⟨env, O, R, post_bind p fun k k' H1 x1 r1 p1 => by
    have r1 : k = k' := r1
    subst r1
    cases k with
    | true => exact ⟨env, O, R.mono x1, p1⟩
    | false => exact ⟨env, O, R.mono x1, p1⟩⟩
end
end Dl
namespace Dl
open PySem PySem.Spec PyProof.Rows L2
theorem fnD_bad {P : Program} {w : World} {K : PySem.W.Frag} {mg : Str → Option Value} {base : Heap} {cl : Cl} {k : Nat} {f : Addr} {F : List D → Res D} (h : ∀ ds, F ds = .bad) : FnD P w K mg base cl k f F :=
  fun A outer s H us vs Q E hr e0 rv ⟨ds, O, _, _, p⟩ => by
    rw [h ds] at p
    exact p.elim
section
variable {X : Cx} {c : Cc} {W : WX} {a : Expr} {fa : En → Res D} {pos : Pos}
/-- - e -/
def eNeg (fa : En → Res D) : En → Res D := fun env => (fa env).bind fun d => match d with
  | .int i => .ok (.int (-i))
  | _ => .bad
theorem de_neg (ha : DE X c W a fa) : DE X c W (.UnaryOp .USub a pos) (eNeg fa) := pe_imp (pe_un un_neg ha) fun σ H Q ⟨env, O, R, p⟩ =>
  ⟨env, O, R, post_bind p fun d v H1 x1 r1 p1 => by
    cases d with
    | int i => exact ⟨i, RepW.int (.inl r1), post_now p1 repS_int⟩
    | _ => exact p1.elim⟩
end
section
variable {K : PySem.W.Frag} {c : Cc} {O : List Addr} {env : En} {σ : L2.St} {H H' : Hp}
/-- something new that nobody sees -/
theorem Rl.veil (r : Rl K c O env σ H) {p : Addr} {o : HO} (hp : H p = none) : Rl K c (p :: O) env σ (upd H p o) := by
  have x : Ext (hide O H) (hide (p :: O) (upd H p o)) := hide_ext_new hp
  have x' : Ext H (upd H p o) := Ext.upd hp
  refine ⟨r.len, r.ext.trans x', fun a ha => List.mem_cons_of_mem _ (r.sub a ha), fun a ha => ?_, fun j d e => ?_, fun j u e => ?_, r.me, r.inj⟩
  · rcases List.mem_cons.mp ha with rfl | ha
    · exact ⟨_, upd_same⟩
    · obtain ⟨u, e⟩ := r.dom a ha
      exact ⟨u, x' _ _ e⟩
  · obtain ⟨w, h1, h2⟩ := r.sh j d e
    exact ⟨w, h1, rep_mono x d w h2⟩
  · obtain ⟨a, h1, h2, h3, h4, h5⟩ := r.ow j u e
    exact ⟨a, h1, List.mem_cons_of_mem _ h2, h3, h4, h5.mono x x'⟩
end
/-- an error of one class is, or is not, what an except of another catches -/
theorem exm_of {K : PySem.W.Frag} {S E : Addr} {r : Bool} (h1 : PySem.W.subIn K (.ref S) (.type "BaseException") = some true) (h2 : PySem.W.isClsIn K S = true) (h3 : PySem.W.typeIn K (.ref S) = some (.type "type")) (h4 : PySem.W.subIn K (.ref E) (.ref S) = some r) :
    PySem.W.exmOne K (.ref E) (.ref S) = some r := by
  have e1 : (PySem.W.subIn K (.ref S) (.type "BaseException") == some true) = true := by rw [h1] <;> rfl
  have e2 : ((PySem.W.clsIn K S).isSome && PySem.W.typeIn K (.ref S) == some (.type "type")) = true := by
    have h2' : (PySem.W.clsIn K S).isSome = true := h2
    rw [h2', h3] <;> rfl
  show (if _ then (if _ then _ else none) else none) = _
  rw [if_pos e1, if_pos e2]
  exact h4
end Dl
namespace Dl
open PySem PySem.Spec PyProof.Rows L2
section
variable {X : Cx} {c : Cc} {W : WX} {a b e t o u : Expr} {fa fb fe : En → Res D} {pos pos2 pos3 dp p p2 : Pos}
/-! ### tuple(range(n)) -/
def eTupR (fa : En → Res D) : En → Res D := fun env => (fa env).bind fun d => match d with
  | .int n => if 0 ≤ n ∧ n ≤ 100000 then .ok (.tup (rgD 0 n.toNat)) else .bad
  | _ => .bad
theorem rgV_is (n : Int) : rgV 0 n = rgV' 0 n.toNat := by
  unfold rgV rgV'
  rw [Int.sub_zero]
theorem de_tupR (ha : DE X c W a fa) (m1 : X.mg "tuple" = none) (m2 : X.mg "range" = none) (hc : X.calm = true := by rfl) (g1 : Gl X "tuple" := by rfl) (g2 : Gl X "range" := by rfl)
    (na : starEach [a] X.env = (false, eval a X.env) :: starEach [] X.env := by rfl)
    (na2 : starEach [.Call (.Name "range" p2) [a] [] pos2] X.env = (false, eval (.Call (.Name "range" p2) [a] [] pos2) X.env) :: starEach [] X.env := by rfl) :
    DE X c W (.Call (.Name "tuple" p) [.Call (.Name "range" p2) [a] [] pos2] [] pos) (eTupR fa) :=
  pe_imp (pe_tupRg hc g1 m1 (prg_1 g2 m2 ha na) na2) fun σ H Q ⟨env, O, R, q⟩ => ⟨env, O, R, post_bind q fun d v H1 x1 r1 p1 => by
    cases d with
    | int n =>
      have p1 : Post X.K c W σ H1 (RepS X.K c O) (if 0 ≤ n ∧ n ≤ 100000 then Res.ok (D.tup (rgD 0 n.toNat)) else .bad) Q := p1
      by_cases hl : 0 ≤ n ∧ n ≤ 100000
      · rw [if_pos hl] at p1
        refine ⟨n, RepW.int (.inl r1), RgOk.of_le (by omega) (by omega) (by omega) (by omega), fun l hl => ?_⟩
        rw [rgV_is]
        exact post_ok p1 (Ext.upd hl) (repS_newT ((R.mono x1).new hl) hl rg_reps)
      · rw [if_neg hl] at p1; exact p1.elim
    | _ => exact p1.elim⟩

/-! ### {..}.get(k, n), of a dict that is written with texts and numbers; k may be None -/
/-- d.get(y, x), where y may be None -/
def tGetN (td ty tx : TE) : TE := fun σ H Q => td σ H fun v H1 => ∃ l, v = .ref l ∧ IsD H1 l ∧ ty σ H1 fun y H2 => tx σ H2 fun z H3 =>
  (∃ r, DGet H3 l y r ∧ Q (r.getD z) H3) ∨ (y = .non ∧ (∃ rows, Rd H3 l (.dK rows)) ∧ Q z H3)
section
variable {pins : List (Addr × Obj)} {σ : L2.St} {H : Hp} {s : Shared} {l : Addr} {A : Around} {E : Value → Shared → Prop}
theorem none_get {Q : Value → Shared → Prop} {rows : List (Key × V)} {dv : Value} (I : L2.Inv X pins σ H s) (hr : Rd H l (.dK rows)) (h : ∀ s', L2.Inv X pins σ H s' → Q dv s') :
    wpAny (model X.prog X.w) A (call (.builtin "dict.get") [.ref l, .none, dv]) Q E s := by
  obtain ⟨_, low, vs, _, dd⟩ := dk_rd I.hok hr
  obtain ⟨f, hm, hf⟩ := none_map dd
  have hk : (noneKind X.prog X.w).is none .none = true := rfl
  refine call_meetsIn PySem.F.slot_dict_get dd.typeIs PySem.F.entry_dict_get (PySem.F.args_dict_get_3 _ _ _)
    (meets_dict_get_default (noneKind X.prog X.w) l hk low dv) ⟨f, hm, ?_⟩
  rw [hf]
  exact h _ (I.tok _)
end
theorem pe_getN {td ty tx : TE} {apos : Pos} (hu : X.A.units + 1 < cLine) (ho : PE X o td) (he : PE X e ty) (hx : PE X u tx) (m : M2 X o "get" apos e u pos) : PE X (.Call (.Attribute o "get" apos) [e, u] [] pos) (tGetN td ty tx) :=
  ⟨fun pins s σ H Q I h => wpAny_Call_method m.base m.few m.line PySem.F.plainAttrs_dict PySem.F.slot_dict_get PySem.F.type_dict_get
    (thn (ho.run pins s σ H _ I h) fun w1 s1 ⟨v, H1, I1, r1, l, ev, dd, q1⟩ => by
      subst ev
      obtain rfl : w1 = Value.ref l := r1
      refine ⟨(isD_at I1 dd).1, (isD_at I1 dd).2.1, ?_⟩
      rw [m.trees]
      exact Calls.callWith_builtin rfl (Calls.evalArgs_plain (Calls.spliced_cons (thn (he.run pins s1 σ H1 _ I1 q1) fun w2 s2 ⟨y, H2, I2, r2, q2⟩ =>
        Calls.spliced_cons (thn (hx.run pins s2 σ H2 _ I2 q2) fun w3 s3 ⟨z, H3, I3, r3, q3⟩ => Calls.spliced_nil (by
          rcases q3 with ⟨r, g, q⟩ | ⟨ey, ⟨rows, g⟩, q⟩
          · exact d_get2 hu I3 g r2 r3 fun w4 s4 I4 r4 => ⟨_, H3, I4, r4, q⟩
          · subst ey
            obtain rfl : w2 = Value.none := r2
            exact none_get I3 g fun s4 I4 => ⟨z, H3, I4, r3, q⟩))))))⟩
/-- the rows of a written table -/
def tabK (tab : List (Str × Int)) : List (Key × V) := tab.map fun r => (.inr r.1, .int r.2)
theorem tabK_at (tab : List (Str × Int)) (x : Str) : valV (tabK tab) (.inr x) = (tab.lookup x).map V.int := by
  induction tab with
  | nil => rfl
  | cons r tab ih =>
    obtain ⟨k, n⟩ := r
    show valV ((.inr k, .int n) :: tabK tab) (.inr x) = _
    rw [List.lookup_cons]
    by_cases h : x = k
    · subst h
      rw [valV_pos rfl]
      simp
    · rw [valV_neg (fun z => h (Sum.inr.inj z).symm), ih]
      have : (x == k) = false := by simpa using h
      rw [this]
theorem tabK_int (tab : List (Str × Int)) (i : Int) : valV (tabK tab) (.inl i) = none := by
  induction tab with
  | nil => rfl
  | cons r tab ih =>
    show valV ((.inr r.1, .int r.2) :: tabK tab) (.inl i) = none
    have ne : ¬ (Sum.inr r.1 : Key) = Sum.inl i := fun z => by cases z
    exact (valV_neg (p := (Sum.inr r.1, V.int r.2)) ne).trans ih
def eDGet (tab : List (Str × Int)) (fe : En → Res D) (j : Int) : En → Res D := fun env => (fe env).bind fun d => match d with
  | .str x => .ok (.int ((tab.lookup x).getD j))
  | .int _ => .ok (.int j)
  | .non => .ok (.int j)
  | _ => .bad
theorem pairs_tab (tab : List (Str × Int)) {σ : L2.St} {H : Hp} {Q : List (V × V) → Hp → Prop} (h : Q (tab.map fun r => (V.str r.1, V.int r.2)) H) : tPairs (tab.map fun r => (tC (.str r.1), tC (.int r.2))) σ H Q := by
  induction tab generalizing Q with
  | nil => exact h
  | cons r tab ih => exact ih (Q := fun ps H3 => Q ((V.str r.1, V.int r.2) :: ps) H3) h
theorem de_dget {apos : Pos} {keys : List (Option Expr)} {values : List Expr} (tab : List (Str × Int)) {j : Int} {k} (hu : X.A.units + 64 < cLine) (hp : PPs X dp keys values (tab.map fun r => (tC (.str r.1), tC (.int r.2)))) (he : DE X c W e fe)
    (m : M2 X (.Dict keys values dp) "get" apos e (.Constant (.int j) k p2) pos)
    (hall : keys.all (·.isSome) = true := by rfl) (hl : keys.length = values.length := by rfl) (h0 : keys ≠ [] := by intro z; cases z) (h15 : keys.length ≤ 15 := by decide) (hM : mergeK [] (tabK tab) = tabK tab := by decide +kernel) (ht : tab.length ≤ 15 := by decide) :
    DE X c W (.Call (.Attribute (.Dict keys values dp) "get" apos) [e, .Constant (.int j) k p2] [] pos) (eDGet tab fe j) :=
  pe_imp (pe_getN (by omega) (pe_disp hp hall hl h0 h15) he pe_int m) fun σ H Q ⟨env, O, R, q⟩ => fun l hl0 => pairs_tab tab (by
    refine ⟨upd_same, tabK tab, by unfold tabK; rw [List.map_map]; rfl, by unfold tabK; rw [List.length_map]; exact ht, ?_⟩
    rw [hM]
    have hup : upd (upd H l (.dK [])) l (.dK (tabK tab)) = upd H l (.dK (tabK tab)) := by
      funext z
      by_cases e : z = l
      · subst e; rw [upd_same, upd_same]
      · rw [upd_ne e, upd_ne e, upd_ne e]
    rw [hup]
    have x0 : Ext H (upd H l (.dK (tabK tab))) := Ext.upd hl0
    refine ⟨l, rfl, .inl ⟨_, .inl upd_same⟩, env, O, R.mono x0, ?_⟩
    refine post_bind (post_mono x0 q) fun d v H1 x1 r1 p1 => ?_
    have hd : H1 l = some (.dK (tabK tab)) := x1 _ _ upd_same
    show _ ∨ _
    cases d with
    | str x =>
      obtain rfl := RepW.str (.inl r1)
      refine .inl ⟨_, DGet.k (k := .inr x) hd, ?_⟩
      rw [tabK_at]
      have e : ((tab.lookup x).map V.int).getD (.int j) = .int ((tab.lookup x).getD j) := by cases tab.lookup x <;> rfl
      rw [e]
      exact post_now p1 repS_int
    | int i =>
      obtain rfl := RepW.int (.inl r1)
      refine .inl ⟨_, DGet.k (k := .inl i) hd, ?_⟩
      rw [tabK_int]
      exact post_now p1 repS_int
    | non =>
      obtain rfl := RepW.non (.inl r1)
      exact .inr ⟨rfl, ⟨_, .inl hd⟩, post_now p1 repS_int⟩
    | _ => exact p1.elim)
end
end Dl
/-! How mirrors come out: general steps. -/
namespace Dl
open PySem PySem.Spec PyProof.Rows
section
variable {F : List D → Res D} {fa fb fc fe fe' : En → Res D} {fs : En → Res (List D)} {ft fu : En → Res Bool} {f g : En → Out} {env env' e1 e2 : En} {x y d d' : D} {b k : Bool} {dl : List D} {hh h : D → En → Option En}
theorem lcL_all {α : Type} (p : α → Bool) (u v : α → D) : ∀ (xs : List α), (∀ x ∈ xs, ∃ e, h (u x) env = some e ∧ ft e = .ok (p x) ∧ fe e = .ok (v x)) → lcL h ft fe env (xs.map u) = .ok ((xs.filter p).map v)
  | [], _ => rfl
  | x :: xs, H => by
    obtain ⟨e, h1, h2, h3⟩ := H x (List.mem_cons_self ..)
    have ih := lcL_all p u v xs fun y hy => H y (List.mem_cons_of_mem _ hy)
    show (match h (u x) env with | none => Res.bad | some env1 => (noex (ft env1)).bind fun k => if k = true then (noex (fe env1)).bind fun y => (lcL h ft fe env (xs.map u)).bind fun ys => .ok (y :: ys) else lcL h ft fe env (xs.map u)) = _
    rw [h1]
    dsimp only
    rw [h2, h3, ih]
    cases q : p x <;> simp [noex, List.filter, q]
theorem eLc_ok {α : Type} {vs : List Nat} {fi : En → Res (List D)} (xs : List α) (p : α → Bool) (u v : α → D) (hf : fi env = .ok (xs.map u)) (hl : xs.length ≤ 100000)
    (H : ∀ x ∈ xs, ∃ e, h (u x) (wipeE env vs) = some e ∧ ft e = .ok (p x) ∧ fe e = .ok (v x)) : eLc vs fi h ft fe env = .ok (.lst ((xs.filter p).map v)) := by
  unfold eLc
  rw [hf]
  show ((lcL h ft fe (wipeE env vs) (xs.map u)).bind fun ys => if ys.length ≤ 100000 then Res.ok (D.lst ys) else .bad) = _
  rw [lcL_all p u v xs H]
  show (if ((xs.filter p).map v).length ≤ 100000 then Res.ok (D.lst ((xs.filter p).map v)) else .bad) = _
  rw [if_pos (by rw [List.length_map]; exact Nat.le_trans (List.length_filter_le ..) hl)]
theorem eLc_map {α : Type} {vs : List Nat} {fi : En → Res (List D)} (xs : List α) (u v : α → D) (hf : fi env = .ok (xs.map u)) (hl : xs.length ≤ 100000)
    (H : ∀ x ∈ xs, ∃ e, h (u x) (wipeE env vs) = some e ∧ fe e = .ok (v x)) : eLc vs fi h bYes fe env = .ok (.lst (xs.map v)) := by
  have z := eLc_ok (ft := bYes) xs (fun _ => true) u v hf hl fun x hx => by
    obtain ⟨e, h1, h2⟩ := H x hx
    exact ⟨e, h1, rfl, h2⟩
  rw [z, List.filter_eq_self.mpr fun _ _ => rfl]
theorem eCall1 (h : fe env = .ok d) : eCall F (aCons fe aNil) env = F [d] := by
  unfold eCall aCons
  rw [h]
  rfl
theorem eCall_ok (h : fs env = .ok dl) : eCall F fs env = F dl := by
  unfold eCall
  rw [h]
  rfl
theorem aCons_ok (h : fe env = .ok d) (h2 : fs env = .ok dl) : aCons fe fs env = .ok (d :: dl) := by
  unfold aCons; rw [h, h2]; rfl
theorem eCall2 (h : fe env = .ok d) (h' : fe' env = .ok d') : eCall F (aCons fe (aCons fe' aNil)) env = F [d, d'] := eCall_ok (aCons_ok h (aCons_ok h' rfl))
theorem bin_ok {g : D → D → Res D} (h : fa env = .ok x) (h' : fb env = .ok y) : eBin g fa fb env = g x y := by
  unfold eBin; rw [h, h']; rfl
theorem at_ok {g : D → Res D} (h : fa env = .ok x) : eAt g fa env = g x := by
  unfold eAt; rw [h]; rfl
theorem eB_ok (h : fa env = .ok (.bl b)) : eB fa env = .ok b := by
  unfold eB; rw [h]; rfl
theorem bOr_no (h : ft env = .ok false) (h' : fu env = .ok b) : bOr ft fu env = .ok b := by
  unfold bOr; rw [h]; exact h'
theorem bOr_yes (h : ft env = .ok true) : bOr ft fu env = .ok true := by
  unfold bOr; rw [h]; rfl
theorem bAnd_yes (h : ft env = .ok true) (h' : fu env = .ok b) : bAnd ft fu env = .ok b := by
  unfold bAnd; rw [h]; exact h'
theorem bAnd_no (h : ft env = .ok false) : bAnd ft fu env = .ok false := by
  unfold bAnd; rw [h]; rfl
theorem bNot_ok (h : ft env = .ok b) : bNot ft env = .ok (!b) := by
  unfold bNot; rw [h]; rfl
theorem step_if (h : ft env = .ok false) : sSeq (sIf ft f sNext) g env = g env := by
  unfold sSeq sIf; rw [h]; rfl
theorem step_then (h : ft env = .ok true) (h2 : f env = .nx env') : sSeq (sIf ft f e) g env = g env' := by
  unfold sSeq sIf
  rw [h]
  show (match f env with | .nx e => g e | r => r) = _
  rw [h2]
theorem step_else {e : En → Out} (h : ft env = .ok false) (h2 : e env = .nx env') : sSeq (sIf ft f e) g env = g env' := by
  unfold sSeq sIf
  rw [h]
  show (match e env with | .nx e => g e | r => r) = _
  rw [h2]
theorem sif_yes {e : En → Out} (h : ft env = .ok true) : sIf ft f e env = f env := by
  unfold sIf; rw [h]; rfl
theorem sif_no {e : En → Out} (h : ft env = .ok false) : sIf ft f e env = e env := by
  unfold sIf; rw [h]; rfl
theorem step_asg (h : fe env = .ok d) (h2 : hh d env = some env') : sSeq (sAsg fe hh) g env = g env' := by
  unfold sSeq sAsg; rw [h]
  show (match (match hh d env with | some e => Out.nx e | none => .bad) with | .nx e => g e | r => r) = _
  rw [h2]
theorem asg_ok (h : fe env = .ok d) (h2 : hh d env = some env') : sAsg fe hh env = .nx env' := by
  unfold sAsg; rw [h]
  show (match hh d env with | some e => Out.nx e | none => .bad) = _
  rw [h2]
theorem seq_nx (h : f env = .nx env') : sSeq f g env = g env' := by
  unfold sSeq; rw [h]
theorem seq_rt (h : f env = .rt d) : sSeq f g env = .rt d := by
  unfold sSeq; rw [h]
theorem ret_rt (h : fe env = .ok d) : sRet fe env = .rt d := by
  unfold sRet; rw [h]; rfl
theorem ret_ok (h : fe env = .ok d) : outR (sRet fe env) = .ok d := by
  rw [ret_rt h]; rfl
theorem if_ok (h : ft env = .ok b) : eIf ft fa fb env = if b = true then fa env else fb env := by
  unfold eIf; rw [h]; rfl
theorem step_ret (h : ft env = .ok true) (h2 : fe env = .ok d) : sSeq (sIf ft (sRet fe) sNext) g env = .rt d := by
  unfold sSeq
  rw [sif_yes h, ret_rt h2]
theorem tup_ok (h : fs env = .ok dl) (hl : dl.length ≤ 100000) : eTup fs env = .ok (.tup dl) := by
  unfold eTup; rw [h]
  show (if dl.length ≤ 100000 then Res.ok (D.tup dl) else .bad) = _
  rw [if_pos hl]
theorem forL_cons {body : En → Out} (h1 : hh d env = some e1) (h2 : body e1 = .nx e2) : forL hh body (d :: dl) env = forL hh body dl e2 := by
  show (match hh d env with | none => Out.bad | some env1 => _) = _
  rw [h1]
  dsimp only
  rw [h2]
theorem for_ok {fi : En → Res (List D)} {b : En → Out} (h1 : fi env = .ok dl) (h2 : forL hh b dl env = .nx env') : sSeq (sFor fi hh b) g env = g env' := by
  unfold sSeq sFor
  rw [h1]
  show (match forL hh b dl env with | .nx e => g e | r => r) = _
  rw [h2]
theorem par2_ok {i j : Nat} (h : fa env = .ok x) (h' : fb env = .ok y) (hi : i < env.length ∧ j < env.length) : sSeq (sPar2 i j (aCons fa (aCons fb aNil))) g env = g ((env.set i (.sh x)).set j (.sh y)) := by
  have e : aCons fa (aCons fb aNil) env = .ok [x, y] := aCons_ok h (aCons_ok h' rfl)
  unfold sSeq sPar2
  rw [e]
  show (match (if i < env.length ∧ j < env.length then Out.nx ((env.set i (.sh x)).set j (.sh y)) else Out.bad) with | .nx env' => g env' | r => r) = _
  rw [if_pos hi]
/-! numbers -/
theorem log_small (a : Int) (h : a.natAbs < 2 ^ 64) : a.natAbs.log2 < 64 := by
  by_cases z : a.natAbs = 0
  · rw [z]; decide
  · exact (Nat.log2_lt z).mpr h
theorem mul_ok (a b : Int) (ha : a.natAbs < 2 ^ 64) (hb : b.natAbs < 2 ^ 64) : gMulI (.int a) (.int b) = .ok (.int (a * b)) := by
  show (if a.natAbs.log2 + b.natAbs.log2 < 1000000 then Res.ok (D.int (a * b)) else .bad) = _
  have := log_small a ha
  have := log_small b hb
  exact if_pos (by omega)
theorem div_ok (a b : Int) (h0 : 0 < b) (hb : b.natAbs < 2 ^ 64) : gDivI (.int a) (.int b) = .ok (.int (a / b)) := by
  show (if 0 < b ∧ b.natAbs.log2 < 9000 then Res.ok (D.int (a / b)) else .bad) = _
  have := log_small b hb
  exact if_pos ⟨h0, by omega⟩
theorem mod_ok (a b : Int) (h0 : 0 < b) : gModI (.int a) (.int b) = .ok (.int (a % b)) := by
  show (if 0 < b then Res.ok (D.int (a % b)) else .bad) = _
  exact if_pos h0
theorem int_ok {i : Int} (h : fe env = .ok (.int i)) : eCall fInt (aCons fe aNil) env = .ok (.int i) := by
  rw [eCall1 h]; rfl
def ng (neg : Bool) (b : Bool) : Bool := if neg then !b else b
theorem eq_bl (neg a b : Bool) : gEq neg (.bl a) (.bl b) = .ok (.bl (ng neg (a == b))) := by cases neg <;> cases a <;> cases b <;> rfl
theorem eq_int (neg : Bool) (i j : Int) : gEq neg (.int i) (.int j) = .ok (.bl (ng neg (i == j))) := by
  show (if SeqAt.shaped (.int i) = true ∧ SeqAt.shaped (.int j) = true then Res.ok (D.bl (if neg then !PyData.eqv (.int i) (.int j) else PyData.eqv (.int i) (.int j))) else .bad) = _
  rw [if_pos ⟨by simp [SeqAt.shaped, PyData.canLay0, PyData.depth], by simp [SeqAt.shaped, PyData.canLay0, PyData.depth]⟩]
  simp [ng, PyData.eqv]
theorem at_any {α : Type} (xs : List α) (i : Int) (h : -(xs.length : Int) ≤ i) (h2 : i < xs.length) : ∃ x, x ∈ xs ∧ L2.atI xs i = some x := by
  rcases Int.lt_or_le i 0 with q | q
  · have z : (i + xs.length).toNat < xs.length := by omega
    refine ⟨xs[(i + xs.length).toNat], List.getElem_mem z, ?_⟩
    unfold L2.atI L2.ixN
    rw [if_neg (by omega), if_pos h]
    simp [z]
  · have z : i.toNat < xs.length := by omega
    refine ⟨xs[i.toNat], List.getElem_mem z, ?_⟩
    unfold L2.atI L2.ixN
    rw [if_pos q, if_pos h2]
    simp [z]
/-- one of a tuple's items, whatever the number -/
theorem ix_tup (xs : List D) (i : Int) (h0 : 0 ≤ i) (h : i < xs.length) : ∃ x, x ∈ xs ∧ gIx (.tup xs) (.int i) = .ok x := by
  obtain ⟨x, hx, e⟩ := at_any xs i (by omega) h
  refine ⟨x, hx, ?_⟩
  show atD xs i = _
  unfold atD
  rw [e]
end
end Dl
namespace Dl
open PySem PySem.Spec PyProof.Rows L2
/-! ### an error of the program whose __init__ says super().__init__(text) and keeps one field -/
/-- what such an __init__ promises: self, an exception of the class at C without a dict, gets one with the field -/
def spX (C : Addr) (fld : Str) (ok : V → Prop) : Sp := fun vs H Q _ => ∃ l y, vs = [.ref l, y] ∧ H l = some (exo l C none) ∧ ok y ∧ ∀ dx, H dx = none → dx ≠ l → Q .non (upd (upd H dx (exd dx [(fld, y)])) l (exo l C (some dx)))
section
variable {P : Program} {w : World} {K : PySem.W.Frag} {mg : Str → Option Value} {base : Heap}
/-- super().__init__(e), the rest of the activation behind it -/
theorem super_step {CX : CXT} {N : List Str} {F : NdefX.NF} {fI C cc : Addr} {A : Around} {outer : List PySem.Env} {s0 : Shared} {H0 : Hp} {E : XK} {pins : List (Addr × Obj)} {σ : L2.St} {H : Hp} {s : Shared} {l : Addr}
    {oc cl ccl : Value} {od cld cdd : Option Addr} {osl csl ccs : Array (Option Value)} {fd : FuncData} {vs : Array Value} {file : Str} {tf : Tok} {cd : ClassData} {e : Expr} {te : TE} {p0 p1 p2 p3 p4 : Pos} {bd : List Stmt}
    {Q : Flow → Shared → Prop} {EE : Value → Shared → Prop} {ar : Arg} {pl : Sem Bool}
    (I : L2.Inv (NdefX.ncx CX P w K mg base N F fI A outer s0 H0 E) pins σ H s)
    (lk : K.lookup fI = some ⟨oc, od, .func fd, osl⟩) (har : (fd.params.posonlyargs ++ fd.params.args).head? = some ar)
    (hks : F.scope.names.lookup ("super" : Str) = some .globalImplicit) (hkc : F.scope.names.lookup ("__class__" : Str) = some .free) (hka : F.scope.names.lookup ar.arg = some .local) (hkind : F.scope.kind = .function)
    (hcl : F.cl.lookup ("__class__" : Str) = some cc) (hcell : K.lookup cc = some ⟨cl, cld, .cell (some (.ref C)), csl⟩)
    (hco : K.lookup F.c = some ⟨ccl, cdd, .fields vs, ccs⟩) (hvs : vs[2]? = some (.str file tf)) (hfile : ((P.main.file : Str) == file) = true) (htop : (P.main.scope.names.lookup ("super" : Str)).isSome = false)
    (hmg : mg ("super" : Str) = none) (hboot : bootBuiltins ("super" : Str) = some (.type "super"))
    (hns : ∃ m, s.heap.Ns (NdefX.envF F fI s0.heap.objs.size).locals m ∧ m ar.arg = some (.ref l)) (T : OexC K C) (hl : H l = some (exo l C none))
    (hC : PySem.W.clsIn K C = some cd) (hself : PySem.W.mroIn K C (.ref C) = some true) (hop : PySem.W.nsIn K PySem.cStatics "thirdparty.any" = some none)
    (hm : PySem.W.ks_superIn K C C "__init__" = some (some (.builtin "ValueError.__init__"))) (hB : PySem.W.subIn K (.ref C) (.type "ValueError") = some true)
    (he : PE (NdefX.ncx CX P w K mg base N F fI A outer s0 H0 E) e te) (hst : starEach [e] (NdefX.envF F fI s0.heap.objs.size) = [(false, eval e (NdefX.envF F fI s0.heap.objs.size))])
    (hE : ∀ e s', (NdefX.ncx CX P w K mg base N F fI A outer s0 H0 E).xe e s' → EE e s')
    (hev : eval (.Call (.Attribute (.Call (.Name "super" p0) [] [] p1) "__init__" p2) [e] [] p3) (NdefX.envF F fI s0.heap.objs.size) = (do
      let ov ← attributeBase (.Call (.Name "super" p0) [] [] p1) "__init__" (NdefX.envF F fI s0.heap.objs.size) (eval (.Call (.Name "super" p0) [] [] p1) (NdefX.envF F fI s0.heap.objs.size))
      standAt p2.atName
      let (f, first) ← holding [ov] (getMethod ov "__init__" pl)
      callWith p3 f first (backTo p3 (starEach [e] (NdefX.envF F fI s0.heap.objs.size))) []))
    (hin : interactive (NdefX.envF F fI s0.heap.objs.size) = false) (hsw : swapsWith (.Call (.Attribute (.Call (.Name "super" p0) [] [] p1) "__init__" p2) [e] [] p3) none p4.line (NdefX.envF F fI s0.heap.objs.size) = pure false)
    (q : te σ H fun _ H1 => H1 = H) (h : ∀ s', L2.Inv (NdefX.ncx CX P w K mg base N F fI A outer s0 H0 E) pins σ H s' → Q .next s') :
    PySem.wpAt (model P w) (A.deeper (NdefX.envF F fI s0.heap.objs.size)) (.func bd (NdefX.envF F fI s0.heap.objs.size)) (exec (.Expr (.Call (.Attribute (.Call (.Name "super" p0) [] [] p1) "__init__" p2) [e] [] p3) p4) (NdefX.envF F fI s0.heap.objs.size)) Q EE s := by
  have kIn := I.kIn
  obtain ⟨mb, hb1, hb2⟩ := I.mod.blt
  obtain ⟨m0, hns1, hns2⟩ := hns
  obtain ⟨oD, hD1, hD2⟩ : ∃ oD, s.heap.get? C = some oD ∧ oD.data = .cls cd := by
    unfold PySem.W.clsIn at hC
    split at hC
    · rename_i ho
      cases hC
      exact ⟨_, kIn _ _ ho, rfl⟩
    · cases hC
  obtain ⟨t1, hx⟩ := exo_at I.hok hl
  refine ks_wpAt_Expr_any (ks_wpAt_MethodCall (pl := pl) ?_ hev) hin hsw
  refine ks_wpAt_super_base (env := NdefX.envF F fI s0.heap.objs.size) hks hkc rfl rfl (kIn _ _ lk) rfl har rfl (kIn _ _ hco) rfl hvs hfile htop ?_
  refine PySem.W.ks_loadName_global hkind hks (PySem.Calls.loadGlobal_builtin (I.mod.glob.keeps I.bk) hmg (hb1.keeps I.bk) ((hb2 _ (by decide)).trans hboot) ⟨rfl, ?_⟩)
  refine wpAny_loadName_free hkind hkc hcl ⟨_, kIn _ _ hcell, rfl⟩ ?_
  refine wpAny_loadName_local hkind hka hns1 hns2 ?_
  obtain ⟨hh, g, d, t, os⟩ := s
  refine ks_wpAny_isType_cls hD1 hD2 ⟨rfl, ?_⟩
  refine ks_wpAny_call_super hD1 hD2 hx rfl (fun c z => nomatch z) (PySem.W.looks_mroIn kIn hself) (fun h1 e1 k1 => ?_)
  have I1 : L2.Inv (NdefX.ncx CX P w K mg base N F fI A outer s0 H0 E) pins σ H ⟨h1, g, d, t, os⟩ := I.kept (t' := t) k1
  have hx1 := k1 _ _ hx
  have At : PySem.W.InstAt h1 l { cls := .ref C, dict := none, data := .fields #[.ref t1, .none, .none, .none, .bool false, .none] } C none := ⟨hx1, rfl, rfl, trivial⟩
  have hm' : PySem.W.alongIn K "__init__" ((cd.mro.dropWhile (· != .ref C)).drop 1) = some (some (.builtin "ValueError.__init__")) := by
    unfold PySem.W.ks_superIn at hm
    rw [hC] at hm
    exact hm
  refine PySem.W.kxs_getMethod PySem.W.kxs_ValueError e1 (PySem.W.looks_opaque I1.kIn hop) (l₀ := cd.mro) (fun A Q E s k q => wpAny_bind ((PySem.W.looks_clsIn I1.kIn hC) A _ E s k (wpAny_pure q))) rfl I1.kIn hm' (At.type.andThen (PySem.W.looks_subIn I1.kIn hB)) (PySem.W.ks_ne I1.kIn At hC) rfl ?_
  have k2 : ∀ b o, h1.get? b = some o → (h1.push (PySem.W.kxs_mw "ValueError.__init__" l)).get? b = some o := fun b o z => Heap.get?_push_of_some _ z
  have I2 : L2.Inv (NdefX.ncx CX P w K mg base N F fI A outer s0 H0 E) pins σ H ⟨h1.push (PySem.W.kxs_mw "ValueError.__init__" l), g, d, t + 1, os⟩ := I1.kept (t' := t + 1) k2
  have hu : (h1.push (PySem.W.kxs_mw "ValueError.__init__" l)).get? h1.objs.size = some (PySem.W.kxs_mw "ValueError.__init__" l) := Heap.get?_push_size _ rfl
  show wpAny _ _ (callWith p3 (Value.ref h1.objs.size) [] (backTo p3 (starEach [e] (NdefX.envF F fI s0.heap.objs.size))) []) _ _ _
  have hv : wpAny (model P w) (A.deeper (NdefX.envF F fI s0.heap.objs.size)) (spliced (backTo p3 (starEach [e] (NdefX.envF F fI s0.heap.objs.size)))) (fun us s2 => PySem.W.KxsAt "ValueError.__init__" h1.objs.size l s2.heap ∧ wpAny (model P w) (A.deeper (NdefX.envF F fI s0.heap.objs.size)) (call (.ref h1.objs.size) us) (fun _ => Q .next) EE s2) EE ⟨h1.push (PySem.W.kxs_mw "ValueError.__init__" l), g, d, t + 1, os⟩ := by
    have I3 : L2.Inv (NdefX.ncx CX P w K mg base N F fI A outer s0 H0 E) ((h1.objs.size, PySem.W.kxs_mw "ValueError.__init__" l) :: pins) σ H ⟨h1.push (PySem.W.kxs_mw "ValueError.__init__" l), g, d, t + 1, os⟩ := I2.pins_of fun p hp => by
      rcases List.mem_cons.mp hp with rfl | hp
      · exact ⟨hu, I1.hok.fresh (Nat.le_refl _), Nat.ne_of_gt I1.lt, I1.nofs (Nat.le_refl _), fun v z => nomatch z⟩
      · exact I2.pin p (List.mem_append_right _ hp)
    rw [hst]
    refine PySem.Calls.spliced_cons (wpAny_mono (he.run _ _ σ H (fun _ H1 => H1 = H) I3 q) (fun v s3 hv => ?_) fun e' s' z => hE e' s' z)
    obtain ⟨y, H3, I4, ry, eH⟩ := hv
    subst eH
    refine PySem.Calls.spliced_nil ?_
    have hu4 := (I4.pin (h1.objs.size, PySem.W.kxs_mw "ValueError.__init__" l) (List.mem_append_right _ (List.mem_cons_self ..))).1
    refine ⟨hu4, ?_⟩
    obtain ⟨nm, qn, Na, bs, bm, sn, sub, ab, col, dd, c0, c1, c2, c3, c5, hCo, hbm⟩ := T.cls
    obtain ⟨t4, hx4⟩ := exo_at I4.hok hl
    have I5 : L2.Inv (NdefX.ncx CX P w K mg base N F fI A outer s0 H0 E) pins σ H3 s3 := I4.pins_of fun p hp => I4.pin p (List.mem_append_right _ (List.mem_cons_of_mem _ hp))
    obtain ⟨h4, g4, d4, tk4, os4⟩ := s3
    have hCo4 := I5.kIn _ _ hCo
    refine wpAny_call (codeAny_of_tree ?_)
    show wpAny _ _ (callAny (.ref h1.objs.size) ⟨[v], []⟩) _ _ _
    simp only [callAny]
    refine wpAny_bind (wpAny_load hu4 ?_)
    simp only [PySem.W.kxs_mw]
    refine PySem.W.KFB.if_so (by decide) ?_
    refine wpAny_bind (PySem.W.check_bound_init PySem.F.excBase_ValueError.toExcCallFacts hCo4 hx4 rfl ?_)
    refine wpAny_bind (wpAny_pure (wpAny_pure ⟨plainId_quiet PySem.F.excBase_ValueError.init.plain _, codeAny_builtin PySem.F.excBase_ValueError.initEntry ?_⟩))
    refine PySem.W.exc_init_tree (cls := .ref C) (t0 := t4) (dv := none) (c2 := .none) (c3 := .none) (b4 := .bool false) hx4 (by simp [sizeLine_eq]) fun h5 k5 hx5 _ => ?_
    have J := I5.write (t' := tk4) (x := l) (e := l) (o := exo l C none) (h' := h5) (by rw [hl]; exact True.intro) (.inl rfl) k5 ⟨_, hx5⟩ (exo_ok hx5)
    have eu : upd H3 l (exo l C none) = H3 := funext fun b => by
      by_cases hb : b = l
      · rw [hb, upd_same, hl]
      · rw [upd_ne hb]
    rw [eu] at J
    exact h _ J
  rw [hst] at hv ⊢
  exact PySem.W.kxs_callWith (i := "ValueError.__init__") (x := l) rfl (PySem.Calls.evalArgs_plain hv)

/-- what the top has written of such a class and its __init__ -/
structure SupX (P : Program) (K : PySem.W.Frag) (mg : Str → Option Value) (x qual fld : Str) (st : Stmt) (f C : Addr) (fd : FuncData) : Prop where
  ex : ∃ (oc : Value) (od : Option Addr) (kV doc pm : Value) (an : Option Addr) (cda : Addr) (ct : Value) (cc : Addr) (osl : Array (Option Value)),
    fd = PySem.W.ksFn x qual (defArgs st) (defBody st) (defScope st) .none kV doc pm an (.ref cda) ct cc ∧ K.lookup f = some ⟨oc, od, .func fd, osl⟩ ∧ PySem.W.codeIn K (.ref cda) qual = true ∧
    (∃ (cl : Value) (cld : Option Addr) (csl : Array (Option Value)), K.lookup cc = some ⟨cl, cld, .cell (some (.ref C)), csl⟩) ∧
    ∃ (ccl : Value) (cdd : Option Addr) (vs : Array Value) (ccs : Array (Option Value)) (file : Str) (tf : Tok), K.lookup cda = some ⟨ccl, cdd, .fields vs, ccs⟩ ∧ vs[2]? = some (.str file tf) ∧ ((P.main.file : Str) == file) = true
  top : (P.main.scope.names.lookup ("super" : Str)).isSome = false
  mgs : mg ("super" : Str) = none
  oex : OexC K C
  fno : PySem.W.findIn K (.ref C) fld = some none
  cls : ∃ cd, PySem.W.clsIn K C = some cd
  self : PySem.W.mroIn K C (.ref C) = some true
  opq : PySem.W.nsIn K PySem.cStatics "thirdparty.any" = some none
  sup : PySem.W.ks_superIn K C C "__init__" = some (some (.builtin "ValueError.__init__"))
  ve : PySem.W.subIn K (.ref C) (.type "ValueError") = some true
  ini : PySem.W.findIn K (.ref C) "__init__" = some (some (.ref f))
  tyf : PySem.W.typeIn K (.ref f) = some (.type "function")
/-- a field that an f-string takes -/
def OkF (y : V) : Prop := (∃ z : Str, y = .str z ∧ z.length ≤ 1000) ∨ ∃ i : Int, y = .int i ∧ i.natAbs.log2 < 1000 ∧ (Str.ofString (toString i)).length ≤ 1000
theorem super_init {x qual fld prm tx : Str} {st : Stmt} {f C : Addr} {fd : FuncData} {k : Nat} {j} {p0 p1 p2 p3 p4 p5 p6 p7 p8 p9 p10 p11 p12 : Pos} (F : SupX P K mg x qual fld st f C fd) (S : NdefX.NScope ["self", prm, "__class__"] ["self", prm] ["__class__"] (defScope st))
    (hbody : defBody st = [.Expr (.Call (.Attribute (.Call (.Name "super" p0) [] [] p1) "__init__" p2) [.JoinedStr [.Constant (.str tx) j p5, .FormattedValue (.Name prm p6) (-1) none p7] p8] [] p3) p4, .Assign [.Attribute (.Name "self" p9) fld p10] (.Name prm p11) p12])
    (har : ∃ ar, ((defArgs st).posonlyargs ++ (defArgs st).args).head? = some ar ∧ ar.arg = "self") (htx : tx.length ≤ 1000)
    (hks : (defScope st).names.lookup ("super" : Str) = some .globalImplicit) (hboot : bootBuiltins ("super" : Str) = some (.type "super"))
    {pl : PySem.Env → Sem Bool} (hev : ∀ env, eval (.Call (.Attribute (.Call (.Name "super" p0) [] [] p1) "__init__" p2) [.JoinedStr [.Constant (.str tx) j p5, .FormattedValue (.Name prm p6) (-1) none p7] p8] [] p3) env = (do
      let ov ← attributeBase (.Call (.Name "super" p0) [] [] p1) "__init__" env (eval (.Call (.Name "super" p0) [] [] p1) env)
      standAt p2.atName
      let (f, first) ← holding [ov] (getMethod ov "__init__" (pl env))
      callWith p3 f first (backTo p3 (starEach [.JoinedStr [.Constant (.str tx) j p5, .FormattedValue (.Name prm p6) (-1) none p7] p8] env)) []))
    (hp : (prm == ("__debug__" : Str)) = false) (hp2 : (prm == ("__classdict__" : Str)) = false) (hps : ("self" : Str) ≠ prm) :
    FnOk P w K mg base (L2.CX P w) (k + 1) f fd ["self", prm] (spX C fld OkF) := by
  obtain ⟨oc, od, kV, doc, pm, an, cda, ct, cc, osl, rfl, lk, hcd, ⟨cl, cld, csl, hcell⟩, ccl, cdd, vs, ccs, file, tf, hco, hvs, hfile⟩ := F.ex
  obtain ⟨cd, hC⟩ := F.cls
  obtain ⟨ar, har, ean⟩ := har
  refine ⟨fun vs H Q E ⟨l, y, e, _⟩ => by rw [e]; rfl, fun A outer s H args us vs' Q E hr e0 hbind r ⟨l, y, ev, hl, hy, hq⟩ => ?_⟩
  subst ev
  have bk : ∀ b o, base.get? b = some o → s.heap.get? b = some o := fun b o z => (e0.bs b o z).1
  have kIn : K.In s.heap := e0.mod.kin.keeps bk
  let NF0 : NdefX.NF := ⟨x, qual, defArgs st, defBody st, defScope st, [("__class__", cc)], cda⟩
  have Cs : NdefX.CellsAt NF0.cl ["__class__"] [some (.ref C)] s.heap H := by
    have look : ∀ z c, NF0.cl.lookup z = some c → c = cc ∧ z = "__class__" := fun z c e => by
      have e : ([("__class__", cc)] : List (Str × Addr)).lookup z = some c := e
      rw [List.lookup_cons] at e
      by_cases hz : (z == ("__class__" : Str)) = true
      · rw [hz] at e
        cases e
        exact ⟨rfl, beq_iff_eq.mp hz⟩
      · have hz' : (z == ("__class__" : Str)) = false := by simpa using hz
        rw [hz'] at e
        cases e
    have cell : s.heap.IsCell cc (some (.ref C)) := ⟨_, kIn _ _ hcell, rfl⟩
    refine ⟨rfl, fun z c e => ?_, fun z z' c e e' => ?_, fun i z hi => ?_⟩
    · obtain ⟨rfl, _⟩ := look z c e
      exact ⟨(e0.bs _ _ (e0.mod.kin _ _ hcell)).2, _, cell⟩
    · rw [(look z c e).2, (look z' c e').2]
    · cases i with
      | zero =>
        cases hi
        refine ⟨cc, rfl, fun v hv => ?_⟩
        cases hv
        exact ⟨.ref C, rfl, cell⟩
      | succ i => cases i <;> cases hi
  refine ks_codeAny_call_defAt hr.depth (kIn _ _ lk) rfl (e0.mod.nolimit.keeps bk) (PySem.W.codeRec_of kIn hcd) rfl hbind S.nocell (fun b hb => S.par _ (List.of_mem_zip hb).1) (fun h1 hns kp => ?_) S.co S.gen S.kind
  have I : L2.Inv (NdefX.ncx (L2.CX P w) P w K mg base ["self", prm, "__class__"] NF0 f A outer s H E) [] (NdefX.startF ["self", prm, "__class__"] [.ref l, y] [some (.ref C)]) H { s with heap := h1, toks := s.toks + (([("self" : Str), prm] : List Str).zip us).length } := NdefX.inv_startN S hr.hd e0 rfl r Cs hns kp
  rw [hbody]
  have vis1 : Vis (NdefX.envF NF0 f s.heap.objs.size).scope prm := .inl (S.par prm (by simp))
  have hself : (defScope st).names.lookup ("self" : Str) = some .local := S.par "self" (by simp)
  have heE : PE (NdefX.ncx (L2.CX P w) P w K mg base ["self", prm, "__class__"] NF0 f A outer s H E) (.JoinedStr [.Constant (.str tx) j p5, .FormattedValue (.Name prm p6) (-1) none p7] p8) (fun σ H Q => tJs [tC (.str tx), tFmt (tVar 1)] Str.empty σ H fun out H1 => Q (.str out) H1) :=
    pe_joined (.cons pe_str (.cons (pe_fmt (pe_var (i := 1) rfl vis1 hp hp2)) .nil))
  refine ks_wpAt_execs_cons ?_
  refine super_step I lk (ar := ar) har hks (S.frk _ (by simp)) (by rw [ean]; exact hself) S.kind rfl hcell hco hvs hfile F.top F.mgs hboot ⟨_, hns, ?_⟩ F.oex hl hC F.self F.opq F.sup F.ve heE rfl (fun e' s' z => z) (hev _) (by show (((defScope st).kind == .module) && _) = false; rw [S.kind]; rfl) rfl ?_ fun s' I' => ?_
  · rw [ean]
    cases r with
    | @cons _ u0 _ ur ra rb =>
      cases rb with
      | @cons _ u1 _ ur1 rc rd =>
        cases rd
        obtain rfl : u0 = Value.ref l := ra
        show (([(("self" : Str), Value.ref l), (prm, u1)] : List (Str × Value)).reverse).lookup ("self" : Str) = _
        rw [show ([(("self" : Str), Value.ref l), (prm, u1)].reverse) = [(prm, u1), (("self" : Str), Value.ref l)] from rfl, List.lookup_cons]
        have hne : (("self" : Str) == prm) = false := by rw [beq_eq_false_iff_ne]; exact hps
        rw [hne]
        rfl
  · have z0 : (Str.empty : Str).length = 0 := rfl
    refine ⟨tx, rfl, ?_, y, rfl, ?_⟩
    · rw [Str.length_append, z0]
      exact Nat.le_trans (by omega : 0 + tx.length ≤ 1000) (by decide)
    · rcases hy with ⟨z, rfl, hz⟩ | ⟨i, rfl, hi, hz⟩
      · refine .inl ⟨z, rfl, ?_, z, rfl, ?_, rfl⟩
        · exact Nat.le_trans hz (by decide)
        · rw [Str.length_append, Str.length_append, z0]
          exact Nat.le_trans (by omega : 0 + tx.length + z.length ≤ 2000) (by decide)
      · refine .inr ⟨i, rfl, by omega, _, rfl, ?_, rfl⟩
        rw [Str.length_append, Str.length_append, z0]
        have hz : (Str.ofString (toString i)).length ≤ 1000 := hz
        exact Nat.le_trans (Nat.add_le_add (by omega : 0 + tx.length ≤ 1000) hz) (by decide)
  · dsimp only
    refine wpAt_of_wpAny (wpAny_mono ((pss_one (ps_ost (f := fld) (pe_var (i := 0) rfl (.inl hself)) (pe_var (i := 1) rfl vis1 hp hp2) rfl)).run [] s' _ H { nx := fun _ H' => Q .non H', rt := fun _ _ => False } I' ⟨y, rfl, .ref l, rfl, l, C, rfl, F.oex, F.fno, .inl ⟨hl, hq⟩⟩) (fun fl s2 hs => ?_) fun e' s2 z => z)
    cases fl with
    | next =>
      obtain ⟨σ2, H2, J, q2⟩ := hs
      exact ⟨.non, H2, J.os, J.bare, J.base, J.hok, rfl, q2⟩
    | ret u =>
      obtain ⟨_, _, _, _, _, q2⟩ := hs
      exact q2.elim
    | brk =>
      obtain ⟨_, _, _, q2⟩ := hs
      exact q2.elim
    | cont =>
      obtain ⟨_, _, _, q2⟩ := hs
      exact q2.elim
end
end Dl
namespace Dl
open PySem PySem.Spec PyProof.Rows L2
section
variable {X : Cx} {c : Cc} {W : WX} {a b e t o : Expr} {es : List Expr} {fa fb fe ff : En → Res D} {fs : En → Res (List D)} {ft : En → Res Bool} {pos pos3 p p2 : Pos} {x m : Str}
/-! ### raise X(e), X with an own __init__ that keeps one field -/
def okFD : D → Bool
  | .str z => decide (z.length ≤ 1000)
  | .int i => decide (i.natAbs.log2 < 1000 ∧ (Str.ofString (toString i)).length ≤ 1000)
  | _ => false
def sRaiseX (k : Nat) (fe : En → Res D) : En → Out := fun env => lift (fe env) env fun d => if okFD d = true then .xx k [d] env else .bad
theorem okFD_v {K : PySem.W.Frag} {cl : Cl} {H : Hp} {d : D} {v : V} (h : okFD d = true) (r : Rep K cl H d v) : OkF v := by
  cases d with
  | str z => unfold Rep at r; exact .inl ⟨z, r, of_decide_eq_true h⟩
  | int i => unfold Rep at r; exact .inr ⟨i, r, (of_decide_eq_true (p := i.natAbs.log2 < 1000 ∧ _) h).1, (of_decide_eq_true (p := i.natAbs.log2 < 1000 ∧ _) h).2⟩
  | _ => cases h
theorem ds_raiseX {k j : Nat} {C fI : Addr} {fd : FuncData} {fld prm : Str} (T : OexC X.K C) (iC : PySem.W.findIn X.K (.ref C) "__init__" = some (some (.ref fI))) (tI : PySem.W.typeIn X.K (.ref fI) = some (.type "function"))
    (F1 : FnOk X.prog X.w X.K X.mg X.base (L2.CX X.prog X.w) j fI fd ["self", prm] (spX C fld OkF)) (hb : Binds X.K fd ["self", prm] []) (hr : Room (j + 1) X.A) (he : DE X c W e fe)
    (hx : c.cl.xv k = .ref C) (hn : c.cl.xn k = [fld]) (hm : X.mg x = some (.ref C)) (hc : X.calm = true) (tk : Takes X W) (hg : Gl X x := by rfl) (hdb : (x == ("__debug__" : Str)) = false := by decide)
    (hst : starEach [e] X.env = (false, eval e X.env) :: starEach [] X.env := by rfl) (hpl : (backTo pos3 (starEach [] X.env)).any (·.1) = false := by rfl) :
    DS X c W (.Raise (some (.Call (.Name x p) [e] [] pos3)) none pos) (sRaiseX k fe) :=
  ps_imp (ps_raise hc tk (pmk_oex T iC tI F1 hr hb .nil (passes_call tk fun _ _ _ _ z => z.elim) hg hm (da_cons he da_nil hst) hdb hst hpl)) fun D σ H ⟨env, O, R, q⟩ => ⟨env, O, R, by
    unfold sRaiseX at q
    have q' : PostS X.K c W O H D (lift ((fe env).bind fun d => .ok [d]) env fun ds => match ds with | [d] => if okFD d = true then .xx k [d] env else .bad | _ => .bad) := by
      cases z : fe env with
      | ok d => rw [z] at q; exact q
      | ex k' l => rw [z] at q; exact q
      | bad => rw [z] at q; exact q
    have eA : aCons fe aNil env = (fe env).bind fun d => .ok [d] := rfl
    rw [eA]
    refine post_lift R q' fun ds vs H1 x1 r1 R1 p1 => ?_
    split at p1
    · rename_i d
      by_cases hd : okFD d = true
      · rw [if_pos hd] at p1
        unfold RepsS Reps at r1
        obtain ⟨y, ws, rfl, r1, r2⟩ := r1
        unfold Reps at r2
        subst r2
        refine ⟨by simp, fun l hl => ⟨l, y, rfl, upd_same, okFD_v hd r1, fun dx hdx ne => ⟨rfl, dx, _, upd_same, by rw [upd_ne ne, upd_same], ?_, ?_⟩⟩⟩
        · rw [upd_ne ne] at hdx; exact hdx
        · rw [upd_ne ne] at hdx
          have xf : Ext H1 (upd (del (upd (upd (upd H1 l (exo l C none)) dx (exd dx [(fld, y)])) l (exo l C (some dx))) l) dx (.xd [(fld, y)])) := fun b o hb => by
            have n1 : b ≠ dx := fun z => by rw [z, hdx] at hb; cases hb
            have n2 : b ≠ l := fun z => by rw [z, hl] at hb; cases hb
            rw [upd_ne n1, del_ne n2, upd_ne n2, upd_ne n1, upd_ne n2]
            exact hb
          have z := p1 σ _ O (R1.mono xf)
          unfold Rz at z
          dsimp only at z
          rw [hx] at z
          refine z dx [y] (by rw [hn]; exact upd_same) (reps_cons ?_ reps_nil)
          have ry := okFD_v hd r1
          cases d with
          | str w => unfold Rep at r1 ⊢; exact r1
          | int i => unfold Rep at r1 ⊢; exact r1
          | _ => cases hd
      · rw [if_neg hd] at p1; exact p1.elim
    · exact p1.elim⟩
/-! ### try .. except X as n: return n.f -/
def sTryAs (ex : Nat → Option Bool) (kx i : Nat) (f : En → Out) : En → Out := fun env => match f env with
  | .xx k l env' => match ex k with
    | some true => if k = kx ∧ i < env'.length then (match l with | [d] => .rt d | _ => .bad) else .bad
    | some false => .xx k l env'
    | none => .bad
  | r => r
theorem ds_tryAs {ex : Nat → Option Bool} {kx i : Nat} {C : Addr} {n fld : Str} {body : List Stmt} {np np2 p3 p4 pos' : Pos} {f : En → Out} (T : XfC X.K C) (hno : PySem.W.findIn X.K (.ref C) fld = some none) (h1 : X.stack = X.env :: X.outer) (h2 : X.env.frame = some X.env.locals) (hN : X.N.Nodup) (hi : X.N[i]? = some n) (hln : X.env.kindOf n = some .local)
    (hn : Names X x (.ref C)) (tk : Takes X W) (hx : ∀ k r, ex k = some r → PySem.W.exmOne X.K (c.cl.xv k) (.ref C) = some r) (hk : c.cl.xv kx = .ref C) (hf : c.cl.xn kx = [fld])
    (hb : ∀ (W : WX) (pn : List (Addr × Obj)) (xe : Value → Shared → Prop), Takes (X.tr pn xe) W → PassesOwn (model X.prog X.w) X.A X.env xe → DSs (X.tr pn xe) c W body f)
    (hv : Vis X.env.scope n := by exact Or.inl rfl) (hd : (n == ("__debug__" : Str)) = false := by decide) (hcd : (n == ("__classdict__" : Str)) = false := by decide)
    (hat : attributeBase (.Name n np2) fld X.env (eval (.Name n np2) X.env) = eval (.Name n np2) X.env := by rfl) :
    DS X c W (.Try body [.ExceptHandler (some (.Name x np)) (some n) [.Return (some (.Attribute (.Name n np2) fld p3)) p4] pos'] [] [] pos) (sTryAs ex kx i f) :=
  ps_imp (ps_try_as (i := i) (tb := fun W => tS X.K c W f) (ts := fun l cls d D σ H => tXf l cls d C fld (tVar i) σ H D.rt) h1 h2 hN hi hln hn tk hb fun l oe cls d pn hz hf' => pss_one (ps_ret (pe_xf T hno hz hf' (pe_var (X := X.suite l ((l, oe) :: pn)) hi hv hd hcd) hat))) fun D σ H ⟨env, O, R, p⟩ => ⟨env, O, R, by
    unfold sTryAs at p
    cases q : f env with
    | nx e => rw [q] at p; exact p
    | rt d => rw [q] at p; exact p
    | bk e => rw [q] at p; exact p
    | ct e => rw [q] at p; exact p
    | bad => rw [q] at p; exact p
    | xx k l e =>
      rw [q] at p
      dsimp only at p
      intro σ' H' O' R'
      cases z : ex k with
      | none => rw [z] at p; exact p.elim
      | some r =>
        rw [z] at p
        cases r with
        | false =>
          have p' := p σ' H' O' R'
          unfold Rz at p' ⊢
          cases l with
          | nil => exact ⟨false, hx k false z, fun z => (nomatch z), fun _ => p'⟩
          | cons d ds => exact fun dx vs e1 e2 => ⟨false, hx k false z, fun z => (nomatch z), fun _ => p' dx vs e1 e2⟩
        | true =>
          dsimp only at p
          by_cases hkx : k = kx ∧ i < e.length
          · rw [if_pos hkx] at p
            obtain ⟨hkx, hie⟩ := hkx
            subst hkx
            cases l with
            | nil => exact p.elim
            | cons d ds =>
              cases ds with
              | cons _ _ => exact p.elim
              | nil =>
                have p : PostS X.K c W O H D (.rt d) := p
                unfold Rz
                intro dx vs e1 e2
                unfold Reps at e2
                obtain ⟨v, ws, rfl, r1, r2⟩ := e2
                unfold Reps at r2
                subst r2
                refine ⟨true, hx k true z, fun _ l' hl' => ?_, fun z => (nomatch z)⟩
                rw [hf] at e1
                have hil : i < σ'.length := R'.len ▸ hie
                exact ⟨.ref l', List.getElem?_set_self hil, rfl, hk, dx, _, v, rfl, e1, by simp, p v H' R'.ext r1⟩
          · rw [if_neg hkx] at p; exact p.elim⟩
end
end Dl
namespace Dl
open PySem PySem.Spec PyProof.Rows L2

/-! ### comprehensions with two clauses -/
/-- the slots that hold something alone are not to be had within -/
def noOw : En → En := List.map fun | .ow _ => .no | s => s
theorem noOw_get {env : En} {i : Nat} {s : Sl} (h : (noOw env)[i]? = some s) (n : s ≠ .no) : env[i]? = some s ∧ ∀ o, s ≠ .ow o := by
  unfold noOw at h
  rw [List.getElem?_map] at h
  cases q : env[i]? with
  | none => rw [q] at h; cases h
  | some t =>
    rw [q] at h
    cases t with
    | no => cases h; exact absurd rfl n
    | sh d => cases h; exact ⟨rfl, fun o z => nomatch z⟩
    | ow o => cases h; exact absurd rfl n
theorem noOw_len (env : En) : (noOw env).length = env.length := by unfold noOw; rw [List.length_map]
section
variable {K : PySem.W.Frag} {c : Cc} {O : List Addr} {env env' : En} {σ σ' : L2.St} {H H' : Hp}
/-- slots without owners: the address that is left out may change -/
theorem Rl.under {p : Addr} (r : Rl K c (p :: O) env σ H) (r0 : Rl K c O env' σ' (hide [p] H)) : Rl K c O (noOw env) σ (hide [p] H) where
  len := by rw [noOw_len]; exact r.len
  ext := r0.ext
  sub := r0.sub
  dom := r0.dom
  sh := fun i d e => by
    obtain ⟨e1, _⟩ := noOw_get e fun z => nomatch z
    rw [← hide_hide]
    exact r.sh i d e1
  ow := fun i o e => absurd rfl ((noOw_get e fun z => nomatch z).2 o)
  me := fun i k ns xs e => absurd rfl ((noOw_get e fun z => nomatch z).2 _)
  inj := fun i j o u a e => absurd rfl ((noOw_get e fun z => nomatch z).2 o)
/-- the turns of an inner clause: what they make is put behind what stands at Da -/
theorem lc_inner {T vs : List Nat} {H4 : Hp} {h : D → En → Option En} {ft : En → Res Bool} {fe : En → Res D} {ds ys accD : List D} {xs acc : List V} {Nx : Hp → Prop} {Da : Addr}
    (a1 : H4 Da = some (.lst acc)) (a2 : Reps K c.cl (hide O (hide [Da] H4)) accD acc) (R : Rl K c O env σ (hide [Da] H4)) (r : Reps K c.cl (hide O (hide [Da] H4)) ds xs)
    (hT : ∀ i ∈ T, i ∈ vs) (q : lcL h ft fe (wipeE env vs) ds = .ok ys) (hl : accD.length + ys.length ≤ 100000)
    (fin : ∀ H acc', H Da = some (.lst acc') → Reps K c.cl (hide O (hide [Da] H)) (accD ++ ys) acc' → Ext (hide [Da] H4) (hide [Da] H) → Nx H) :
    ∃ Pv : Nat → Hp → Prop, Pv 0 H4 ∧
      (∀ i x H, xs[i]? = some x → Pv i H → tG K c T h x (wipe σ vs) H fun σ2 H2 => wipe σ2 vs = wipe σ vs ∧ tTt K c W0 ft σ2 H2 fun b H3 =>
        if b = true then tE K c W0 fe σ2 H3 fun y H4 => ∃ acc, H4 Da = some (.lst acc) ∧ acc.length < sizeLine ∧ Pv (i + 1) (upd H4 Da (.lst (acc ++ [y]))) else Pv (i + 1) H3) ∧
      ∀ H, Pv xs.length H → Nx H := by
  refine ⟨fun i H => ∃ acc' accE rest, H Da = some (.lst acc') ∧ Reps K c.cl (hide O (hide [Da] H)) accE acc' ∧ Ext (hide [Da] H4) (hide [Da] H) ∧
    lcL h ft fe (wipeE env vs) (ds.drop i) = .ok rest ∧ accE ++ rest = accD ++ ys, ⟨acc, accD, ys, a1, a2, Ext.rfl', q, rfl⟩, ?_, ?_⟩
  · rintro i x H hi ⟨acc', accE, rest, b1, b2, b3, b4, b5⟩
    obtain ⟨d, hd, rd⟩ := reps_get' r hi
    have hlt : i < ds.length := (List.getElem?_eq_some_iff.mp hd).1
    have e : ds.drop i = d :: ds.drop (i + 1) := by
      rw [List.drop_eq_getElem_cons hlt]
      rw [(List.getElem?_eq_some_iff.mp hd).2]
    rw [e] at b4
    unfold lcL at b4
    cases q1 : h d (wipeE env vs) with
    | none => rw [q1] at b4; cases b4
    | some env1 =>
      rw [q1] at b4
      dsimp only at b4
      have a3 := (R.wipe vs).mono b3
      refine ⟨d, wipeE env vs, Da :: O, a3.over ⟨_, b1⟩, by show Rep _ _ _ _ _; rw [hide_hide]; exact rep_mono (hide_ext b3) _ _ rd, ?_⟩
      rw [q1]
      intro σ2 H2 R2 x2 s2
      refine ⟨wipe_same s2 hT, env1, Da :: O, R2, ?_⟩
      have keep : ∀ {H3 : Hp}, Ext H H3 → H3 Da = some (.lst acc') ∧ Reps K c.cl (hide O (hide [Da] H3)) accE acc' ∧ Ext (hide [Da] H4) (hide [Da] H3) := fun {H3} z =>
        ⟨z _ _ b1, reps_mono (hide_ext (hide_ext z)) _ _ b2, b3.trans (hide_ext z)⟩
      cases q2 : ft env1 with
      | ex _ _ => rw [q2] at b4; cases b4
      | bad => rw [q2] at b4; cases b4
      | ok k =>
        rw [q2] at b4
        intro b H3 x3 hb
        have hb : k = b := hb
        subst hb
        cases k with
        | false =>
          refine iteF ?_
          obtain ⟨k1, k2, k3⟩ := keep (x2.trans x3)
          exact ⟨acc', accE, rest, k1, k2, k3, b4, b5⟩
        | true =>
          refine iteT ⟨env1, Da :: O, R2.mono x3, ?_⟩
          have b4 : ((noex (fe env1)).bind fun y => (lcL h ft fe (wipeE env vs) (ds.drop (i + 1))).bind fun ys => .ok (y :: ys)) = .ok rest := b4
          cases q3 : fe env1 with
          | ex _ _ => rw [q3] at b4; cases b4
          | bad => rw [q3] at b4; cases b4
          | ok y =>
            rw [q3] at b4
            have b4 : ((lcL h ft fe (wipeE env vs) (ds.drop (i + 1))).bind fun ys => .ok (y :: ys)) = .ok rest := b4
            cases q4 : lcL h ft fe (wipeE env vs) (ds.drop (i + 1)) with
            | ex _ _ => rw [q4] at b4; cases b4
            | bad => rw [q4] at b4; cases b4
            | ok rest' =>
              rw [q4] at b4
              cases b4
              intro v H5 x5 rv
              obtain ⟨k1, k2, k3⟩ := keep ((x2.trans x3).trans x5)
              have rv : Rep K c.cl (hide (Da :: O) H5) y v := rv
              rw [hide_hide] at rv
              have hlen : acc'.length < sizeLine := by
                have z := congrArg List.length b5
                rw [List.length_append, List.length_append, List.length_cons] at z
                rw [← reps_len b2]
                exact Nat.lt_of_lt_of_le (show accE.length < 100000 by omega) (by decide)
              refine ⟨acc', k1, hlen, acc' ++ [v], accE ++ [y], rest', upd_same, ?_, ?_, q4, by rw [List.append_assoc]; exact b5⟩
              · rw [hide_one_upd]; exact reps_app k2 (reps_cons rv reps_nil)
              · rw [hide_one_upd]; exact k3
  · rintro H ⟨acc', accE, rest, b1, b2, b3, b4, b5⟩
    rw [← reps_len r, List.drop_length] at b4
    cases b4
    rw [List.append_nil] at b5
    subst b5
    exact fin H acc' b1 b2 b3
end
/-- [elt for t in it if .. for t1 in it1 if ..] -/
def lcL2 (vs1 : List Nat) (h : D → En → Option En) (ft : En → Res Bool) (fi1 : En → Res (List D)) (h1 : D → En → Option En) (ft1 : En → Res Bool) (fe : En → Res D) (env : En) : List D → Res (List D)
  | [] => .ok []
  | d :: ds => match h d env with
    | none => .bad
    | some env1 => (noex (ft env1)).bind fun k => if k = true then (noex (fi1 env1)).bind fun es => (noex (lcL h1 ft1 fe (wipeE (noOw env1) vs1) es)).bind fun y => (lcL2 vs1 h ft fi1 h1 ft1 fe env ds).bind fun ys => .ok (y ++ ys) else lcL2 vs1 h ft fi1 h1 ft1 fe env ds
def eLc2 (vs vs1 : List Nat) (fi : En → Res (List D)) (h : D → En → Option En) (ft : En → Res Bool) (fi1 : En → Res (List D)) (h1 : D → En → Option En) (ft1 : En → Res Bool) (fe : En → Res D) : En → Res D := fun env =>
  (fi env).bind fun ds => (lcL2 vs1 h ft fi1 h1 ft1 fe (wipeE env vs) ds).bind fun ys => if ys.length ≤ 100000 then .ok (.lst ys) else .bad
theorem lcL2_noex {vs1 : List Nat} {h h1 : D → En → Option En} {ft ft1 : En → Res Bool} {fi1 : En → Res (List D)} {fe : En → Res D} {env : En} : ∀ {ds : List D} {e : Nat} {l : List D}, lcL2 vs1 h ft fi1 h1 ft1 fe env ds ≠ .ex e l
  | [], _, _ => fun q => by cases q
  | d :: ds, e, l => fun q => by
    unfold lcL2 at q
    cases q1 : h d env with
    | none => rw [q1] at q; cases q
    | some env1 =>
      rw [q1] at q
      dsimp only at q
      cases q2 : ft env1 with
      | ex _ _ => rw [q2] at q; cases q
      | bad => rw [q2] at q; cases q
      | ok k =>
        rw [q2] at q
        cases k with
        | false => exact lcL2_noex (ds := ds) q
        | true =>
          have q : ((noex (fi1 env1)).bind fun es => (noex (lcL h1 ft1 fe (wipeE (noOw env1) vs1) es)).bind fun y => (lcL2 vs1 h ft fi1 h1 ft1 fe env ds).bind fun ys => .ok (y ++ ys)) = .ex e l := q
          cases q3 : fi1 env1 with
          | ex _ _ => rw [q3] at q; cases q
          | bad => rw [q3] at q; cases q
          | ok es =>
            rw [q3] at q
            have q : ((noex (lcL h1 ft1 fe (wipeE (noOw env1) vs1) es)).bind fun y => (lcL2 vs1 h ft fi1 h1 ft1 fe env ds).bind fun ys => .ok (y ++ ys)) = .ex e l := q
            cases q4 : lcL h1 ft1 fe (wipeE (noOw env1) vs1) es with
            | ex _ _ => rw [q4] at q; cases q
            | bad => rw [q4] at q; cases q
            | ok y =>
              rw [q4] at q
              have q : ((lcL2 vs1 h ft fi1 h1 ft1 fe env ds).bind fun ys => .ok (y ++ ys)) = .ex e l := q
              cases q5 : lcL2 vs1 h ft fi1 h1 ft1 fe env ds with
              | ex _ _ => exact lcL2_noex (ds := ds) q5
              | bad => rw [q5] at q; cases q
              | ok _ => rw [q5] at q; cases q
section
variable {K : PySem.W.Frag} {c : Cc} {O : List Addr} {env env' : En} {σ σ' : L2.St} {H H' : Hp} {W : WX}
/-- the turns of the outer clause; the inner one goes over range(n) -/
theorem lc_turns2 {T T1 vs vs1 : List Nat} {H1 : Hp} {h h1 : D → En → Option En} {ft ft1 : En → Res Bool} {fs1 : En → Res (List D)} {fe : En → Res D} {ds : List D} {xs : List V} {Q : VK} {Da : Addr}
    (R : Rl K c O env σ H1) (r : Reps K c.cl (hide O H1) ds xs) (hD : H1 Da = none) (hT : ∀ i ∈ T, i ∈ vs) (hT1 : ∀ i ∈ T1, i ∈ vs1)
    (p : Post K c W σ H1 (RepS K c O) ((lcL2 vs1 h ft (eR1 fs1) h1 ft1 fe (wipeE env vs) ds).bind fun ys => if ys.length ≤ 100000 then .ok (.lst ys) else .bad) Q) :
    ∃ Pv : Nat → Hp → Prop, Pv 0 (upd H1 Da (.lst [])) ∧ (∀ i H, i ≤ xs.length → Pv i H → Ext (hide O H1) H) ∧
      (∀ i x H, xs[i]? = some x → Pv i H → tG K c T h x (wipe σ vs) H fun σ2 H2 => wipe σ2 vs = wipe σ vs ∧ tTt K c W0 ft σ2 H2 fun b H3 =>
        if b = true then iRng1 (tA K c W0 fs1) σ2 H3 fun J1 H4 => ∃ W1 : Nat → Nat → Hp → Prop, (∃ m, W1 0 m H4) ∧ ∀ j k H, W1 j k H →
          (J1.stop j H ∧ Pv (i + 1) H) ∨ (J1.go j H ∧ ∃ Nx1 : Hp → Prop, (∀ H', Nx1 H' → ∃ k', k' < k ∧ W1 (j + 1) k' H') ∧ ∀ x H', J1.yld j H x H' → tG K c T1 h1 x (wipe σ2 vs1) H' fun σ3 H5 => wipe σ3 vs1 = wipe σ2 vs1 ∧ tTt K c W0 ft1 σ3 H5 fun b H6 =>
            if b = true then tE K c W0 fe σ3 H6 fun y H7 => ∃ acc, H7 Da = some (.lst acc) ∧ acc.length < sizeLine ∧ Nx1 (upd H7 Da (.lst (acc ++ [y]))) else Nx1 H6)
        else Pv (i + 1) H3) ∧
      ∀ H, Pv xs.length H → Q (.ref Da) H := by
  have hDO : Da ∉ O := R.new hD
  cases q : lcL2 vs1 h ft (eR1 fs1) h1 ft1 fe (wipeE env vs) ds with
  | ex e l => exact absurd q lcL2_noex
  | bad => rw [q] at p; exact p.elim
  | ok ys =>
    rw [q] at p
    have p : Post K c W σ H1 (RepS K c O) (if ys.length ≤ 100000 then .ok (.lst ys) else .bad) Q := p
    by_cases hl : ys.length ≤ 100000
    · rw [if_pos hl] at p
      refine ⟨fun i H => ∃ acc accD rest, H Da = some (.lst acc) ∧ Reps K c.cl (hide O (hide [Da] H)) accD acc ∧ Rl K c O (wipeE env vs) (wipe σ vs) (hide [Da] H) ∧ Ext (hide O H1) (hide O (hide [Da] H)) ∧ Ext H1 H ∧
        lcL2 vs1 h ft (eR1 fs1) h1 ft1 fe (wipeE env vs) (ds.drop i) = .ok rest ∧ accD ++ rest = ys, ⟨[], [], ys, upd_same, reps_nil, ?_, ?_, Ext.upd hD, q, rfl⟩, fun i H _ ⟨_, _, _, _, _, _, x, _⟩ => x.trans (hide_sub.trans hide_sub), ?_, ?_⟩
      · rw [hide_new' hD]; exact R.wipe vs
      · rw [hide_new' hD]; exact Ext.rfl'
      · rintro i x H hi ⟨acc, accD, rest, a1, a2, a3, a4, a5, a6, a7⟩
        obtain ⟨d, hd, rd⟩ := reps_get' r hi
        have hlt : i < ds.length := (List.getElem?_eq_some_iff.mp hd).1
        have e : ds.drop i = d :: ds.drop (i + 1) := by
          rw [List.drop_eq_getElem_cons hlt]
          rw [(List.getElem?_eq_some_iff.mp hd).2]
        rw [e] at a6
        unfold lcL2 at a6
        cases q1 : h d (wipeE env vs) with
        | none => rw [q1] at a6; cases a6
        | some env1 =>
          rw [q1] at a6
          dsimp only at a6
          refine ⟨d, wipeE env vs, Da :: O, a3.over ⟨_, a1⟩, by show Rep _ _ _ _ _; rw [hide_hide]; exact rep_mono a4 _ _ rd, ?_⟩
          rw [q1]
          intro σ2 H2 R2 x2 s2
          refine ⟨wipe_same s2 hT, env1, Da :: O, R2, ?_⟩
          have keep : ∀ {H3 : Hp}, Ext H H3 → H3 Da = some (.lst acc) ∧ Reps K c.cl (hide O (hide [Da] H3)) accD acc ∧ Rl K c O (wipeE env vs) (wipe σ vs) (hide [Da] H3) ∧ Ext (hide O H1) (hide O (hide [Da] H3)) ∧ Ext H1 H3 := fun {H3} z =>
            ⟨z _ _ a1, reps_mono (hide_ext (hide_ext z)) _ _ a2, a3.mono (hide_ext z), a4.trans (hide_ext (hide_ext z)), a5.trans z⟩
          cases q2 : ft env1 with
          | ex _ _ => rw [q2] at a6; cases a6
          | bad => rw [q2] at a6; cases a6
          | ok k =>
            rw [q2] at a6
            intro b H3 x3 hb
            have hb : k = b := hb
            subst hb
            cases k with
            | false =>
              refine iteF ?_
              obtain ⟨k1, k2, k3, k4, k5⟩ := keep (x2.trans x3)
              exact ⟨acc, accD, rest, k1, k2, k3, k4, k5, a6, a7⟩
            | true =>
              refine iteT ⟨env1, Da :: O, R2.mono x3, ?_⟩
              have a6 : ((noex ((fs1 env1).bind itR1)).bind fun es => (noex (lcL h1 ft1 fe (wipeE (noOw env1) vs1) es)).bind fun y => (lcL2 vs1 h ft (eR1 fs1) h1 ft1 fe (wipeE env vs) (ds.drop (i + 1))).bind fun ys => .ok (y ++ ys)) = .ok rest := a6
              cases q3 : fs1 env1 with
              | ex _ _ => rw [q3] at a6; cases a6
              | bad => rw [q3] at a6; cases a6
              | ok us =>
                rw [q3] at a6
                have a6 : ((noex (itR1 us)).bind fun es => (noex (lcL h1 ft1 fe (wipeE (noOw env1) vs1) es)).bind fun y => (lcL2 vs1 h ft (eR1 fs1) h1 ft1 fe (wipeE env vs) (ds.drop (i + 1))).bind fun ys => .ok (y ++ ys)) = .ok rest := a6
                intro ws H4 x4 rw4
                rcases itR1_ok (ds := us) rfl with z | ⟨j, rfl, j1, j2, z⟩
                · rw [z] at a6; cases a6
                · rw [z] at a6
                  have a6 : ((noex (lcL h1 ft1 fe (wipeE (noOw env1) vs1) (rgD 0 j.toNat))).bind fun y => (lcL2 vs1 h ft (eR1 fs1) h1 ft1 fe (wipeE env vs) (ds.drop (i + 1))).bind fun ys => .ok (y ++ ys)) = .ok rest := a6
                  refine ⟨j, reps_int1 rw4, j1, j2, ?_⟩
                  cases q4 : lcL h1 ft1 fe (wipeE (noOw env1) vs1) (rgD 0 j.toNat) with
                  | ex _ _ => rw [q4] at a6; cases a6
                  | bad => rw [q4] at a6; cases a6
                  | ok y =>
                    rw [q4] at a6
                    have a6 : ((lcL2 vs1 h ft (eR1 fs1) h1 ft1 fe (wipeE env vs) (ds.drop (i + 1))).bind fun ys => .ok (y ++ ys)) = .ok rest := a6
                    cases q5 : lcL2 vs1 h ft (eR1 fs1) h1 ft1 fe (wipeE env vs) (ds.drop (i + 1)) with
                    | ex _ _ => rw [q5] at a6; cases a6
                    | bad => rw [q5] at a6; cases a6
                    | ok rest' =>
                      rw [q5] at a6
                      cases a6
                      obtain ⟨k1, k2, k3, k4, k5⟩ := keep ((x2.trans x3).trans x4)
                      have hlen : accD.length + y.length ≤ 100000 := by
                        have z := congrArg List.length a7
                        rw [List.length_append, List.length_append] at z
                        omega
                      obtain ⟨Pj, g0, g1, g2⟩ := lc_inner (Nx := fun H => ∃ acc accD rest, H Da = some (.lst acc) ∧ Reps K c.cl (hide O (hide [Da] H)) accD acc ∧ Rl K c O (wipeE env vs) (wipe σ vs) (hide [Da] H) ∧ Ext (hide O H1) (hide O (hide [Da] H)) ∧ Ext H1 H ∧
                          lcL2 vs1 h ft (eR1 fs1) h1 ft1 fe (wipeE env vs) (ds.drop (i + 1)) = .ok rest ∧ accD ++ rest = ys) (h := h1) (ft := ft1) (fe := fe) k1 k2 (((R2.mono x3).mono x4).under k3) (rg_reps (lo := 0) (n := j.toNat)) hT1 q4 hlen fun H7 acc7 c1 c2 c3 =>
                        ⟨acc7, accD ++ y, rest', c1, c2, k3.mono c3, k4.trans (hide_ext c3), fun b o eb => hide_sub _ _ (c3 b o (by rw [hide_out (by simpa using ne_of_none eb hD)]; exact k5 b o eb)), q5, by rw [List.append_assoc]; exact a7⟩
                      refine ⟨fun jj m H => m = j.toNat - jj ∧ jj ≤ j.toNat ∧ Pj jj H, ⟨_, rfl, Nat.zero_le _, g0⟩, ?_⟩
                      rintro jj m H5 ⟨rfl, hjj, pj⟩
                      by_cases hlt2 : jj < j.toNat
                      · refine .inr ⟨hlt2, Pj (jj + 1), fun H' p' => ⟨j.toNat - (jj + 1), by omega, rfl, hlt2, p'⟩, ?_⟩
                        rintro x5 H6 ⟨rfl, rfl⟩
                        exact g1 jj _ _ (rg_get hlt2) pj
                      · have ej : jj = j.toNat := by omega
                        subst ej
                        exact .inl ⟨Nat.le_refl _, g2 _ (by rw [rg_len]; exact pj)⟩
      · rintro H ⟨acc, accD, rest, a1, a2, a3, a4, a5, a6, a7⟩
        rw [← reps_len r, List.drop_length] at a6
        cases a6
        rw [List.append_nil] at a7
        subst a7
        exact p _ H a5 (rep_lst (by rw [hide_out hDO]; exact a1) (reps_mono (hide_ext hide_sub) _ _ a2))
    · rw [if_neg hl] at p; exact p.elim
end
section
variable {K : PySem.W.Frag} {c : Cc} {W : WX} {fi fe : En → Res D} {h h1 : D → En → Option En} {ft ft1 : En → Res Bool} {fs1 : En → Res (List D)}
def itLL : D → Res (List D)
  | .lst xs => .ok xs
  | _ => .bad
def eItLL (f : En → Res D) : En → Res (List D) := fun env => (f env).bind itLL
theorem tlc2_list {T T1 vs vs1 : List Nat} (hT : ∀ i ∈ T, i ∈ vs) (hT1 : ∀ i ∈ T1, i ∈ vs1) : ∀ σ H Q, tE K c W (eLc2 vs vs1 (eItLL fi) h ft (eR1 fs1) h1 ft1 fe) σ H Q → tLc2 (iList K (tE K c W fi)) (tG K c T h) (tTt K c W0 ft) (iRng1 (tA K c W0 fs1)) (tG K c T1 h1) (tTt K c W0 ft1) (tE K c W0 fe) vs vs1 σ H Q := fun σ H Q ⟨env, O, R, p⟩ => ⟨env, O, R, by
  unfold eLc2 eItLL at p
  cases q : fi env with
  | ex e l => rw [q] at p; exact p
  | bad => rw [q] at p; exact p
  | ok d =>
    rw [q] at p
    intro v H1 x1 r1
    have R1 := R.mono x1
    cases d with
    | lst xs =>
      have p := post_mono x1 (show Post K c W σ H (RepS K c O) ((lcL2 vs1 h ft (eR1 fs1) h1 ft1 fe (wipeE env vs) xs).bind fun ys => if ys.length ≤ 100000 then .ok (.lst ys) else .bad) Q from p)
      unfold RepS Rep at r1
      obtain ⟨a, us, rfl, h1, h2⟩ := r1
      refine ⟨a, rfl, ⟨us, Or.inl (Or.inl (hide_sub _ _ h1))⟩, fun Da hD => ?_⟩
      obtain ⟨Pv, g0, g1, g2, g3⟩ := lc_turns2 R1 h2 hD hT hT1 p
      refine ⟨fun i m H => m = us.length - i ∧ i ≤ us.length ∧ Pv i H, ⟨_, rfl, Nat.zero_le _, g0⟩, ?_⟩
      rintro i m H5 ⟨rfl, hi, pi⟩
      have sq : SqL K H5 a us := Or.inl (Or.inl (g1 i H5 hi pi _ _ h1))
      by_cases hlt : i < us.length
      · refine .inr ⟨⟨us, us[i], sq, by simp [hlt]⟩, Pv (i + 1), fun H' p' => ⟨us.length - (i + 1), by omega, rfl, hlt, p'⟩, ?_⟩
        rintro x H6 ⟨rfl, hx⟩
        exact g2 i x _ (hx us sq) pi
      · have ei : i = us.length := by omega
        subst ei
        exact .inl ⟨⟨us, sq, Nat.le_refl _⟩, g3 _ pi⟩
    | _ => exact p.elim⟩
end
section
variable {X : Cx} {c : Cc} {W : WX}
theorem ds_setLc2 {i : Nat} {y : Str} {py : Pos} {own : List (Str × Nat)} {elt tg iter tg1 iter1 : Expr} {ifs ifs1 : List Expr} {scope : Scope} {pos spos : Pos} {wi wi1 : TI} {T T1 vs1 : List Nat} {f : En → Res D} {fe : En → Res D} {ft ft1 : En → Res Bool} {h h1 : D → En → Option En}
    (hw : ∀ σ H Q, tE X.K c W f σ H Q → tLc2 wi (tG X.K c T h) (tTt X.K c W0 ft) wi1 (tG X.K c T1 h1) (tTt X.K c W0 ft1) (tE X.K c W0 fe) (own.map (·.2)) vs1 σ H Q)
    (hc : X.calm = true) (hN : X.N.Nodup) (hi : PI X tg iter wi) (ok : BlkOk X.N X.env.scope scope own) (hv : ∀ i ∈ vs1, i ∈ own.map (·.2))
    (hg : ∀ (s : Shared) (H : Hp) (C : Addr) (cl : List (Str × Addr)) (fp : List Addr), DG (X.blk s H scope (compEnvC scope cl C X.env) fp) c T tg h) (ht : ∀ (s : Shared) (H : Hp) (C : Addr) (cl : List (Str × Addr)) (fp : List Addr), DTs (X.blk s H scope (compEnvC scope cl C X.env) fp) c W0 ifs ft)
    (hi1 : ∀ (s : Shared) (H : Hp) (C : Addr) (cl : List (Str × Addr)) (fp : List Addr), PI (X.blk s H scope (compEnvC scope cl C X.env) fp) tg1 iter1 wi1)
    (hg1 : ∀ (s : Shared) (H : Hp) (C : Addr) (cl : List (Str × Addr)) (fp : List Addr), DG (X.blk s H scope (compEnvC scope cl C X.env) fp) c T1 tg1 h1) (ht1 : ∀ (s : Shared) (H : Hp) (C : Addr) (cl : List (Str × Addr)) (fp : List Addr), DTs (X.blk s H scope (compEnvC scope cl C X.env) fp) c W0 ifs1 ft1)
    (he : ∀ (s : Shared) (H : Hp) (C : Addr) (cl : List (Str × Addr)) (fp : List Addr), DE (X.blk s H scope (compEnvC scope cl C X.env) fp) c W0 elt fe)
    (hy : X.N[i]? = some y := by rfl) (hyl : X.env.scope.names.lookup y = some .local := by rfl) (hsw : swapsWith (.ListComp elt [⟨tg, iter, ifs, 0⟩, ⟨tg1, iter1, ifs1, 0⟩] scope pos) (some (.Name y py)) spos.line X.env = pure true := by exact sw_true rfl rfl rfl (by decide +kernel)) (hs : ∀ x, foldedSetIterable iter X.env x = pure x := by intro _; rfl) (hs1 : ∀ env x, foldedSetIterable iter1 env x = pure x := by intro _ _; rfl) :
    DS X c W (.Assign [.Name y py] (.ListComp elt [⟨tg, iter, ifs, 0⟩, ⟨tg1, iter1, ifs1, 0⟩] scope pos) spos) (sAsg f (gV i)) := ps_imp (ps_setLc2 hc hN hy hyl hsw hi ok hv hg ht hi1 hg1 ht1 he hs hs1) fun D σ H ⟨env, O, R, p⟩ =>
  hw σ H _ ⟨env, O, R, post_lift R p fun d v H1 x1 r1 R1 p1 => by
    unfold gV at p1
    by_cases hl : i < env.length
    · rw [if_pos hl] at p1; exact p1 _ H1 O (R1.set r1 hl) Ext.rfl'
    · rw [if_neg hl] at p1; exact p1.elim⟩
end
end Dl
namespace Dl
open PySem PySem.Spec PyProof.Rows L2
/-! ### enumerate in a comprehension -/
section
variable {K : PySem.W.Frag} {c : Cc} {W : WX} {h : D → En → Option En} {ft : En → Res Bool} {fe : En → Res D} {fs : En → Res (List D)}
theorem tlc_en {T vs : List Nat} (hT : ∀ i ∈ T, i ∈ vs) : ∀ σ H Q, tE K c W (eLc vs (eEn fs) h ft fe) σ H Q → tLc (iEnum K (tA K c W fs)) (tG K c T h) (tTt K c W0 ft) (tE K c W0 fe) vs σ H Q := fun σ H Q ⟨env, O, R, p⟩ => ⟨env, O, R, by
  unfold eLc eEn at p
  cases q : fs env with
  | ex e l => rw [q] at p; exact p
  | bad => rw [q] at p; exact p
  | ok ds =>
    rw [q] at p
    have p : Post K c W σ H (RepS K c O) ((itEn ds).bind fun ds => (lcL h ft fe (wipeE env vs) ds).bind fun ys => if ys.length ≤ 100000 then .ok (.lst ys) else .bad) Q := p
    intro us H1 x1 r1
    have R1 := R.mono x1
    rcases itEn_ok (ds := ds) rfl with z | ⟨xs, rfl, z⟩
    · rw [z] at p; exact p.elim
    · rw [z] at p
      have p := post_mono x1 (show Post K c W σ H (RepS K c O) ((lcL h ft fe (wipeE env vs) (enD 0 xs)).bind fun ys => if ys.length ≤ 100000 then .ok (.lst ys) else .bad) Q from p)
      unfold RepsS Reps at r1
      obtain ⟨v, ws, rfl, h1, h2⟩ := r1
      unfold Reps at h2
      subst h2
      unfold Rep at h1
      obtain ⟨a, us, rfl, h3, h4⟩ := h1
      refine ⟨a, us, rfl, Or.inl (Or.inl (hide_sub _ _ h3)), fun Da hD => ?_⟩
      have hDO : Da ∉ O := R1.new hD
      cases q : lcL h ft fe (wipeE env vs) (enD 0 xs) with
      | ex e l => exact absurd q lcL_noex
      | bad => rw [q] at p; exact p.elim
      | ok ys =>
        rw [q] at p
        have p : Post K c W σ H1 (RepS K c O) (if ys.length ≤ 100000 then .ok (.lst ys) else .bad) Q := p
        by_cases hl : ys.length ≤ 100000
        · rw [if_pos hl] at p
          refine ⟨fun i m H => m = us.length - i ∧ i ≤ us.length ∧ ∃ acc accD rest, H Da = some (.lst acc) ∧ Reps K c.cl (hide O (hide [Da] H)) accD acc ∧ Rl K c O (wipeE env vs) (wipe σ vs) (hide [Da] H) ∧ Ext (hide O H1) (hide O (hide [Da] H)) ∧ Ext H1 H ∧
            lcL h ft fe (wipeE env vs) ((enD 0 xs).drop i) = .ok rest ∧ accD ++ rest = ys, ⟨_, rfl, Nat.zero_le _, [], [], ys, upd_same, reps_nil, ?_, ?_, Ext.upd hD, q, rfl⟩, ?_⟩
          · rw [hide_new' hD]; exact R1.wipe vs
          · rw [hide_new' hD]; exact Ext.rfl'
          · rintro i m H ⟨rfl, hi, acc, accD, rest, a1, a2, a3, a4, a5, a6, a7⟩
            have sq : SqL K H a us := Or.inl (Or.inl (a5 _ _ (hide_sub _ _ h3)))
            by_cases hlt : i < us.length
            · refine .inr ⟨⟨us, us[i], sq, by simp [hlt]⟩, fun H' => i < us.length ∧ ∃ acc accD rest, H' Da = some (.lst acc) ∧ Reps K c.cl (hide O (hide [Da] H')) accD acc ∧ Rl K c O (wipeE env vs) (wipe σ vs) (hide [Da] H') ∧ Ext (hide O H1) (hide O (hide [Da] H')) ∧ Ext H1 H' ∧
                lcL h ft fe (wipeE env vs) ((enD 0 xs).drop (i + 1)) = .ok rest ∧ accD ++ rest = ys, fun H' ⟨z, y⟩ => ⟨us.length - (i + 1), by omega, rfl, z, y⟩, ?_⟩
              rintro x H2 ⟨Ta, u, rfl, hTa, rfl, hu⟩
              obtain ⟨d, hd, rd⟩ := reps_get' h4 (hu us sq)
              have hlt2 : i < (enD 0 xs).length := by rw [enD_len, reps_len h4]; exact hlt
              have ee : (enD 0 xs)[i]? = some (.tup [.int (i : Nat), d]) := by
                rw [enD_get, hd, Nat.zero_add]
                rfl
              have e : (enD 0 xs).drop i = .tup [.int (i : Nat), d] :: (enD 0 xs).drop (i + 1) := by
                rw [List.drop_eq_getElem_cons hlt2]
                rw [(List.getElem?_eq_some_iff.mp ee).2]
              rw [e] at a6
              unfold lcL at a6
              have xT : Ext H (upd H Ta (.tup [V.int (i : Nat), u])) := Ext.upd hTa
              have hi0 : Rep K c.cl (hide (Da :: O) H) (.int (i : Nat)) (.int (i : Nat)) := by unfold Rep; rfl
              have R3 : Rl K c (Da :: O) (wipeE env vs) (wipe σ vs) H := a3.over ⟨_, a1⟩
              cases q1 : h (.tup [.int (i : Nat), d]) (wipeE env vs) with
              | none => rw [q1] at a6; cases a6
              | some env1 =>
                rw [q1] at a6
                dsimp only at a6
                refine ⟨.tup [.int (i : Nat), d], wipeE env vs, Da :: O, R3.mono xT, repS_newT (R3.new hTa) hTa (reps_cons hi0 (reps_cons (by rw [hide_hide]; exact rep_mono a4 _ _ rd) reps_nil)), ?_⟩
                rw [q1]
                intro σ2 H2 R2 x2 s2
                refine ⟨wipe_same s2 hT, env1, Da :: O, R2, ?_⟩
                have keep : ∀ {H3 : Hp}, Ext H H3 → H3 Da = some (.lst acc) ∧ Reps K c.cl (hide O (hide [Da] H3)) accD acc ∧ Rl K c O (wipeE env vs) (wipe σ vs) (hide [Da] H3) ∧ Ext (hide O H1) (hide O (hide [Da] H3)) ∧ Ext H1 H3 := fun {H3} z =>
                  ⟨z _ _ a1, reps_mono (hide_ext (hide_ext z)) _ _ a2, a3.mono (hide_ext z), a4.trans (hide_ext (hide_ext z)), a5.trans z⟩
                cases q2 : ft env1 with
                | ex _ _ => rw [q2] at a6; cases a6
                | bad => rw [q2] at a6; cases a6
                | ok k =>
                  rw [q2] at a6
                  intro b H3 x3 hb
                  have hb : k = b := hb
                  subst hb
                  cases k with
                  | false =>
                    refine iteF ?_
                    obtain ⟨k1, k2, k3, k4, k5⟩ := keep ((xT.trans x2).trans x3)
                    exact ⟨hlt, acc, accD, rest, k1, k2, k3, k4, k5, a6, a7⟩
                  | true =>
                    refine iteT ⟨env1, Da :: O, R2.mono x3, ?_⟩
                    have a6 : ((noex (fe env1)).bind fun y => (lcL h ft fe (wipeE env vs) ((enD 0 xs).drop (i + 1))).bind fun ys => .ok (y :: ys)) = .ok rest := a6
                    cases q3 : fe env1 with
                    | ex _ _ => rw [q3] at a6; cases a6
                    | bad => rw [q3] at a6; cases a6
                    | ok y =>
                      rw [q3] at a6
                      have a6 : ((lcL h ft fe (wipeE env vs) ((enD 0 xs).drop (i + 1))).bind fun ys => .ok (y :: ys)) = .ok rest := a6
                      cases q4 : lcL h ft fe (wipeE env vs) ((enD 0 xs).drop (i + 1)) with
                      | ex _ _ => rw [q4] at a6; cases a6
                      | bad => rw [q4] at a6; cases a6
                      | ok rest' =>
                        rw [q4] at a6
                        cases a6
                        intro v H4 x4 rv
                        obtain ⟨k1, k2, k3, k4, k5⟩ := keep (((xT.trans x2).trans x3).trans x4)
                        have rv : Rep K c.cl (hide (Da :: O) H4) y v := rv
                        rw [hide_hide] at rv
                        have hlen : acc.length < sizeLine := by
                          have z := congrArg List.length a7
                          rw [List.length_append, List.length_cons] at z
                          rw [← reps_len a2]
                          exact Nat.lt_of_lt_of_le (show accD.length < 100000 by omega) (by decide)
                        have hE : Ext H1 (upd H4 Da (.lst (acc ++ [v]))) := fun b o eb => by
                          rw [upd_ne (ne_of_none eb hD)]
                          exact k5 b o eb
                        refine ⟨acc, k1, hlen, hlt, acc ++ [v], accD ++ [y], rest', upd_same, ?_, ?_, ?_, hE, by first | exact q4 | rfl, by rw [List.append_assoc]; exact a7⟩
                        · rw [hide_one_upd]; exact reps_app k2 (reps_cons rv reps_nil)
                        · rw [hide_one_upd]; exact k3
                        · rw [hide_one_upd]; exact k4
            · have ei : i = us.length := by omega
              subst ei
              refine .inl ⟨⟨us, sq, Nat.le_refl _⟩, ?_⟩
              rw [← reps_len h4, ← enD_len xs 0, List.drop_length] at a6
              cases a6
              rw [List.append_nil] at a7
              subst a7
              exact p _ H a5 (rep_lst (by rw [hide_out hDO]; exact a1) (reps_mono (hide_ext hide_sub) _ _ a2))
        · rw [if_neg hl] at p; exact p.elim⟩
end
section
variable {X : Cx} {c : Cc} {W : WX} {a b e t o : Expr} {es : List Expr} {fa fb fe ff : En → Res D} {fs : En → Res (List D)} {ft : En → Res Bool} {pos pos3 p p2 : Pos} {x m : Str}
/-! ### *e in a tuple -/
def starD : D → Res (List D)
  | .tup xs => .ok xs
  | .lst xs => .ok xs
  | _ => .bad
def aStar (fe : En → Res D) (fs : En → Res (List D)) : En → Res (List D) := fun env => (fe env).bind fun d => (starD d).bind fun xs => (fs env).bind fun ds => .ok (xs ++ ds)
theorem da_star (h : DE X c W e fe) (hs : DA X c W es fs) (hst : starEach (.Starred e p :: es) X.env = (true, eval e X.env) :: starEach es X.env := by rfl) : DA X c W (.Starred e p :: es) (aStar fe fs) :=
  pa_imp (StX.pa_star h hs hst) fun σ H Q ⟨env, O, R, q⟩ => ⟨env, O, R, post_bind q fun d v H1 x1 r1 p1 => by
    cases d with
    | tup xs =>
      unfold RepS Rep at r1
      obtain ⟨a, us, rfl, h1, h2⟩ := r1
      exact ⟨a, us, rfl, .inl (SqT.sub h1), env, O, R.mono x1, post_bind p1 fun ds ws H2 x2 r2 p2 => post_now p2 (reps_app (reps_mono (hide_ext x2) _ _ h2) r2)⟩
    | lst xs =>
      unfold RepS Rep at r1
      obtain ⟨a, us, rfl, h1, h2⟩ := r1
      exact ⟨a, us, rfl, .inr (Or.inl (Or.inl (hide_sub _ _ h1))), env, O, R.mono x1, post_bind p1 fun ds ws H2 x2 r2 p2 => post_now p2 (reps_app (reps_mono (hide_ext x2) _ _ h2) r2)⟩
    | _ => exact p1.elim⟩
end
end Dl
namespace Dl
open PySem PySem.Spec PyProof.Rows L2
/-! ### tuple * 0, tuple * 1 -/
theorem mul_one_tup (p : Addr) (xs : Array Value) (k : Nat) (dy : Option Addr) (sy : Array (Option Value)) (z : Tok) :
    Meets (Builtin.«tuple.__mul__» ⟨[.ref p, .int 1 z], []⟩) (fun _ S s => s.heap.get? p = some { cls := .type "tuple", dict := dy, data := .seq xs k, slots := sy } ∧ S (.ok (.ret (.ref p))) s) :=
  .of_wp fun P u B S t q => by
    obtain ⟨h1, h2, h3, h4, h5⟩ := t
    obtain ⟨q1, q⟩ := q
    have n1 := AutoSeq1.idx_int
    wp_walk using wpAny_loadPart' q1
    repeat (first
      | (refine wpAny_ite_false (by decide) ?_; wp_walk using wpAny_loadPart' q1)
      | (refine wpAny_ite_true (by simp) ?_; wp_walk using wpAny_loadPart' q1))
    exact ⟨_, rfl, q⟩
theorem mul_zero_tup (p : Addr) (xs : Array Value) (k : Nat) (dy : Option Addr) (sy : Array (Option Value)) (z : Tok) (ne : xs.isEmpty = false) :
    Meets (Builtin.«tuple.__mul__» ⟨[.ref p, .int 0 z], []⟩) (fun _ S s => s.heap.get? p = some { cls := .type "tuple", dict := dy, data := .seq xs k, slots := sy } ∧
      S (.ok (.ret (.ref s.heap.objs.size))) { s with heap := s.heap.push { cls := .type "tuple", data := .seq #[] } }) :=
  .of_wp fun P u B S t q => by
    obtain ⟨h1, h2, h3, h4, h5⟩ := t
    obtain ⟨q1, q⟩ := q
    have n1 := AutoSeq1.idx_int
    wp_walk using wpAny_loadPart' q1
    repeat (first
      | (refine wpAny_ite_false (by rw [ne]; decide) ?_; wp_walk using wpAny_loadPart' q1)
      | (refine wpAny_ite_false (by decide) ?_; wp_walk using wpAny_loadPart' q1)
      | (refine wpAny_ite_true (by simp) ?_; wp_walk using wpAny_loadPart' q1))
    exact ⟨_, rfl, q⟩
def gRepT : D → D → Res D
  | .tup xs, .int k => if xs ≠ [] ∧ 0 ≤ k ∧ k ≤ 1000 ∧ xs.length ≤ 1000 then .ok (.tup (List.replicate k.toNat xs).flatten) else .bad
  | _, _ => .bad
def rRep01 (K : PySem.W.Frag) : R2 := fun x y H Q => ∃ l k xs, x = .ref l ∧ y = .int k ∧ SqT K H l xs ∧ xs ≠ [] ∧ ((k = 1 ∧ Q (.ref l) H) ∨ (k = 0 ∧ ∀ p, H p = none → Q (.ref p) (upd H p (.tup []))))
section
variable {X : Cx} {c : Cc} {W : WX}
theorem op_rep01 : OpR X (binaryOp .Mult) (rRep01 X.K) := by
  intro pins s σ H x y v u Q I rx ry ⟨l, k, xs, ex, ey, hT, hne, q⟩
  subst ex ey
  cases rx
  obtain ⟨t, rfl⟩ := ry
  obtain ⟨its, r, ⟨⟨cls, dd, data, sl⟩, ho, hc, n, hd⟩, hs⟩ := I.tuple hT
  simp only at hc hd
  subst hc hd
  have hi : its.toArray.isEmpty = false := by
    cases its with
    | nil => exact absurd (List.eq_nil_of_length_eq_zero r.length) hne
    | cons a b => rfl
  rcases q with ⟨rfl, q⟩ | ⟨rfl, q⟩
  · refine wpAny_binaryOp_repeat_ref (T := "tuple") (U := "int") (by decide) ⟨_, ho, rfl⟩ (fun s' => typeIs_int s' 1 t) noFill_tuple_mul F.fills_int_mul F.slot_int_rmul repeat_tuple F.slot_int_index.lookup
      (call_meets F.slot_int_rmul (typeIs_int s 1 t) F.entry_int_rmul (F.args_int_rmul_2 _ _) (int_rmul_tuple 1 t l its.toArray n dd sl)
        ⟨ho, rfl, ⟨_, ho, rfl⟩, call_meets F.slot_tuple_mul ⟨_, ho, rfl⟩ F.entry_tuple_mul (F.args_tuple_mul_2 _ _) (mul_one_tup l its.toArray n dd sl t) ⟨ho, ?_⟩⟩)
    exact ⟨.ref l, H, I, rfl, q⟩
  · refine wpAny_binaryOp_repeat_ref (T := "tuple") (U := "int") (by decide) ⟨_, ho, rfl⟩ (fun s' => typeIs_int s' 0 t) noFill_tuple_mul F.fills_int_mul F.slot_int_rmul repeat_tuple F.slot_int_index.lookup
      (call_meets F.slot_int_rmul (typeIs_int s 0 t) F.entry_int_rmul (F.args_int_rmul_2 _ _) (int_rmul_tuple 0 t l its.toArray n dd sl)
        ⟨ho, rfl, ⟨_, ho, rfl⟩, call_meets F.slot_tuple_mul ⟨_, ho, rfl⟩ F.entry_tuple_mul (F.args_tuple_mul_2 _ _) (mul_zero_tup l its.toArray n dd sl t hi) ⟨ho, ?_⟩⟩)
    refine ⟨.ref s.heap.objs.size, _, I.laid (t' := s.toks) (o := .tup []) (fun b ob e => Heap.get?_push_of_some _ e) (Nat.le_refl _) ?_, rfl, q _ (I.hok.fresh (Nat.le_refl _))⟩
    exact ⟨Nat.zero_le _, [], .nil, IsTup.new _ _⟩
theorem flat_one {α : Type} (xs : List α) : (List.replicate 1 xs).flatten = xs := by simp
theorem reps_rep {K : PySem.W.Frag} {cl : Cl} {H : Hp} {ds : List D} {vs : List V} (r : Reps K cl H ds vs) : ∀ n : Nat, Reps K cl H (List.replicate n ds).flatten (List.replicate n vs).flatten
  | 0 => reps_nil
  | n + 1 => by
    rw [List.replicate_succ, List.replicate_succ, List.flatten_cons, List.flatten_cons]
    exact reps_app r (reps_rep r n)
theorem op_orR {op : Value → Value → Sem Value} {r1 r2 : R2} (h1 : OpR X op r1) (h2 : OpR X op r2) : OpR X op (fun x y H Q => r1 x y H Q ∨ r2 x y H Q) := by
  intro pins s σ H x y v u Q I rx ry h
  exact h.elim (h1 pins s σ H x y v u Q I rx ry) (h2 pins s σ H x y v u Q I rx ry)
theorem ow_repT : OpW X c W (binaryOp .Mult) gRepT := opW_of (op_orR op_rep01 op_repT) fun σ H O env x y vx vy Q R px py p => by
  cases x with
  | tup xs => cases y with
    | int k =>
      have sx := RepW.tupS px
      obtain ⟨a, vs, rfl, h1, h2⟩ := RepW.tup px
      obtain rfl := RepW.int py
      unfold gRepT at p
      dsimp only at p
      split at p
      · rename_i hc
        obtain ⟨c1, c2, c3, c4⟩ := hc
        have hne : vs ≠ [] := fun e => c1 (List.eq_nil_of_length_eq_zero (by rw [reps_len h2, e] <;> rfl))
        by_cases e1 : k = 1
        · subst e1
          refine .inl ⟨a, 1, vs, rfl, rfl, h1, hne, .inl ⟨rfl, post_now p ?_⟩⟩
          show Rep _ _ _ (.tup (List.replicate 1 xs).flatten) _
          rw [flat_one]
          exact sx
        · by_cases e0 : k = 0
          · subst e0
            exact .inl ⟨a, 0, vs, rfl, rfl, h1, hne, .inr ⟨rfl, fun q hq => post_ok p (Ext.upd hq) (repS_newT (R.new hq) hq reps_nil)⟩⟩
          · exact .inr ⟨a, k, vs, rfl, rfl, h1, hne, by omega, c3, by rw [← reps_len h2]; exact c4, fun q hq => post_ok p (Ext.upd hq) (repS_newT (R.new hq) hq (reps_rep h2 _))⟩
      · exact p.elim
    | _ => exact p.elim
  | _ => exact p.elim
end
end Dl
namespace Dl
open PySem PySem.Spec PyProof.Rows L2
section
variable {X : Cx} {c : Cc} {W : WX} {a b e t o : Expr} {es : List Expr} {fa fb fe ff f1 f2 : En → Res D} {fs : En → Res (List D)} {ft : En → Res Bool} {pos pos3 p p2 : Pos} {x m : Str} {e1 e2 : Expr}
/-! ### str of an int, f-strings -/
def okI (i : Int) : Prop := i.natAbs.log2 < 1000 ∧ (toString i : Str).length ≤ 1000
instance {i : Int} : Decidable (okI i) := inferInstanceAs (Decidable (_ ∧ _))
def fStrI : List D → Res D
  | [.int i] => if okI i then .ok (.str (toString i)) else .bad
  | _ => .bad
theorem ca_strI : CaW X c W (.type "str") fStrI := caW_of call_str_int fun σ H O env ds vs Q R pv q => by
  cases ds with
  | nil => exact q.elim
  | cons d ds => cases ds with
    | cons _ _ => cases d <;> exact q.elim
    | nil =>
      obtain ⟨v, rfl, r⟩ := paired_one pv
      cases d with
      | int i =>
        have q : Post X.K c W σ H (RepS X.K c O) (if okI i then .ok (.str (toString i)) else .bad) Q := q
        by_cases h : okI i
        · rw [if_pos h] at q
          exact ⟨i, by rw [RepW.int r], Nat.lt_trans h.1 (by decide), post_now q repS_str⟩
        · rw [if_neg h] at q; exact q.elim
      | _ => exact q.elim
def fmtD : D → Res D
  | .str z => if z.length ≤ 1000 then .ok (.str z) else .bad
  | .int i => if okI i then .ok (.str (toString i)) else .bad
  | _ => .bad
theorem de_fmt (h : DE X c W e fe) : DE X c W (.FormattedValue e (-1) none pos) (eAt fmtD fe) := pe_imp (pe_fmt h) fun σ H Q ⟨env, O, R, q⟩ => ⟨env, O, R, post_bind q fun d v H1 x1 r1 p1 => by
  cases d with
  | str z =>
    have p1 : Post X.K c W σ H1 (RepS X.K c O) (if z.length ≤ 1000 then .ok (.str z) else .bad) Q := p1
    by_cases hz : z.length ≤ 1000
    · rw [if_pos hz] at p1
      unfold RepS Rep at r1
      exact .inl ⟨z, r1, Nat.le_trans hz (by decide), post_now p1 repS_str⟩
    · rw [if_neg hz] at p1; exact p1.elim
  | int i =>
    have p1 : Post X.K c W σ H1 (RepS X.K c O) (if okI i then .ok (.str (toString i)) else .bad) Q := p1
    by_cases h : okI i
    · rw [if_pos h] at p1
      unfold RepS Rep at r1
      exact .inr ⟨i, r1, Nat.lt_trans h.1 (by decide), post_now p1 repS_str⟩
    · rw [if_neg h] at p1; exact p1.elim
  | _ => exact p1.elim⟩
def strD : D → Res Str
  | .str z => if z.length ≤ 1000 then .ok z else .bad
  | _ => .bad
def eJ2 (f1 f2 : En → Res D) : En → Res D := fun env => (f1 env).bind fun d => (strD d).bind fun x => (f2 env).bind fun e => (strD e).bind fun y => .ok (.str (x ++ y))
theorem str_len_app (x y : Str) : (x ++ y).length = x.length + y.length := by
  show (x.cps ++ y.cps).size = _
  rw [Array.size_append]
  rfl
theorem str_empty_app (x : Str) : Str.empty ++ x = x := by
  show (⟨#[] ++ x.cps⟩ : Str) = x
  rw [Array.empty_append]
theorem de_joined2 (h1 : DE X c W e1 f1) (h2 : DE X c W e2 f2) : DE X c W (.JoinedStr [e1, e2] pos) (eJ2 f1 f2) := pe_imp (pe_joined (.cons h1 (.cons h2 .nil))) fun σ H Q ⟨env, O, R, q⟩ => ⟨env, O, R, post_bind q fun d v H1 x1 r1 p1 => by
  cases d with
  | str z =>
    have p1 : Post X.K c W σ H1 (RepS X.K c O) ((if z.length ≤ 1000 then Res.ok z else .bad).bind fun x => (f2 env).bind fun e => (strD e).bind fun y => .ok (.str (x ++ y))) Q := p1
    by_cases hz : z.length ≤ 1000
    · rw [if_pos hz] at p1
      unfold RepS Rep at r1
      refine ⟨z, r1, by rw [str_empty_app]; exact Nat.le_trans hz (by decide), env, O, R.mono x1, ?_⟩
      have p1 : Post X.K c W σ H1 (RepS X.K c O) ((f2 env).bind fun e => (strD e).bind fun y => .ok (.str (z ++ y))) Q := p1
      refine post_bind p1 fun d2 v2 H2 x2 r2 p2 => ?_
      cases d2 with
      | str y =>
        have p2 : Post X.K c W σ H2 (RepS X.K c O) ((if y.length ≤ 1000 then Res.ok y else .bad).bind fun y => .ok (.str (z ++ y))) Q := p2
        by_cases hy : y.length ≤ 1000
        · rw [if_pos hy] at p2
          unfold RepS Rep at r2
          rw [str_empty_app]
          have p2 : Post X.K c W σ H2 (RepS X.K c O) (.ok (.str (z ++ y))) Q := p2
          exact ⟨y, r2, by rw [str_len_app]; exact Nat.le_trans (Nat.add_le_add hz hy) (by decide), post_now p2 repS_str⟩
        · rw [if_neg hy] at p2; exact p2.elim
      | _ => exact p2.elim
    · rw [if_neg hz] at p1; exact p1.elim
  | _ => exact p1.elim⟩
/-! ### a list that a local holds alone may be handed on: it is shared from then on -/
def sShare (i : Nat) (g : En → Out) : En → Out := fun env => match env[i]? with
  | some (.ow (.lst xs)) => g (env.set i (.sh (.lst xs)))
  | _ => .bad
theorem hide_filt {O : List Addr} {H : Hp} {p : Addr} : Ext (hide O H) (hide (O.filter (· ≠ p)) H) := fun b o e => by
  unfold hide at e ⊢
  by_cases q : b ∈ O
  · rw [if_pos q] at e; cases e
  · rw [if_neg q] at e
    rw [if_neg fun z => q (List.mem_filter.mp z).1]
    exact e
theorem Rl.share {K : PySem.W.Frag} {c : Cc} {O : List Addr} {env : En} {σ : L2.St} {H : Hp} {i : Nat} {xs : List D} {p : Addr} (R : Rl K c O env σ H) (h : env[i]? = some (.ow (.lst xs))) (hp : σ[i]? = some (some (.ref p))) :
    Rl K c (O.filter (· ≠ p)) (env.set i (.sh (.lst xs))) σ H := by
  obtain ⟨p', h1, h2, h3, h4, vs, h5, h6⟩ := R.ow i _ h
  rw [hp] at h1
  cases h1
  have hi : i < env.length := (List.getElem?_eq_some_iff.mp h).1
  have get : ∀ {j : Nat} {s : Sl}, (env.set i (.sh (.lst xs)))[j]? = some s → (j = i ∧ s = .sh (.lst xs)) ∨ (j ≠ i ∧ env[j]? = some s) := fun {j s} e => by
    by_cases q : i = j
    · subst q
      rw [List.getElem?_set_self hi] at e
      cases e
      exact .inl ⟨rfl, rfl⟩
    · rw [List.getElem?_set_ne q] at e
      exact .inr ⟨Ne.symm q, e⟩
  refine ⟨by rw [List.length_set]; exact R.len, R.ext, fun b hb => List.mem_filter.mpr ⟨R.sub b hb, decide_eq_true fun z => h4 (z ▸ hb)⟩, fun b hb => R.dom b (List.mem_filter.mp hb).1, fun j d e => ?_, fun j o e => ?_, fun j k ns ys e => ?_, fun j k o u b e1 e2 e3 e4 => ?_⟩
  · rcases get e with ⟨rfl, z⟩ | ⟨_, e⟩
    · cases z
      refine ⟨_, hp, rep_lst ?_ (reps_mono hide_filt _ _ h6)⟩
      rw [hide_out fun z => (of_decide_eq_true (List.mem_filter.mp z).2) rfl]
      exact h5
    · obtain ⟨v, e1, e2⟩ := R.sh j d e
      exact ⟨v, e1, rep_mono hide_filt _ _ e2⟩
  · rcases get e with ⟨_, z⟩ | ⟨hj, e⟩
    · cases z
    · obtain ⟨b, b1, b2, b3, b4, b5⟩ := R.ow j o e
      exact ⟨b, b1, List.mem_filter.mpr ⟨b2, decide_eq_true fun z => hj (R.inj j i o _ p e h (z ▸ b1) hp)⟩, b3, b4, b5.mono hide_filt Ext.rfl'⟩
  · rcases get e with ⟨_, z⟩ | ⟨_, e⟩
    · cases z
    · exact R.me j k ns ys e
  · rcases get e1 with ⟨_, z⟩ | ⟨_, e1⟩
    · cases z
    · rcases get e2 with ⟨_, z⟩ | ⟨_, e2⟩
      · cases z
      · exact R.inj j k o u b e1 e2 e3 e4
theorem ds_share {i : Nat} {st : Stmt} {g : En → Out} (h : DS X c W st g) : DS X c W st (sShare i g) := ps_imp h fun D σ H ⟨env, O, R, p⟩ => by
  unfold sShare at p
  cases q : env[i]? with
  | none => rw [q] at p; exact p.elim
  | some s =>
    rw [q] at p
    cases s with
    | ow o =>
      cases o with
      | lst xs =>
        obtain ⟨a, h1, _⟩ := R.ow i _ q
        exact ⟨_, _, R.share q h1, postS_mono hide_filt p⟩
      | _ => exact p.elim
    | _ => exact p.elim
end
end Dl
namespace Dl
open PySem PySem.Spec PyProof.Rows L2
section
variable {X : Cx} {c : Cc} {W : WX} {a b e t o : Expr} {es : List Expr} {fa fb fe ff f1 f2 : En → Res D} {fs : En → Res (List D)} {ft : En → Res Bool} {pos pos3 p p2 : Pos} {x m : Str} {e1 e2 : Expr} {f : Addr} {F : List D → Res D} {kc k : Nat}
/-! ### one of two ways -/
def eAlt (f1 f2 : En → Res D) : En → Res D := fun env => (f1 env).alt (f2 env)
theorem de_alt (h1 : DE X c W e f1) (h2 : DE X c W e f2) : DE X c W e (eAlt f1 f2) := ⟨fun pins s σ H Q I ⟨env, O, R, q⟩ => by
  unfold eAlt at q
  cases z : f1 env with
  | ok d => rw [z] at q; exact h1.run pins s σ H Q I ⟨env, O, R, by rw [z]; exact q⟩
  | ex k l => rw [z] at q; exact h1.run pins s σ H Q I ⟨env, O, R, by rw [z]; exact q⟩
  | bad => rw [z] at q; exact h2.run pins s σ H Q I ⟨env, O, R, q⟩⟩
/-! ### o[e], o an instance with an own __getitem__ -/
def gSubO (k : Nat) (F : List D → Res D) : D → D → Res D
  | .ins k1 ns xs, y => if k1 = k then F [.ins k1 ns xs, y] else .bad
  | _, _ => .bad
theorem de_subO (Fn : FnD X.prog X.w X.K X.mg X.base c.cl k f F) (hr : Room (k + 1) X.A) (tk : Takes X W) (hs : PySem.W.findIn X.K (.ref (c.cl.at_ kc)) "__getitem__" = some (some (.ref f))) (hfn : PySem.W.fnIn X.K f = true) (hi : PySem.W.isFn X.K (.ref f) = true)
    (ha : DE X c W a fa) (hb : DE X c W b fb) (hsl : ∀ u v, subscripted b true u v = runValue (.builtin "lifetime.subscript" ⟨[u, v], []⟩) := by intro _ _; with_unfolding_all rfl) :
    DE X c W (.Subscript a b pos) (eBin (gSubO kc F) fa fb) := ⟨fun pins s σ H Q I ⟨env, O, R, q⟩ => by
  refine Subscript_ (binT (R := fun x y H2 => ∃ dx dy, Rl X.K c O env σ H2 ∧ RepS X.K c O H2 dx x ∧ RepS X.K c O H2 dy y ∧ Post X.K c W σ H2 (RepS X.K c O) (gSubO kc F dx dy) Q) ha hb I ⟨env, O, R, post_bind q fun dx x H1 x1 r1 p1 => ⟨env, O, R.mono x1, post_bind p1 fun dy y H2 x2 r2 p2 => ⟨dx, dy, (R.mono x1).mono x2, rep_mono (hide_ext x2) _ _ r1, r2, p2⟩⟩⟩ fun v u s2 x y H2 I2 rx ry ⟨dx, dy, R2, px, py, p2⟩ => ?_)
  cases dx with
  | ins k1 ns xs =>
    have q0 : Post X.K c W σ H2 (RepS X.K c O) (if k1 = kc then F [.ins k1 ns xs, dy] else .bad) Q := p2
    by_cases hk : k1 = kc
    · rw [if_pos hk] at q0
      subst hk
      obtain ⟨p, d, vs, rfl, h1, _, _⟩ := RepW.ins (.inl px)
      obtain rfl : v = Value.ref p := rx
      obtain ⟨od, J⟩ := ins_inst I2 h1
      obtain ⟨m, hF⟩ := I2.fr
      exact PySem.W.sub_K hF I2.ok.mod.kin J hs hfn hi (thn (fnR_below Fn hr.in1 I2.env0.in1 tk I2 (vs := [.ref p, y]) (.cons rfl (.cons ry .nil)) (spR_of R2 (reps_cons px (reps_cons py reps_nil)) q0)) fun w s3 ⟨z, H3, I3, rz, qz⟩ => ⟨z, H3, I3, rz, qz⟩) (hsl _ _)
    · rw [if_neg hk] at q0; exact q0.elim
  | _ => exact p2.elim⟩
end
end Dl
set_option maxHeartbeats 3200000
namespace Dl
open PySem PySem.Spec PyProof.Rows L2
/-! ### set of a list of ints -/
/-- a new set -/
abbrev nset (u : World) : Obj := ⟨.type "set", none, .set #[] 0 (.fresh 0 0 (!u.params.followText "set-order")), #[]⟩
section
variable {P : Program} {u : World} {B : Around} {EE : Value → Shared → Prop} {t : Shared}
theorem set_fill {l : Addr} {xs : Array Value} {js : List Int} {Z : Result → Shared → Prop} (calm : B.handled = none) (hl : t.heap.IsList l xs) (hx : IntsAre xs.toList js) (few : js.length + 1 < scanBound)
    (k : ∀ (g : Heap) (tk n : Nat), SetR u g t.heap.objs.size (fun j => decide (j ∈ js)) n → n ≤ js.length → (∀ b o, t.heap.get? b = some o → g.get? b = some o) → Z (.ok (.ret .none)) { t with heap := g, toks := tk }) :
    codeAny (model P u) B (.builtin "set.update.loop" ⟨[.ref t.heap.objs.size, .ref (t.heap.push (nset u)).objs.size], []⟩) Z { t with heap := (t.heap.push (nset u)).push { cls := .type "list_iterator", data := .fields #[.ref l, .int 0 0] } } := by
  have len : xs.size = js.length := (Array.length_toList (xs := xs)).symm.trans (IntsAre.length hx)
  have sz1 : (t.heap.push (nset u)).objs.size = t.heap.objs.size + 1 := Heap.size_push ..
  have ll : l < t.heap.objs.size := by
    obtain ⟨o, e, _⟩ := hl
    exact Heap.lt_size e
  have ne1 : l ≠ (t.heap.push (nset u)).objs.size := by rw [sz1]; exact Nat.ne_of_lt (Nat.lt_succ_of_lt ll)
  have out1 : t.heap.objs.size ∉ [(t.heap.push (nset u)).objs.size, l] := by
    intro z
    rcases List.mem_cons.mp z with z | z
    · rw [sz1] at z; exact absurd z (Nat.ne_of_lt (Nat.lt_succ_self _))
    · exact absurd (List.mem_singleton.mp z).symm (Nat.ne_of_lt ll)
  have vals : ∀ (i : Nat) (v : Value), xs[i]? = some v → ∃ k tk, js[i]? = some k ∧ v = .int k tk := fun i v hv => by
    have hi : i < js.length := len ▸ (Array.getElem?_eq_some_iff.mp hv).1
    obtain ⟨tk, e⟩ := PyProof.Rows.IntsAre.int_at hx i v (by rw [Array.getElem?_toList]; exact hv)
    refine ⟨js[i], tk, List.getElem?_eq_getElem hi, e.trans ?_⟩
    rw [List.getD_eq_getElem?_getD, List.getElem?_eq_getElem hi]
    rfl
  have new1 : (t.heap.push (nset u)).get? t.heap.objs.size = some (nset u) := Heap.get?_push_size _ rfl
  refine set_update_ints ((Walks.list (by simp [calm]) _ l ne1 xs).toS) t.heap.objs.size out1 js len few vals _ 0 _ rfl (Nat.zero_le _) ⟨⟨_, Heap.get?_push_size _ rfl, rfl, rfl⟩, (hl.push _).push _⟩ ⟨0, Nat.le_refl 0, setR_new_at (Heap.get?_push_of_some _ new1)⟩ fun t2 n mv le R => ?_
  obtain ⟨g, g2, d, tk, os⟩ := t2
  have e1 : g2 = t.gens := mv.gens
  have e2 : d = t.drawn := mv.drawn
  have e3 : os = t.os := mv.os
  subst e1 e2 e3
  refine k g tk n R (len ▸ le) fun b o e => mv.heap b o (fun z => ?_) (Heap.get?_push_of_some _ (Heap.get?_push_of_some _ e))
  have lt := Heap.lt_size e
  rcases List.mem_cons.mp z with z | z
  · exact absurd z (Nat.ne_of_lt lt)
  · have z := List.mem_singleton.mp z
    rw [sz1] at z
    exact absurd z (Nat.ne_of_lt (Nat.lt_succ_of_lt lt))
theorem set_lst {l : Addr} {xs : Array Value} {js : List Int} {Z : Value → Shared → Prop} (calm : B.handled = none) (hl : t.heap.IsList l xs) (hx : IntsAre xs.toList js) (few : js.length + 1 < scanBound)
    (k : ∀ (g : Heap) (tk n : Nat), SetR u g t.heap.objs.size (fun j => decide (j ∈ js)) n → n ≤ js.length → (∀ b o, t.heap.get? b = some o → g.get? b = some o) → Z (.ref t.heap.objs.size) { t with heap := g, toks := tk }) :
    wpAny (model P u) B (call (.type "set") [.ref l]) Z EE t := by
  have ⟨c1, c2, c3⟩ := F.called_set.mro
  have m1 := F.called_set.made
  have m2 := F.called_set.sub
  have m3 := F.called_set.notType
  have m4 := F.called_set.canCreate
  have m5 := F.typeCall_set_1 (.ref l)
  refine wpAny_call (codeAny_of_tree ?_)
  show wpAny _ _ (callAny (.type "set") _) _ _ _
  refine wpAny_pure ⟨Code.quiet_builtin _ (by decide +kernel), codeAny_builtin F.entry_type_call ?_⟩
  rw [Around.under_plain (weight_type_call_type "set" [.ref l] []) rfl]
  repeat (any_goals (first | assumption | wp_step))
  refine codeAny_mono (code_set_led1 (E := EE) (.ref l) (Q₁ := fun z t1 => z = .ref t.heap.objs.size ∧ t1 = { t with heap := t.heap.push (nset u) }) ⟨rfl, rfl⟩) fun r1 t1 h1 => ?_
  cases r1 with
  | error e => exact h1
  | ok fl => cases fl with
    | ret z =>
      obtain ⟨rfl, rfl⟩ := h1
      have new1 : (t.heap.push (nset u)).get? t.heap.objs.size = some (nset u) := Heap.get?_push_size _ rfl
      have ty1 : Shared.TypeIs { t with heap := t.heap.push (nset u) } (.ref t.heap.objs.size) "set" := ⟨_, new1, rfl⟩
      have m6 := F.called_set.init.lookup
      have m7 := F.called_set.init.bind (.ref t.heap.objs.size)
      repeat (any_goals (first | assumption | wp_step))
      refine codeAny_mono (codeAny_call_builtin (R := wants (fun v t2 => v = .none ∧ ∃ g tk n, t2 = { t with heap := g, toks := tk } ∧ SetR u g t.heap.objs.size (fun j => decide (j ∈ js)) n ∧ n ≤ js.length ∧ ∀ b o, t.heap.get? b = some o → g.get? b = some o) EE)
        F.called_set.init.plain F.entry_set_init (check_set_init_1 ty1 ?_)) fun r2 t2 h2 => ?_
      · obtain ⟨⟨ocls, odict, odata, oslots⟩, hol, hcl, nl, hdl⟩ := hl
        simp only at hcl hdl
        subst hcl hdl
        have hl0 : t.heap.IsList l xs := ⟨_, hol, rfl, nl, rfl⟩
        have hl1 : (t.heap.push (nset u)).IsList l xs := hl0.push _
        have hol' : (t.heap.push (nset u)).get? l = some { cls := .type "list", dict := odict, data := .seq xs nl, slots := oslots } := Heap.get?_push_of_some _ hol
        have m8 := PySem.F.sub_list_set
        have m9 := PySem.F.sub_list_frozenset
        have m10 : (Value.type "list" == Value.type "dict") = false := by decide
        unfold Builtin.«set.__init__» noKeywords Builtin.Frozenset.updateFrom
        generalize hPI : pyIter = PI
        wp_walk
        subst hPI
        refine wpAny_pyIter_list hl1 (wpAny_bind (wpAny_runValue ?_))
        refine set_fill (t := t) (by simp [calm]) hl0 hx few fun g tk n R le kp => ?_
        refine wpAny_pure ?_
        show wpAny _ _ (ret Value.none) _ _ _
        exact wpAny_pure ⟨rfl, g, tk, n, rfl, R, le, kp⟩
      · cases r2 with
        | error e => exact h2
        | ok fl2 => cases fl2 with
          | ret v =>
            obtain ⟨rfl, g, tk, n, rfl, R, le, kp⟩ := h2
            repeat (any_goals (first | assumption | wp_step))
            exact k _ _ _ R le kp
          | _ => exact h2.elim
    | _ => exact h1.elim
end
/-! ### sorted(set(e)) -/
def insS (k : Int) : List Int → List Int
  | [] => [k]
  | j :: js => if k < j then k :: j :: js else if k = j then j :: js else j :: insS k js
def sortS : List Int → List Int
  | [] => []
  | k :: ks => insS k (sortS ks)
theorem mem_insS {k j : Int} : ∀ {js : List Int}, j ∈ insS k js ↔ j = k ∨ j ∈ js
  | [] => by simp [insS]
  | i :: js => by
    unfold insS
    by_cases h1 : k < i
    · rw [if_pos h1]; simp
    · rw [if_neg h1]
      by_cases h2 : k = i
      · rw [if_pos h2]; subst h2; simp
      · rw [if_neg h2, List.mem_cons, mem_insS, List.mem_cons]
        exact ⟨fun h => h.elim (fun h => .inr (.inl h)) fun h => h.elim .inl fun h => .inr (.inr h), fun h => h.elim (fun h => .inr (.inl h)) fun h => h.elim .inl fun h => .inr (.inr h)⟩
theorem lt_insS {k : Int} : ∀ {js : List Int}, js.Pairwise (· < ·) → (insS k js).Pairwise (· < ·)
  | [], _ => by simp [insS]
  | i :: js, h => by
    obtain ⟨a, b⟩ := List.pairwise_cons.mp h
    unfold insS
    by_cases h1 : k < i
    · rw [if_pos h1]
      exact List.pairwise_cons.mpr ⟨fun j hj => (List.mem_cons.mp hj).elim (fun e => e ▸ h1) fun e => Int.lt_trans h1 (a j e), h⟩
    · rw [if_neg h1]
      by_cases h2 : k = i
      · rw [if_pos h2]; exact h
      · rw [if_neg h2]
        exact List.pairwise_cons.mpr ⟨fun j hj => (mem_insS.mp hj).elim (fun e => by omega) (a j), lt_insS b⟩
theorem mem_sortS {j : Int} : ∀ {js : List Int}, j ∈ sortS js ↔ j ∈ js
  | [] => Iff.rfl
  | k :: ks => by
    unfold sortS
    rw [mem_insS, mem_sortS, List.mem_cons]
theorem lt_sortS : ∀ (js : List Int), (sortS js).Pairwise (· < ·)
  | [] => .nil
  | k :: ks => lt_insS (lt_sortS ks)
theorem sorted_one : ∀ {xs ys : List Int}, xs.Pairwise (· < ·) → ys.Pairwise (· < ·) → (∀ k, k ∈ xs ↔ k ∈ ys) → xs = ys
  | [], [], _, _, _ => rfl
  | [], y :: ys, _, _, h => absurd ((h y).mpr (List.mem_cons_self ..)) (by simp)
  | x :: xs, [], _, _, h => absurd ((h x).mp (List.mem_cons_self ..)) (by simp)
  | x :: xs, y :: ys, hx, hy, h => by
    obtain ⟨a, b⟩ := List.pairwise_cons.mp hx
    obtain ⟨a', b'⟩ := List.pairwise_cons.mp hy
    have e : x = y := by
      rcases List.mem_cons.mp ((h x).mp (List.mem_cons_self ..)) with z | z
      · exact z
      · rcases List.mem_cons.mp ((h y).mpr (List.mem_cons_self ..)) with w | w
        · exact w.symm
        · have := a y w
          have := a' x z
          omega
    subst e
    have t : xs = ys := sorted_one b b' fun k => by
      refine ⟨fun hk => ?_, fun hk => ?_⟩
      · rcases List.mem_cons.mp ((h k).mp (List.mem_cons_of_mem _ hk)) with z | z
        · have := a k hk; omega
        · exact z
      · rcases List.mem_cons.mp ((h k).mpr (List.mem_cons_of_mem _ hk)) with z | z
        · have := a' k hk; omega
        · exact z
    rw [t]
def intL : List D → Option (List Int)
  | [] => some []
  | .int k :: ds => (intL ds).map (k :: ·)
  | _ :: _ => none
theorem intL_reps {K : PySem.W.Frag} {cl : Cl} {H : Hp} : ∀ {ds : List D} {js : List Int} {vs : List V}, intL ds = some js → Reps K cl H ds vs → vs = js.map V.int
  | [], js, vs, h, r => by cases h; unfold Reps at r; subst r; rfl
  | d :: ds, js, vs, h, r => by
    cases d with
    | int k =>
      have h : (intL ds).map (k :: ·) = some js := h
      cases q : intL ds with
      | none => rw [q] at h; cases h
      | some ks =>
        rw [q] at h
        cases h
        unfold Reps at r
        obtain ⟨v, us, rfl, r1, r2⟩ := r
        unfold Rep at r1
        subst r1
        rw [intL_reps q r2]
        rfl
    | _ => cases h
def sset : D → Res D
  | .lst xs => match intL xs with
    | some js => if js.length ≤ 60 then .ok (.lst ((sortS js).map .int)) else .bad
    | none => .bad
  | _ => .bad
def rSetI (K : PySem.W.Frag) (w : World) : List V → Hp → VK → Prop := fun vs H Q => ∃ (p : Addr) (js : List Int), vs = [.ref p] ∧ SqL K H p (js.map V.int) ∧ js.length ≤ 1000 ∧ ∀ a n, n ≤ js.length → H a = none → Q (.ref a) (upd H a (SetO w a (fun j => decide (j ∈ js)) n))
section
variable {X : Cx} {c : Cc} {W : WX} {e : Expr} {fe : En → Res D} {p p2 pos pos2 : Pos}
theorem cr_setI (hc : X.calm = true) : CallR X (.type "set") (rSetI X.K X.w) := by
  intro pins s σ H vs us Q I r ⟨a, js, ev, hs, hn, q⟩
  subst ev
  obtain ⟨its, rv, hl, hz⟩ := I.list hs
  rw [Vals.ref1 r]
  refine set_lst (I.ok.hd hc) hl.isList (by simpa using rv.ints) (Nat.lt_of_le_of_lt (Nat.succ_le_succ hn) (by decide)) fun g tk n S le kp => ?_
  exact ⟨.ref _, _, I.laid (t' := tk) kp (Nat.le_refl _) (setO_new S), rfl, q _ _ le (I.hok.fresh (Nat.le_refl _))⟩
theorem de_sset (h : DE X c W e fe) (hc : X.calm = true) (m1 : X.mg "sorted" = none) (m2 : X.mg "set" = none) (g1 : Gl X "sorted" := by rfl) (g2 : Gl X "set" := by rfl)
    (s1 : starEach [e] X.env = (false, eval e X.env) :: starEach [] X.env := by rfl) (b1 : (backTo pos2 (starEach [] X.env)).any (·.1) = false := by rfl)
    (s2 : starEach [.Call (.Name "set" p2) [e] [] pos2] X.env = (false, eval (.Call (.Name "set" p2) [e] [] pos2) X.env) :: starEach [] X.env := by rfl) (b2 : (backTo pos (starEach [] X.env)).any (·.1) = false := by rfl) :
    DE X c W (.Call (.Name "sorted" p) [.Call (.Name "set" p2) [e] [] pos2] [] pos) (eAt sset fe) :=
  pe_imp (pe_callB (cr_sortedSet hc) g1 m1 (by decide +kernel) (pa_cons (pe_callTy (cr_setI hc) g2 m2 (by decide +kernel) (pa_cons h pa_nil s1) (he := s1) (hpl := b1)) pa_nil s2) (he := s2) (hpl := b2)) fun σ H Q ⟨env, O, R, q⟩ => ⟨env, O, R, post_bind q fun d v H1 x1 r1 p1 => by
    cases d with
    | lst xs =>
      have p1 : Post X.K c W σ H1 (RepS X.K c O) (match intL xs with | some js => if js.length ≤ 60 then .ok (.lst ((sortS js).map .int)) else .bad | none => .bad) Q := p1
      cases z : intL xs with
      | none => rw [z] at p1; exact p1.elim
      | some js =>
        rw [z] at p1
        have p1 : Post X.K c W σ H1 (RepS X.K c O) (if js.length ≤ 60 then .ok (.lst ((sortS js).map .int)) else .bad) Q := p1
        by_cases hl : js.length ≤ 60
        · rw [if_pos hl] at p1
          unfold RepS Rep at r1
          obtain ⟨a, us, rfl, h1, h2⟩ := r1
          rw [intL_reps z h2] at h1
          refine ⟨a, js, rfl, Or.inl (Or.inl (hide_sub _ _ h1)), Nat.le_trans hl (by decide), fun b n hn hb => ⟨b, _, n, rfl, upd_same, Nat.lt_of_le_of_lt (Nat.le_trans hn hl) (by decide), fun ns p pw mem len hp => ?_⟩⟩
          have e : ns = sortS js := sorted_one pw (lt_sortS js) fun k => by rw [mem k, mem_sortS]; exact decide_eq_true_iff
          subst e
          have R2 := (R.mono x1).mono (Ext.upd (o := SetO X.w b (fun j => decide (j ∈ js)) n) hb)
          exact post_ok p1 ((Ext.upd hb).trans (Ext.upd hp)) (repS_newL (R2.new hp) hp (scr_rep _))
        · rw [if_neg hl] at p1; exact p1.elim
    | _ => exact p1.elim⟩
end
end Dl
namespace Dl
open PySem PySem.Spec PyProof.Rows L2
section
variable {P : Program} {w : World} {K : PySem.W.Frag} {mg : Str → Option Value} {base : Heap} {cl : Cl}
/-- __init__ by all its parameters' values -/
theorem fnI_ok {x qual : Str} {st : Stmt} {f : Addr} {fd : FuncData} {dvs0 : List V} {kws : List (Str × V)} {n0 : Str} {N ps : List Str} {k kc : Nat} {fb : En → Out} (F : FunD K x qual (defArgs st) (defBody st) (defScope st) dvs0 kws f fd) (S : FnScope (n0 :: N) (n0 :: ps) (defScope st))
    (body : ∀ (cdv : Value) (A : Around) (outer : List PySem.Env) (s : Shared) (H : Hp) (E : XK) (c : Cc), c.cl = cl → Room k (A.deeper (envOfC qual (defScope st) s.heap.objs.size f cdv)) → DSs (Xb P w K mg base (n0 :: N) qual st f cdv A outer s H E) c (Wb E) (defBody st) fb) :
    FnOk P w K mg base (L2.CX P w) (k + 1) f fd (n0 :: ps) (spI K cl kc fun ds => if ds.length = ps.length then outI kc (fb (startI (n0 :: N) kc ds)) else .bad) := by
  refine fnOk_of F S (fun vs H Q E h => ?_) fun cdv A outer s H vs Q E hr h => ?_
  · obtain ⟨H1, x, dx, ws, ds, O, rfl, _, _, _, _, _, r, p⟩ := h
    dsimp only at p
    by_cases hl : ds.length = ps.length
    · rw [List.length_cons, List.length_cons, ← hl, reps_len r]
    · rw [if_neg hl] at p; exact p.elim
  · obtain ⟨H1, x, dx, ws, ds, O, rfl, rfl, n1, n2, ne, dom, r, p⟩ := h
    dsimp only at p
    by_cases hl : ds.length = ps.length
    · rw [if_pos hl] at p
      refine ⟨_, body cdv A outer s _ E ⟨cl, H1, O, x⟩ rfl hr, _, x :: O, startI_rl n1 n2 ne dom r, ?_⟩
      cases q : fb (startI (n0 :: N) kc ds) with
      | nx env =>
        rw [q] at p
        refine fun σ' H' O' R _ => ?_
        unfold outI at p
        dsimp only at p
        cases q0 : slot0 env with
        | none => rw [q0] at p; exact p.elim
        | some z =>
          obtain ⟨kk, ns, xs⟩ := z
          rw [q0] at p
          dsimp only at p
          have he := slot0_get q0
          have g0 := R.me 0 kk ns xs he
          obtain ⟨a, g1, g2, g3, g4, dx', us, g5, g6, g7⟩ := R.ow 0 _ he
          rw [g0] at g1
          cases g1
          by_cases hk : kk = kc
          · rw [if_pos hk] at p
            subst hk
            exact p H' dx' us R.ext g5 g6 (reps_mono (hide_less R.sub) _ _ g7)
          · rw [if_neg hk] at p; exact p.elim
      | xx e l env => rw [q] at p; exact fun σ' H' O' R => rz_less (c := ⟨cl, H1, O, 0⟩) rfl (fun _ h => h) (fun _ _ _ h => h) (p H' R.ext)
      | rt d => rw [q] at p; exact p.elim
      | bk env => rw [q] at p; exact p.elim
      | ct env => rw [q] at p; exact p.elim
      | bad => rw [q] at p; exact p.elim
    · rw [if_neg hl] at p; exact p.elim
/-- the values behind the first, as they are written, before the defaults -/
theorem fnI_raw {f : Addr} {fd : FuncData} {ps : List Str} {k kc : Nat} {Fi : List D → Res (List Str × List D)} {dd : List D} {dvs : List V} {dus : List Value} (F1 : FnOk P w K mg base (L2.CX P w) k f fd ps (spI K cl kc Fi)) (hb : Binds K fd ps dus) (hd : Vals dvs dus) (hr : ∀ H, Reps K cl H dd dvs) :
    FnR P w K mg base (L2.CX P w) k f (spI K cl kc fun ds => Fi (ds ++ dd)) :=
  FnR.imp (F1.raw hb hd) fun vs H Q E ⟨H1, x, dx, ws, ds, O, e1, e2, n1, n2, ne, dom, r, p⟩ => ⟨H1, x, dx, ws ++ dvs, ds ++ dd, O, by rw [e1]; rfl, e2, n1, n2, ne, dom, reps_app r (hr _), p⟩
end
section
variable {X : Cx} {c : Cc} {W : WX} {a b e t o e2 : Expr} {es : List Expr} {fe ff f1 f2 : En → Res D} {fs : En → Res (List D)} {pos pos3 p p2 : Pos} {x m : Str} {f : Addr} {fd : FuncData} {ps ks : List Str} {kc k n : Nat} {Fi : List D → Res (List Str × List D)} {kpos : Pos} {nm : Option Str}
/-! ### C(e, .., k = e2) -/
def eMakeK (kc n : Nat) (Fi : List D → Res (List Str × List D)) (fs : En → Res (List D)) (f2 : En → Res D) : En → Res D := fun env => (fs env).bind fun ds => (f2 env).bind fun d => if ds.length = n then insR kc (Fi (ds ++ [d])) else .bad
theorem de_makeK1 (M : Mk X.K (c.cl.at_ kc) f) (F1 : FnOk X.prog X.w X.K X.mg X.base (L2.CX X.prog X.w) k f fd ps (spI X.K c.cl kc Fi)) (hr : Room (k + 1) X.A) (tk : Takes X W) (hm : X.mg x = some (.ref (c.cl.at_ kc))) (hb : KBn X.K fd ps (n + 1) ks (fun us ws => us ++ ws) (fun vs zs => vs ++ zs))
    (ha : DA X c W (e :: es) fs) (h2 : DE X c W e2 f2) (h1k : ks.length = 1) (hg : Gl X x := by rfl)
    (hall : (backToKw pos (keywordEach [⟨nm, e2, kpos⟩] X.env)).all (·.1.isSome) = true := by rfl) (hks : (backToKw pos (keywordEach [⟨nm, e2, kpos⟩] X.env)).filterMap (·.1) = ks := by rfl) (hdb : (x == ("__debug__" : Str)) = false := by decide)
    (he : starEach (e :: es) X.env = (false, eval e X.env) :: starEach es X.env := by rfl) (hpl : ((backTo pos (starEach (e :: es) X.env)).any (·.1) || (backToKw pos (keywordEach [⟨nm, e2, kpos⟩] X.env)).any (·.1.isNone)) = false := by rfl) :
    DE X c W (.Call (.Name x p) (e :: es) [⟨nm, e2, kpos⟩] pos) (eMakeK kc n Fi fs f2) := by
  refine ⟨fun pins s σ H Q I ⟨env, O, R, q⟩ => ?_⟩
  refine wpAny_Call_Name_kw (ld_glob I hg hm ?_ hdb)
  refine PySem.W.callWith_KW (h₀ := X.base) I.ok.mod.kin M.kp hall (thn (ha.run pos pins s σ H (fun vs H1 => ∃ ds, Rl X.K c O env σ H1 ∧ Reps X.K c.cl (hide O H1) ds vs ∧ Post X.K c W σ H1 (RepS X.K c O) ((f2 env).bind fun d => if ds.length = n then insR kc (Fi (ds ++ [d])) else .bad) Q) I ⟨env, O, R, post_bind q fun ds vs H1 x1 r1 p1 => ⟨ds, R.mono x1, r1, p1⟩⟩) fun us s1 ⟨vs, H1, I1, rv, ds, R1, r1, p1⟩ => ?_) hpl he
  refine thn ((pk_cons h2 pk_nil).run pos pins s1 σ H1 (fun zs H2 => ∃ z d, zs = [z] ∧ Rl X.K c O env σ H2 ∧ Reps X.K c.cl (hide O H2) (ds ++ [d]) (vs ++ [z]) ∧ ds.length = n ∧ Post X.K c W σ H2 (RepS X.K c O) (insR kc (Fi (ds ++ [d]))) Q) I1 ⟨env, O, R1, post_bind p1 fun d z H2 x2 r2 p2 => ?_⟩) fun ws s2 ⟨zs, H2, I2, rz, z, d, ez, R2, r2, hn, p2⟩ => ⟨I2.kIn, ?_⟩
  · by_cases hn : ds.length = n
    · rw [if_pos hn] at p2
      exact ⟨z, d, rfl, R1.mono x2, reps_app (reps_mono (hide_ext x2) _ _ r1) (reps_cons r2 reps_nil), hn, p2⟩
    · rw [if_neg hn] at p2; exact p2.elim
  rw [hks]
  subst ez
  have hlen : vs.length = n := by
    have z1 := reps_len r2
    rw [List.length_append, List.length_append] at z1
    have z2 : ([d] : List D).length = ([z] : List V).length := rfl
    omega
  have n1 : H2 (s2.heap.objs.size + 1) = none := I2.hok.fresh (Nat.le_succ _)
  have n2 : H2 s2.heap.objs.size = none := I2.hok.fresh (Nat.le_refl _)
  have ne : s2.heap.objs.size ≠ s2.heap.objs.size + 1 := Nat.ne_of_lt (Nat.lt_succ_self _)
  have I3 := L2.Inv.made (C := c.cl.at_ kc) I2
  have hsp : spI X.K c.cl kc Fi ((V.ref (s2.heap.objs.size + 1) :: vs) ++ [z]) (upd (upd H2 s2.heap.objs.size (.own (s2.heap.objs.size + 1))) (s2.heap.objs.size + 1) (.ins (c.cl.at_ kc) s2.heap.objs.size [])) (fun v H2 => v = .non ∧ Q (.ref (s2.heap.objs.size + 1)) H2) (WE W σ) := by
    refine ⟨H2, _, _, vs ++ [z], ds ++ [d], O, rfl, rfl, n1, n2, ne, R2.dom, r2, ?_⟩
    cases q : Fi (ds ++ [d]) with
    | ok r =>
      rw [q] at p2
      have p2 : Post X.K c W σ H2 (RepS X.K c O) (.ok (.ins kc r.1 r.2)) Q := p2
      refine fun H' dx' us y e1 e2 e3 => ⟨rfl, p2 _ H' y ?_⟩
      unfold RepS Rep
      exact ⟨_, dx', us, rfl, by rw [hide_out (R2.new n1)]; exact e1, e2, e3⟩
    | ex e l => rw [q] at p2; exact fun H' y => rz_less (c := c) rfl R2.sub (fun _ _ _ h => h) (p2 H' y)
    | bad => rw [q] at p2; exact p2
  have rA := hb.rel (vs := V.ref (s2.heap.objs.size + 1) :: vs) (us := Value.ref (s2.heap.objs.size + 1) :: us) (.cons rfl rv) rz
  have len1 : (Value.ref (s2.heap.objs.size + 1) :: us).length = n + 1 := by rw [List.length_cons, ← rv.length, hlen]
  have len2 : ws.length = ks.length := by rw [h1k, ← rz.length]; rfl
  refine wpAny_call (make_map (f := f) I2.kIn M.makes M.init (beq_iff_eq.mp M.fn) (codeAny_mono (F1.run _ X.stack _ _ ⟨Value.ref (s2.heap.objs.size + 1) :: us, ks.zip ws⟩ _ _ _ (WE W σ) (hr.make (c.cl.at_ kc) us (ks.zip ws)) (I3.env0.make (c.cl.at_ kc) us (ks.zip ws)) (hb.to _ _ ws I3.kIn len1 len2) rA hsp) fun r s' hq' => ?_))
  cases r with
  | error e => exact passAt tk σ pins _ _ e s' I3 hq'
  | ok fl =>
    cases fl with
    | ret u =>
      obtain ⟨v, H', I4, rv, ev, q3⟩ := I3.after hq'
      subst ev
      exact ⟨rv, ⟨V.ref (s2.heap.objs.size + 1), H', I4, rfl, q3⟩⟩
    | next => exact False.elim hq'
    | brk => exact False.elim hq'
    | cont => exact False.elim hq'
end
end Dl
namespace Dl
open PySem PySem.Spec PyProof.Rows L2
/-! ### == of tuples, whose items may have an own == -/
section
open PySem.SeqAt AutoSeq1 MeetsSeq MeetsSeq2 MeetsSeq3 SeqRoads2
variable {P : Program} {u : World} {B : Around} {S : Result → Shared → Prop}
/-- what has to hold before the item at i of both -/
def NextEq (P : Program) (u : World) (B : Around) (S : Result → Shared → Prop) (xs ys : Array Value) (J : Nat → Shared → Prop) : Prop :=
  ∀ i (h1 : i < xs.size) (h2 : i < ys.size) t, J i t → wpAny (model P u) B.in1 (eqBool xs[i] ys[i]) (fun r t' => if r = true then J (i + 1) t' else S (.ok (.ret (.bool false))) t') (fun e t' => S (.error e) t') t
theorem tup_eq_walk (p q : Addr) (xs ys : Array Value) (k1 k2 : Nat) (d1 d2 : Option Addr) (z1 z2 : Array (Option Value)) (J : Nat → Shared → Prop) (nx : NextEq P u B S xs ys J)
    (fin : ∀ t, J (min xs.size ys.size) t → S (.ok (.ret (.bool (xs.size == ys.size)))) t) {t : Shared} (hp : t.heap.get? p = some { cls := .type "tuple", dict := d1, data := .seq xs k1, slots := z1 })
    (hq : t.heap.get? q = some { cls := .type "tuple", dict := d2, data := .seq ys k2, slots := z2 }) (j0 : J 0 t) :
    wpAny (model P u) B.in1 (Builtin.«tuple.__eq__» ⟨[.ref p, .ref q], []⟩) (GQ.FinOf P u B S) (fun e t' => S (.error e) t') t := by
  have tt := AutoSeq1.sub_tuple_tuple
  have zl : (xs.toList.zip ys.toList).length = min xs.size ys.size := by simp
  have start := j0
  obtain ⟨g1, g2, g3, g4, g5⟩ := t
  wp_walk using wpAny_loadPart' hp, wpAny_loadPart' hq, wpAny_forIn_list _ (fun rest st t' => st.1 = none ∧ ∃ i, rest = (xs.toList.zip ys.toList).drop i ∧ i ≤ min xs.size ys.size ∧ J i t') _
  case turn =>
    rintro ⟨a, b⟩ rest st t' ⟨hst, i, hr, hi, hj⟩
    have lt : i < (xs.toList.zip ys.toList).length := Nat.lt_of_not_le fun z => by
      rw [List.drop_of_length_le z] at hr
      cases hr
    have lm : i < min xs.size ys.size := zl ▸ lt
    have l1 : i < xs.size := Nat.lt_of_lt_of_le lm (Nat.min_le_left ..)
    have l2 : i < ys.size := Nat.lt_of_lt_of_le lm (Nat.min_le_right ..)
    rw [List.drop_eq_getElem_cons lt] at hr
    injection hr with e1 e2
    obtain rfl : a = xs[i] := by simpa using congrArg Prod.fst e1
    obtain rfl : b = ys[i] := by simpa using congrArg Prod.snd e1
    refine wpAny_bind (wpAny_mono (nx i l1 l2 t' hj) (fun r t2 hr => ?_) fun _ _ z => z)
    cases r with
    | true =>
      wp_walk
      exact ⟨rfl, i + 1, e2, lm, hr⟩
    | false =>
      wp_walk
      simpa using hr
  case fin =>
    rintro ⟨st1, st2⟩ t' ⟨hst, i, hr, hi, hj⟩
    simp only at hst
    subst hst
    have ge : min xs.size ys.size ≤ i := Nat.le_of_not_lt fun z => by
      rw [List.drop_eq_getElem_cons (zl ▸ z)] at hr
      cases hr
    have f := fin t' ((Nat.le_antisymm hi ge) ▸ hj)
    wp_walk
    simpa [Builtin.Tuple.tupleCompareSizes] using f
  case h => exact ⟨rfl, 0, rfl, Nat.zero_le _, start⟩
theorem tup_rich {E : Value → Shared → Prop} {Z : Value → Shared → Prop} {p q : Addr} {xs ys : Array Value} (low : B.units < cLine) (J : Nat → Shared → Prop) {t : Shared} (hp : t.heap.IsTuple p xs) (hq : t.heap.IsTuple q ys)
    (nx : NextEq P u B (wants Z E) xs ys J) (fin : ∀ t, J (min xs.size ys.size) t → Z (.bool (xs.size == ys.size)) t) (j0 : J 0 t) : wpAny (model P u) B (richCompare .Eq (.ref p) (.ref q)) Z E t := by
  obtain ⟨⟨c1, d1, x1, z1⟩, o1, e1, k1, f1⟩ := id hp
  obtain ⟨⟨c2, d2, x2, z2⟩, o2, e2, k2, f2⟩ := id hq
  simp only at e1 f1 e2 f2
  subst e1 f1 e2 f2
  refine wpAny_richCompare_same_room (op := .Eq) ⟨_, o1, rfl⟩ ⟨_, o2, rfl⟩ F.slot_tuple_eq (GQ.call_here F.slot_tuple_eq ⟨_, o1, rfl⟩ F.entry_tuple_eq (F.args_tuple_eq_2 _ _) ?_) low
  refine tup_eq_walk (S := wants (fun v s' => v ≠ .notImplemented ∧ Z v s') E) p q xs ys k1 k2 d1 d2 z1 z2 J (fun i h1 h2 t' hj => ?_) (fun t' hj => ⟨(fun z => nomatch z), fin t' hj⟩) o1 o2 j0
  refine wpAny_mono (nx i h1 h2 t' hj) (fun r t2 hr => ?_) fun _ _ z => z
  cases r with
  | true => exact hr
  | false => exact ⟨(fun z => nomatch z), hr⟩
end
end Dl
namespace Dl
open PySem PySem.Spec PyProof.Rows L2
/-! ### what may stand at one address -/
mutual
def mayD : D → D → Bool
  | .non, y => (match y with | .non => true | _ => false)
  | .bl a, y => (match y with | .bl b => a == b | _ => false)
  | .int a, y => (match y with | .int b => a == b | _ => false)
  | .str a, y => (match y with | .str b => decide (a = b) | _ => false)
  | .tup xs, y => (match y with | .tup ys => mayDs xs ys | .non => false | .bl _ => false | .int _ => false | .str _ => false | _ => true)
  | .ins _ ns xs, y => (match y with | .ins _ ms ys => decide (ns = ms) && mayDs xs ys | .non => false | .bl _ => false | .int _ => false | .str _ => false | _ => true)
  | _, _ => true
def mayDs : List D → List D → Bool
  | [], ys => (match ys with | [] => true | _ => false)
  | x :: xs, ys => (match ys with | [] => false | y :: ys => mayD x y && mayDs xs ys)
end
theorem zip_inj {α β : Type} : ∀ {ns ms : List α} {us vs : List β}, ns.length = us.length → ms.length = vs.length → ns.zip us = ms.zip vs → ns = ms ∧ us = vs
  | [], [], [], [], _, _, _ => ⟨rfl, rfl⟩
  | [], _ :: _, [], _ :: _, _, _, h => by cases h
  | _ :: _, [], _ :: _, [], _, _, h => by cases h
  | n :: ns, m :: ms, u :: us, v :: vs, h1, h2, h => by
    rw [List.zip_cons_cons, List.zip_cons_cons] at h
    injection h with e1 e2
    injection e1 with e3 e4
    obtain ⟨e5, e6⟩ := zip_inj (by simpa using h1) (by simpa using h2) e2
    exact ⟨by rw [e3, e5], by rw [e4, e6]⟩
section
variable {X : Cx} {pins : List (Addr × Obj)} {σ : L2.St} {H : Hp} {s : Shared} {cl : Cl} {O : List Addr}
mutual
theorem may_ok (I : L2.Inv X pins σ H s) : ∀ (x y : D) (v : V), Rep X.K cl (hide O H) x v → Rep X.K cl (hide O H) y v → mayD x y = true
  | .non, y, v, r, q => by
    unfold Rep at r; subst r
    cases y <;> first | rfl | (unfold Rep at q; first | (cases q; done) | (obtain ⟨_, z, _⟩ := q; cases z; done) | (obtain ⟨_, _, z, _⟩ := q; cases z; done) | (obtain ⟨_, _, _, z, _⟩ := q; cases z))
  | .bl a, y, v, r, q => by
    unfold Rep at r; subst r
    cases y <;> first | (unfold Rep at q; cases q; exact beq_self_eq_true a) | (unfold Rep at q; first | (cases q; done) | (obtain ⟨_, z, _⟩ := q; cases z; done) | (obtain ⟨_, _, z, _⟩ := q; cases z; done) | (obtain ⟨_, _, _, z, _⟩ := q; cases z))
  | .int a, y, v, r, q => by
    unfold Rep at r; subst r
    cases y <;> first | (unfold Rep at q; cases q; exact beq_self_eq_true a) | (unfold Rep at q; first | (cases q; done) | (obtain ⟨_, z, _⟩ := q; cases z; done) | (obtain ⟨_, _, z, _⟩ := q; cases z; done) | (obtain ⟨_, _, _, z, _⟩ := q; cases z))
  | .str a, y, v, r, q => by
    unfold Rep at r; subst r
    cases y <;> first | (unfold Rep at q; cases q; exact decide_eq_true rfl) | (unfold Rep at q; first | (cases q; done) | (obtain ⟨_, z, _⟩ := q; cases z; done) | (obtain ⟨_, _, z, _⟩ := q; cases z; done) | (obtain ⟨_, _, _, z, _⟩ := q; cases z))
  | .tup xs, y, v, r, q => by
    unfold Rep at r
    obtain ⟨a, us, rfl, r1, r2⟩ := r
    cases y with
    | tup ys =>
      unfold Rep at q
      obtain ⟨b, ws, e, q1, q2⟩ := q
      cases e
      have e := I.tuple_inj (SqT.sub r1) (SqT.sub q1)
      subst e
      exact mays_ok I xs ys us r2 q2
    | non => unfold Rep at q; cases q
    | bl _ => unfold Rep at q; cases q
    | int _ => unfold Rep at q; cases q
    | str _ => unfold Rep at q; cases q
    | _ => rfl
  | .ins k ns xs, y, v, r, q => by
    unfold Rep at r
    obtain ⟨a, dx, us, rfl, r1, r2, r3⟩ := r
    cases y with
    | ins k' ms ys =>
      unfold Rep at q
      obtain ⟨b, dy, ws, e, q1, q2, q3⟩ := q
      cases e
      rw [r1] at q1
      have q1 := Option.some.inj q1
      injection q1 with _ _ e3
      obtain ⟨e4, e5⟩ := zip_inj r2 q2 e3
      subst e4 e5
      show (decide (ns = ns) && mayDs xs ys) = true
      rw [mays_ok I xs ys us r3 q3, decide_eq_true rfl]
      rfl
    | non => unfold Rep at q; cases q
    | bl _ => unfold Rep at q; cases q
    | int _ => unfold Rep at q; cases q
    | str _ => unfold Rep at q; cases q
    | _ => rfl
  | .lst _, _, _, _, _ => rfl
  | .dic _ _, _, _, _, _ => rfl
  | .scr _, _, _, _, _ => rfl
  | .cls _, _, _, _, _ => rfl
theorem mays_ok (I : L2.Inv X pins σ H s) : ∀ (xs ys : List D) (vs : List V), Reps X.K cl (hide O H) xs vs → Reps X.K cl (hide O H) ys vs → mayDs xs ys = true
  | [], ys, vs, r, q => by
    unfold Reps at r; subst r
    cases ys with
    | nil => rfl
    | cons y ys => unfold Reps at q; obtain ⟨_, _, z, _⟩ := q; cases z
  | x :: xs, ys, vs, r, q => by
    unfold Reps at r
    obtain ⟨v, us, rfl, r1, r2⟩ := r
    cases ys with
    | nil => unfold Reps at q; cases q
    | cons y ys =>
      unfold Reps at q
      obtain ⟨w, ws, e, q1, q2⟩ := q
      cases e
      show (mayD x y && mayDs xs ys) = true
      rw [may_ok I x y v r1 q1, mays_ok I xs ys us r2 q2]
      rfl
end
end
/-! ### the mirror of == -/
def flD : D → Option V
  | .non => some .non
  | .bl b => some (.bl b)
  | .int i => some (.int i)
  | .str x => some (.str x)
  | _ => none
def nsD : D → Bool
  | .non => true
  | .str _ => true
  | _ => false
def eqBl : Res D → Res Bool
  | .ok (.bl b) => .ok b
  | _ => .bad
def eqOs (rec : D → D → Res Bool) : List D → List D → Res Bool
  | [], [] => .ok true
  | [], _ :: _ => .ok false
  | _ :: _, [] => .ok false
  | x :: xs, y :: ys => (rec x y).bind fun b => if b = true then eqOs rec xs ys else .ok false
def ownEq (ow : Nat → Option (List D → Res D)) (k : Nat) (x y : D) : Res Bool := match ow k with
  | some F => eqBl (F [x, y])
  | none => .bad
def eqO1 (ow : Nat → Option (List D → Res D)) (rec : D → D → Res Bool) : D → D → Res Bool
  | .tup xs, .tup ys => eqOs rec xs ys
  | .ins k ns xs, y => (match y with
    | .ins k' ms ys => if k = k' then ownEq ow k (.ins k ns xs) (.ins k' ms ys) else .bad
    | .non => ownEq ow k (.ins k ns xs) .non
    | .str z => ownEq ow k (.ins k ns xs) (.str z)
    | _ => .bad)
  | .non, .ins k ms ys => ownEq ow k (.ins k ms ys) .non
  | .str z, .ins k ms ys => ownEq ow k (.ins k ms ys) (.str z)
  | x, y => match flD x, flD y with
    | some a, some b => .ok (eqV a b)
    | _, _ => .bad
def eqO (ow : Nat → Option (List D → Res D)) : Nat → D → D → Res Bool
  | 0, _, _ => .bad
  | n + 1, x, y => (eqO1 ow (eqO ow n) x y).bind fun b => if mayD x y = true ∧ b = false then .bad else .ok b
/-- an own == -/
structure EqF (X : Cx) (cl : Cl) (kr k : Nat) (f : Addr) (F : List D → Res D) : Prop where
  fn : FnD X.prog X.w X.K X.mg X.base cl kr f F
  at_ : PySem.W.findIn X.K (.ref (cl.at_ k)) "__eq__" = some (some (.ref f))
  isf : PySem.W.isFn X.K (.ref f) = true
  n1 : PySem.W.subIn X.K (.type "NoneType") (.ref (cl.at_ k)) = some false
  n2 : PySem.W.subIn X.K (.type "str") (.ref (cl.at_ k)) = some false
  m1 : PySem.W.subIn X.K (.ref (cl.at_ k)) (.type "NoneType") = some false
  m2 : PySem.W.subIn X.K (.ref (cl.at_ k)) (.type "str") = some false
section
variable {X : Cx} {c : Cc} {W : WX} {pins : List (Addr × Obj)} {σ : L2.St} {H : Hp} {s : Shared} {O : List Addr} {env : En} {A : Around} {kr k : Nat} {f : Addr} {F : List D → Res D}
theorem Sub.env0 (sb : L2.Sub X kr A) (I : L2.Inv X pins σ H s) : Env0 X.prog X.w X.K X.mg X.base A X.stack s H := by
  have e := I.env0
  exact ⟨by rw [sb.fr]; exact e.frames, e.mod, e.bs, e.bsz, e.funs, e.frf, e.hok, e.bare⟩
/-- the own == is called -/
theorem own_call {x y : D} {vx vy : V} {u v : Value} {b : Bool} (T : EqF X c.cl kr k f F) (tk : Takes X W) (sb : L2.Sub X kr A) (I : L2.Inv X pins σ H s) (R : Rl X.K c O env σ H) (rx : RepS X.K c O H x vx) (ry : RepS X.K c O H y vy) (ru : RelV vx u) (rv : RelV vy v) (h : eqBl (F [x, y]) = .ok b) :
    wpAny (model X.prog X.w) A (call (.ref f) [u, v]) (PySem.W.CmpBack fun z s' => z = .bool b ∧ L2.LoopI X pins σ H s') X.xe s := by
  have hF : F [x, y] = .ok (.bl b) := by
    unfold eqBl at h
    split at h
    · rename_i q; cases h; exact q
    · cases h
  refine thn (fnR_below (Q := fun z H' => z = .bl b ∧ Ext H H') T.fn sb.room (Sub.env0 sb I) tk I (vs := [vx, vy]) (.cons ru (.cons rv .nil)) (spR_of R (reps_cons rx (reps_cons ry reps_nil)) (by rw [hF]; exact fun z H' e r => ⟨by unfold RepS Rep at r; exact r, e⟩))) fun w s' ⟨z, H', I', rz, ez, e⟩ => ?_
  subst ez
  cases rz
  exact ⟨rfl, H', I', e⟩
end
/-! ### a text or None on the left: the own == of the right is asked -/
section
variable {prog : Program} {w : World} {A : Around} {E : Value → Shared → Prop} {t : Shared} {K : PySem.W.Frag} {x C L : Addr} {h₀ : Heap} {m : Str → Option Value} {od : Option Obj} {f dx : Addr}
theorem str_no_ins (b : Str) (u : Tok) (l C dx : Addr) :
    Meets (Builtin.«str.__eq__» ⟨[.str b u, .ref l], []⟩) (fun _ R s => s.heap.get? l = some (PySem.W.instObj C dx) ∧ R (.ok (.ret .notImplemented)) s) :=
  .of_wp fun prog w A R s h => by
    obtain ⟨g1, g2, g3, g4, g5⟩ := s
    obtain ⟨hl, h⟩ := h
    wp_walk using wpAny_loadPart' hl, wpAny_load hl
    exact ⟨_, rfl, h⟩
theorem refl_K {a : Value} {T ida : String} {Q : Value → Shared → Prop} (hu : A.units < cLine) (F : Fr h₀ L t.heap m) (X₀ : K.In h₀) (I : PySem.W.InstAt t.heap x (PySem.W.instObj C dx) C od) (ha : ∀ s : Shared, s.TypeIs a T)
    (hn : PySem.W.subIn K (.ref C) (.type T) = some false) (h1 : Slot T (cmpInfo .Eq).2.1 ida) (hc1 : ∀ Q' : Value → Shared → Prop, Q' .notImplemented t → wpAny (model prog w) A (call (.builtin ida) [a, .ref x]) Q' E t)
    (hs : PySem.W.findIn K (.ref C) "__eq__" = some (some (.ref f))) (hf : PySem.W.isFn K (.ref f) = true)
    (h : wpAny (model prog w) A (call (.ref f) [.ref x, a]) (PySem.W.CmpBack Q) E t) : wpAny (model prog w) A (richCompare .Eq a (.ref x)) Q E t := by
  have X := X₀.keeps F.keep
  have one : wpAny (model prog w) A (tryCompare (.ref x) "__eq__" a) (fun r s' => ∃ v, r = some v ∧ Q v s') E t := by
    unfold tryCompare
    refine wpAny_bind (PySem.W.ifBound_K X I hs hf (wpAny_mono h (fun v s' hv => ?_) fun _ _ e => e))
    cases v <;> first | exact hv.elim | exact wpAny_pure ⟨_, rfl, hv⟩
  rcases hi : cmpInfo CmpOp.Eq with ⟨sym, f1, r1⟩
  have hi' := hi
  cases hi'
  simp only [richCompare, hi, (ha t).oneThing_none]
  refine wpAny_holding (wpAny_bind (wpAny_cRoomFor hu ?_))
  refine wpAny_bind (wpAny_typeOf (ha t) (wpAny_bind (I.type.here ?_)))
  have ne : (Value.type T != Value.ref C) = true := by simp
  simp only [ne, if_true]
  refine wpAny_bind ((PySem.W.looks_subIn X hn).here ?_)
  simp only [Bool.false_eq_true, if_false, Bool.not_false, if_true]
  refine wpAny_bind (m := tryCompare a _ (.ref x)) (wpAny_tryCompare_declines (ha t) h1 (hc1 _ ⟨rfl, ?_⟩))
  refine wpAny_bind (m := tryCompare (.ref x) _ a) (wpAny_mono one (fun r s' z => ?_) fun _ _ e => e)
  obtain ⟨v, rfl, hq⟩ := z
  exact wpAny_pure hq
end
section
variable {X : Cx} {c : Cc} {W : WX} {pins : List (Addr × Obj)} {σ : L2.St} {H : Hp} {s : Shared} {O : List Addr} {env : En} {A : Around} {kr : Nat} {ow : Nat → Option (List D → Res D)}
/-- == within a list or a tuple, of two values -/
def EqRun (X : Cx) (c : Cc) (n : Nat) (g : D → D → Res Bool) : Prop :=
  ∀ (A : Around) (pins : List (Addr × Obj)) (s : Shared) (σ : L2.St) (H : Hp) (O : List Addr) (env : En) (x y : D) (vx vy : V) (u v : Value) (b : Bool), L2.Sub X n A → L2.Inv X pins σ H s → Rl X.K c O env σ H → RepS X.K c O H x vx → RepS X.K c O H y vy → RelV vx u → RelV vy v → g x y = .ok b →
    wpAny (model X.prog X.w) A (eqBool u v) (fun r s' => r = b ∧ L2.LoopI X pins σ H s') X.xe s
theorem eqOs_split {rec : D → D → Res Bool} : ∀ {xs ys : List D} {b : Bool} {i : Nat}, eqOs rec (xs.drop i) (ys.drop i) = .ok b → ∀ {x y : D}, xs[i]? = some x → ys[i]? = some y → ∃ k, rec x y = .ok k ∧ (k = false → b = false) ∧ (k = true → eqOs rec (xs.drop (i + 1)) (ys.drop (i + 1)) = .ok b) := fun {xs ys b i} h {x y} h1 h2 => by
  obtain ⟨l1, e1⟩ := List.getElem?_eq_some_iff.mp h1
  obtain ⟨l2, e2⟩ := List.getElem?_eq_some_iff.mp h2
  rw [List.drop_eq_getElem_cons l1, List.drop_eq_getElem_cons l2, e1, e2] at h
  unfold eqOs at h
  cases q : rec x y with
  | ex _ _ => rw [q] at h; cases h
  | bad => rw [q] at h; cases h
  | ok k =>
    rw [q] at h
    have h : (if k = true then eqOs rec (xs.drop (i + 1)) (ys.drop (i + 1)) else Res.ok false) = .ok b := h
    refine ⟨k, rfl, fun z => ?_, fun z => ?_⟩
    · subst z; cases h; rfl
    · subst z; exact h
theorem eqOs_end {rec : D → D → Res Bool} {xs ys : List D} {b : Bool} (h : eqOs rec (xs.drop (min xs.length ys.length)) (ys.drop (min xs.length ys.length)) = .ok b) : b = (xs.length == ys.length) := by
  rcases Nat.lt_trichotomy xs.length ys.length with z | z | z
  · rw [Nat.min_eq_left (Nat.le_of_lt z), List.drop_length, List.drop_eq_getElem_cons z] at h
    cases h
    exact (beq_eq_false_iff_ne.mpr (Nat.ne_of_lt z)).symm
  · rw [← z, Nat.min_self, List.drop_length, z, List.drop_length] at h
    cases h
    rw [z]
    exact (beq_self_eq_true _).symm
  · rw [Nat.min_eq_right (Nat.le_of_lt z), List.drop_length, List.drop_eq_getElem_cons z] at h
    cases h
    exact (beq_eq_false_iff_ne.mpr (Nat.ne_of_gt z)).symm
/-- two tuples -/
theorem tup_run {n : Nat} {rec : D → D → Res Bool} (hr : EqRun X c n rec) (sb : L2.Sub X (n + 1) A) (I : L2.Inv X pins σ H s) (R : Rl X.K c O env σ H) {xs ys : List D} {vx vy : V} {u v : Value} {b : Bool} (rx : RepS X.K c O H (.tup xs) vx) (ry : RepS X.K c O H (.tup ys) vy) (ru : RelV vx u) (rv : RelV vy v)
    (h : eqOs rec xs ys = .ok b) : wpAny (model X.prog X.w) A (richCompare .Eq u v) (fun z s' => z = .bool b ∧ L2.LoopI X pins σ H s') X.xe s := by
  unfold RepS Rep at rx ry
  obtain ⟨p, us, rfl, p1, p2⟩ := rx
  obtain ⟨q, ws, rfl, q1, q2⟩ := ry
  cases ru
  cases rv
  obtain ⟨its, w1, t1, z1⟩ := I.tuple (SqT.sub p1)
  obtain ⟨its2, w2, t2, z2⟩ := I.tuple (SqT.sub q1)
  have l1 : its.toArray.size = xs.length := by rw [List.size_toArray, ← w1.length, reps_len p2]
  have l2 : its2.toArray.size = ys.length := by rw [List.size_toArray, ← w2.length, reps_len q2]
  refine tup_rich sb.room.units0 (fun i s' => eqOs rec (xs.drop i) (ys.drop i) = .ok b ∧ L2.LoopI X pins σ H s') t1 t2 (fun i h1 h2 s' hj => ?_) (fun s' hj => ?_) ⟨h, H, I, Ext.rfl'⟩
  · obtain ⟨e, H1, I1, x1⟩ := hj
    have k1 : i < us.length := by rw [w1.length]; simpa using h1
    have k2 : i < ws.length := by rw [w2.length]; simpa using h2
    obtain ⟨x, hx, px⟩ := reps_get' p2 (List.getElem?_eq_getElem k1)
    obtain ⟨y, hy, py⟩ := reps_get' q2 (List.getElem?_eq_getElem k2)
    obtain ⟨u, hu, ru⟩ := w1.get (List.getElem?_eq_getElem k1)
    obtain ⟨v, hv, rv⟩ := w2.get (List.getElem?_eq_getElem k2)
    have g1 : its.toArray[i] = u := by
      have h1' : i < its.length := by simpa using h1
      rw [List.getElem?_eq_getElem h1'] at hu
      simpa using hu
    have g2 : its2.toArray[i] = v := by
      have h2' : i < its2.length := by simpa using h2
      rw [List.getElem?_eq_getElem h2'] at hv
      simpa using hv
    rw [g1, g2]
    obtain ⟨k, e1, e2, e3⟩ := eqOs_split e hx hy
    refine wpAny_mono (hr A.in1 pins s' σ H1 O env x y _ _ u v k sb.in1 I1 (R.mono x1) (rep_mono (hide_ext x1) _ _ px) (rep_mono (hide_ext x1) _ _ py) ru rv e1) (fun r s2 ⟨hk, H2, I2, x2⟩ => ?_) fun _ _ z => z
    subst hk
    cases r with
    | true => exact ⟨e3 rfl, H2, I2, x1.trans x2⟩
    | false => exact ⟨by rw [e2 rfl], H2, I2, x1.trans x2⟩
  · obtain ⟨e, l⟩ := hj
    rw [l1, l2] at e ⊢
    exact ⟨by rw [eqOs_end e], l⟩
theorem fl_rep {x : D} {a vx : V} (h : flD x = some a) (r : RepS X.K c O H x vx) : vx = a ∧ flatV a = true := by
  cases x with
  | non => cases h; unfold RepS Rep at r; exact ⟨r, rfl⟩
  | bl _ => cases h; unfold RepS Rep at r; exact ⟨r, rfl⟩
  | int _ => cases h; unfold RepS Rep at r; exact ⟨r, rfl⟩
  | str _ => cases h; unfold RepS Rep at r; exact ⟨r, rfl⟩
  | _ => cases h
theorem flat_run {x y : D} {vx vy : V} {u v : Value} {a a' : V} {b : Bool} (I : L2.Inv X pins σ H s) (hx : flD x = some a) (hy : flD y = some a') (rx : RepS X.K c O H x vx) (ry : RepS X.K c O H y vy) (ru : RelV vx u) (rv : RelV vy v) (h : (.ok (eqV a a') : Res Bool) = .ok b) :
    wpAny (model X.prog X.w) A (eqBool u v) (fun r s' => r = b ∧ L2.LoopI X pins σ H s') X.xe s := by
  obtain ⟨rfl, f1⟩ := fl_rep hx rx
  obtain ⟨rfl, f2⟩ := fl_rep hy ry
  cases h
  exact eqAt_V ru rv f1 f2 X.prog X.w X.xe _ ⟨rfl, H, I, Ext.rfl'⟩
theorem eqBool_rich {u v : Value} {b : Bool} {E : Value → Shared → Prop} {Z : Shared → Prop} (ne : (u == v) = false) (nf : ∀ b t, u ≠ .float b t) (h : wpAny (model X.prog X.w) A (richCompare .Eq u v) (fun z s' => z = .bool b ∧ Z s') E s) : wpAny (model X.prog X.w) A (eqBool u v) (fun r s' => r = b ∧ Z s') E s := by
  unfold eqBool
  refine wpAny_holding ?_
  refine wpAny_ite_split (fun e => absurd e (by rw [ne]; decide)) (fun _ => ?_)
  have go : wpAny (model X.prog X.w) A (richCompare .Eq u v >>= truthOfDropped) (fun r s' => r = b ∧ Z s') E s := by
    refine wpAny_bind (wpAny_mono h (fun z s' ⟨e, q⟩ => ?_) fun _ _ z => z)
    subst e
    exact wpAny_truthy_bool ⟨rfl, q⟩
  cases u <;> first | exact absurd rfl (nf _ _) | exact go
/-- an instance on the left -/
theorem ins_run {k : Nat} {ns : List Str} {xs : List D} {y : D} {vy : V} {p : Addr} {v tb : Value} {b : Bool} (own : ∀ k F, ow k = some F → ∃ f, EqF X c.cl kr k f F) (tk : Takes X W) (sb : L2.Sub X kr A) (I : L2.Inv X pins σ H s) (R : Rl X.K c O env σ H) (rx : RepS X.K c O H (.ins k ns xs) (.ref p)) (ry : RepS X.K c O H y vy) (rv : RelV vy v)
    (hb : PySem.W.Looks (model X.prog X.w) s.heap (typeOf v) tb) (hn : ∀ f F, EqF X c.cl kr k f F → PySem.W.notFirst X.K (c.cl.at_ k) tb = true) (h : ownEq ow k (.ins k ns xs) y = .ok b) :
    wpAny (model X.prog X.w) A (richCompare .Eq (.ref p) v) (fun z s' => z = .bool b ∧ L2.LoopI X pins σ H s') X.xe s := by
  unfold ownEq at h
  cases q : ow k with
  | none => rw [q] at h; cases h
  | some F =>
    rw [q] at h
    obtain ⟨f, T⟩ := own k F q
    obtain ⟨a, dx, vs, e, h1, _, _⟩ := RepW.ins (.inl rx)
    cases e
    obtain ⟨od, J⟩ := ins_inst I h1
    obtain ⟨m, hF⟩ := I.fr
    exact PySem.W.cmp_K (op := .Eq) sb.room.units0 hF I.ok.mod.kin J hb (hn f F T) T.at_ T.isf (own_call T tk sb I R rx ry rfl rv h)
/-- an instance on the right of None or a text -/
theorem refl_run {k : Nat} {ns : List Str} {xs : List D} {y : D} {vy : V} {p : Addr} {v : Value} {b : Bool} {T ida : String} (own : ∀ k F, ow k = some F → ∃ f, EqF X c.cl kr k f F) (tk : Takes X W) (sb : L2.Sub X kr A) (I : L2.Inv X pins σ H s) (R : Rl X.K c O env σ H) (rx : RepS X.K c O H (.ins k ns xs) (.ref p)) (ry : RepS X.K c O H y vy) (rv : RelV vy v)
    (ha : ∀ s : Shared, s.TypeIs v T) (hn : ∀ f F, EqF X c.cl kr k f F → PySem.W.subIn X.K (.ref (c.cl.at_ k)) (.type T) = some false) (h1 : Slot T (cmpInfo .Eq).2.1 ida)
    (hc1 : ∀ (C dx : Addr), s.heap.get? p = some (PySem.W.instObj C dx) → ∀ Q' : Value → Shared → Prop, Q' .notImplemented s → wpAny (model X.prog X.w) A (call (.builtin ida) [v, .ref p]) Q' X.xe s) (h : ownEq ow k (.ins k ns xs) y = .ok b) :
    wpAny (model X.prog X.w) A (richCompare .Eq v (.ref p)) (fun z s' => z = .bool b ∧ L2.LoopI X pins σ H s') X.xe s := by
  unfold ownEq at h
  cases q : ow k with
  | none => rw [q] at h; cases h
  | some F =>
    rw [q] at h
    obtain ⟨f, T⟩ := own k F q
    obtain ⟨a, dx, vs, e, h2, _, _⟩ := RepW.ins (.inl rx)
    cases e
    obtain ⟨od, J⟩ := ins_inst I h2
    obtain ⟨m, hF⟩ := I.fr
    exact refl_K sb.room.units0 hF I.ok.mod.kin J ha (hn f F T) h1 (hc1 _ _ J.at_) T.at_ T.isf (own_call T tk sb I R rx ry rfl rv h)
theorem eqRun_of {n : Nat} (own : ∀ k F, ow k = some F → ∃ f, EqF X c.cl kr k f F) (tk : Takes X W) (hk : kr ≤ n) : ∀ m : Nat, EqRun X c (n + m) (eqO ow m)
  | 0 => fun A pins s σ H O env x y vx vy u v b sb I R rx ry ru rv h => by cases h
  | m + 1 => fun A pins s σ H O env x y vx vy u v b sb I R rx ry ru rv h => by
    unfold eqO at h
    cases q : eqO1 ow (eqO ow m) x y with
    | ex _ _ => rw [q] at h; cases h
    | bad => rw [q] at h; cases h
    | ok b0 =>
      rw [q] at h
      have h : (if mayD x y = true ∧ b0 = false then (.bad : Res Bool) else .ok b0) = .ok b := h
      by_cases hm : mayD x y = true ∧ b0 = false
      · rw [if_pos hm] at h; cases h
      rw [if_neg hm] at h
      have hb : b0 = b := by cases h; rfl
      subst hb
      have kr1 : L2.Sub X kr A := sb.mono (by omega)
      -- two objects: the same one, or by their rich comparison
      have two : ∀ {p q : Addr}, vx = .ref p → vy = .ref q → (p ≠ q → wpAny (model X.prog X.w) A (richCompare .Eq u v) (fun z s' => z = .bool b0 ∧ L2.LoopI X pins σ H s') X.xe s) → wpAny (model X.prog X.w) A (eqBool u v) (fun r s' => r = b0 ∧ L2.LoopI X pins σ H s') X.xe s := fun {p q} e1 e2 go => by
        subst e1 e2
        cases ru
        cases rv
        by_cases hpq : p = q
        · subst hpq
          have t := may_ok I x y _ rx ry
          have tb : b0 = true := by
            cases b0 with
            | true => rfl
            | false => exact absurd ⟨t, rfl⟩ hm
          subst tb
          exact SeqAt.EqAt.same (A := A) (s := s) (.ref p) X.prog X.w X.xe _ ⟨rfl, H, I, Ext.rfl'⟩
        · exact GQ.eqBool_refG hpq (wpAny_mono (go hpq) (fun z s' ⟨ez, l⟩ => ⟨b0, ez, rfl, l⟩) fun _ _ z => z)
      cases x with
      | tup xs =>
        cases y with
        | tup ys =>
          have rx' := rx
          have ry' := ry
          unfold RepS Rep at rx' ry'
          obtain ⟨p, us, e1, _⟩ := rx'
          obtain ⟨r, ws, e2, _⟩ := ry'
          exact two e1 e2 fun _ => tup_run (eqRun_of own tk hk m) sb I R rx ry ru rv q
        | _ => cases q
      | ins k ns xs =>
        obtain ⟨p, dx, us, rfl, h1, _, _⟩ := RepW.ins (.inl rx)
        cases y with
        | ins k' ms ys =>
          obtain ⟨r, dy, ws, rfl, h2, _, _⟩ := RepW.ins (.inl ry)
          have q : (if k = k' then ownEq ow k (.ins k ns xs) (.ins k' ms ys) else .bad) = .ok b0 := q
          by_cases hkk : k = k'
          · rw [if_pos hkk] at q
            subst hkk
            refine two rfl rfl fun _ => ?_
            cases ru
            obtain rfl : v = Value.ref r := rv
            obtain ⟨od, J⟩ := ins_inst I h2
            exact ins_run own tk kr1 I R rx ry rfl J.type (fun _ _ _ => by simp [PySem.W.notFirst]) q
          · rw [if_neg hkk] at q; cases q
        | non =>
          have ry' := ry
          unfold RepS Rep at ry'
          subst ry'
          cases ru
          cases rv
          exact eqBool_rich (by rfl) (fun _ _ z => nomatch z) (ins_run own tk kr1 I R rx ry rfl (.of_pure rfl) (fun f F T => by unfold PySem.W.notFirst; rw [T.n1]; simp) q)
        | str z =>
          have ry' := ry
          unfold RepS Rep at ry'
          subst ry'
          cases ru
          obtain ⟨t, rfl⟩ := rv
          exact eqBool_rich (by rfl) (fun _ _ z => nomatch z) (ins_run own tk kr1 I R rx ry ⟨t, rfl⟩ (.of_pure rfl) (fun f F T => by unfold PySem.W.notFirst; rw [T.n2]; simp) q)
        | _ => cases q
      | non =>
        cases y with
        | ins k ms ys =>
          obtain ⟨r, dy, ws, rfl, h2, _, _⟩ := RepW.ins (.inl ry)
          have rx' := rx
          unfold RepS Rep at rx'
          subst rx'
          cases ru
          obtain rfl : v = Value.ref r := rv
          exact eqBool_rich (by rfl) (fun _ _ z => nomatch z) (refl_run own tk kr1 I R ry rx rfl (fun _ => rfl) (fun f F T => T.m1) F.slot_NoneType_eq (fun C dx hg Q' hq => call_gives F.slot_NoneType_eq rfl F.entry_NoneType_eq (F.args_NoneType_eq_2 _ _) (SeqAt.NoneType___eq___none_ref_0 r) hq) q)
        | non => exact flat_run I rfl rfl rx ry ru rv q
        | bl _ => exact flat_run I rfl rfl rx ry ru rv q
        | int _ => exact flat_run I rfl rfl rx ry ru rv q
        | str _ => exact flat_run I rfl rfl rx ry ru rv q
        | _ => cases q
      | str z =>
        cases y with
        | ins k ms ys =>
          obtain ⟨r, dy, ws, rfl, h2, _, _⟩ := RepW.ins (.inl ry)
          have rx' := rx
          unfold RepS Rep at rx'
          subst rx'
          obtain ⟨t, rfl⟩ := ru
          obtain rfl : v = Value.ref r := rv
          exact eqBool_rich (by rfl) (fun _ _ z => nomatch z) (refl_run own tk kr1 I R ry rx ⟨t, rfl⟩ (fun s' => typeIs_str s' z t) (fun f F T => T.m2) F.slot_str_eq (fun C dx hg Q' hq => call_meets F.slot_str_eq (typeIs_str s z t) F.entry_str_eq (F.args_str_eq_2 _ _) (str_no_ins z t r C dx) ⟨hg, hq⟩) q)
        | non => exact flat_run I rfl rfl rx ry ru rv q
        | bl _ => exact flat_run I rfl rfl rx ry ru rv q
        | int _ => exact flat_run I rfl rfl rx ry ru rv q
        | str _ => exact flat_run I rfl rfl rx ry ru rv q
        | _ => cases q
      | bl _ =>
        cases y with
        | non => exact flat_run I rfl rfl rx ry ru rv q
        | bl _ => exact flat_run I rfl rfl rx ry ru rv q
        | int _ => exact flat_run I rfl rfl rx ry ru rv q
        | str _ => exact flat_run I rfl rfl rx ry ru rv q
        | _ => cases q
      | int _ =>
        cases y with
        | non => exact flat_run I rfl rfl rx ry ru rv q
        | bl _ => exact flat_run I rfl rfl rx ry ru rv q
        | int _ => exact flat_run I rfl rfl rx ry ru rv q
        | str _ => exact flat_run I rfl rfl rx ry ru rv q
        | _ => cases q
      | _ => cases q
end
section
variable {X : Cx} {c : Cc} {W : WX} {kr n : Nat} {ow : Nat → Option (List D → Res D)}
/-- t == u, tuples whose items may have an own == -/
def gEqT (ow : Nat → Option (List D → Res D)) (n : Nat) : D → D → Res D
  | .tup xs, .tup ys => (eqOs (eqO ow n) xs ys).bind fun b => .ok (.bl b)
  | _, _ => .bad
theorem eqOs_noex {ow : Nat → Option (List D → Res D)} : ∀ {n : Nat} {xs ys : List D} {e : Nat} {l : List D}, eqOs (eqO ow n) xs ys ≠ .ex e l := by
  have own : ∀ {k : Nat} {x y : D} {e : Nat} {l : List D}, ownEq ow k x y ≠ .ex e l := fun {k x y e l} h => by
    unfold ownEq at h
    split at h
    · unfold eqBl at h
      split at h <;> cases h
    · cases h
  have step : ∀ {rec : D → D → Res Bool}, (∀ x y e l, rec x y ≠ .ex e l) → ∀ {xs ys : List D} {e : Nat} {l : List D}, eqOs rec xs ys ≠ .ex e l := fun {rec} hr xs => by
    induction xs with
    | nil => intro ys e l h; cases ys <;> cases h
    | cons x xs ih =>
      intro ys e l h
      cases ys with
      | nil => cases h
      | cons y ys =>
        unfold eqOs at h
        cases q : rec x y with
        | ex e' l' => exact hr _ _ _ _ q
        | bad => rw [q] at h; cases h
        | ok b =>
          rw [q] at h
          cases b with
          | true => exact ih h
          | false => cases h
  have all : ∀ (n : Nat) (x y : D) (e : Nat) (l : List D), eqO ow n x y ≠ .ex e l := fun n => by
    induction n with
    | zero => intro x y e l h; cases h
    | succ n ih =>
      intro x y e l h
      unfold eqO at h
      cases q : eqO1 ow (eqO ow n) x y with
      | ok b =>
        rw [q] at h
        have h : (if mayD x y = true ∧ b = false then (.bad : Res Bool) else .ok b) = .ex e l := h
        split at h <;> cases h
      | bad => rw [q] at h; cases h
      | ex e' l' =>
        cases x <;> cases y <;> first | (cases q; done) | exact step ih q | exact own q | (have q' := q; unfold eqO1 at q'; dsimp only at q'; split at q' <;> first | exact own q' | (cases q'; done))
  exact fun {n xs ys e l} => step (all n)
theorem os_eqT (own : ∀ k F, ow k = some F → ∃ f, EqF X c.cl kr k f F) (tk : Takes X W) (hr : Room (kr + n + 1) X.A) : OpS X c W (compareOp .Eq) (gEqT ow n) :=
  fun pins s σ H O env x y v u vx vy Q I R rx ry px py p => by
    cases x with
    | tup xs =>
      cases y with
      | tup ys =>
        have p : Post X.K c W σ H (RepS X.K c O) ((eqOs (eqO ow n) xs ys).bind fun b => .ok (.bl b)) Q := p
        cases q : eqOs (eqO ow n) xs ys with
        | ex e l => exact absurd q eqOs_noex
        | bad => rw [q] at p; exact p.elim
        | ok b =>
          rw [q] at p
          have p : Post X.K c W σ H (RepS X.K c O) (.ok (.bl b)) Q := p
          show wpAny (model X.prog X.w) X.A (richCompare .Eq v u) (EP X pins σ Q) X.xe s
          refine wpAny_mono (tup_run (eqRun_of own tk (Nat.le_refl kr) n) ⟨hr, rfl⟩ I R px py rx ry q) (fun z s' ⟨e, H', I', ex⟩ => ?_) fun _ _ z => z
          subst e
          exact ⟨.bl b, H', I', rfl, post_ok p ex repS_bl⟩
      | _ => exact p.elim
    | _ => exact p.elim
end
end Dl
namespace Dl
open PySem PySem.Spec PyProof.Rows L2
section
variable {X : Cx} {c : Cc} {W : WX} {kc k : Nat} {f : Addr} {F : List D → Res D} {oth : Nat → Bool}
/-! ### o == e, o an instance with an own ==, e of any of some kinds -/
def rightOk (kc : Nat) (oth : Nat → Bool) : D → Bool
  | .ins k _ _ => k == kc || oth k
  | .non => true
  | .str _ => true
  | _ => false
def gOwnX (kc : Nat) (oth : Nat → Bool) (F : List D → Res D) : D → D → Res D
  | .ins k ns xs, y => if k = kc ∧ rightOk kc oth y = true then F [.ins k ns xs, y] else .bad
  | _, _ => .bad
theorem os_cmpX (hc : CaD X c W (.ref f) F) (hu : X.A.units < cLine) (hf : PySem.W.findIn X.K (.ref (c.cl.at_ kc)) "__eq__" = some (some (.ref f))) (hi : PySem.W.isFn X.K (.ref f) = true)
    (n1 : PySem.W.subIn X.K (.type "NoneType") (.ref (c.cl.at_ kc)) = some false) (n2 : PySem.W.subIn X.K (.type "str") (.ref (c.cl.at_ kc)) = some false) (n3 : ∀ j, oth j = true → PySem.W.subIn X.K (.ref (c.cl.at_ j)) (.ref (c.cl.at_ kc)) = some false) : OpS X c W (compareOp .Eq) (gOwnX kc oth F) :=
  fun pins s σ H O env x y v u vx vy Q I R rx ry px py p => by
    cases x with
    | ins k1 ns xs =>
      have q0 : Post X.K c W σ H (RepS X.K c O) (if k1 = kc ∧ rightOk kc oth y = true then F [.ins k1 ns xs, y] else .bad) Q := p
      by_cases hk : k1 = kc ∧ rightOk kc oth y = true
      · rw [if_pos hk] at q0
        obtain ⟨e1, e2⟩ := hk
        subst e1
        obtain ⟨a, dx, vs, rfl, h1, _, _⟩ := RepW.ins (.inl px)
        obtain rfl : v = Value.ref a := rx
        obtain ⟨od, J⟩ := ins_inst I h1
        obtain ⟨m, hF⟩ := I.fr
        show wpAny _ _ (richCompare .Eq (.ref a) u) _ _ _
        have go : ∀ {tb : Value}, PySem.W.Looks (model X.prog X.w) s.heap (typeOf u) tb → PySem.W.notFirst X.K (c.cl.at_ k1) tb = true → wpAny (model X.prog X.w) X.A (richCompare .Eq (.ref a) u) (EP X pins σ Q) X.xe s := fun {tb} hb hn =>
          PySem.W.cmp_K (op := .Eq) hu hF I.ok.mod.kin J hb hn hf hi (thn (hc pins s σ H O env _ [.ref a, vy] [.ref a, u] Q I R (.cons rfl (.cons ry .nil)) (reps_cons px (reps_cons py reps_nil)) q0) fun u s' ⟨z, H', I', rz, qz⟩ => back_of rz ⟨z, H', I', rz, qz⟩)
        cases y with
        | ins k2 ms ys =>
          obtain ⟨b, dy, ws, rfl, h2, _, _⟩ := RepW.ins (.inl py)
          obtain rfl : u = Value.ref b := ry
          obtain ⟨od', J'⟩ := ins_inst I h2
          refine go J'.type ?_
          have e2 : (k2 == k1 || oth k2) = true := e2
          unfold PySem.W.notFirst
          rcases Bool.or_eq_true_iff.mp e2 with z | z
          · rw [eq_of_beq z]; simp
          · rw [n3 k2 z]; simp
        | non =>
          unfold RepS Rep at py
          subst py
          cases ry
          exact go (.of_pure rfl) (by unfold PySem.W.notFirst; rw [n1]; simp)
        | str z =>
          unfold RepS Rep at py
          subst py
          obtain ⟨t, rfl⟩ := ry
          exact go (.of_pure rfl) (by unfold PySem.W.notFirst; rw [n2]; simp)
        | _ => cases e2
      · rw [if_neg hk] at q0; exact q0.elim
    | _ => exact p.elim
end
theorem oth_of {K : PySem.W.Frag} {cl : Cl} {kc : Nat} {l : List Nat} (h : ∀ j ∈ l, PySem.W.subIn K (.ref (cl.at_ j)) (.ref (cl.at_ kc)) = some false) : ∀ j, l.contains j = true → PySem.W.subIn K (.ref (cl.at_ j)) (.ref (cl.at_ kc)) = some false :=
  fun j hj => h j (by simpa using hj)
theorem SupX.binds {P : Program} {K : PySem.W.Frag} {mg : Str → Option Value} {x qual fld prm : Str} {st : Stmt} {f C : Addr} {fd : FuncData} (F : SupX P K mg x qual fld st f C fd)
    (h : ∀ (kV doc pm : Value) (an : Option Addr) (cd ct : Value) (cc : Addr) (us : List Value), us.length = 2 → bindArgs (PySem.W.ksFn x qual (defArgs st) (defBody st) (defScope st) .none kV doc pm an cd ct cc) ⟨us, []⟩ = pure ((["self", prm] : List Str).zip us)) : Binds K fd ["self", prm] [] := by
  obtain ⟨oc, od, kV, doc, pm, an, cda, ct, cc, osl, rfl, _⟩ := F.ex
  exact .all fun us hl => h kV doc pm an (.ref cda) ct cc us hl
end Dl
namespace Dl
open PySem PySem.Spec PyProof.Rows L2
section
variable {X : Cx} {c : Cc} {W : WX} {a b e t o : Expr} {body : List Stmt} {f : En → Out} {fs : En → Res (List D)} {pos pos3 p p2 : Pos}
/-! ### for x in range(i, j, c) -/
def rgC (lo c : Int) (n : Nat) : List D := (List.range n).map fun k : Nat => .int (lo + (k : Int) * c)
def rgCV (lo c : Int) (n : Nat) : List V := (List.range n).map fun k : Nat => .int (lo + (k : Int) * c)
instance {i j c : Int} {n : Nat} : Decidable (RgC i j c n) := inferInstanceAs (Decidable (_ ∧ _ ∧ _ ∧ _))
def itR3 : List D → Res (List D)
  | [.int i, .int j, .int c] => if RgC i j c (Builtin.Range.rangeSize i j c).toNat then .ok (rgC i c (Builtin.Range.rangeSize i j c).toNat) else .bad
  | _ => .bad
def eR3 (fs : En → Res (List D)) : En → Res (List D) := fun env => (fs env).bind itR3
theorem rgC_reps {K : PySem.W.Frag} {cl : Cl} {H : Hp} {lo c : Int} {n : Nat} : Reps K cl H (rgC lo c n) (rgCV lo c n) := by
  unfold rgC rgCV
  refine reps_of_get (by rw [List.length_map, List.length_map]) fun i d v h1 h2 => ?_
  rw [List.getElem?_map] at h1 h2
  cases q : (List.range n)[i]? with
  | none => rw [q] at h1; cases h1
  | some k => rw [q] at h1 h2; cases h1; cases h2; unfold Rep; rfl
theorem rgC_get {lo c : Int} {n i : Nat} (h : i < n) : (rgCV lo c n)[i]? = some (.int (lo + (i : Nat) * c)) := by
  unfold rgCV
  rw [List.getElem?_map, List.getElem?_range h]
  rfl
theorem ds_forR3 {T : List Nat} {tg : Expr} {h : D → En → Option En} {p pos' : Pos} (hp : PassesOwn (model X.prog X.w) X.A X.env X.xe) (hc : X.calm = true) (hm : X.mg "range" = none) (ha : DA X c W [a, b, e] fs) (hg : DG X c T tg h) (hb : DSs X c W body f) (hgl : Gl X "range" := by rfl)
    (hst : starEach [a, b, e] X.env = (false, eval a X.env) :: starEach [b, e] X.env := by rfl) (hpl : (backTo pos' (starEach [b, e] X.env)).any (·.1) = false := by rfl) (hs : ∀ x, foldedSetIterable (.Call (.Name "range" p) [a, b, e] [] pos') X.env x = pure x := by intro _; rfl) :
    DS X c W (.For tg (.Call (.Name "range" p) [a, b, e] [] pos') body [] pos) (sFor (eR3 fs) h f) := by
  refine ps_imp (ps_for hp hc (pi_range3 hgl hm ha hst hpl) hg hb hs) fun D σ H ⟨env, O, R, q⟩ => ⟨env, O, R, ?_⟩
  unfold sFor eR3 at q
  cases z : fs env with
  | ex e l => rw [z] at q; exact fun H' x => q σ H' O (R.mono x)
  | bad => rw [z] at q; exact q
  | ok ds =>
    rw [z] at q
    have q : PostS X.K c W O H D (lift (itR3 ds) env fun ds => forL h f ds env) := q
    intro us H1 x1 r1
    unfold itR3 at q
    split at q
    · rename_i i j k _
      by_cases hk : RgC i j k (Builtin.Range.rangeSize i j k).toNat
      · rw [if_pos hk] at q
        have q : PostS X.K c W O H D (forL h f (rgC i k (Builtin.Range.rangeSize i j k).toNat) env) := q
        have eu : us = [.int i, .int j, .int k] := by
          unfold RepsS Reps at r1
          obtain ⟨v, ws, rfl, h1, h2⟩ := r1
          rw [reps_int2 h2]
          unfold Rep at h1
          subst h1
          rfl
        have hl : (rgCV i k (Builtin.Range.rangeSize i j k).toNat).length = (Builtin.Range.rangeSize i j k).toNat := by unfold rgCV; rw [List.length_map, List.length_range]
        obtain ⟨Pv, g0, g1, g2, g3⟩ := for_turns (R.mono x1) (rgC_reps (lo := i) (c := k) (n := (Builtin.Range.rangeSize i j k).toNat)) (fun _ _ _ _ z => z) (fun _ _ _ z => z) (postS_mono (hide_ext x1) q)
        exact ⟨i, j, k, _, eu, hk, for_rangeC (lo := i) (c := k) (n := (Builtin.Range.rangeSize i j k).toNat) Pv g0 (fun m σ' H' hi hp => g2 m _ σ' H' (rgC_get hi) hp) (fun σ' H' hp => g3 σ' H' (by rw [hl]; exact hp))⟩
      · rw [if_neg hk] at q; exact q.elim
    · exact q.elim
end
end Dl
namespace Dl
open PySem PySem.Spec PyProof.Rows L2
/-! ### isinstance, where operands and classes may be of several own classes (the first n) -/
structure KitC (K : PySem.W.Frag) (cl : Cl) (k n : Nat) : Prop where
  non : PySem.W.kitOne K (.type "NoneType") (.ref (cl.at_ k)) = some false
  bl : PySem.W.kitOne K (.type "bool") (.ref (cl.at_ k)) = some false
  int : PySem.W.kitOne K (.type "int") (.ref (cl.at_ k)) = some false
  str : PySem.W.kitOne K (.type "str") (.ref (cl.at_ k)) = some false
  tup : PySem.W.kitOne K (.type "tuple") (.ref (cl.at_ k)) = some false
  lst : PySem.W.kitOne K (.type "list") (.ref (cl.at_ k)) = some false
  dic : PySem.W.kitOne K (.type "dict") (.ref (cl.at_ k)) = some false
  ins : ∀ j, j < n → j ≠ k → PySem.W.kitOne K (.ref (cl.at_ j)) (.ref (cl.at_ k)) = some false
def isiCX (k n : Nat) : Tg → Option Bool
  | .ins j => if j = k then (if k < n then some true else none) else if j < n then some false else none
  | _ => some false
theorem isiCX_ok {K : PySem.W.Frag} {cl : Cl} {k n : Nat} (h : KitC K cl k n) : ∀ tg r, isiCX k n tg = some r → PySem.W.kitOne K (tgV cl tg) (.ref (cl.at_ k)) = some r := fun tg r e => by
  cases tg with
  | ins j =>
    unfold isiCX at e
    dsimp only at e
    by_cases q : j = k
    · subst q
      rw [if_pos rfl] at e
      split at e <;> cases e
      show (if (Value.ref (cl.at_ j) == Value.ref (cl.at_ j)) = true then some true else _) = _
      rw [if_pos (by simp)]
    · rw [if_neg q] at e
      by_cases l : j < n
      · rw [if_pos l] at e; cases e; exact h.ins j l q
      · rw [if_neg l] at e; cases e
  | non => cases e; exact h.non
  | bl => cases e; exact h.bl
  | int => cases e; exact h.int
  | str => cases e; exact h.str
  | tup => cases e; exact h.tup
  | lst => cases e; exact h.lst
  | dic => cases e; exact h.dic
theorem isiCX_in {K : PySem.W.Frag} {cl : Cl} {k n : Nat} (h : ∀ j, j < n → InsTy K (cl.at_ j)) : ∀ j r, isiCX k n (.ins j) = some r → InsTy K (cl.at_ j) := fun j r e => by
  unfold isiCX at e
  dsimp only at e
  by_cases q : j = k
  · subst q
    rw [if_pos rfl] at e
    by_cases l : j < n
    · exact h j l
    · rw [if_neg l] at e; cases e
  · rw [if_neg q] at e
    by_cases l : j < n
    · exact h j l
    · rw [if_neg l] at e; cases e
def isiTX (T : String) (n : Nat) : Tg → Option Bool
  | .ins j => if j < n then some false else none
  | t => isiB T t
theorem isiTX_ok {K : PySem.W.Frag} {cl : Cl} {T : String} {n : Nat} (h : ∀ j, j < n → PySem.W.kitOne K (.ref (cl.at_ j)) (.type T) = some false) (h0 : ∀ tg r, isiB T tg = some r → PySem.W.kitOne K (tgV cl tg) (.type T) = some r) : ∀ tg r, isiTX T n tg = some r → PySem.W.kitOne K (tgV cl tg) (.type T) = some r := fun tg r e => by
  cases tg with
  | ins j =>
    unfold isiTX at e
    dsimp only at e
    by_cases l : j < n
    · rw [if_pos l] at e; cases e; exact h j l
    · rw [if_neg l] at e; cases e
  | _ => exact h0 _ r e
theorem isiTX_in {K : PySem.W.Frag} {cl : Cl} {T : String} {n : Nat} (h : ∀ j, j < n → InsTy K (cl.at_ j)) : ∀ j r, isiTX T n (.ins j) = some r → InsTy K (cl.at_ j) := fun j r e => by
  unfold isiTX at e
  dsimp only at e
  by_cases l : j < n
  · exact h j l
  · rw [if_neg l] at e; cases e
/-! ### x, y = (e, []), y the only holder of the new list -/
section
variable {X : Cx} {c : Cc} {W : WX} {a b e t o : Expr} {fa : En → Res D} {pos : Pos}
def sParL (i j : Nat) (fa : En → Res D) : En → Out := fun env => lift (fa env) env fun d => if i < env.length ∧ j < env.length then .nx ((env.set j (.ow (.lst []))).set i (.sh d)) else .bad
theorem ds_parL {i j : Nat} {x y : Str} {px py pt lp : Pos} {kt k2 pt2} (hc : X.calm = true) (hN : X.N.Nodup) (ha : DE X c W a fa) (hi : X.N[i]? = some x := by rfl) (hj : X.N[j]? = some y := by rfl) (hij : i ≠ j := by decide)
    (hx : X.env.scope.names.lookup x = some .local := by rfl) (hy : X.env.scope.names.lookup y = some .local := by rfl)
    (hw : swappedStores [.Tuple [.Name x px, .Name y py] kt pt] (.Tuple [a, .List [] lp] k2 pt2) X.env = pure (some [x, y]) := by rfl)
    (hs : swapsWithSole [.Tuple [.Name x px, .Name y py] kt pt] (.Tuple [a, .List [] lp] k2 pt2) pos.line X.env = pure false := by rfl)
    (s1 : starEach [a, .List [] lp] X.env = (false, eval a X.env) :: starEach [.List [] lp] X.env := by rfl) (s2 : starEach [.List [] lp] X.env = (false, eval (.List [] lp) X.env) :: starEach [] X.env := by rfl) :
    DS X c W (.Assign [.Tuple [.Name x px, .Name y py] kt pt] (.Tuple [a, .List [] lp] k2 pt2) pos) (sParL i j fa) := ps_imp (ps_par hc hN hi hj hij hx hy (pa_cons ha (pa_cons (pe_lst pa_nil) pa_nil s2) s1) hw hs) fun D σ H ⟨env, O, R, p⟩ =>
  ⟨env, O, R, post_lift R p fun d v H1 x1 r1 R1 p1 => by
    by_cases hl : i < env.length ∧ j < env.length
    · rw [if_pos hl] at p1
      refine ⟨Nat.zero_le _, fun z hz => ?_⟩
      have R2 := R1.own_new hz reps_nil hl.2
      have R3 := R2.set (i := i) (d := d) (v := v) (rep_mono (hide_ext_new hz) _ _ r1) (by rw [List.length_set]; exact hl.1)
      refine ⟨v, .ref z, rfl, ?_⟩
      rw [List.set_comm _ _ hij]
      exact p1 _ _ _ R3 (hide_ext_new hz)
    · rw [if_neg hl] at p1; exact p1.elim⟩
end
end Dl
namespace Dl
open PySem PySem.Spec PyProof.Rows L2
/-! ### enumerate of a tuple -/
theorem drawsT {P : Program} {u : World} {B : Around} (calm : B.handled = none) (it t : Addr) (ne : t ≠ it) (xs : Array Value) :
    Draws P u B it [it, t] xs.size (fun i v => xs[i]? = some v) (fun i h => h.IsTupleIter it t i ∧ h.IsTuple t xs) where
  live := fun _ _ q => let ⟨o, z, _⟩ := q.1; ⟨o, z⟩
  frame := fun _ _ _ q k => ⟨q.1.at fun o z => k it (List.mem_cons_self ..) o z, q.2.at fun o z => k t (List.mem_cons_of_mem _ (List.mem_cons_self ..)) o z⟩
  item := fun i s Q E lt q hQ => by
    refine wpAny_nextOf_tuple_item q.1 q.2 (x := xs[i]) (by simp [lt]) fun g q1 q2 => ?_
    exact hQ _ g s.toks (by simp [lt]) ⟨q1, q.2.extBut q2.extBut ne⟩ q2
  done := fun s Q E q hE => wpAny_nextOf_tuple_end calm q.1 q.2 (by simp) hE
set_option maxHeartbeats 1000000 in
theorem new_enumT (t : Addr) (xs : Array Value) (k : Nat) (d : Option Addr) (z : Array (Option Value)) :
    Meets (Builtin.«enumerate.__new__» ⟨[.type "enumerate", .ref t], []⟩) (fun _ S s => s.heap.get? t = some { cls := .type "tuple", dict := d, data := .seq xs k, slots := z } ∧
      S (.ok (.ret (.ref (s.heap.push { cls := .type "tuple_iterator", data := .fields #[.ref t, .int 0 0] }).objs.size)))
        { s with heap := (s.heap.push { cls := .type "tuple_iterator", data := .fields #[.ref t, .int 0 0] }).push { cls := .type "enumerate", data := .fields #[.none, .bool false, .ref s.heap.objs.size, rawInt 0, .none, .none] } }) :=
  .of_wp fun P u B S s q => by
    obtain ⟨g1, g2, g3, g4, g5⟩ := s
    obtain ⟨q1, q⟩ := q
    have se := sub_enumerate
    have tp : Heap.IsTuple (Shared.heap ⟨g1, g2, g3, g4, g5⟩) t xs := ⟨_, q1, rfl, k, rfl⟩
    wp_walk using wpAny_loadPart' q1
    refine wpAny_stack_any fun st => wpAny_pure ?_
    split
    · rename_i c _ _ _ _ _
      cases (c == Value.type "enumerate") <;> (wp_walk using wpAny_loadPart' q1, wpAny_pyIter_tuple tp; exact ⟨_, rfl, q⟩)
    · wp_walk using wpAny_loadPart' q1, wpAny_pyIter_tuple tp
      exact ⟨_, rfl, q⟩
theorem call_enumT {P : Program} {u : World} {B : Around} {E : Value → Shared → Prop} {s : Shared} {t : Addr} {xs : Array Value} {Q : Value → Shared → Prop} (tp : s.heap.IsTuple t xs)
    (h : ∀ g, IsEnum g (s.heap.objs.size + 1) s.heap.objs.size 0 .none → g.IsTupleIter s.heap.objs.size t 0 → (∀ b o, s.heap.get? b = some o → g.get? b = some o) → Q (.ref (s.heap.objs.size + 1)) { s with heap := g }) :
    wpAny (model P u) B (call (.type "enumerate") [.ref t]) Q E s := by
  obtain ⟨⟨c, d, dt, z⟩, q1, q2, k, q3⟩ := tp
  simp only at q2 q3
  subst q2 q3
  refine callType_new F.called_enumerate (by decide) (F.typeCall_enumerate_1 _) (F.newCall_enumerate_1 _) (fun o => F.args_object_init_2 o _) F.entry_enumerate_new (new_enumT t xs k d z) ⟨q1, ?_⟩
  have sz : (s.heap.push { cls := .type "tuple_iterator", data := .fields #[.ref t, .int 0 0] }).objs.size = s.heap.objs.size + 1 := Heap.size_push ..
  show _ ∧ _
  rw [sz]
  have e1 := Heap.get?_push_size (s.heap.push { cls := .type "tuple_iterator", data := .fields #[.ref t, .int 0 0] }) (o := { cls := .type "enumerate", data := .fields #[.none, .bool false, .ref s.heap.objs.size, rawInt 0, .none, .none] }) rfl
  rw [sz] at e1
  exact ⟨⟨_, e1, rfl⟩, h _ e1 ⟨_, Heap.get?_push_of_some _ (Heap.get?_push_size _ rfl), rfl, rfl⟩ fun b o y => Heap.get?_push_of_some _ (Heap.get?_push_of_some _ y)⟩
/-- the tuple at a (n items), each item in a new pair -/
def IteT (K : PySem.W.Frag) (a : Addr) (n : Nat) : It :=
  ⟨fun i H => ∃ (xs : List V) (x : V), SqT K H a xs ∧ xs.length = n ∧ xs[i]? = some x, fun i H v H' => ∃ T x, v = .ref T ∧ H T = none ∧ H' = upd H T (.tup [.int (i : Nat), x]) ∧ ∀ xs, SqT K H a xs → xs[i]? = some x, fun i H => ∃ xs : List V, SqT K H a xs ∧ xs.length = n ∧ n ≤ i⟩
theorem turn_enumT {P : Program} {w : World} {K : PySem.W.Frag} {elts : List Expr} {kk : Nat} {tpos : Pos} (a e it : Addr) (n : Nat) :
    Turn P w K (.Tuple elts kk tpos) (IteT K a n) [e, it] e (fun i h => (∃ old, IsEnum h e it ((i : Nat) : Int) old) ∧ h.IsTupleIter it a i ∧ e ≠ it ∧ i ≤ n) where
  mem := List.mem_cons_self ..
  obj := fun i h q b hb => by
    obtain ⟨⟨old, q1⟩, ⟨o, q2, q3, q4⟩, _⟩ := q
    rcases List.mem_cons.mp hb with z | z
    · subst z; exact ⟨_, q1, fun v y => nomatch y⟩
    · obtain rfl := List.mem_singleton.mp z
      exact ⟨o, q2, fun v y => by rw [q4] at y; cases y⟩
  keep := fun i h h' q k => ⟨let ⟨old, z⟩ := q.1; ⟨old, k e (List.mem_cons_self ..) _ z⟩, q.2.1.at fun o z => k it (List.mem_cons_of_mem _ (List.mem_cons_self ..)) o z, q.2.2⟩
  item := by
    intro X eP ew eK calm i pins s σ H E I hf st go
    subst eP ew eK
    obtain ⟨⟨old, he⟩, hit, ne, iz⟩ := st
    obtain ⟨xs, x, sq, ln, hx⟩ := go
    obtain ⟨its, rv, tp, hz⟩ := I.tuple sq
    obtain ⟨u, hu, ru⟩ := rv.get hx
    have le : e < s.heap.objs.size := Heap.lt_size he
    have li : it < s.heap.objs.size := by obtain ⟨_, q, _⟩ := hit; exact Heap.lt_size q
    have ai : a ≠ it := fun z => by
      subst z
      obtain ⟨o1, q1, q2, _⟩ := hit
      obtain ⟨o2, q3, q4, _⟩ := tp
      rw [q1] at q3
      cases q3
      rw [q2] at q4
      exact absurd q4 (by decide)
    have ae : e ≠ a := fun z => by
      subst z
      obtain ⟨o2, q3, q4, _⟩ := tp
      rw [he] at q3
      cases q3
      have q5 : Value.type "enumerate" = Value.type "tuple" := q4
      exact absurd q5 (by decide)
    have lt : i < its.toArray.size := by
      rw [List.size_toArray, ← rv.length]
      exact (List.getElem?_eq_some_iff.mp hx).1
    refine wpAny_pyNext_enum_itemD (drawsT (by simpa using I.ok.hd calm) it a ai its.toArray) he ⟨hit, tp⟩ lt ne (by simp only [List.mem_cons, List.not_mem_nil, or_false, not_or]; exact ⟨ne, ae⟩) fun y g tk hy ho hst hT hsz hk => ?_
    have yu : y = u := by
      have z1 : its.toArray[i]? = some y := hy
      rw [List.getElem?_toArray, hu] at z1
      exact (Option.some.inj z1).symm
    subst yu
    refine ⟨_, rfl, wpAny_letOwnedTupleGo_enum (s := { s with heap := g, toks := tk + 1 }) ho fun g2 he2 sb => ?_⟩
    have hT2 : g2.get? s.heap.objs.size = some { cls := .type "tuple", data := .seq #[.int i tk, y] } := (sb.2 _ (Nat.ne_of_gt le)).trans hT
    have new : ObjOk X.prog X.w (upd H s.heap.objs.size (.tup [.int (i : Nat), x])) g2 s.heap.objs.size (.tup [.int (i : Nat), x]) :=
      ⟨by show 2 ≤ sizeLine; decide, [.int i tk, y], .cons ⟨_, rfl⟩ (.cons ru .nil), ⟨_, hT2, rfl, _, rfl⟩⟩
    have I1 : L2.Inv X pins σ (upd H s.heap.objs.size (.tup [.int (i : Nat), x])) { s with heap := g2, toks := tk + 1 } :=
      I.turnedNew (ch := [e, it]) (fun b ob hb q => (sb.2 b (fun z => hb (by simp [z]))).trans (hk b ob (fun z => hb (by simp [z])) (fun z => hb (by simp [z])) q)) hf (Nat.le_refl _) new
    refine ⟨.ref s.heap.objs.size, _, I1, rfl, ⟨_, x, rfl, I.hok.fresh (Nat.le_refl _), rfl, fun ys hy => by rw [I.tuple_inj hy sq]; exact hx⟩, ⟨⟨y, ?_⟩, hst.1.at fun o q => (sb.2 it (Ne.symm ne)).trans q, ne, by rw [List.size_toArray, ← rv.length, ln] at lt; exact lt⟩, fun b hb => ?_⟩
    · have e1 : ((i + 1 : Nat) : Int) = (i : Int) + 1 := by omega
      rw [e1]; exact he2
    · have hb' : b < s.heap.objs.size := by
        rcases List.mem_cons.mp hb with z | z
        · rw [z]; exact le
        · rw [List.mem_singleton.mp z]; exact li
      rw [upd_ne (Nat.ne_of_lt hb')]
      exact (hf b hb).1
  done := by
    intro X eP ew eK calm i pins s σ H E I hf st stop
    subst eP ew eK
    obtain ⟨⟨old, he⟩, hit, ne, iz⟩ := st
    obtain ⟨xs, sq, ln, hx⟩ := stop
    obtain ⟨its, rv, tp, hz⟩ := I.tuple sq
    obtain ⟨f0, f1, f2, f3, f4, f5⟩ := hf it (by simp)
    have ei : i = its.toArray.size := by
      rw [List.size_toArray, ← rv.length, ln]
      exact Nat.le_antisymm iz hx
    have ai : a ≠ it := fun z => by
      subst z
      obtain ⟨o1, q1, q2, _⟩ := hit
      obtain ⟨o2, q3, q4, _⟩ := tp
      rw [q1] at q3
      cases q3
      rw [q2] at q4
      exact absurd q4 (by decide)
    subst ei
    exact wpAny_pyNext_enum_endD (drawsT (by simpa using I.ok.hd calm) it a ai its.toArray) he ⟨hit, tp⟩ fun g eb => ⟨rfl, I.turned (t' := s.toks) (fun b o hb q => eb b o hb q) f0 f1 f3 f4 f5⟩
  self := fun A i s Q E st h => let ⟨⟨_, he⟩, _⟩ := st; wpAny_pyIter_enum he h
def iEnumT (K : PySem.W.Frag) (ta : TA) : TI := fun σ H R => ta σ H fun vs H1 => ∃ a xs, vs = [.ref a] ∧ SqT K H1 a xs ∧ R (IteT K a xs.length) H1
theorem pi_enumT {X : Cx} {e : Expr} {ta : TA} {p pos tpos : Pos} {elts : List Expr} {kk : Nat} (hg : Gl X "enumerate") (hm : X.mg "enumerate" = none) (ha : PA X [e] ta) (hs : starEach [e] X.env = [(false, eval e X.env)] := by rfl) :
    PI X (.Tuple elts kk tpos) (.Call (.Name "enumerate" p) [e] [] pos) (iEnumT X.K ta) := by
  refine ⟨fun pins s σ H R I h => ?_⟩
  refine Call_ (ld_blt I hg hm boot_enumerate (PyProof.Rows.callWith_type1 (thn (ha.run pos pins s σ H _ I h) fun us s1 ⟨vs, H1, I1, r1, a, xs, ex, hq, q⟩ => ?_) hs rfl))
  subst ex
  cases r1 with
  | cons r rr =>
    cases rr
    cases r
    obtain ⟨its, rv, tp, hz⟩ := I1.tuple hq
    refine call_enumT tp fun g he hit hk => wpAny_pyIter_enum he ?_
    have I2 : L2.Inv X pins σ H1 { s1 with heap := g } := I1.kept (t' := s1.toks) hk
    refine ⟨s1.heap.objs.size + 1, [s1.heap.objs.size + 1, s1.heap.objs.size], _, _, H1, rfl, I2, turn_enumT a (s1.heap.objs.size + 1) s1.heap.objs.size xs.length, ⟨⟨.none, he⟩, hit, Nat.succ_ne_self _, Nat.zero_le _⟩, fun b hb => ?_, q⟩
    have le : s1.heap.objs.size ≤ b := by
      rcases List.mem_cons.mp hb with z | z
      · rw [z]; exact Nat.le_add_right _ _
      · rw [List.mem_singleton.mp z]; exact Nat.le_refl _
    exact I1.fpOk le (I1.hok.fresh le)
/-- either -/
theorem pi_enumA {X : Cx} {e : Expr} {ta : TA} {p pos tpos : Pos} {elts : List Expr} {kk : Nat} (hg : Gl X "enumerate") (hm : X.mg "enumerate" = none) (ha : PA X [e] ta) (hs : starEach [e] X.env = [(false, eval e X.env)] := by rfl) :
    PI X (.Tuple elts kk tpos) (.Call (.Name "enumerate" p) [e] [] pos) (fun σ H R => iEnum X.K ta σ H R ∨ iEnumT X.K ta σ H R) := pi_or (pi_enum hg hm ha hs) (pi_enumT hg hm ha hs)
end Dl
namespace Dl
open PySem PySem.Spec PyProof.Rows L2
/-! ### for i, x in enumerate(t), t a tuple -/
section
variable {X : Cx} {c : Cc} {W : WX} {a b e t o : Expr} {body : List Stmt} {f : En → Out} {fs : En → Res (List D)} {pos pos3 p p2 : Pos}
def itEnT : List D → Res (List D)
  | [.tup xs] => .ok (enD 0 xs)
  | _ => .bad
theorem itEnT_ok {ds : List D} {r : Res (List D)} (h : itEnT ds = r) : r = .bad ∨ ∃ xs, ds = [.tup xs] ∧ r = .ok (enD 0 xs) := by
  subst h
  unfold itEnT
  split
  · rename_i xs
    exact .inr ⟨xs, rfl, rfl⟩
  · exact .inl rfl
def eEnT (fs : En → Res (List D)) : En → Res (List D) := fun env => (fs env).bind itEnT
theorem enum_turnsT {K : PySem.W.Frag} {T : List Nat} {H : Hp} {O : List Addr} {env : En} {σ : L2.St} {D : Ends} {h : Dl.D → En → Option En} {g : TG} {tb : TS} {ds : List Dl.D} {vs : List V} {a : Addr} (R : Rl K c O env σ H) (hv : SqT K (hide O H) a vs) (r : Reps K c.cl (hide O H) ds vs)
    (hg : ∀ v σ H Q, tG K c T h v σ H Q → g v σ H Q) (hb : ∀ D σ H, tS K c W f D σ H → tb D σ H) (p : PostS K c W O H D (forL h f (enD 0 ds) env)) :
    ∃ W : Nat → Nat → L2.St → Hp → Prop, (∃ m, W 0 m σ H) ∧ ∀ i m σ H, W i m σ H →
      ((IteT K a vs.length).stop i H ∧ D.nx σ H) ∨ ((IteT K a vs.length).go i H ∧ ∃ N : L2.St → Hp → Prop, (∀ σ' H', N σ' H' → ∃ m', m' < m ∧ W (i + 1) m' σ' H') ∧ ∀ x H', (IteT K a vs.length).yld i H x H' → g x σ H' fun σ2 H2 => tb { D with nx := N, ct := N, bk := D.nx } σ2 H2) := by
  refine ⟨fun i m σ' H' => m = vs.length - i ∧ i ≤ vs.length ∧ ∃ env' O', Rl K c O' env' σ' H' ∧ Ext (hide O H) (hide O' H') ∧ PostS K c W O' H' D (forL h f ((enD 0 ds).drop i) env'), ⟨vs.length, by simp, Nat.zero_le _, env, O, R, Ext.rfl', p⟩, ?_⟩
  rintro i m σ' H' ⟨rfl, hi, env', O', R', y, p'⟩
  have hl : SqT K H' a vs := SqT.sub (hv.ext y)
  by_cases hlt : i < vs.length
  · obtain ⟨v, hv'⟩ : ∃ v, vs[i]? = some v := ⟨_, List.getElem?_eq_getElem hlt⟩
    obtain ⟨d, hd, rd⟩ := reps_get' r hv'
    have hlt2 : i < (enD 0 ds).length := by rw [enD_len, reps_len r]; exact hlt
    have ee : (enD 0 ds)[i]? = some (.tup [.int (i : Nat), d]) := by
      rw [enD_get, hd, Nat.zero_add]
      rfl
    have e : (enD 0 ds).drop i = .tup [.int (i : Nat), d] :: (enD 0 ds).drop (i + 1) := by
      rw [List.drop_eq_getElem_cons hlt2]
      rw [(List.getElem?_eq_some_iff.mp ee).2]
    rw [e] at p'
    unfold forL at p'
    refine .inr ⟨⟨vs, v, hl, rfl, hv'⟩, fun σ2 H2 => i < vs.length ∧ ∃ env' O', Rl K c O' env' σ2 H2 ∧ Ext (hide O H) (hide O' H2) ∧ PostS K c W O' H2 D (forL h f ((enD 0 ds).drop (i + 1)) env'), fun σ2 H2 ⟨_, z⟩ => ⟨vs.length - (i + 1), by omega, rfl, hlt, z⟩, ?_⟩
    rintro x H2 ⟨Ta, u, rfl, hT, rfl, hu⟩
    have eu : v = u := by
      have := hu vs hl
      rw [hv'] at this
      exact Option.some.inj this
    subst eu
    have R2 := R'.mono (Ext.upd (o := .tup [V.int (i : Nat), v]) hT)
    have x2 : Ext (hide O' H') (hide O' (upd H' Ta (.tup [V.int (i : Nat), v]))) := hide_ext (Ext.upd hT)
    have hi0 : Rep K c.cl (hide O' H') (.int (i : Nat)) (.int (i : Nat)) := by unfold Rep; rfl
    refine hg _ _ _ _ ⟨.tup [.int (i : Nat), d], env', O', R2, repS_newT (R'.new hT) hT (reps_cons hi0 (reps_cons (rep_mono y _ _ rd) reps_nil)), ?_⟩
    cases q : h (.tup [.int (i : Nat), d]) env' with
    | none => rw [q] at p'; exact p'.elim
    | some env1 =>
      rw [q] at p'
      refine fun σ1 H1 R1 x1 _ => hb _ _ _ ⟨env1, O', R1, ?_⟩
      dsimp only at p'
      have x1 := x2.trans (hide_ext (O := O') x1)
      cases q2 : f env1 with
      | nx env2 => rw [q2] at p'; exact fun σ2 H2 O2 R2 x2 => ⟨hlt, env2, O2, R2, y.trans (x1.trans x2), postS_mono (x1.trans x2) p'⟩
      | ct env2 => rw [q2] at p'; exact fun σ2 H2 O2 R2 x2 => ⟨hlt, env2, O2, R2, y.trans (x1.trans x2), postS_mono (x1.trans x2) p'⟩
      | bk env2 => rw [q2] at p'; exact fun σ2 H2 O2 R2 x2 => p' σ2 H2 O2 R2 (x1.trans x2)
      | rt d => rw [q2] at p'; exact p'
      | xx e l env2 => rw [q2] at p'; exact p'
      | bad => rw [q2] at p'; exact p'
  · have e : i = vs.length := by omega
    subst e
    rw [← reps_len r, ← enD_len ds 0, List.drop_length] at p'
    exact .inl ⟨⟨vs, hl, rfl, Nat.le_refl _⟩, p' σ' H' O' R' Ext.rfl'⟩
theorem ds_forEnT {T : List Nat} {h : D → En → Option En} {p pos' tpos : Pos} {elts : List Expr} {kk : Nat} (hp : PassesOwn (model X.prog X.w) X.A X.env X.xe) (hc : X.calm = true) (hm : X.mg "enumerate" = none) (ha : DA X c W [a] fs) (hg : DG X c T (.Tuple elts kk tpos) h) (hb : DSs X c W body f) (hgl : Gl X "enumerate" := by rfl)
    (hst : starEach [a] X.env = [(false, eval a X.env)] := by rfl) (hs : ∀ x, foldedSetIterable (.Call (.Name "enumerate" p) [a] [] pos') X.env x = pure x := by intro _; rfl) : DS X c W (.For (.Tuple elts kk tpos) (.Call (.Name "enumerate" p) [a] [] pos') body [] pos) (sFor (eEnT fs) h f) := by
  refine ps_imp (ps_for hp hc (pi_enumT hgl hm ha hst) hg hb hs) fun D σ H ⟨env, O, R, p⟩ => ⟨env, O, R, ?_⟩
  unfold sFor eEnT at p
  cases q : fs env with
  | ex e l => rw [q] at p; exact fun H' x => p σ H' O (R.mono x)
  | bad => rw [q] at p; exact p
  | ok ds =>
    rw [q] at p
    have p : PostS X.K c W O H D (lift (itEnT ds) env fun ds => forL h f ds env) := p
    intro us H1 x1 r1
    rcases itEnT_ok (ds := ds) rfl with z | ⟨xs, rfl, z⟩
    · rw [z] at p; exact p.elim
    · rw [z] at p
      have p : PostS X.K c W O H D (forL h f (enD 0 xs) env) := p
      unfold RepsS Reps at r1
      obtain ⟨v, ws, rfl, h1, h2⟩ := r1
      unfold Reps at h2
      subst h2
      unfold Rep at h1
      obtain ⟨ad, vs, rfl, h3, h4⟩ := h1
      exact ⟨ad, vs, rfl, SqT.sub h3, enum_turnsT (R.mono x1) h3 h4 (fun _ _ _ _ z => z) (fun _ _ _ z => z) (postS_mono (hide_ext x1) p)⟩
end
end Dl
namespace Dl
open PySem PySem.Spec PyProof.Rows L2
theorem kitC_of {K : PySem.W.Frag} {t : Value} {C : Addr} {b : Bool} (h1 : PySem.W.isClsIn K C = true) (h2 : PySem.W.typeIn K (.ref C) = some (.type "type")) (h3 : PySem.W.subIn K t (.ref C) = some b) (ne : (t == .ref C) = false) : PySem.W.kitOne K t (.ref C) = some b := by
  have h1' : (PySem.W.clsIn K C).isSome = true := h1
  unfold PySem.W.kitOne
  rw [if_neg (by rw [ne]; decide)]
  show (if ((PySem.W.clsIn K C).isSome && PySem.W.typeIn K (.ref C) == some (.type "type")) = true then PySem.W.subIn K t (.ref C) else none) = some b
  rw [h1', h2, if_pos (by decide)]
  exact h3
theorem kitT_of {K : PySem.W.Frag} {D : Addr} {T : String} {b : Bool} (h1 : PySem.W.kitMeta T = true) (h3 : PySem.W.subIn K (.ref D) (.type T) = some b) : PySem.W.kitOne K (.ref D) (.type T) = some b := by
  unfold PySem.W.kitOne
  rw [if_neg (by simp)]
  show (if PySem.W.kitMeta T = true then PySem.W.subIn K (.ref D) (.type T) else none) = some b
  rw [if_pos h1]
  exact h3
theorem ne_ref {C D : Addr} (h : (D == C) = false) : ((.ref D : Value) == .ref C) = false := by
  have h' : D ≠ C := by simpa using h
  simpa using h'
end Dl
set_option maxHeartbeats 4000000
namespace Dl
open PySem PySem.Spec PyProof.Rows L2
/-! ### t[::-1] of a tuple -/
theorem pick_rev {α : Type} (its : Array α) : ((List.range its.size).filterMap fun (k : Nat) => its[(((its.size : Int) - 1) + (k : Int) * (-1)).toNat]?) = its.toList.reverse := by
  have e : (List.range its.size).filterMap (fun (k : Nat) => its[(((its.size : Int) - 1) + (k : Int) * (-1)).toNat]?) = ((List.range its.size).map fun k => its.size - 1 - k).filterMap (its[·]?) := by
    rw [List.filterMap_map]
    refine congrArg (fun f => List.filterMap f (List.range its.size)) (funext fun k => ?_)
    show its[_]? = its[its.size - 1 - k]?
    congr 1
    omega
  rw [e]
  have h2 := PySem.W.krv_all its
  have h3 := PySem.W.krv_range its.size
  rw [h3, List.filterMap_reverse, h2]
section
variable {prog : Program} {w : World} {A : Around} {E : Value → Shared → Prop} {s : Shared}
theorem sliceApplied_rev {sl : Addr} {vl vu vs : Value} {n : Nat} {Q : Int × Int × Nat → Shared → Prop} (hs : s.heap.IsSliceOf sl vl vu vs) (pl : IsPart vl none) (pu : IsPart vu none) (ps : IsPart vs (some (-1)))
    (h : Q ((n : Int) - 1, -1, n) s) : wpAny (model prog w) A (Builtin.Slice.sliceApplied (.ref sl) (pure (n : Int))) Q E s := by
  obtain ⟨os, hos, hcs, hds⟩ := id hs
  unfold Builtin.Slice.sliceApplied Builtin.Slice.sliceFields
  refine wpAny_bind (wpAny_bind (wpAny_field hos hds (x := vl) rfl (wpAny_bind (wpAny_field hos hds (x := vu) rfl (wpAny_bind (wpAny_field hos hds (x := vs) rfl (wpAny_pure ?_)))))))
  refine wpAny_bind (HT.slicePart_ ps ?_)
  show wpAny _ _ (if ((-1 : Int) == 0) = true then _ else _) _ _ s
  rw [if_neg (by decide)]
  refine wpAny_bind (HT.slicePart_ pl (wpAny_bind (HT.slicePart_ pu (wpAny_bind (wpAny_pure ?_)))))
  show wpAny _ _ (match Builtin.Slice.sliceAdjust none none (-1) (n : Int) with | (lo, hi) => pure (lo, (-1 : Int), Builtin.Slice.slicePlaces lo hi (-1))) _ _ s
  have e1 : Builtin.Slice.sliceAdjust none none (-1) (n : Int) = ((n : Int) - 1, -1) := by
    unfold Builtin.Slice.sliceAdjust; rfl
  rw [e1]
  have e2 : Builtin.Slice.slicePlaces ((n : Int) - 1) (-1) (-1) = n := by
    unfold Builtin.Slice.slicePlaces
    rw [if_neg (by decide)]
    by_cases h0 : (n : Int) - 1 > -1
    · rw [if_pos h0, show (-(-1 : Int)) = 1 by decide, Int.ediv_one]; omega
    · rw [if_neg h0]; omega
  show wpAny _ _ (pure ((n : Int) - 1, (-1 : Int), Builtin.Slice.slicePlaces ((n : Int) - 1) (-1) (-1))) _ _ s
  rw [e2]
  exact wpAny_pure h
theorem getItem_tuple_rev {t sl : Addr} {items : Array Value} {vl vu vs : Value} {Q : Value → Shared → Prop} (ht : IsTup s.heap t items) (hs : s.heap.IsSliceOf sl vl vu vs) (pl : IsPart vl none) (pu : IsPart vu none) (ps : IsPart vs (some (-1)))
    (h : Q (.ref s.heap.objs.size) { s with heap := s.heap.push { cls := .type "tuple", data := .seq items.toList.reverse.toArray } })
    (hsz : items.size ≤ sizeLine) : wpAny (model prog w) A (getItem (.ref t) (.ref sl)) Q E s := by
  have htake : sizeOk (.seq items.toList.reverse.toArray) := by
    show items.toList.reverse.toArray.size ≤ sizeLine
    rw [List.size_toArray, List.length_reverse, Array.length_toList]
    omega
  obtain ⟨os, hos, hcs, hds⟩ := id hs
  have hTs : s.TypeIs (.ref sl) "slice" := ⟨os, hos, hcs⟩
  unfold getItem
  try with_reducible refine wpAny_holding ?_
  first | refine wpAny_bind (wpAny_pure ?_) | skip
  refine wpAny_bind (wpAny_sequenceKey ht.typeIs (by decide) ?_)
  refine wpAny_bind (wpAny_callSpecial?_slot (name := Str.ofString "__getitem__") ht.typeIs PyProof.Rows.slot_tuple_getitem
    (wpAny_call_entry PyProof.Rows.slot_tuple_getitem ht.typeIs entry_tuple_getitem ?_ (args_tuple_getitem _ _)))
  show wpAny _ _ (Builtin.Tuple.tupleItemsOf (.ref t) >>= _) _ _ s
  refine wpAny_bind (tupleItemsOf_ ht ?_)
  refine wpAny_bind (wpAny_typeOf hTs ?_)
  rw [if_pos (by decide)]
  refine wpAny_bind (sliceApplied_rev hs pl pu ps ?_)
  show wpAny _ _ (if (((items.size : Int) - 1 : Int) == 0 && (-1 : Int) == 1 && items.size == items.size) = true then _ else _) _ _ s
  rw [if_neg (by rw [show ((-1 : Int) == 1) = false by decide, Bool.and_false, Bool.false_and]; decide), pick_rev]
  first
    | exact wpAny_bind (m := Builtin.Tuple.tupleExact _) (wpAny_newObj_type (wpAny_pure ⟨_, rfl, wpAny_pure h⟩) htake)
    | exact wpAny_bind (m := Builtin.Tuple.tupleExact _) (wpAny_newObj_type (wpAny_bind (wpAny_pure (wpAny_pure ⟨_, rfl, wpAny_pure h⟩))) htake)
    | exact wpAny_bind (wpAny_bind (m := Builtin.Tuple.tupleExact _) (wpAny_newObj_type (wpAny_pure (wpAny_pure ⟨_, rfl, wpAny_pure h⟩)) htake))
    | exact wpAny_bind (wpAny_bind (m := Builtin.Tuple.tupleExact _) (wpAny_newObj_type (wpAny_pure ⟨_, rfl, wpAny_pure h⟩) htake))
end
def tRevT (K : PySem.W.Frag) (te : TE) : TE := fun σ H Q => te σ H fun x H1 => ∃ a xs, x = .ref a ∧ SqT K H1 a xs ∧ ∀ p, H1 p = none → Q (.ref p) (upd H1 p (.tup xs.reverse))
theorem pe_revT {X : Cx} {e : Expr} {te : TE} {k : Nat} {p1 p2 p3 pos : Pos} (he : PE X e te) : PE X (.Subscript e (.Slice none none (some (.UnaryOp .USub (.Constant (.int 1) k p1) p2)) p3) pos) (tRevT X.K te) := by
  refine ⟨fun pins s σ H Q I h => ?_⟩
  refine Subscript_ (thn (he.run pins s σ H _ I h) fun v s1 ⟨x, H1, I1, r1, q1⟩ => ?_)
  obtain ⟨a, xs, ex, hx, q⟩ := q1
  subst ex
  cases r1
  have hst : PO X (some (.UnaryOp .USub (.Constant (.int 1) k p1) p2)) (tPart (tUn (rU fun i => .int (-i)) (tC (.int 1)))) := po_some (pe_un un_neg pe_int)
  refine wpAny_Slice (thn (po_none.run pins s1 σ H1 (fun o H2 => o = none ∧ H2 = H1) I1 ⟨rfl, rfl⟩) fun vl s2 ⟨l, H2, I2, pl, el, e2⟩ => ?_)
  subst el e2
  refine thn (po_none.run pins s2 σ H2 (fun o H3 => o = none ∧ H3 = H2) I2 ⟨rfl, rfl⟩) fun vu s3 ⟨u, H3, I3, pu, eu, e3⟩ => ?_
  subst eu e3
  refine thn (hst.run pins s3 σ H3 (fun o H4 => o = some (-1) ∧ H4 = H3) I3 ⟨1, rfl, -1, rfl, rfl, rfl⟩) fun vs s4 ⟨o, H4, I4, ps, eo, e4⟩ => ?_
  subst eo e4
  have I5 : Inv X pins σ H4 { s4 with heap := s4.heap.push { cls := .type "slice", data := .fields #[vl, vu, vs] } } := I4.kept (t' := s4.toks) fun b ob q => Heap.get?_push_of_some _ q
  obtain ⟨its, r, ht, hz⟩ := I5.tuple hx
  have hlen := r.length
  show wpAny (model X.prog X.w) X.A (subscriptTail e (.Slice none none (some (.UnaryOp .USub (.Constant (.int 1) k p1) p2)) p3) (.ref a) (.ref s4.heap.objs.size)) (EP X pins σ Q) X.xe { s4 with heap := s4.heap.push { cls := .type "slice", data := .fields #[vl, vu, vs] } }
  refine tail_any (ops := [.ref a, .ref s4.heap.objs.size]) ht.typeIs (PyProof.Rows.slot_tuple_getitem.lookup) ?_ (by with_unfolding_all rfl)
  refine getItem_tuple_rev ht (Heap.IsSliceOf.new _ vl vu vs) pl pu ps ?_ (by rw [List.size_toArray]; omega)
  refine ⟨.ref _, _, I5.laid (t' := s4.toks) (o := .tup xs.reverse) (fun b ob q => Heap.get?_push_of_some _ q) (Nat.le_refl _) ?_, rfl, q _ (I5.hok.fresh (Nat.le_refl _))⟩
  exact ⟨by rw [List.length_reverse]; exact hz, _, r.reverse, IsTup.new _ _⟩
def eRevT (fe : En → Res D) : En → Res D := fun env => (fe env).bind fun x => match x with
  | .tup xs => .ok (.tup xs.reverse)
  | _ => .bad
section
variable {X : Cx} {c : Cc} {W : WX} {e : Expr} {fe : En → Res D} {pos : Pos}
theorem de_revT {k : Nat} {p1 p2 p3 : Pos} (he : DW X c W e fe) : DE X c W (.Subscript e (.Slice none none (some (.UnaryOp .USub (.Constant (.int 1) k p1) p2)) p3) pos) (eRevT fe) :=
  pe_imp (pe_revT he) fun σ H Q ⟨env, O, R, p⟩ => ⟨env, O, R, post_bind p fun x vx H1 x1 r1 p1 => by
    cases x with
    | tup xs =>
      obtain ⟨q, us, rfl, h1, h2⟩ := RepW.tup r1
      exact ⟨q, us, rfl, h1, fun z hz => post_ok p1 (Ext.upd hz) (repS_newT ((R.mono x1).new hz) hz (reps_rev h2))⟩
    | _ => exact p1.elim⟩
end
end Dl
namespace Dl
open PySem PySem.Spec PyProof.Rows L2
/-! ### enumerate over a tuple in a comprehension -/
section
variable {K : PySem.W.Frag} {c : Cc} {W : WX} {h : D → En → Option En} {ft : En → Res Bool} {fe : En → Res D} {fs : En → Res (List D)}
theorem tlc_enT {T vs : List Nat} (hT : ∀ i ∈ T, i ∈ vs) : ∀ σ H Q, tE K c W (eLc vs (eEnT fs) h ft fe) σ H Q → tLc (iEnumT K (tA K c W fs)) (tG K c T h) (tTt K c W0 ft) (tE K c W0 fe) vs σ H Q := fun σ H Q ⟨env, O, R, p⟩ => ⟨env, O, R, by
  unfold eLc eEnT at p
  cases q : fs env with
  | ex e l => rw [q] at p; exact p
  | bad => rw [q] at p; exact p
  | ok ds =>
    rw [q] at p
    have p : Post K c W σ H (RepS K c O) ((itEnT ds).bind fun ds => (lcL h ft fe (wipeE env vs) ds).bind fun ys => if ys.length ≤ 100000 then .ok (.lst ys) else .bad) Q := p
    intro us H1 x1 r1
    have R1 := R.mono x1
    rcases itEnT_ok (ds := ds) rfl with z | ⟨xs, rfl, z⟩
    · rw [z] at p; exact p.elim
    · rw [z] at p
      have p := post_mono x1 (show Post K c W σ H (RepS K c O) ((lcL h ft fe (wipeE env vs) (enD 0 xs)).bind fun ys => if ys.length ≤ 100000 then .ok (.lst ys) else .bad) Q from p)
      unfold RepsS Reps at r1
      obtain ⟨v, ws, rfl, h1, h2⟩ := r1
      unfold Reps at h2
      subst h2
      unfold Rep at h1
      obtain ⟨a, us, rfl, h3, h4⟩ := h1
      refine ⟨a, us, rfl, SqT.sub h3, fun Da hD => ?_⟩
      have hDO : Da ∉ O := R1.new hD
      cases q : lcL h ft fe (wipeE env vs) (enD 0 xs) with
      | ex e l => exact absurd q lcL_noex
      | bad => rw [q] at p; exact p.elim
      | ok ys =>
        rw [q] at p
        have p : Post K c W σ H1 (RepS K c O) (if ys.length ≤ 100000 then .ok (.lst ys) else .bad) Q := p
        by_cases hl : ys.length ≤ 100000
        · rw [if_pos hl] at p
          refine ⟨fun i m H => m = us.length - i ∧ i ≤ us.length ∧ ∃ acc accD rest, H Da = some (.lst acc) ∧ Reps K c.cl (hide O (hide [Da] H)) accD acc ∧ Rl K c O (wipeE env vs) (wipe σ vs) (hide [Da] H) ∧ Ext (hide O H1) (hide O (hide [Da] H)) ∧ Ext H1 H ∧
            lcL h ft fe (wipeE env vs) ((enD 0 xs).drop i) = .ok rest ∧ accD ++ rest = ys, ⟨_, rfl, Nat.zero_le _, [], [], ys, upd_same, reps_nil, ?_, ?_, Ext.upd hD, q, rfl⟩, ?_⟩
          · rw [hide_new' hD]; exact R1.wipe vs
          · rw [hide_new' hD]; exact Ext.rfl'
          · rintro i m H ⟨rfl, hi, acc, accD, rest, a1, a2, a3, a4, a5, a6, a7⟩
            have sq : SqT K H a us := (SqT.sub h3).ext a5
            by_cases hlt : i < us.length
            · refine .inr ⟨⟨us, us[i], sq, rfl, by simp [hlt]⟩, fun H' => i < us.length ∧ ∃ acc accD rest, H' Da = some (.lst acc) ∧ Reps K c.cl (hide O (hide [Da] H')) accD acc ∧ Rl K c O (wipeE env vs) (wipe σ vs) (hide [Da] H') ∧ Ext (hide O H1) (hide O (hide [Da] H')) ∧ Ext H1 H' ∧
                lcL h ft fe (wipeE env vs) ((enD 0 xs).drop (i + 1)) = .ok rest ∧ accD ++ rest = ys, fun H' ⟨z, y⟩ => ⟨us.length - (i + 1), by omega, rfl, z, y⟩, ?_⟩
              rintro x H2 ⟨Ta, u, rfl, hTa, rfl, hu⟩
              obtain ⟨d, hd, rd⟩ := reps_get' h4 (hu us sq)
              have hlt2 : i < (enD 0 xs).length := by rw [enD_len, reps_len h4]; exact hlt
              have ee : (enD 0 xs)[i]? = some (.tup [.int (i : Nat), d]) := by
                rw [enD_get, hd, Nat.zero_add]
                rfl
              have e : (enD 0 xs).drop i = .tup [.int (i : Nat), d] :: (enD 0 xs).drop (i + 1) := by
                rw [List.drop_eq_getElem_cons hlt2]
                rw [(List.getElem?_eq_some_iff.mp ee).2]
              rw [e] at a6
              unfold lcL at a6
              have xT : Ext H (upd H Ta (.tup [V.int (i : Nat), u])) := Ext.upd hTa
              have hi0 : Rep K c.cl (hide (Da :: O) H) (.int (i : Nat)) (.int (i : Nat)) := by unfold Rep; rfl
              have R3 : Rl K c (Da :: O) (wipeE env vs) (wipe σ vs) H := a3.over ⟨_, a1⟩
              cases q1 : h (.tup [.int (i : Nat), d]) (wipeE env vs) with
              | none => rw [q1] at a6; cases a6
              | some env1 =>
                rw [q1] at a6
                dsimp only at a6
                refine ⟨.tup [.int (i : Nat), d], wipeE env vs, Da :: O, R3.mono xT, repS_newT (R3.new hTa) hTa (reps_cons hi0 (reps_cons (by rw [hide_hide]; exact rep_mono a4 _ _ rd) reps_nil)), ?_⟩
                rw [q1]
                intro σ2 H2 R2 x2 s2
                refine ⟨wipe_same s2 hT, env1, Da :: O, R2, ?_⟩
                have keep : ∀ {H3 : Hp}, Ext H H3 → H3 Da = some (.lst acc) ∧ Reps K c.cl (hide O (hide [Da] H3)) accD acc ∧ Rl K c O (wipeE env vs) (wipe σ vs) (hide [Da] H3) ∧ Ext (hide O H1) (hide O (hide [Da] H3)) ∧ Ext H1 H3 := fun {H3} z =>
                  ⟨z _ _ a1, reps_mono (hide_ext (hide_ext z)) _ _ a2, a3.mono (hide_ext z), a4.trans (hide_ext (hide_ext z)), a5.trans z⟩
                cases q2 : ft env1 with
                | ex _ _ => rw [q2] at a6; cases a6
                | bad => rw [q2] at a6; cases a6
                | ok k =>
                  rw [q2] at a6
                  intro b H3 x3 hb
                  have hb : k = b := hb
                  subst hb
                  cases k with
                  | false =>
                    refine iteF ?_
                    obtain ⟨k1, k2, k3, k4, k5⟩ := keep ((xT.trans x2).trans x3)
                    exact ⟨hlt, acc, accD, rest, k1, k2, k3, k4, k5, a6, a7⟩
                  | true =>
                    refine iteT ⟨env1, Da :: O, R2.mono x3, ?_⟩
                    have a6 : ((noex (fe env1)).bind fun y => (lcL h ft fe (wipeE env vs) ((enD 0 xs).drop (i + 1))).bind fun ys => .ok (y :: ys)) = .ok rest := a6
                    cases q3 : fe env1 with
                    | ex _ _ => rw [q3] at a6; cases a6
                    | bad => rw [q3] at a6; cases a6
                    | ok y =>
                      rw [q3] at a6
                      have a6 : ((lcL h ft fe (wipeE env vs) ((enD 0 xs).drop (i + 1))).bind fun ys => .ok (y :: ys)) = .ok rest := a6
                      cases q4 : lcL h ft fe (wipeE env vs) ((enD 0 xs).drop (i + 1)) with
                      | ex _ _ => rw [q4] at a6; cases a6
                      | bad => rw [q4] at a6; cases a6
                      | ok rest' =>
                        rw [q4] at a6
                        cases a6
                        intro v H4 x4 rv
                        obtain ⟨k1, k2, k3, k4, k5⟩ := keep (((xT.trans x2).trans x3).trans x4)
                        have rv : Rep K c.cl (hide (Da :: O) H4) y v := rv
                        rw [hide_hide] at rv
                        have hlen : acc.length < sizeLine := by
                          have z := congrArg List.length a7
                          rw [List.length_append, List.length_cons] at z
                          rw [← reps_len a2]
                          exact Nat.lt_of_lt_of_le (show accD.length < 100000 by omega) (by decide)
                        have hE : Ext H1 (upd H4 Da (.lst (acc ++ [v]))) := fun b o eb => by
                          rw [upd_ne (ne_of_none eb hD)]
                          exact k5 b o eb
                        refine ⟨acc, k1, hlen, hlt, acc ++ [v], accD ++ [y], rest', upd_same, ?_, ?_, ?_, hE, by first | exact q4 | rfl, by rw [List.append_assoc]; exact a7⟩
                        · rw [hide_one_upd]; exact reps_app k2 (reps_cons rv reps_nil)
                        · rw [hide_one_upd]; exact k3
                        · rw [hide_one_upd]; exact k4
            · have ei : i = us.length := by omega
              subst ei
              refine .inl ⟨⟨us, sq, rfl, Nat.le_refl _⟩, ?_⟩
              rw [← reps_len h4, ← enD_len xs 0, List.drop_length] at a6
              cases a6
              rw [List.append_nil] at a7
              subst a7
              exact p _ H a5 (rep_lst (by rw [hide_out hDO]; exact a1) (reps_mono (hide_ext hide_sub) _ _ a2))
        · rw [if_neg hl] at p; exact p.elim⟩
end
end Dl
namespace Lw
open PySem PySem.Spec PyProof.Rows L2 Dl
def w_ : Str := ⟨⟨[]⟩⟩
def w_0 : Str := ⟨⟨[48]⟩⟩
def w_1 : Str := ⟨⟨[49]⟩⟩
def w_2 : Str := ⟨⟨[50]⟩⟩
def w_BASE : Str := ⟨⟨[66, 65, 83, 69]⟩⟩
def w_CELLS : Str := ⟨⟨[67, 69, 76, 76, 83]⟩⟩
def w_DROPS : Str := ⟨⟨[68, 82, 79, 80, 83]⟩⟩
def w_FIELDS : Str := ⟨⟨[70, 73, 69, 76, 68, 83]⟩⟩
def w_PLACES : Str := ⟨⟨[80, 76, 65, 67, 69, 83]⟩⟩
def w_c : Str := ⟨⟨[99]⟩⟩
def w_c0 : Str := ⟨⟨[99, 48]⟩⟩
def w_c1 : Str := ⟨⟨[99, 49]⟩⟩
def w_cell : Str := ⟨⟨[99, 101, 108, 108]⟩⟩
def w_check_95_place : Str := ⟨⟨[99, 104, 101, 99, 107, 95, 112, 108, 97, 99, 101]⟩⟩
def w_f : Str := ⟨⟨[102]⟩⟩
def w_f0 : Str := ⟨⟨[102, 48]⟩⟩
def w_f1 : Str := ⟨⟨[102, 49]⟩⟩
def w_f2 : Str := ⟨⟨[102, 50]⟩⟩
def w_field : Str := ⟨⟨[102, 105, 101, 108, 100]⟩⟩
def w_form : Str := ⟨⟨[102, 111, 114, 109]⟩⟩
def w_held : Str := ⟨⟨[104, 101, 108, 100]⟩⟩
def w_keep : Str := ⟨⟨[107, 101, 101, 112]⟩⟩
def w_leaves : Str := ⟨⟨[108, 101, 97, 118, 101, 115]⟩⟩
def w_less : Str := ⟨⟨[108, 101, 115, 115]⟩⟩
def w_number : Str := ⟨⟨[110, 117, 109, 98, 101, 114]⟩⟩
def w_p : Str := ⟨⟨[112]⟩⟩
def w_p0 : Str := ⟨⟨[112, 48]⟩⟩
def w_p1 : Str := ⟨⟨[112, 49]⟩⟩
def w_place : Str := ⟨⟨[112, 108, 97, 99, 101]⟩⟩
def w_reads : Str := ⟨⟨[114, 101, 97, 100, 115]⟩⟩
def w_same : Str := ⟨⟨[115, 97, 109, 101]⟩⟩
def w_shown : Str := ⟨⟨[115, 104, 111, 119, 110]⟩⟩
def w_sum : Str := ⟨⟨[115, 117, 109]⟩⟩
def w_times : Str := ⟨⟨[116, 105, 109, 101, 115]⟩⟩
def w_when : Str := ⟨⟨[119, 104, 101, 110]⟩⟩
def tab_LETTERS : List (Str × D) := [(w_field, .str w_f), (w_cell, .str w_c), (w_place, .str w_p)]
def tab_WIDTHS : List (Str × D) := [(w_sum, .int 2), (w_less, .int 2), (w_times, .int 2), (w_same, .int 2), (w_when, .int 3)]
def tab_HIGHEST : List (Str × D) := [(w_number, .int 2), (w_field, .int 2), (w_cell, .int 1), (w_place, .int 1)]
def ex_BadPlan : Nat → Option Bool := fun k => [some false, some false, some false, some true, some false].getD k none
def top (i : Nat) : Stmt := PySem.Challenge.pw_shortkeys_k18_whole_plan_parts.main.body.getD i (.Pass ⟨0, 0, 0, 0⟩)
abbrev s_BadPlan_init : Stmt := inClass (top 6) 0
abbrev s_Key_eq : Stmt := inClass (top 19) 11
abbrev s_Recipe_eq : Stmt := inClass (top 25) 18
abbrev s_Plan_eq : Stmt := inClass (top 36) 13
abbrev s_Plan_base : Stmt := inClass (top 36) 1
abbrev s_Plan_cells : Stmt := inClass (top 36) 3
abbrev s_Plan_drops : Stmt := inClass (top 36) 5
abbrev s_Plan_fields : Stmt := inClass (top 36) 2
abbrev s_is_integer : Stmt := top 13
abbrev s_is_whole : Stmt := top 14
abbrev s_kind_of : Stmt := top 26
abbrev s_leaves_of : Stmt := top 27
abbrev s_Recipe_init : Stmt := inClass (top 25) 0
abbrev s_form_of : Stmt := top 30
abbrev s_Recipe_add : Stmt := inClass (top 25) 8
abbrev s_in_order : Stmt := top 16
abbrev s_is_name : Stmt := top 15
abbrev s_Key_init : Stmt := inClass (top 19) 0
abbrev s_Key_len : Stmt := inClass (top 19) 10
abbrev s_Plan_places : Stmt := inClass (top 36) 4
abbrev s_Plan_len : Stmt := inClass (top 36) 12
abbrev s_Recipe_len : Stmt := inClass (top 25) 16
abbrev s_is_ascending : Stmt := top 42
abbrev s_drops_fit : Stmt := top 41
abbrev s_number_rows : Stmt := top 43
abbrev s_Key_le : Stmt := inClass (top 19) 7
abbrev s_Key_names : Stmt := inClass (top 19) 2
abbrev s_name_of : Stmt := top 29
abbrev s_Recipe_names : Stmt := inClass (top 25) 5
abbrev s_recipe_fits : Stmt := top 39
abbrev s_rule_fits : Stmt := top 40
abbrev s_pair_fits : Stmt := top 38
abbrev s_usable_names : Stmt := top 17
abbrev s_wrong_part : Stmt := top 37
abbrev s_Plan_init : Stmt := inClass (top 36) 0
abbrev s__law_made : Stmt := top 56
abbrev s__law_drops_right : Stmt := top 59
abbrev s_Plan_check_place : Stmt := inClass (top 36) 9
abbrev s_Plan_getitem : Stmt := inClass (top 36) 10
abbrev s__law_is_number : Stmt := top 51
abbrev s__law_number : Stmt := top 45
abbrev s__law_pick : Stmt := top 46
abbrev s__law_drops : Stmt := top 55
abbrev s__law_leaf : Stmt := top 47
abbrev s_leaf_form : Stmt := top 28
abbrev s_Recipe_field : Stmt := inClass (top 25) 1
abbrev s__law_rule : Stmt := top 48
abbrev s__law_places : Stmt := top 49
abbrev s__law_rows_of : Stmt := top 58
abbrev s__law_are_drops : Stmt := top 53
abbrev s_Key_contains : Stmt := inClass (top 19) 9
abbrev s_Recipe_contains : Stmt := inClass (top 25) 15
abbrev s__law_leaves : Stmt := top 50
abbrev s__law_is_place : Stmt := top 52
abbrev s__law_wrong : Stmt := top 54
abbrev s__law_plan_right : Stmt := top 57
abbrev s_law : Stmt := top 60
theorem sc_Key_eq : FnScope ["self", "other"] ["self", "other"] (defScope s_Key_eq) := ⟨rfl, rfl, rfl, by decide +kernel, rfl, by decide +kernel, by decide +kernel⟩
def b_Key_eq : En → Out := sRet (eAnd (eAt (gIsi (isiCX 0 3)) (eVar 1)) (eBin (gEq false) (eAt (gFld 0 w_held) (eVar 0)) (eAt (gFld 0 w_held) (eVar 1))))
def m_Key_eq : List D → Res D := fun ds => if ds.length = 2 then outR (b_Key_eq (startE ["self", "other"] ds)) else .bad
theorem sc_Recipe_eq : FnScope ["self", "other"] ["self", "other"] (defScope s_Recipe_eq) := ⟨rfl, rfl, rfl, by decide +kernel, rfl, by decide +kernel, by decide +kernel⟩
def b_Recipe_eq : En → Out := sRet (eAnd (eAt (gIsi (isiCX 1 3)) (eVar 1)) (eBin (gEq false) (eAt (gFld 1 w_form) (eVar 0)) (eAt (gFld 1 w_form) (eVar 1))))
def m_Recipe_eq : List D → Res D := fun ds => if ds.length = 2 then outR (b_Recipe_eq (startE ["self", "other"] ds)) else .bad
theorem sc_Plan_eq : FnScope ["self", "other"] ["self", "other"] (defScope s_Plan_eq) := ⟨rfl, rfl, rfl, by decide +kernel, rfl, by decide +kernel, by decide +kernel⟩
def b_Plan_eq : En → Out := sRet (eAnd (eAt (gIsi (isiCX 2 3)) (eVar 1)) (eBin (gAlt (gEq false) (gEqT (fun k => if k = 1 then some m_Recipe_eq else if k = 0 then some m_Key_eq else none) 5)) (eAt (gFld 2 w_held) (eVar 0)) (eAt (gFld 2 w_held) (eVar 1))))
def m_Plan_eq : List D → Res D := fun ds => if ds.length = 2 then outR (b_Plan_eq (startE ["self", "other"] ds)) else .bad
theorem sc_Plan_base : FnScope ["self"] ["self"] (defScope s_Plan_base) := ⟨rfl, rfl, rfl, by decide +kernel, rfl, by decide +kernel, by decide +kernel⟩
def b_Plan_base : En → Out := sRet (eBin gIx (eAt (gFld 2 w_held) (eVar 0)) (eC (.int 0)))
def m_Plan_base : List D → Res D := fun ds => if ds.length = 1 then outR (b_Plan_base (startE ["self"] ds)) else .bad
theorem sc_Plan_cells : FnScope ["self"] ["self"] (defScope s_Plan_cells) := ⟨rfl, rfl, rfl, by decide +kernel, rfl, by decide +kernel, by decide +kernel⟩
def b_Plan_cells : En → Out := sRet (eBin gIx (eAt (gFld 2 w_held) (eVar 0)) (eC (.int 2)))
def m_Plan_cells : List D → Res D := fun ds => if ds.length = 1 then outR (b_Plan_cells (startE ["self"] ds)) else .bad
theorem sc_Plan_drops : FnScope ["self"] ["self"] (defScope s_Plan_drops) := ⟨rfl, rfl, rfl, by decide +kernel, rfl, by decide +kernel, by decide +kernel⟩
def b_Plan_drops : En → Out := sRet (eBin gIx (eAt (gFld 2 w_held) (eVar 0)) (eC (.int 4)))
def m_Plan_drops : List D → Res D := fun ds => if ds.length = 1 then outR (b_Plan_drops (startE ["self"] ds)) else .bad
theorem sc_Plan_fields : FnScope ["self"] ["self"] (defScope s_Plan_fields) := ⟨rfl, rfl, rfl, by decide +kernel, rfl, by decide +kernel, by decide +kernel⟩
def b_Plan_fields : En → Out := sRet (eBin gIx (eAt (gFld 2 w_held) (eVar 0)) (eC (.int 1)))
def m_Plan_fields : List D → Res D := fun ds => if ds.length = 1 then outR (b_Plan_fields (startE ["self"] ds)) else .bad
theorem sc_is_integer : FnScope ["value"] ["value"] (defScope s_is_integer) := ⟨rfl, rfl, rfl, by decide +kernel, rfl, by decide +kernel, by decide +kernel⟩
def b_is_integer : En → Out := sRet (eAnd (eAt (gIsi isiT_int) (eVar 0)) (eNot (eAt (gIsi isiT_bool) (eVar 0))))
def m_is_integer : List D → Res D := fun ds => if ds.length = 1 then outR (b_is_integer (startE ["value"] ds)) else .bad
theorem sc_is_whole : FnScope ["value", "low", "high"] ["value", "low", "high"] (defScope s_is_whole) := ⟨rfl, rfl, rfl, by decide +kernel, rfl, by decide +kernel, by decide +kernel⟩
def b_is_whole : En → Out := sRet (eAnd (eCall m_is_integer (aCons (eVar 0) (aNil))) (eChain cLe cLe (eVar 1) (eVar 0) (eVar 2)))
def m_is_whole : List D → Res D := fun ds => if ds.length = 3 then outR (b_is_whole (startE ["value", "low", "high"] ds)) else .bad
theorem sc_kind_of : FnScope ["form", "word"] ["form"] (defScope s_kind_of) := ⟨rfl, rfl, rfl, by decide +kernel, rfl, by decide +kernel, by decide +kernel⟩
def b_kind_of : En → Out := sSeq (sIf (bOr (bNot (eB (eAt (gIsi isiT_tuple) (eVar 0)))) (bOr (eB (eBin (gLtI) (eCall fLen (aCons (eVar 0) (aNil))) (eC (.int 2)))) (bNot (eB (eAt (gIsi isiT_str) (eBin gIx (eVar 0) (eC (.int 0)))))))) (sRet (eC .non)) (sNext)) (sSeq (sAsg (eBin gIx (eVar 0) (eC (.int 0))) (gV 1)) (sSeq (sIf (bAnd (eB (eAt (gTopIn tab_WIDTHS false) (eVar 1))) (eB (eBin (gEq false) (eCall fLen (aCons (eVar 0) (aNil))) (eBin (gAddW) (eC (.int 1)) (eAt (gTopAt tab_WIDTHS) (eVar 1)))))) (sRet (eVar 1)) (sNext)) (sSeq (sIf (bAnd (eB (eAt (gTopIn tab_HIGHEST false) (eVar 1))) (bAnd (eB (eBin (gEq false) (eCall fLen (aCons (eVar 0) (aNil))) (eC (.int 2)))) (eB (eCall m_is_whole (aCons (eBin gIx (eVar 0) (eC (.int 1))) (aCons (eC (.int 0)) (aCons (eAt (gTopAt tab_HIGHEST) (eVar 1)) (aNil)))))))) (sRet (eVar 1)) (sNext)) (sRet (eC .non)))))
def m_kind_of : List D → Res D := fun ds => if ds.length = 1 then outR (b_kind_of (startE ["form", "word"] ds)) else .bad
theorem sc_leaves_of : FnScope ["form", "leaves", "waiting", "word", "part"] ["form"] (defScope s_leaves_of) := ⟨rfl, rfl, rfl, by decide +kernel, rfl, by decide +kernel, by decide +kernel⟩
def b_leaves_of : En → Out := sSeq (sNewL 1 (aNil)) (sSeq (sAsg (eLst (aCons (eVar 0) (aNil))) (gV 2)) (sSeq (sWhile 1000 (bAnd (eTru (eVar 2)) (eB (eBin (gLeI) (eBin (gAddW) (eCall fLen (aCons (eOwn 1) (aNil))) (eCall fLen (aCons (eVar 2) (aNil)))) (eC (.int 9))))) (sSeq (sPar2 4 2 (aCons (eBin gIx (eVar 2) (eC (.int 0))) (aCons (eSl (eVar 2) (oSome (eC (.int 1))) (oNo)) (aNil)))) (sSeq (sAsg (eCall m_kind_of (aCons (eVar 4) (aNil))) (gV 3)) (sSeq (sIf (eB (eBin (gIsN) (eVar 3) (eC .non))) (sRet (eC .non)) (sNext)) (sIf (eB (eAt (gTopIn tab_HIGHEST false) (eVar 3))) (sApp 1 (eVar 4)) (sAsg (eBin (gAddW) (eCall fLst (aCons (eSl (eVar 4) (oSome (eC (.int 1))) (oNo)) (aNil))) (eVar 2)) (gV 2))))))) (sRet (eIf (eTru (eVar 2)) (eC .non) (eOwn 1)))))
def m_leaves_of : List D → Res D := fun ds => if ds.length = 1 then outR (b_leaves_of (startE ["form", "leaves", "waiting", "word", "part"] ds)) else .bad
theorem sc_Recipe_init : FnScope ["self", "form", "leaves"] ["self", "form"] (defScope s_Recipe_init) := ⟨rfl, rfl, rfl, by decide +kernel, rfl, by decide +kernel, by decide +kernel⟩
def b_Recipe_init : En → Out := sSeq (sAsg (eCall m_leaves_of (aCons (eVar 1) (aNil))) (gV 2)) (sSeq (sIf (eB (eBin (gIsN) (eVar 2) (eC .non))) (sRaise 1) (sNext)) (sSeq (sSetFk 1 0 w_form (eVar 1)) (sSetFk 1 0 w_leaves (eCall fTup (aCons (eVar 2) (aNil))))))
def i0_Recipe (dd : List D) : List D → Res (List Str × List D) := fun ds => if ds.length + dd.length = 1 then outI 1 (b_Recipe_init (startI ["self", "form", "leaves"] 1 (ds ++ dd))) else .bad
def i_Recipe : List D → Res (List Str × List D) := i0_Recipe []
theorem sc_form_of : FnScope ["operand"] ["operand"] (defScope s_form_of) := ⟨rfl, rfl, rfl, by decide +kernel, rfl, by decide +kernel, by decide +kernel⟩
def b_form_of : En → Out := sSeq (sIf (eB (eAt (gIsi (isiCX 1 3)) (eVar 0))) (sRet (eAt (gFld 1 w_form) (eVar 0))) (sNext)) (sSeq (sIf (bNot (eB (eCall m_is_whole (aCons (eVar 0) (aCons (eC (.int 0)) (aCons (eAt (gTopAt tab_HIGHEST) (eC (.str w_number))) (aNil))))))) (sRaise 1) (sNext)) (sRet (eTup (aCons (eC (.str w_number)) (aCons (eVar 0) (aNil))))))
def m_form_of : List D → Res D := fun ds => if ds.length = 1 then outR (b_form_of (startE ["operand"] ds)) else .bad
theorem sc_Recipe_add : FnScope ["self", "other"] ["self", "other"] (defScope s_Recipe_add) := ⟨rfl, rfl, rfl, by decide +kernel, rfl, by decide +kernel, by decide +kernel⟩
def b_Recipe_add : En → Out := sRet (eCall (fun ds => insR 1 (i_Recipe ds)) (aCons (eTup (aCons (eC (.str w_sum)) (aCons (eAt (gFld 1 w_form) (eVar 0)) (aCons (eCall m_form_of (aCons (eVar 1) (aNil))) (aNil))))) (aNil)))
def m_Recipe_add : List D → Res D := fun ds => if ds.length = 2 then outR (b_Recipe_add (startE ["self", "other"] ds)) else .bad
theorem sc_in_order : FnScope ["names", "name"] ["names"] (defScope s_in_order) := ⟨rfl, rfl, rfl, by decide +kernel, rfl, by decide +kernel, by decide +kernel⟩
def b_in_order : En → Out := sRet (eCall fTup (aCons (eLc [1] (eIt (eC (.tup [.str w_f0, .str w_f1, .str w_f2, .str w_c0, .str w_c1, .str w_p0, .str w_p1]))) (gV 1) (eB (eBin (gIn false) (eVar 1) (eVar 0))) (eVar 1)) (aNil)))
def m_in_order : List D → Res D := fun ds => if ds.length = 1 then outR (b_in_order (startE ["names", "name"] ds)) else .bad
theorem sc_is_name : FnScope ["value"] ["value"] (defScope s_is_name) := ⟨rfl, rfl, rfl, by decide +kernel, rfl, by decide +kernel, by decide +kernel⟩
def b_is_name : En → Out := sRet (eAnd (eAt (gIsi isiT_str) (eVar 0)) (eBin (gIn false) (eVar 0) (eC (.tup [.str w_f0, .str w_f1, .str w_f2, .str w_c0, .str w_c1, .str w_p0, .str w_p1]))))
def m_is_name : List D → Res D := fun ds => if ds.length = 1 then outR (b_is_name (startE ["value"] ds)) else .bad
theorem sc_Key_init : FnScope ["self", "names", "name"] ["self", "names"] (defScope s_Key_init) := ⟨rfl, rfl, rfl, by decide +kernel, rfl, by decide +kernel, by decide +kernel⟩
def b_Key_init : En → Out := sSeq (sIf (bOr (bNot (eB (eAt (gIsi isiT_lt) (eVar 1)))) (bNot (eB (eCall fAll (aCons (eLc [2] (eIt (eVar 1)) (gV 2) (bYes) (eCall m_is_name (aCons (eVar 2) (aNil)))) (aNil)))))) (sRaise 0) (sNext)) (sSetFk 0 0 w_held (eCall m_in_order (aCons (eVar 1) (aNil))))
def i0_Key (dd : List D) : List D → Res (List Str × List D) := fun ds => if ds.length + dd.length = 1 then outI 0 (b_Key_init (startI ["self", "names", "name"] 0 (ds ++ dd))) else .bad
def i_Key : List D → Res (List Str × List D) := fun ds => if ds.length = 1 then i0_Key [] ds else i0_Key [.tup []] ds
theorem sc_Key_len : FnScope ["self"] ["self"] (defScope s_Key_len) := ⟨rfl, rfl, rfl, by decide +kernel, rfl, by decide +kernel, by decide +kernel⟩
def b_Key_len : En → Out := sRet (eCall fLen (aCons (eAt (gFld 0 w_held) (eVar 0)) (aNil)))
def m_Key_len : List D → Res D := fun ds => if ds.length = 1 then outR (b_Key_len (startE ["self"] ds)) else .bad
theorem sc_Plan_places : FnScope ["self"] ["self"] (defScope s_Plan_places) := ⟨rfl, rfl, rfl, by decide +kernel, rfl, by decide +kernel, by decide +kernel⟩
def b_Plan_places : En → Out := sRet (eBin gIx (eAt (gFld 2 w_held) (eVar 0)) (eC (.int 3)))
def m_Plan_places : List D → Res D := fun ds => if ds.length = 1 then outR (b_Plan_places (startE ["self"] ds)) else .bad
theorem sc_Plan_len : FnScope ["self"] ["self"] (defScope s_Plan_len) := ⟨rfl, rfl, rfl, by decide +kernel, rfl, by decide +kernel, by decide +kernel⟩
def b_Plan_len : En → Out := sRet (eCall fLen (aCons (eAt (gProp 2 m_Plan_places) (eVar 0)) (aNil)))
def m_Plan_len : List D → Res D := fun ds => if ds.length = 1 then outR (b_Plan_len (startE ["self"] ds)) else .bad
theorem sc_Recipe_len : FnScope ["self"] ["self"] (defScope s_Recipe_len) := ⟨rfl, rfl, rfl, by decide +kernel, rfl, by decide +kernel, by decide +kernel⟩
def b_Recipe_len : En → Out := sRet (eCall fLen (aCons (eAt (gFld 1 w_leaves) (eVar 0)) (aNil)))
def m_Recipe_len : List D → Res D := fun ds => if ds.length = 1 then outR (b_Recipe_len (startE ["self"] ds)) else .bad
theorem sc_is_ascending : FnScope ["dropped", "many", "at", "place"] ["dropped", "many"] (defScope s_is_ascending) := ⟨rfl, rfl, rfl, by decide +kernel, rfl, by decide +kernel, by decide +kernel⟩
def b_is_ascending : En → Out := sSeq (sIf (bOr (bNot (eB (eAt (gIsi isiT_tuple) (eVar 0)))) (bNot (eB (eCall fAll (aCons (eLc [3] (eIt (eVar 0)) (gV 3) (bYes) (eCall m_is_whole (aCons (eVar 3) (aCons (eC (.int 0)) (aCons (eBin (gSubI) (eVar 1) (eC (.int 1))) (aNil)))))) (aNil)))))) (sRet (eC (.bl false))) (sNext)) (sRet (eCall fAll (aCons (eLc [2] (eR1 (aCons (eBin (gSubI) (eCall fLen (aCons (eVar 0) (aNil))) (eC (.int 1))) (aNil))) (gV 2) (bYes) (eBin (gLtI) (eBin gIx (eVar 0) (eVar 2)) (eBin gIx (eVar 0) (eBin (gAddW) (eVar 2) (eC (.int 1)))))) (aNil))))
def m_is_ascending : List D → Res D := fun ds => if ds.length = 2 then outR (b_is_ascending (startE ["dropped", "many", "at", "place"] ds)) else .bad
theorem sc_drops_fit : FnScope ["drops", "cells", "many", "dropped"] ["drops", "cells", "many"] (defScope s_drops_fit) := ⟨rfl, rfl, rfl, by decide +kernel, rfl, by decide +kernel, by decide +kernel⟩
def b_drops_fit : En → Out := sSeq (sIf (bOr (bNot (eB (eAt (gIsi isiT_tuple) (eVar 0)))) (eB (eBin (gEq true) (eCall fLen (aCons (eVar 0) (aNil))) (eVar 1)))) (sRet (eC (.bl false))) (sNext)) (sRet (eCall fAll (aCons (eLc [3] (eIt (eVar 0)) (gV 3) (bYes) (eCall m_is_ascending (aCons (eVar 3) (aCons (eVar 2) (aNil))))) (aNil))))
def m_drops_fit : List D → Res D := fun ds => if ds.length = 3 then outR (b_drops_fit (startE ["drops", "cells", "many", "dropped"] ds)) else .bad
theorem sc_number_rows : FnScope ["base", "many", "rows", "at", "row", "n"] ["base", "many"] (defScope s_number_rows) := ⟨rfl, rfl, rfl, by decide +kernel, rfl, by decide +kernel, by decide +kernel⟩
def b_number_rows : En → Out := sSeq (sAsg (eLst (aCons (eTup (aNil)) (aNil))) (gV 2)) (sSeq (sFor (eR1 (aCons (eVar 1) (aNil))) (gV 3) (sAsg (eLc2 [4, 5] [5] (eItLL (eVar 2)) (gV 4) (bYes) (eR1 (aCons (eVar 0) (aNil))) (gV 5) (bYes) (eTup (aStar (eVar 4) (aCons (eVar 5) (aNil))))) (gV 2))) (sRet (eVar 2)))
def m_number_rows : List D → Res D := fun ds => if ds.length = 2 then outR (b_number_rows (startE ["base", "many", "rows", "at", "row", "n"] ds)) else .bad
theorem sc_Key_le : FnScope ["self", "other", "name"] ["self", "other"] (defScope s_Key_le) := ⟨rfl, rfl, rfl, by decide +kernel, rfl, by decide +kernel, by decide +kernel⟩
def b_Key_le : En → Out := sSeq (sIf (bNot (eB (eAt (gIsi (isiCX 0 3)) (eVar 1)))) (sRet ((fun _ => .bad))) (sNext)) (sRet (eCall fAll (aCons (eLc [2] (eIt (eAt (gFld 0 w_held) (eVar 0))) (gV 2) (bYes) (eBin (gIn false) (eVar 2) (eAt (gFld 0 w_held) (eVar 1)))) (aNil))))
def m_Key_le : List D → Res D := fun ds => if ds.length = 2 then outR (b_Key_le (startE ["self", "other", "name"] ds)) else .bad
theorem sc_Key_names : FnScope ["self"] ["self"] (defScope s_Key_names) := ⟨rfl, rfl, rfl, by decide +kernel, rfl, by decide +kernel, by decide +kernel⟩
def b_Key_names : En → Out := sRet (eAt (gFld 0 w_held) (eVar 0))
def m_Key_names : List D → Res D := fun ds => if ds.length = 1 then outR (b_Key_names (startE ["self"] ds)) else .bad
theorem sc_name_of : FnScope ["leaf"] ["leaf"] (defScope s_name_of) := ⟨rfl, rfl, rfl, by decide +kernel, rfl, by decide +kernel, by decide +kernel⟩
def b_name_of : En → Out := sRet (eJ2 (eAt fmtD (eAt (gTopAt tab_LETTERS) (eBin gIx (eVar 0) (eC (.int 0))))) (eAt fmtD (eBin gIx (eVar 0) (eC (.int 1)))))
def m_name_of : List D → Res D := fun ds => if ds.length = 1 then outR (b_name_of (startE ["leaf"] ds)) else .bad
theorem sc_Recipe_names : FnScope ["self", "leaf"] ["self"] (defScope s_Recipe_names) := ⟨rfl, rfl, rfl, by decide +kernel, rfl, by decide +kernel, by decide +kernel⟩
def b_Recipe_names : En → Out := sRet (eCall m_in_order (aCons (eLc [1] (eIt (eAt (gFld 1 w_leaves) (eVar 0))) (gV 1) (eB (eAt (gTopIn tab_LETTERS false) (eBin gIx (eVar 1) (eC (.int 0))))) (eCall m_name_of (aCons (eVar 1) (aNil)))) (aNil)))
def m_Recipe_names : List D → Res D := fun ds => if ds.length = 1 then outR (b_Recipe_names (startE ["self", "leaf"] ds)) else .bad
theorem sc_recipe_fits : FnScope ["recipe", "base", "usable", "numbers", "leaf", "n"] ["recipe", "base", "usable"] (defScope s_recipe_fits) := ⟨rfl, rfl, rfl, by decide +kernel, rfl, by decide +kernel, by decide +kernel⟩
def b_recipe_fits : En → Out := sSeq (sIf (bNot (eB (eAt (gIsi (isiCX 1 3)) (eVar 0)))) (sRet (eC (.bl false))) (sNext)) (sSeq (sAsg (eLc [4] (eIt (eAt (gFld 1 w_leaves) (eVar 0))) (gV 4) (eB (eBin (gEq false) (eBin gIx (eVar 4) (eC (.int 0))) (eC (.str w_number)))) (eBin gIx (eVar 4) (eC (.int 1)))) (gV 3)) (sRet (eAnd (eBin (gAlt (gOwn 0 m_Key_le) (gLeI)) (eCall (fun ds => insR 0 (i_Key ds)) (aCons (eAlt (eAt (gProp 0 m_Key_names) (eVar 0)) (eAt (gProp 1 m_Recipe_names) (eVar 0))) (aNil))) (eVar 2)) (eCall fAll (aCons (eLc [5] (eIt (eVar 3)) (gV 5) (bYes) (eBin (gLtI) (eVar 5) (eVar 1))) (aNil))))))
def m_recipe_fits : List D → Res D := fun ds => if ds.length = 3 then outR (b_recipe_fits (startE ["recipe", "base", "usable", "numbers", "leaf", "n"] ds)) else .bad
theorem sc_rule_fits : FnScope ["rule", "usable"] ["rule", "usable"] (defScope s_rule_fits) := ⟨rfl, rfl, rfl, by decide +kernel, rfl, by decide +kernel, by decide +kernel⟩
def b_rule_fits : En → Out := sSeq (sIf (eB (eAt (gIsi (isiCX 0 3)) (eVar 0))) (sRet (eBin (gAlt (gOwn 0 m_Key_le) (gLeI)) (eVar 0) (eVar 1))) (sNext)) (sRet (eOr (eBin (gIsN) (eVar 0) (eC .non)) (eAnd (eAt (gIsi (isiTX "str" 3)) (eVar 0)) (eBin (gIn false) (eVar 0) (eC (.tup [.str w_reads, .str w_shown]))))))
def m_rule_fits : List D → Res D := fun ds => if ds.length = 2 then outR (b_rule_fits (startE ["rule", "usable"] ds)) else .bad
theorem sc_pair_fits : FnScope ["pair", "base", "usable"] ["pair", "base", "usable"] (defScope s_pair_fits) := ⟨rfl, rfl, rfl, by decide +kernel, rfl, by decide +kernel, by decide +kernel⟩
def b_pair_fits : En → Out := sSeq (sIf (bOr (bNot (eB (eAt (gIsi (isiTX "tuple" 3)) (eVar 0)))) (eB (eBin (gEq true) (eCall (fAlt (fLenOwn 0 m_Key_len) (fAlt (fLenOwn 1 m_Recipe_len) (fAlt (fLenOwn 2 m_Plan_len) (fLen)))) (aCons (eVar 0) (aNil))) (eC (.int 2))))) (sRet (eC (.bl false))) (sNext)) (sRet (eAnd (eCall m_recipe_fits (aCons (eBin gIx (eVar 0) (eC (.int 0))) (aCons (eVar 1) (aCons (eVar 2) (aNil))))) (eCall m_rule_fits (aCons (eBin gIx (eVar 0) (eC (.int 1))) (aCons (eVar 2) (aNil))))))
def m_pair_fits : List D → Res D := fun ds => if ds.length = 3 then outR (b_pair_fits (startE ["pair", "base", "usable"] ds)) else .bad
theorem sc_usable_names : FnScope ["fields", "cells", "place"] ["fields", "cells", "place"] (defScope s_usable_names) := ⟨rfl, rfl, rfl, by decide +kernel, rfl, by decide +kernel, by decide +kernel⟩
def b_usable_names : En → Out := sRet (eBin (gAddW) (eBin (gAddW) (eSl (eC (.tup [.str w_f0, .str w_f1, .str w_f2])) (oNo) (oSome (eVar 0))) (eSl (eC (.tup [.str w_c0, .str w_c1])) (oNo) (oSome (eVar 1)))) (eSl (eC (.tup [.str w_p0, .str w_p1])) (oNo) (oSome (eVar 2))))
def m_usable_names : List D → Res D := fun ds => if ds.length = 3 then outR (b_usable_names (startE ["fields", "cells", "place"] ds)) else .bad
theorem sc_wrong_part : FnScope ["base", "fields", "cells", "places", "drops", "place", "pair"] ["base", "fields", "cells", "places", "drops"] (defScope s_wrong_part) := ⟨rfl, rfl, rfl, by decide +kernel, rfl, by decide +kernel, by decide +kernel⟩
def b_wrong_part : En → Out := sSeq (sIf (bNot (eB (eCall m_is_whole (aCons (eVar 0) (aCons (eC (.int 2)) (aCons (eC (.int 3)) (aNil))))))) (sRet (eC (.str w_BASE))) (sNext)) (sSeq (sIf (bNot (eB (eCall m_is_whole (aCons (eVar 1) (aCons (eC (.int 1)) (aCons (eC (.int 3)) (aNil))))))) (sRet (eC (.str w_FIELDS))) (sNext)) (sSeq (sIf (bOr (bNot (eB (eCall m_is_whole (aCons (eVar 2) (aCons (eC (.int 0)) (aCons (eC (.int 2)) (aNil))))))) (eB (eBin (gGtI) (eCall (fAlt (fLenOwn 0 m_Key_len) (fAlt (fLenOwn 1 m_Recipe_len) (fAlt (fLenOwn 2 m_Plan_len) (fLen)))) (aCons (eCall m_number_rows (aCons (eVar 0) (aCons (eBin (gAddW) (eVar 1) (eVar 2)) (aNil)))) (aNil))) (eC (.int 81))))) (sRet (eC (.str w_CELLS))) (sNext)) (sSeq (sIf (bOr (bNot (eB (eAt (gIsi isiT_tuple) (eVar 3)))) (bNot (eB (eChain cLe cLe (eC (.int 1)) (eCall fLen (aCons (eVar 3) (aNil))) (eC (.int 3)))))) (sRet (eC (.str w_PLACES))) (sNext)) (sSeq (sFor (eEnT (aCons (eVar 3) (aNil))) (gT 2 (gsCons (gV 5) (gsCons (gV 6) (gsNil)))) (sIf (bNot (eB (eCall m_pair_fits (aCons (eVar 6) (aCons (eVar 0) (aCons (eCall (fun ds => insR 0 (i_Key ds)) (aCons (eCall m_usable_names (aCons (eVar 1) (aCons (eVar 2) (aCons (eVar 5) (aNil))))) (aNil))) (aNil))))))) (sRet (eC (.str w_PLACES))) (sNext))) (sSeq (sIf (bAnd (eB (eBin (gNotN) (eVar 4) (eC .non))) (bNot (eB (eCall m_drops_fit (aCons (eVar 4) (aCons (eVar 2) (aCons (eCall fLen (aCons (eVar 3) (aNil))) (aNil)))))))) (sRet (eC (.str w_DROPS))) (sNext)) (sRet (eC .non)))))))
def m_wrong_part : List D → Res D := fun ds => if ds.length = 5 then outR (b_wrong_part (startE ["base", "fields", "cells", "places", "drops", "place", "pair"] ds)) else .bad
theorem sc_Plan_init : FnScope ["self", "base", "fields", "cells", "places", "drops", "part"] ["self", "base", "fields", "cells", "places", "drops"] (defScope s_Plan_init) := ⟨rfl, rfl, rfl, by decide +kernel, rfl, by decide +kernel, by decide +kernel⟩
def b_Plan_init : En → Out := sSeq (sAsg (eCall m_wrong_part (aCons (eVar 1) (aCons (eVar 2) (aCons (eVar 3) (aCons (eVar 4) (aCons (eVar 5) (aNil))))))) (gV 6)) (sSeq (sIf (eB (eBin (gNotN) (eVar 6) (eC .non))) (sRaiseX 3 (eVar 6)) (sNext)) (sSeq (sIf (eB (eBin (gIsN) (eVar 5) (eC .non))) (sAsg (eBin (gRepT) (eTup (aCons (eTup (aNil)) (aNil))) (eVar 3)) (gV 5)) (sNext)) (sSetFk 2 0 w_held (eTup (aCons (eVar 1) (aCons (eVar 2) (aCons (eVar 3) (aCons (eVar 4) (aCons (eVar 5) (aNil))))))))))
def i0_Plan (dd : List D) : List D → Res (List Str × List D) := fun ds => if ds.length + dd.length = 5 then outI 2 (b_Plan_init (startI ["self", "base", "fields", "cells", "places", "drops", "part"] 2 (ds ++ dd))) else .bad
def i1_Plan : List D → Res (List Str × List D) := fun ds => if ds.length = 5 then outI 2 (b_Plan_init (startI ["self", "base", "fields", "cells", "places", "drops", "part"] 2 ds)) else .bad
def i_Plan : List D → Res (List Str × List D) := fun ds => i1_Plan (ds ++ [.non])
theorem sc__law_made : FnScope ["base", "fields", "cells", "given", "gone", "is_short", "error"] ["base", "fields", "cells", "given", "gone", "is_short"] (defScope s__law_made) := ⟨rfl, rfl, rfl, by decide +kernel, rfl, by decide +kernel, by decide +kernel⟩
def b__law_made : En → Out := sTryAs ex_BadPlan 3 6 (sSeq (sIf (eTru (eVar 5)) (sRet (eCall (fun ds => insR 2 (i_Plan ds)) (aCons (eVar 0) (aCons (eVar 1) (aCons (eVar 2) (aCons (eVar 3) (aNil))))))) (sNext)) (sRet (eMakeK 2 4 i1_Plan (aCons (eVar 0) (aCons (eVar 1) (aCons (eVar 2) (aCons (eVar 3) (aNil))))) (eVar 4))))
def m__law_made : List D → Res D := fun ds => if ds.length = 6 then outR (b__law_made (startE ["base", "fields", "cells", "given", "gone", "is_short", "error"] ds)) else .bad
theorem sc__law_drops_right : FnScope ["two", "given", "one", "other", "form", "rule"] [] (defScope s__law_drops_right) := ⟨rfl, rfl, rfl, by decide +kernel, rfl, by decide +kernel, by decide +kernel⟩
def b__law_drops_right : En → Out := sSeq (sAsg (eTup (aCons (eTup (aCons (eTup (aCons (eC (.str w_number)) (aCons (eC (.int 1)) (aNil)))) (aCons (eC .non) (aNil)))) (aCons (eTup (aCons (eTup (aCons (eC (.str w_number)) (aCons (eC (.int 1)) (aNil)))) (aCons (eC .non) (aNil)))) (aNil)))) (gV 0)) (sSeq (sAsg (eCall fTup (aCons (eLc [4, 5] (eIt (eVar 0)) (gT 2 (gsCons (gV 4) (gsCons (gV 5) (gsNil)))) (bYes) (eTup (aCons (eCall (fun ds => insR 1 (i_Recipe ds)) (aCons (eVar 4) (aNil))) (aCons (eVar 5) (aNil))))) (aNil))) (gV 1)) (sSeq (sIf (bOr (eB (eBin (gAlt (gNe 0 m_Key_eq) (gAlt (gNe 1 m_Recipe_eq) (gAlt (gNe 2 m_Plan_eq) (gEq true)))) (eCall m__law_made (aCons (eC (.int 2)) (aCons (eC (.int 1)) (aCons (eC (.int 1)) (aCons (eVar 1) (aCons (eTup (aCons (eTup (aCons (eC (.int 1)) (aCons (eC (.int 0)) (aNil)))) (aNil))) (aCons (eC (.bl false)) (aNil)))))))) (eC (.str w_DROPS)))) (eB (eBin (gAlt (gNe 0 m_Key_eq) (gAlt (gNe 1 m_Recipe_eq) (gAlt (gNe 2 m_Plan_eq) (gEq true)))) (eCall m__law_made (aCons (eC (.int 2)) (aCons (eC (.int 1)) (aCons (eC (.int 1)) (aCons (eVar 1) (aCons (eTup (aCons (eTup (aCons (eC (.int 0)) (aCons (eC (.int 0)) (aNil)))) (aNil))) (aCons (eC (.bl false)) (aNil)))))))) (eC (.str w_DROPS))))) (sRet (eC (.bl false))) (sNext)) (sSeq (sPar2 2 3 (aCons (eMakeK 2 4 i1_Plan (aCons (eC (.int 2)) (aCons (eC (.int 1)) (aCons (eC (.int 1)) (aCons (eVar 1) (aNil))))) (eTup (aCons (eTup (aCons (eC (.int 0)) (aNil))) (aNil)))) (aCons (eCall (fun ds => insR 2 (i_Plan ds)) (aCons (eC (.int 2)) (aCons (eC (.int 1)) (aCons (eC (.int 1)) (aCons (eVar 1) (aNil)))))) (aNil)))) (sSeq (sIf (bOr (eB (eBin (gAlt (gOwnX 0 (fun j => [1, 2].contains j) m_Key_eq) (gAlt (gOwnX 1 (fun j => [0, 2].contains j) m_Recipe_eq) (gAlt (gOwnX 2 (fun j => [0, 1].contains j) m_Plan_eq) (gEq false)))) (eBin gIx (eBin gIx (eVar 1) (eC (.int 0))) (eC (.int 0))) (eVar 2))) (bOr (eB (eBin (gAlt (gOwnX 0 (fun j => [1, 2].contains j) m_Key_eq) (gAlt (gOwnX 1 (fun j => [0, 2].contains j) m_Recipe_eq) (gAlt (gOwnX 2 (fun j => [0, 1].contains j) m_Plan_eq) (gEq false)))) (eVar 2) (eBin gIx (eBin gIx (eVar 1) (eC (.int 0))) (eC (.int 0))))) (bOr (eB (eBin (gAlt (gOwnX 0 (fun j => [1, 2].contains j) m_Key_eq) (gAlt (gOwnX 1 (fun j => [0, 2].contains j) m_Recipe_eq) (gAlt (gOwnX 2 (fun j => [0, 1].contains j) m_Plan_eq) (gEq false)))) (eCall (fun ds => insR 0 (i_Key ds)) (aCons (eLst (aCons (eC (.str w_f0)) (aNil))) (aNil))) (eVar 2))) (eB (eBin (gAlt (gOwnX 0 (fun j => [1, 2].contains j) m_Key_eq) (gAlt (gOwnX 1 (fun j => [0, 2].contains j) m_Recipe_eq) (gAlt (gOwnX 2 (fun j => [0, 1].contains j) m_Plan_eq) (gEq false)))) (eBin gIx (eBin gIx (eVar 1) (eC (.int 0))) (eC (.int 0))) (eCall (fun ds => insR 0 (i_Key ds)) (aCons (eLst (aCons (eC (.str w_f0)) (aNil))) (aNil)))))))) (sRet (eC (.bl false))) (sNext)) (sRet (eAnd (eBin (gAlt (gNe 0 m_Key_eq) (gAlt (gNe 1 m_Recipe_eq) (gAlt (gNe 2 m_Plan_eq) (gEq true)))) (eVar 2) (eVar 3)) (eAnd (eBin (gAlt (gOwnX 0 (fun j => [1, 2].contains j) m_Key_eq) (gAlt (gOwnX 1 (fun j => [0, 2].contains j) m_Recipe_eq) (gAlt (gOwnX 2 (fun j => [0, 1].contains j) m_Plan_eq) (gEq false)))) (eVar 3) (eMakeK 2 4 i1_Plan (aCons (eC (.int 2)) (aCons (eC (.int 1)) (aCons (eC (.int 1)) (aCons (eVar 1) (aNil))))) (eTup (aCons (eTup (aNil)) (aNil))))) (eBin (gAlt (gOwnX 0 (fun j => [1, 2].contains j) m_Key_eq) (gAlt (gOwnX 1 (fun j => [0, 2].contains j) m_Recipe_eq) (gAlt (gOwnX 2 (fun j => [0, 1].contains j) m_Plan_eq) (gEq false)))) (eVar 2) (eMakeK 2 4 i1_Plan (aCons (eC (.int 2)) (aCons (eC (.int 1)) (aCons (eC (.int 1)) (aCons (eVar 1) (aNil))))) (eTup (aCons (eTup (aCons (eC (.int 0)) (aNil))) (aNil))))))))))))
def m__law_drops_right : List D → Res D := fun ds => if ds.length = 0 then outR (b__law_drops_right (startE ["two", "given", "one", "other", "form", "rule"] ds)) else .bad
theorem sc_Plan_check_place : FnScope ["self", "place"] ["self", "place"] (defScope s_Plan_check_place) := ⟨rfl, rfl, rfl, by decide +kernel, rfl, by decide +kernel, by decide +kernel⟩
def b_Plan_check_place : En → Out := sIf (bNot (eB (eCall m_is_whole (aCons (eVar 1) (aCons (eC (.int 0)) (aCons (eBin (gSubI) (eCall fLen (aCons (eAt (gProp 2 m_Plan_places) (eVar 0)) (aNil))) (eC (.int 1))) (aNil))))))) (sRaise 4) (sNext)
def m_Plan_check_place : List D → Res D := fun ds => if ds.length = 2 then outR (b_Plan_check_place (startE ["self", "place"] ds)) else .bad
theorem sc_Plan_getitem : FnScope ["self", "at"] ["self", "at"] (defScope s_Plan_getitem) := ⟨rfl, rfl, rfl, by decide +kernel, rfl, by decide +kernel, by decide +kernel⟩
def b_Plan_getitem : En → Out := sSeq (sExpr (eMeth 2 w_check_95_place m_Plan_check_place (eVar 0) (aCons (eVar 1) (aNil)))) (sRet (eBin gIx (eAt (gProp 2 m_Plan_places) (eVar 0)) (eVar 1)))
def m_Plan_getitem : List D → Res D := fun ds => if ds.length = 2 then outR (b_Plan_getitem (startE ["self", "at"] ds)) else .bad
theorem sc__law_is_number : FnScope ["thing", "low", "high"] ["thing", "low", "high"] (defScope s__law_is_number) := ⟨rfl, rfl, rfl, by decide +kernel, rfl, by decide +kernel, by decide +kernel⟩
def b__law_is_number : En → Out := sRet (eAnd (eAt (gIsi isiT_int) (eVar 0)) (eAnd (eNot (eAt (gIsi isiT_bool) (eVar 0))) (eChain cLe cLe (eVar 1) (eVar 0) (eVar 2))))
def m__law_is_number : List D → Res D := fun ds => if ds.length = 3 then outR (b__law_is_number (startE ["thing", "low", "high"] ds)) else .bad
theorem sc__law_number : FnScope ["script", "index", "cells", "cell", "total", "blend", "low", "high"] ["script", "index"] (defScope s__law_number) := ⟨rfl, rfl, rfl, by decide +kernel, rfl, by decide +kernel, by decide +kernel⟩
def b__law_number : En → Out := sSeq (sAsg (eIf (eB (eBin (gEq true) (eVar 0) (eLst (aNil)))) (eSl (eVar 0) (oNo) (oSome (eC (.int 63)))) (eLst (aCons (eC (.int 5)) (aNil)))) (gV 2)) (sSeq (sAsg (eBin (gAddW) (eBin gIx (eVar 2) (eBin (gModI) (eCall fInt (aCons (eVar 1) (aNil))) (eCall fLen (aCons (eVar 2) (aNil))))) (eBin (gMulI) (eC (.int 13)) (eBin (gDivI) (eVar 1) (eCall fLen (aCons (eVar 2) (aNil)))))) (gV 3)) (sSeq (sPar2 6 7 (aCons (eBin (gModI) (eCall fInt (aCons (eVar 3) (aNil))) (eC (.int 1000003))) (aCons (eBin (gModI) (eCall fInt (aCons (eBin (gDivI) (eVar 3) (eC (.int 1000003))) (aNil))) (eC (.int 999983))) (aNil)))) (sSeq (sAsg (eBin (gModI) (eCall fInt (aCons (eCall fSum (aCons (eVar 2) (aNil))) (aNil))) (eC (.int 65521))) (gV 4)) (sSeq (sAsg (eBin (gModI) (eCall fInt (aCons (eBin (gAddW) (eBin (gAddW) (eBin (gMulI) (eBin (gAddW) (eVar 6) (eBin (gMulI) (eC (.int 977)) (eVar 1))) (eC (.int 48271))) (eBin (gMulI) (eC (.int 31)) (eVar 7))) (eVar 4)) (aNil))) (eC (.int 2147483647))) (gV 5)) (sRet (eBin (gAddW) (eBin (gMulI) (eBin (gModI) (eCall fInt (aCons (eBin (gMulI) (eVar 5) (eBin (gAddW) (eBin (gAddW) (eVar 5) (eBin (gMulI) (eC (.int 31)) (eVar 1))) (eC (.int 7)))) (aNil))) (eC (.int 2147483629))) (eC (.int 65537))) (eVar 7)))))))
def m__law_number : List D → Res D := fun ds => if ds.length = 2 then outR (b__law_number (startE ["script", "index", "cells", "cell", "total", "blend", "low", "high"] ds)) else .bad
theorem sc__law_pick : FnScope ["script", "at", "good", "bad", "seed"] ["script", "at", "good", "bad"] (defScope s__law_pick) := ⟨rfl, rfl, rfl, by decide +kernel, rfl, by decide +kernel, by decide +kernel⟩
def b__law_pick : En → Out := sSeq (sAsg (eCall fInt (aCons (eCall m__law_number (aCons (eVar 0) (aCons (eVar 1) (aNil)))) (aNil))) (gV 4)) (sRet (eIf (eB (eBin (gEq false) (eBin (gModI) (eCall fInt (aCons (eVar 4) (aNil))) (eC (.int 16))) (eC (.int 0)))) (eBin gIx (eVar 3) (eBin (gModI) (eCall fInt (aCons (eBin (gDivI) (eVar 4) (eC (.int 16))) (aNil))) (eCall fLen (aCons (eVar 3) (aNil))))) (eBin gIx (eVar 2) (eBin (gModI) (eCall fInt (aCons (eBin (gDivI) (eVar 4) (eC (.int 16))) (aNil))) (eCall fLen (aCons (eVar 2) (aNil)))))))
def m__law_pick : List D → Res D := fun ds => if ds.length = 4 then outR (b__law_pick (startE ["script", "at", "good", "bad", "seed"] ds)) else .bad
theorem sc__law_drops : FnScope ["script", "at", "cells", "many", "cell", "size", "rows", "seed", "row", "odd", "place"] ["script", "at", "cells", "many"] (defScope s__law_drops) := ⟨rfl, rfl, rfl, by decide +kernel, rfl, by decide +kernel, by decide +kernel⟩
def b__law_drops : En → Out := sSeq (sIf (eB (eBin (gEq false) (eBin (gModI) (eCall fInt (aCons (eCall m__law_number (aCons (eVar 0) (aCons (eVar 1) (aNil)))) (aNil))) (eC (.int 4))) (eC (.int 0)))) (sRet (eC .non)) (sNext)) (sSeq (sParL 5 6 (eIf (eB (eCall m__law_is_number (aCons (eVar 2) (aCons (eC (.int 0)) (aCons (eC (.int 2)) (aNil)))))) (eVar 2) (eC (.int 1)))) (sSeq (sFor (eR1 (aCons (eVar 5) (aNil))) (gV 4) (sSeq (sAsg (eCall fInt (aCons (eCall m__law_number (aCons (eVar 0) (aCons (eBin (gAddW) (eBin (gAddW) (eVar 1) (eC (.int 1))) (eVar 4)) (aNil)))) (aNil))) (gV 7)) (sSeq (sAsg (eCall fTup (aCons (eLc [10] (eR1 (aCons (eVar 3) (aNil))) (gV 10) (eB (eBin (gEq false) (eBin (gModI) (eCall fInt (aCons (eBin (gDivI) (eVar 7) (eBin (gAddW) (eC (.int 5)) (eVar 10))) (aNil))) (eC (.int 2))) (eC (.int 0)))) (eVar 10)) (aNil))) (gV 8)) (sSeq (sAsg (eTup (aCons (eTup (aCons (eVar 3) (aNil))) (aCons (eTup (aCons (eNeg (eC (.int 1))) (aNil))) (aCons (eBin (gAddW) (eVar 8) (eSl (eVar 8) (oNo) (oSome (eC (.int 1))))) (aCons (eAlt (eRevT (eVar 8)) (eRev (eVar 8))) (aCons (eTup (aCons (eC (.bl true)) (aNil))) (aCons (eCall fLst (aCons (eVar 8) (aNil))) (aCons (eC .non) (aCons (eC (.int 0)) (aCons (eTup (aCons (eC (.str w_0)) (aNil))) (aNil))))))))))) (gV 9)) (sApp 6 (eIf (eB (eBin (gEq false) (eBin (gModI) (eCall fInt (aCons (eVar 7) (aNil))) (eC (.int 12))) (eC (.int 0)))) (eBin gIx (eVar 9) (eBin (gModI) (eCall fInt (aCons (eBin (gDivI) (eVar 7) (eC (.int 99))) (aNil))) (eC (.int 9)))) (eVar 8))))))) (sShare 6 (sRet (eCall m__law_pick (aCons (eVar 0) (aCons (eBin (gAddW) (eVar 1) (eC (.int 4))) (aCons (eTup (aCons (eCall fTup (aCons (eVar 6) (aNil))) (aNil))) (aCons (eTup (aCons (eBin (gAddW) (eCall fTup (aCons (eVar 6) (aNil))) (eTup (aCons (eTup (aNil)) (aNil)))) (aCons (eVar 6) (aCons (eTup (aNil)) (aCons (eC (.int 5)) (aCons (eC (.str w_0)) (aNil))))))) (aNil))))))))))
def m__law_drops : List D → Res D := fun ds => if ds.length = 4 then outR (b__law_drops (startE ["script", "at", "cells", "many", "cell", "size", "rows", "seed", "row", "odd", "place"] ds)) else .bad
theorem sc__law_leaf : FnScope ["script", "at"] ["script", "at"] (defScope s__law_leaf) := ⟨rfl, rfl, rfl, by decide +kernel, rfl, by decide +kernel, by decide +kernel⟩
def b__law_leaf : En → Out := sRet (eCall m__law_pick (aCons (eVar 0) (aCons (eVar 1) (aCons (eTup (aCons (eTup (aCons (eC (.str w_field)) (aCons (eC (.int 0)) (aNil)))) (aCons (eTup (aCons (eC (.str w_number)) (aCons (eC (.int 1)) (aNil)))) (aCons (eTup (aCons (eC (.str w_field)) (aCons (eC (.int 0)) (aNil)))) (aCons (eTup (aCons (eC (.str w_cell)) (aCons (eC (.int 0)) (aNil)))) (aCons (eTup (aCons (eC (.str w_place)) (aCons (eC (.int 0)) (aNil)))) (aNil))))))) (aCons (eTup (aCons (eTup (aCons (eC (.str w_field)) (aCons (eC (.int 2)) (aNil)))) (aCons (eTup (aCons (eC (.str w_cell)) (aCons (eC (.int 1)) (aNil)))) (aCons (eTup (aCons (eC (.str w_place)) (aCons (eC (.int 1)) (aNil)))) (aCons (eTup (aCons (eC (.str w_number)) (aCons (eC (.int 2)) (aNil)))) (aCons (eTup (aCons (eC (.str w_field)) (aCons (eC (.int 1)) (aNil)))) (aNil))))))) (aNil))))))
def m__law_leaf : List D → Res D := fun ds => if ds.length = 2 then outR (b__law_leaf (startE ["script", "at"] ds)) else .bad
theorem sc_leaf_form : FnScope ["word", "k"] ["word", "k"] (defScope s_leaf_form) := ⟨rfl, rfl, rfl, by decide +kernel, rfl, by decide +kernel, by decide +kernel⟩
def b_leaf_form : En → Out := sSeq (sIf (bNot (eB (eCall m_is_whole (aCons (eVar 1) (aCons (eC (.int 0)) (aCons (eAt (gTopAt tab_HIGHEST) (eVar 0)) (aNil))))))) (sRaise 2) (sNext)) (sRet (eTup (aCons (eVar 0) (aCons (eVar 1) (aNil)))))
def m_leaf_form : List D → Res D := fun ds => if ds.length = 2 then outR (b_leaf_form (startE ["word", "k"] ds)) else .bad
theorem sc_Recipe_field : FnScope ["cls", "k"] ["cls", "k"] (defScope s_Recipe_field) := ⟨rfl, rfl, rfl, by decide +kernel, rfl, by decide +kernel, by decide +kernel⟩
def b_Recipe_field : En → Out := sRet (eCallL 0 1 (fun ds => insR 1 (i_Recipe ds)) (aCons (eCall m_leaf_form (aCons (eC (.str w_field)) (aCons (eVar 1) (aNil)))) (aNil)))
def m_Recipe_field : List D → Res D := fun ds => if ds.length = 2 then outR (b_Recipe_field (startE ["cls", "k"] ds)) else .bad
theorem sc__law_rule : FnScope ["script", "at", "names", "some", "turn"] ["script", "at"] (defScope s__law_rule) := ⟨rfl, rfl, rfl, by decide +kernel, rfl, by decide +kernel, by decide +kernel⟩
def b__law_rule : En → Out := sSeq (sAsg (eLc [4] (eR1 (aCons (eBin (gModI) (eCall fInt (aCons (eCall m__law_number (aCons (eVar 0) (aCons (eBin (gAddW) (eVar 1) (eC (.int 5))) (aNil)))) (aNil))) (eC (.int 3))) (aNil))) (gV 4) (bYes) (eCall m__law_pick (aCons (eVar 0) (aCons (eBin (gAddW) (eBin (gAddW) (eVar 1) (eC (.int 1))) (eVar 4)) (aCons (eTup (aCons (eC (.str w_f0)) (aCons (eC (.str w_c0)) (aCons (eC (.str w_f0)) (aCons (eC (.str w_p0)) (aNil)))))) (aCons (eTup (aCons (eC (.str w_f1)) (aCons (eC (.str w_f2)) (aCons (eC (.str w_c1)) (aCons (eC (.str w_p1)) (aNil)))))) (aNil))))))) (gV 2)) (sSeq (sAsg (eTup (aCons (eC .non) (aCons (eC (.str w_reads)) (aCons (eC (.str w_shown)) (aCons (eCall (fun ds => insR 0 (i_Key ds)) (aCons (eVar 2) (aNil))) (aCons (eCall (fun ds => insR 0 (i_Key ds)) (aCons (eVar 2) (aNil))) (aCons (eCall0 (fun ds => insR 0 (i_Key ds))) (aNil)))))))) (gV 3)) (sRet (eCall m__law_pick (aCons (eVar 0) (aCons (eVar 1) (aCons (eVar 3) (aCons (eTup (aCons (eC (.str w_keep)) (aCons (eC (.int 5)) (aCons (eCall fTup (aCons (eVar 2) (aNil))) (aCons (eC (.str w_)) (aCons (eC (.bl true)) (aCons (eCm 1 m_Recipe_field (aCons (eC (.int 0)) (aNil))) (aNil)))))))) (aNil))))))))
def m__law_rule : List D → Res D := fun ds => if ds.length = 2 then outR (b__law_rule (startE ["script", "at", "names", "some", "turn"] ds)) else .bad
theorem sc__law_places : FnScope ["script", "at", "rows", "turn", "form", "spot", "word"] ["script", "at"] (defScope s__law_places) := ⟨rfl, rfl, rfl, by decide +kernel, rfl, by decide +kernel, by decide +kernel⟩
def b__law_places : En → Out := sSeq (sNewL 2 (aNil)) (sSeq (sFor (eR1 (aCons (eCall fInt (aCons (eCall m__law_pick (aCons (eVar 0) (aCons (eVar 1) (aCons (eTup (aCons (eC (.int 1)) (aCons (eC (.int 2)) (aCons (eC (.int 2)) (aCons (eC (.int 3)) (aNil)))))) (aCons (eTup (aCons (eC (.int 0)) (aCons (eC (.int 4)) (aNil)))) (aNil)))))) (aNil))) (aNil))) (gV 3) (sSeq (sPar2 5 6 (aCons (eBin (gAddW) (eBin (gAddW) (eVar 1) (eC (.int 1))) (eBin (gMulI) (eC (.int 20)) (eVar 3))) (aCons (eBin (gModI) (eCall fInt (aCons (eCall m__law_number (aCons (eVar 0) (aCons (eBin (gAddW) (eBin (gAddW) (eVar 1) (eC (.int 15))) (eBin (gMulI) (eC (.int 20)) (eVar 3))) (aNil)))) (aNil))) (eC (.int 3))) (aNil)))) (sSeq (sAsg (eCall m__law_leaf (aCons (eVar 0) (aCons (eVar 5) (aNil)))) (gV 4)) (sSeq (sIf (eB (eBin (gEq false) (eVar 6) (eC (.int 1)))) (sAsg (eTup (aCons (eC (.str w_less)) (aCons (eVar 4) (aCons (eCall m__law_leaf (aCons (eVar 0) (aCons (eBin (gAddW) (eVar 5) (eC (.int 1))) (aNil)))) (aNil))))) (gV 4)) (sIf (eB (eBin (gEq false) (eVar 6) (eC (.int 2)))) (sAsg (eTup (aCons (eC (.str w_when)) (aCons (eCall m__law_leaf (aCons (eVar 0) (aCons (eBin (gAddW) (eVar 5) (eC (.int 1))) (aNil)))) (aCons (eCall m__law_leaf (aCons (eVar 0) (aCons (eBin (gAddW) (eVar 5) (eC (.int 2))) (aNil)))) (aCons (eVar 4) (aNil)))))) (gV 4)) (sNext))) (sApp 2 (eTup (aCons (eVar 4) (aCons (eCall m__law_rule (aCons (eVar 0) (aCons (eBin (gAddW) (eVar 5) (eC (.int 4))) (aNil)))) (aNil))))))))) (sRet (eCall fTup (aCons (eOwn 2) (aNil)))))
def m__law_places : List D → Res D := fun ds => if ds.length = 2 then outR (b__law_places (startE ["script", "at", "rows", "turn", "form", "spot", "word"] ds)) else .bad
theorem sc__law_rows_of : FnScope ["plan", "rows", "recipe", "rule"] ["plan"] (defScope s__law_rows_of) := ⟨rfl, rfl, rfl, by decide +kernel, rfl, by decide +kernel, by decide +kernel⟩
def b__law_rows_of : En → Out := sSeq (sNewL 1 (aNil)) (sSeq (sFor (eIt (eAt (gProp 2 m_Plan_places) (eVar 0))) (gT 2 (gsCons (gV 2) (gsCons (gV 3) (gsNil)))) (sApp 1 (eTup (aCons (eAt (gFld 1 w_form) (eVar 2)) (aCons (eIf (eB (eAt (gIsi (isiCX 0 3)) (eVar 3))) (eAlt (eAt (gProp 0 m_Key_names) (eVar 3)) (eAt (gProp 1 m_Recipe_names) (eVar 3))) (eVar 3)) (aNil)))))) (sRet (eOwn 1)))
def m__law_rows_of : List D → Res D := fun ds => if ds.length = 1 then outR (b__law_rows_of (startE ["plan", "rows", "recipe", "rule"] ds)) else .bad
theorem sc__law_are_drops : FnScope ["cells", "many", "gone", "some", "place"] ["cells", "many", "gone"] (defScope s__law_are_drops) := ⟨rfl, rfl, rfl, by decide +kernel, rfl, by decide +kernel, by decide +kernel⟩
def b__law_are_drops : En → Out := sSeq (sIf (eB (eBin (gIsN) (eVar 2) (eC .non))) (sRet (eC (.bl true))) (sNext)) (sSeq (sIf (bOr (bNot (eB (eAt (gIsi isiT_tuple) (eVar 2)))) (eB (eBin (gEq true) (eCall fLen (aCons (eVar 2) (aNil))) (eVar 0)))) (sRet (eC (.bl false))) (sNext)) (sSeq (sFor (eIt (eVar 2)) (gV 3) (sSeq (sIf (bOr (bNot (eB (eAt (gIsi isiT_tuple) (eVar 3)))) (bNot (eB (eCall fAll (aCons (eLc [4] (eIt (eVar 3)) (gV 4) (bYes) (eCall m__law_is_number (aCons (eVar 4) (aCons (eC (.int 0)) (aCons (eBin (gSubI) (eVar 1) (eC (.int 1))) (aNil)))))) (aNil)))))) (sRet (eC (.bl false))) (sNext)) (sIf (eB (eBin (gEq true) (eCall fLst (aCons (eVar 3) (aNil))) (eAt sset (eLc [4] (eIt (eVar 3)) (gV 4) (bYes) (eCall fInt (aCons (eVar 4) (aNil))))))) (sRet (eC (.bl false))) (sNext)))) (sRet (eC (.bl true)))))
def m__law_are_drops : List D → Res D := fun ds => if ds.length = 3 then outR (b__law_are_drops (startE ["cells", "many", "gone", "some", "place"] ds)) else .bad
theorem sc_Key_contains : FnScope ["self", "x"] ["self", "x"] (defScope s_Key_contains) := ⟨rfl, rfl, rfl, by decide +kernel, rfl, by decide +kernel, by decide +kernel⟩
def b_Key_contains : En → Out := sRet (eAnd (eAt (gIsi (isiTX "str" 3)) (eVar 1)) (eBin (gIn false) (eVar 1) (eAt (gFld 0 w_held) (eVar 0))))
def m_Key_contains : List D → Res D := fun ds => if ds.length = 2 then outR (b_Key_contains (startE ["self", "x"] ds)) else .bad
theorem sc_Recipe_contains : FnScope ["self", "x"] ["self", "x"] (defScope s_Recipe_contains) := ⟨rfl, rfl, rfl, by decide +kernel, rfl, by decide +kernel, by decide +kernel⟩
def b_Recipe_contains : En → Out := sRet (eAnd (eAt (gIsi (isiTX "str" 3)) (eVar 1)) (eBin (gIn false) (eVar 1) (eAt (gProp 1 m_Recipe_names) (eVar 0))))
def m_Recipe_contains : List D → Res D := fun ds => if ds.length = 2 then outR (b_Recipe_contains (startE ["self", "x"] ds)) else .bad
theorem sc__law_leaves : FnScope ["form", "found", "part"] ["form"] (defScope s__law_leaves) := ⟨rfl, rfl, rfl, by decide +kernel, rfl, by decide +kernel, by decide +kernel⟩
def b__law_leaves (mr : List D → Res D) : En → Out := sSeq (sIf (eB (eBin (gIn false) (eBin gIx (eVar 0) (eC (.int 0))) (eTup (aCons (eC (.str w_number)) (aCons (eC (.str w_field)) (aCons (eC (.str w_cell)) (aCons (eC (.str w_place)) (aNil)))))))) (sRet (eLst (aCons (eVar 0) (aNil)))) (sNext)) (sSeq (sAsg (eLst (aNil)) (gV 1)) (sSeq (sFor (eIt (eSl (eVar 0) (oSome (eC (.int 1))) (oNo))) (gV 2) (sAsg (eBin (gAddW) (eVar 1) (eCall mr (aCons (eVar 2) (aNil)))) (gV 1))) (sRet (eVar 1))))
def m__law_leaves : Nat → List D → Res D
  | 0, _ => .bad
  | n + 1, ds => if ds.length = 1 then outR (b__law_leaves (m__law_leaves n) (startE ["form", "found", "part"] ds)) else .bad
theorem sc__law_is_place : FnScope ["sizes", "at", "row", "names", "word", "number", "base", "fields", "cells", "form", "rule", "name"] ["sizes", "at", "row"] (defScope s__law_is_place) := ⟨rfl, rfl, rfl, by decide +kernel, rfl, by decide +kernel, by decide +kernel⟩
def b__law_is_place : En → Out := sSeq (sAsg (eTup (aCons (eVar 0) (aCons (eVar 2) (aNil)))) (gT 2 (gsCons (gT 3 (gsCons (gV 6) (gsCons (gV 7) (gsCons (gV 8) (gsNil))))) (gsCons (gT 2 (gsCons (gV 9) (gsCons (gV 10) (gsNil)))) (gsNil))))) (sSeq (sAsg (eBin (gAddW) (eBin (gAddW) (eSl (eLst (aCons (eC (.str w_f0)) (aCons (eC (.str w_f1)) (aCons (eC (.str w_f2)) (aNil))))) (oNo) (oSome (eVar 7))) (eSl (eLst (aCons (eC (.str w_c0)) (aCons (eC (.str w_c1)) (aNil)))) (oNo) (oSome (eVar 8)))) (eSl (eLst (aCons (eC (.str w_p0)) (aCons (eC (.str w_p1)) (aNil)))) (oNo) (oSome (eVar 1)))) (gV 3)) (sSeq (sFor (eIt (eCall (m__law_leaves 40) (aCons (eVar 9) (aNil)))) (gT 2 (gsCons (gV 4) (gsCons (gV 5) (gsNil)))) (sIf (bOr (bAnd (eB (eBin (gAlt (gOwnX 0 (fun j => [1, 2].contains j) m_Key_eq) (gAlt (gOwnX 1 (fun j => [0, 2].contains j) m_Recipe_eq) (gAlt (gOwnX 2 (fun j => [0, 1].contains j) m_Plan_eq) (gEq false)))) (eVar 4) (eC (.str w_number)))) (eB (eBin (gGeI) (eVar 5) (eVar 6)))) (bAnd (eB (eBin (gAlt (gNe 0 m_Key_eq) (gAlt (gNe 1 m_Recipe_eq) (gAlt (gNe 2 m_Plan_eq) (gEq true)))) (eVar 4) (eC (.str w_number)))) (eB (eBin (gAlt (gInOwn 0 true m_Key_contains) (gAlt (gInOwn 1 true m_Recipe_contains) (gIn true))) (eBin (gAlt (gOwn 1 m_Recipe_add) (gAddW)) (eBin gIx (eVar 4) (eC (.int 0))) (eCall fStrI (aCons (eVar 5) (aNil)))) (eVar 3))))) (sRet (eC (.bl false))) (sNext))) (sSeq (sIf (eB (eAt (gIsi (isiCX 0 3)) (eVar 10))) (sRet (eCall fAll (aCons (eLc [11] (eIt (eAlt (eAt (gProp 0 m_Key_names) (eVar 10)) (eAt (gProp 1 m_Recipe_names) (eVar 10)))) (gV 11) (bYes) (eBin (gAlt (gInOwn 0 false m_Key_contains) (gAlt (gInOwn 1 false m_Recipe_contains) (gIn false))) (eVar 11) (eVar 3))) (aNil)))) (sNext)) (sRet (eOr (eBin (gIsN) (eVar 10) (eC .non)) (eAnd (eAt (gIsi (isiTX "str" 3)) (eVar 10)) (eBin (gIn false) (eVar 10) (eTup (aCons (eC (.str w_reads)) (aCons (eC (.str w_shown)) (aNil)))))))))))
def m__law_is_place : List D → Res D := fun ds => if ds.length = 3 then outR (b__law_is_place (startE ["sizes", "at", "row", "names", "word", "number", "base", "fields", "cells", "form", "rule", "name"] ds)) else .bad
theorem sc__law_wrong : FnScope ["base", "fields", "cells", "rows", "kind", "gone", "at", "row"] ["base", "fields", "cells", "rows", "kind", "gone"] (defScope s__law_wrong) := ⟨rfl, rfl, rfl, by decide +kernel, rfl, by decide +kernel, by decide +kernel⟩
def b__law_wrong : En → Out := sSeq (sIf (bNot (eB (eCall m__law_is_number (aCons (eVar 0) (aCons (eC (.int 2)) (aCons (eC (.int 3)) (aNil))))))) (sRet (eC (.str w_BASE))) (sNext)) (sSeq (sIf (bNot (eB (eCall m__law_is_number (aCons (eVar 1) (aCons (eC (.int 1)) (aCons (eC (.int 3)) (aNil))))))) (sRet (eC (.str w_FIELDS))) (sNext)) (sSeq (sIf (bOr (bNot (eB (eCall m__law_is_number (aCons (eVar 2) (aCons (eC (.int 0)) (aCons (eC (.int 2)) (aNil))))))) (bAnd (eB (eBin (gEq false) (eVar 0) (eC (.int 3)))) (eB (eBin (gGtI) (eBin (gAddW) (eVar 1) (eVar 2)) (eC (.int 4)))))) (sRet (eC (.str w_CELLS))) (sNext)) (sSeq (sIf (bOr (eB (eBin (gEq true) (eVar 4) (eC (.int 0)))) (bNot (eB (eChain cLe cLe (eC (.int 1)) (eCall fLen (aCons (eVar 3) (aNil))) (eC (.int 3)))))) (sRet (eC (.str w_PLACES))) (sNext)) (sSeq (sIf (bNot (eB (eCall fAll (aCons (eLc [6, 7] (eEnT (aCons (eVar 3) (aNil))) (gT 2 (gsCons (gV 6) (gsCons (gV 7) (gsNil)))) (bYes) (eCall m__law_is_place (aCons (eTup (aCons (eVar 0) (aCons (eVar 1) (aCons (eVar 2) (aNil))))) (aCons (eVar 6) (aCons (eVar 7) (aNil)))))) (aNil))))) (sRet (eC (.str w_PLACES))) (sNext)) (sRet (eIf (eB (eCall m__law_are_drops (aCons (eVar 2) (aCons (eCall fLen (aCons (eVar 3) (aNil))) (aCons (eVar 5) (aNil)))))) (eC .non) (eC (.str w_DROPS))))))))
def m__law_wrong : List D → Res D := fun ds => if ds.length = 6 then outR (b__law_wrong (startE ["base", "fields", "cells", "rows", "kind", "gone", "at", "row"] ds)) else .bad
theorem sc__law_plan_right : FnScope ["script", "by", "base", "fields", "cells", "given", "handed", "gone", "due", "found", "plain", "is_right", "rows", "kind", "form", "rule", "at"] ["script", "by"] (defScope s__law_plan_right) := ⟨rfl, rfl, rfl, by decide +kernel, rfl, by decide +kernel, by decide +kernel⟩
def b__law_plan_right : En → Out := sSeq (sAsg (eCall m__law_pick (aCons (eVar 0) (aCons (eVar 1) (aCons (eTup (aCons (eC (.int 2)) (aCons (eC (.int 3)) (aCons (eC (.int 2)) (aCons (eC (.int 3)) (aNil)))))) (aCons (eTup (aCons (eC (.int 1)) (aCons (eC (.int 4)) (aCons (eC (.bl true)) (aCons (eC .non) (aCons (eC (.str w_2)) (aCons (eTup (aCons (eC (.int 2)) (aNil))) (aCons (eC (.int 0)) (aNil))))))))) (aNil)))))) (gV 2)) (sSeq (sAsg (eCall m__law_pick (aCons (eVar 0) (aCons (eBin (gAlt (gOwn 1 m_Recipe_add) (gAddW)) (eVar 1) (eC (.int 1))) (aCons (eTup (aCons (eC (.int 1)) (aCons (eC (.int 2)) (aCons (eC (.int 1)) (aCons (eC (.int 3)) (aNil)))))) (aCons (eTup (aCons (eC (.int 0)) (aCons (eC (.int 4)) (aCons (eC (.bl true)) (aCons (eC .non) (aCons (eC (.str w_1)) (aCons (eNeg (eC (.int 1))) (aNil)))))))) (aNil)))))) (gV 3)) (sSeq (sAsg (eCall m__law_pick (aCons (eVar 0) (aCons (eBin (gAlt (gOwn 1 m_Recipe_add) (gAddW)) (eVar 1) (eC (.int 2))) (aCons (eTup (aCons (eC (.int 1)) (aCons (eC (.int 0)) (aCons (eC (.int 2)) (aCons (eC (.int 1)) (aNil)))))) (aCons (eTup (aCons (eNeg (eC (.int 1))) (aCons (eC (.int 3)) (aCons (eC (.bl true)) (aCons (eC .non) (aCons (eC (.str w_0)) (aCons (eBin (gPowI) (eC (.int 10)) (eC (.int 20))) (aNil)))))))) (aNil)))))) (gV 4)) (sSeq (sPar2 12 13 (aCons (eCall m__law_places (aCons (eVar 0) (aCons (eBin (gAlt (gOwn 1 m_Recipe_add) (gAddW)) (eVar 1) (eC (.int 10))) (aNil)))) (aCons (eCall m__law_pick (aCons (eVar 0) (aCons (eBin (gAlt (gOwn 1 m_Recipe_add) (gAddW)) (eVar 1) (eC (.int 3))) (aCons (eTup (aCons (eC (.int 0)) (aNil))) (aCons (eTup (aCons (eC (.int 1)) (aCons (eC (.int 2)) (aCons (eC (.int 3)) (aCons (eC (.int 4)) (aNil)))))) (aNil)))))) (aNil)))) (sSeq (sAsg (eCall fTup (aCons (eLc [14, 15] (eIt (eVar 12)) (gT 2 (gsCons (gV 14) (gsCons (gV 15) (gsNil)))) (bYes) (eTup (aCons (eCall (fun ds => insR 1 (i_Recipe ds)) (aCons (eVar 14) (aNil))) (aCons (eVar 15) (aNil))))) (aNil))) (gV 5)) (sSeq (sAsg (eBin gIx (eTup (aCons (eVar 5) (aCons (eCall fLst (aCons (eVar 5) (aNil))) (aCons (eBin (gAlt (gOwn 1 m_Recipe_add) (gAddW)) (eVar 5) (eTup (aCons (eC (.int 5)) (aNil)))) (aCons (eC .non) (aCons (eBin (gAlt (gOwn 1 m_Recipe_add) (gAddW)) (eSl (eVar 5) (oNo) (oSome (eC (.int 1)))) (eTup (aCons (eTup (aCons (eC .non) (aCons (eC .non) (aNil)))) (aNil)))) (aNil))))))) (eVar 13)) (gV 6)) (sSeq (sAsg (eCall m__law_drops (aCons (eVar 0) (aCons (eBin (gAlt (gOwn 1 m_Recipe_add) (gAddW)) (eVar 1) (eC (.int 90))) (aCons (eVar 4) (aCons (eCall (fAlt (fLenOwn 0 m_Key_len) (fAlt (fLenOwn 1 m_Recipe_len) (fAlt (fLenOwn 2 m_Plan_len) (fLen)))) (aCons (eVar 12) (aNil))) (aNil)))))) (gV 7)) (sSeq (sAsg (eCall m__law_wrong (aCons (eVar 2) (aCons (eVar 3) (aCons (eVar 4) (aCons (eVar 12) (aCons (eVar 13) (aCons (eVar 7) (aNil)))))))) (gV 8)) (sSeq (sAsg (eCall m__law_made (aCons (eVar 2) (aCons (eVar 3) (aCons (eVar 4) (aCons (eVar 6) (aCons (eVar 7) (aCons (eAnd (eBin (gIsN) (eVar 7) (eC .non)) (eBin (gEq false) (eBin (gModI) (eCall fInt (aCons (eCall m__law_number (aCons (eVar 0) (aCons (eBin (gAlt (gOwn 1 m_Recipe_add) (gAddW)) (eVar 1) (eC (.int 99))) (aNil)))) (aNil))) (eC (.int 2))) (eC (.int 0)))) (aNil)))))))) (gV 9)) (sSeq (sIf (eB (eBin (gNotN) (eVar 8) (eC .non))) (sRet (eTup (aCons (eBin (gAlt (gOwnX 0 (fun j => [1, 2].contains j) m_Key_eq) (gAlt (gOwnX 1 (fun j => [0, 2].contains j) m_Recipe_eq) (gAlt (gOwnX 2 (fun j => [0, 1].contains j) m_Plan_eq) (gEq false)))) (eVar 9) (eVar 8)) (aCons (eC .non) (aNil))))) (sNext)) (sSeq (sIf (bOr (bNot (eB (eAt (gIsi (isiCX 2 3)) (eVar 9)))) (eB (eBin (gEq true) (eCall (fAlt (fLenOwn 0 m_Key_len) (fAlt (fLenOwn 1 m_Recipe_len) (fAlt (fLenOwn 2 m_Plan_len) (fLen)))) (aCons (eVar 9) (aNil))) (eCall (fAlt (fLenOwn 0 m_Key_len) (fAlt (fLenOwn 1 m_Recipe_len) (fAlt (fLenOwn 2 m_Plan_len) (fLen)))) (aCons (eVar 12) (aNil)))))) (sRet (eTup (aCons (eC (.bl false)) (aCons (eC .non) (aNil))))) (sNext)) (sSeq (sAsg (eLc [14, 15] (eIt (eVar 12)) (gT 2 (gsCons (gV 14) (gsCons (gV 15) (gsNil)))) (bYes) (eTup (aCons (eVar 14) (aCons (eIf (eB (eAt (gIsi (isiCX 0 3)) (eVar 15))) (eAlt (eAt (gProp 0 m_Key_names) (eVar 15)) (eAt (gProp 1 m_Recipe_names) (eVar 15))) (eVar 15)) (aNil))))) (gV 10)) (sSeq (sIf (eB (eBin (gAlt (gNe 0 m_Key_eq) (gAlt (gNe 1 m_Recipe_eq) (gAlt (gNe 2 m_Plan_eq) (gEq true)))) (eCall m__law_rows_of (aCons (eVar 9) (aNil))) (eVar 10))) (sRet (eTup (aCons (eC (.bl false)) (aCons (eC .non) (aNil))))) (sNext)) (sSeq (sAsg (eIf (eB (eBin (gNotN) (eVar 7) (eC .non))) (eVar 7) (eBin (gRepT) (eTup (aCons (eTup (aNil)) (aNil))) (eVar 4))) (gV 8)) (sSeq (sAsg (eBin (gEq false) (eTup (aCons (eAt (gProp 2 m_Plan_base) (eVar 9)) (aCons (eAt (gProp 2 m_Plan_fields) (eVar 9)) (aCons (eAt (gProp 2 m_Plan_cells) (eVar 9)) (aCons (eAt (gProp 2 m_Plan_drops) (eVar 9)) (aNil)))))) (eTup (aCons (eVar 2) (aCons (eVar 3) (aCons (eVar 4) (aCons (eVar 8) (aNil))))))) (gV 11)) (sSeq (sAsg (eAnd (eVar 11) (eCall fAll (aCons (eLc [16] (eR1 (aCons (eCall (fAlt (fLenOwn 0 m_Key_len) (fAlt (fLenOwn 1 m_Recipe_len) (fAlt (fLenOwn 2 m_Plan_len) (fLen)))) (aCons (eVar 12) (aNil))) (aNil))) (gV 16) (bYes) (eBin (gAlt (gOwnX 0 (fun j => [1, 2].contains j) m_Key_eq) (gAlt (gOwnX 1 (fun j => [0, 2].contains j) m_Recipe_eq) (gAlt (gOwnX 2 (fun j => [0, 1].contains j) m_Plan_eq) (gEq false)))) (eBin gIx (eAlt (eBin (gSubO 2 m_Plan_getitem) (eVar 9) (eVar 16)) (eBin gIx (eVar 9) (eVar 16))) (eC (.int 0))) (eBin gIx (eBin gIx (eVar 5) (eVar 16)) (eC (.int 0))))) (aNil)))) (gV 11)) (sRet (eTup (aCons (eVar 11) (aCons (eVar 9) (aNil))))))))))))))))))))
def m__law_plan_right : List D → Res D := fun ds => if ds.length = 2 then outR (b__law_plan_right (startE ["script", "by", "base", "fields", "cells", "given", "handed", "gone", "due", "found", "plain", "is_right", "rows", "kind", "form", "rule", "at"] ds)) else .bad
theorem sc_law : FnScope ["script", "every", "by", "one", "two", "is_right", "found", "due"] ["script"] (defScope s_law) := ⟨rfl, rfl, rfl, by decide +kernel, rfl, by decide +kernel, by decide +kernel⟩
def b_law : En → Out := sSeq (sIf (bNot (eB (eCall0 m__law_drops_right))) (sRet (eC (.bl false))) (sNext)) (sSeq (sAsg (eLst (aNil)) (gV 1)) (sSeq (sFor (eR3 (aCons (eC (.int 0)) (aCons (eC (.int 1200)) (aCons (eC (.int 100)) (aNil))))) (gV 2) (sSeq (sAsg (eCall m__law_plan_right (aCons (eVar 0) (aCons (eVar 2) (aNil)))) (gT 2 (gsCons (gV 5) (gsCons (gV 6) (gsNil))))) (sSeq (sIf (bNot (eTru (eVar 5))) (sRet (eC (.bl false))) (sNext)) (sAsg (eBin (gAlt (gOwn 1 m_Recipe_add) (gAddW)) (eVar 1) (eIf (eB (eBin (gNotN) (eVar 6) (eC .non))) (eLst (aCons (eVar 6) (aNil))) (eLst (aNil)))) (gV 1))))) (sSeq (sFor (eIt (eVar 1)) (gV 3) (sFor (eIt (eVar 1)) (gV 4) (sSeq (sAsg (eBin (gEq false) (eTup (aCons (eAt (gProp 2 m_Plan_base) (eVar 3)) (aCons (eAt (gProp 2 m_Plan_fields) (eVar 3)) (aCons (eAt (gProp 2 m_Plan_cells) (eVar 3)) (aCons (eAt (gProp 2 m_Plan_drops) (eVar 3)) (aNil)))))) (eTup (aCons (eAt (gProp 2 m_Plan_base) (eVar 4)) (aCons (eAt (gProp 2 m_Plan_fields) (eVar 4)) (aCons (eAt (gProp 2 m_Plan_cells) (eVar 4)) (aCons (eAt (gProp 2 m_Plan_drops) (eVar 4)) (aNil))))))) (gV 7)) (sIf (bOr (eB (eBin (gEq true) (eBin (gAlt (gOwnX 0 (fun j => [1, 2].contains j) m_Key_eq) (gAlt (gOwnX 1 (fun j => [0, 2].contains j) m_Recipe_eq) (gAlt (gOwnX 2 (fun j => [0, 1].contains j) m_Plan_eq) (gEq false)))) (eVar 3) (eVar 4)) (eAnd (eVar 7) (eBin (gAlt (gOwnX 0 (fun j => [1, 2].contains j) m_Key_eq) (gAlt (gOwnX 1 (fun j => [0, 2].contains j) m_Recipe_eq) (gAlt (gOwnX 2 (fun j => [0, 1].contains j) m_Plan_eq) (gEq false)))) (eCall m__law_rows_of (aCons (eVar 3) (aNil))) (eCall m__law_rows_of (aCons (eVar 4) (aNil))))))) (eB (eBin (gEq false) (eBin (gAlt (gNe 0 m_Key_eq) (gAlt (gNe 1 m_Recipe_eq) (gAlt (gNe 2 m_Plan_eq) (gEq true)))) (eVar 3) (eVar 4)) (eBin (gAlt (gOwnX 0 (fun j => [1, 2].contains j) m_Key_eq) (gAlt (gOwnX 1 (fun j => [0, 2].contains j) m_Recipe_eq) (gAlt (gOwnX 2 (fun j => [0, 1].contains j) m_Plan_eq) (gEq false)))) (eVar 3) (eVar 4))))) (sRet (eC (.bl false))) (sNext))))) (sRet (eC (.bl true))))))
def m_law : List D → Res D := fun ds => if ds.length = 1 then outR (b_law (startE ["script", "every", "by", "one", "two", "is_right", "found", "due"] ds)) else .bad
/-- what the top has written -/
structure Tx (P : Program) (K : PySem.W.Frag) (mg : Str → Option Value) (cl : Cl) (ad : Nat → Addr) (fd : Nat → FuncData) (mc : Value) (w : World) : Prop where
  C_Key : Cls K (cl.at_ 0)
  C_Plan : Cls K (cl.at_ 2)
  C_Recipe : Cls K (cl.at_ 1)
  I_Key : InsTy K (cl.at_ 0)
  I_Plan : InsTy K (cl.at_ 2)
  I_Recipe : InsTy K (cl.at_ 1)
  M_Key : Mk K (cl.at_ 0) (ad 7)
  M_Plan : Mk K (cl.at_ 2) (ad 45)
  M_Recipe : Mk K (cl.at_ 1) (ad 19)
  b_all : mg "all" = none
  b_bool : mg "bool" = none
  b_dict : mg "dict" = none
  b_enumerate : mg "enumerate" = none
  b_int : mg "int" = none
  b_isinstance : mg "isinstance" = none
  b_len : mg "len" = none
  b_list : mg "list" = none
  b_range : mg "range" = none
  b_set : mg "set" = none
  b_sorted : mg "sorted" = none
  b_str : mg "str" = none
  b_sum : mg "sum" = none
  b_tuple : mg "tuple" = none
  c_CELL_NAMES : mg "CELL_NAMES" = some (.ref (ad 84)) ∧ ∃ (o : Obj) (its : Array Value) (n : Nat), K.lookup (ad 84) = some o ∧ o.cls = .type "tuple" ∧ o.data = .seq its n ∧ its.size ≤ sizeLine ∧ Vals [.str "c0", .str "c1"] its.toList
  c_FIELD_NAMES : mg "FIELD_NAMES" = some (.ref (ad 83)) ∧ ∃ (o : Obj) (its : Array Value) (n : Nat), K.lookup (ad 83) = some o ∧ o.cls = .type "tuple" ∧ o.data = .seq its n ∧ its.size ≤ sizeLine ∧ Vals [.str "f0", .str "f1", .str "f2"] its.toList
  c_HIGHEST : mg "HIGHEST" = some (.ref (ad 92)) ∧ ∃ (es : List DictEntry) (n : Nat), K.lookup (ad 92) = some ⟨.type "dict", none, .dict es.toArray n, #[]⟩ ∧ PySem.W.KeysLit w.params es ∧ ((ad 92) == sysModules) = false ∧ Rows K es tab_HIGHEST
  c_LETTERS : mg "LETTERS" = some (.ref (ad 88)) ∧ ∃ (es : List DictEntry) (n : Nat), K.lookup (ad 88) = some ⟨.type "dict", none, .dict es.toArray n, #[]⟩ ∧ PySem.W.KeysLit w.params es ∧ ((ad 88) == sysModules) = false ∧ Rows K es tab_LETTERS
  c_MOST_LEAVES : ∃ t, mg "MOST_LEAVES" = some (.int 9 t)
  c_MOST_SITUATIONS : ∃ t, mg "MOST_SITUATIONS" = some (.int 81 t)
  c_NAMES : mg "NAMES" = some (.ref (ad 82)) ∧ ∃ (o : Obj) (its : Array Value) (n : Nat), K.lookup (ad 82) = some o ∧ o.cls = .type "tuple" ∧ o.data = .seq its n ∧ its.size ≤ sizeLine ∧ Vals [.str "f0", .str "f1", .str "f2", .str "c0", .str "c1", .str "p0", .str "p1"] its.toList
  c_PLACE_NAMES : mg "PLACE_NAMES" = some (.ref (ad 85)) ∧ ∃ (o : Obj) (its : Array Value) (n : Nat), K.lookup (ad 85) = some o ∧ o.cls = .type "tuple" ∧ o.data = .seq its n ∧ its.size ≤ sizeLine ∧ Vals [.str "p0", .str "p1"] its.toList
  c_WIDTHS : mg "WIDTHS" = some (.ref (ad 91)) ∧ ∃ (es : List DictEntry) (n : Nat), K.lookup (ad 91) = some ⟨.type "dict", none, .dict es.toArray n, #[]⟩ ∧ PySem.W.KeysLit w.params es ∧ ((ad 91) == sysModules) = false ∧ Rows K es tab_WIDTHS
  c_WORDS : mg "WORDS" = some (.ref (ad 99)) ∧ ∃ (o : Obj) (its : Array Value) (n : Nat), K.lookup (ad 99) = some o ∧ o.cls = .type "tuple" ∧ o.data = .seq its n ∧ its.size ≤ sizeLine ∧ Vals [.str "reads", .str "shown"] its.toList
  cm_Recipe_field : ClX.CMet K (cl.at_ 1) mc "field" (ad 100) (ad 20)
  cr_Recipe : ClX.CRead K (cl.at_ 1) mc
  d_Key_contains : PySem.W.findIn K (.ref (cl.at_ 0)) "__contains__" = some (some (.ref (ad 16)))
  d_Key_eq : PySem.W.findIn K (.ref (cl.at_ 0)) "__eq__" = some (some (.ref (ad 18)))
  d_Key_le : PySem.W.findIn K (.ref (cl.at_ 0)) "__le__" = some (some (.ref (ad 14)))
  d_Key_len : PySem.W.findIn K (.ref (cl.at_ 0)) "__len__" = some (some (.ref (ad 17)))
  d_Key_or : PySem.W.findIn K (.ref (cl.at_ 0)) "__or__" = some (some (.ref (ad 10)))
  d_Key_sub : PySem.W.findIn K (.ref (cl.at_ 0)) "__sub__" = some (some (.ref (ad 12)))
  d_Plan_eq : PySem.W.findIn K (.ref (cl.at_ 2)) "__eq__" = some (some (.ref (ad 58)))
  d_Plan_getitem : PySem.W.findIn K (.ref (cl.at_ 2)) "__getitem__" = some (some (.ref (ad 55)))
  d_Plan_len : PySem.W.findIn K (.ref (cl.at_ 2)) "__len__" = some (some (.ref (ad 57)))
  d_Recipe_add : PySem.W.findIn K (.ref (cl.at_ 1)) "__add__" = some (some (.ref (ad 27)))
  d_Recipe_contains : PySem.W.findIn K (.ref (cl.at_ 1)) "__contains__" = some (some (.ref (ad 34)))
  d_Recipe_eq : PySem.W.findIn K (.ref (cl.at_ 1)) "__eq__" = some (some (.ref (ad 37)))
  d_Recipe_len : PySem.W.findIn K (.ref (cl.at_ 1)) "__len__" = some (some (.ref (ad 35)))
  d_Recipe_mul : PySem.W.findIn K (.ref (cl.at_ 1)) "__mul__" = some (some (.ref (ad 31)))
  d_Recipe_sub : PySem.W.findIn K (.ref (cl.at_ 1)) "__sub__" = some (some (.ref (ad 29)))
  df_Key_init : ∃ (o : Obj) (its : Array Value) (n : Nat), K.lookup (ad 103) = some o ∧ o.cls = .type "tuple" ∧ o.data = .seq its n ∧ its.size ≤ sizeLine ∧ Vals [] its.toList
  e_BadName : ErrC K (ad 86)
  e_BadNumber : ErrC K (ad 90)
  e_BadPlace : ErrC K (ad 97)
  e_BadRecipe : ErrC K (ad 87)
  f_Key_contains : FunD K "__contains__" "Key.__contains__" (defArgs s_Key_contains) (defBody s_Key_contains) (defScope s_Key_contains) [] [] (ad 16) (fd 16)
  f_Key_eq : FunD K "__eq__" "Key.__eq__" (defArgs s_Key_eq) (defBody s_Key_eq) (defScope s_Key_eq) [] [] (ad 18) (fd 18)
  f_Key_init : FunD K "__init__" "Key.__init__" (defArgs s_Key_init) (defBody s_Key_init) (defScope s_Key_init) [.ref (ad 103)] [] (ad 7) (fd 7)
  f_Key_le : FunD K "__le__" "Key.__le__" (defArgs s_Key_le) (defBody s_Key_le) (defScope s_Key_le) [] [] (ad 14) (fd 14)
  f_Key_len : FunD K "__len__" "Key.__len__" (defArgs s_Key_len) (defBody s_Key_len) (defScope s_Key_len) [] [] (ad 17) (fd 17)
  f_Key_names : FunD K "names" "Key.names" (defArgs s_Key_names) (defBody s_Key_names) (defScope s_Key_names) [] [] (ad 9) (fd 9)
  f_Plan_base : FunD K "base" "Plan.base" (defArgs s_Plan_base) (defBody s_Plan_base) (defScope s_Plan_base) [] [] (ad 46) (fd 46)
  f_Plan_cells : FunD K "cells" "Plan.cells" (defArgs s_Plan_cells) (defBody s_Plan_cells) (defScope s_Plan_cells) [] [] (ad 48) (fd 48)
  f_Plan_check_place : FunD K "check_place" "Plan.check_place" (defArgs s_Plan_check_place) (defBody s_Plan_check_place) (defScope s_Plan_check_place) [] [] (ad 54) (fd 54)
  f_Plan_drops : FunD K "drops" "Plan.drops" (defArgs s_Plan_drops) (defBody s_Plan_drops) (defScope s_Plan_drops) [] [] (ad 50) (fd 50)
  f_Plan_eq : FunD K "__eq__" "Plan.__eq__" (defArgs s_Plan_eq) (defBody s_Plan_eq) (defScope s_Plan_eq) [] [] (ad 58) (fd 58)
  f_Plan_fields : FunD K "fields" "Plan.fields" (defArgs s_Plan_fields) (defBody s_Plan_fields) (defScope s_Plan_fields) [] [] (ad 47) (fd 47)
  f_Plan_getitem : FunD K "__getitem__" "Plan.__getitem__" (defArgs s_Plan_getitem) (defBody s_Plan_getitem) (defScope s_Plan_getitem) [] [] (ad 55) (fd 55)
  f_Plan_init : FunD K "__init__" "Plan.__init__" (defArgs s_Plan_init) (defBody s_Plan_init) (defScope s_Plan_init) [] [("drops", .non)] (ad 45) (fd 45)
  f_Plan_len : FunD K "__len__" "Plan.__len__" (defArgs s_Plan_len) (defBody s_Plan_len) (defScope s_Plan_len) [] [] (ad 57) (fd 57)
  f_Plan_places : FunD K "places" "Plan.places" (defArgs s_Plan_places) (defBody s_Plan_places) (defScope s_Plan_places) [] [] (ad 49) (fd 49)
  f_Recipe_add : FunD K "__add__" "Recipe.__add__" (defArgs s_Recipe_add) (defBody s_Recipe_add) (defScope s_Recipe_add) [] [] (ad 27) (fd 27)
  f_Recipe_contains : FunD K "__contains__" "Recipe.__contains__" (defArgs s_Recipe_contains) (defBody s_Recipe_contains) (defScope s_Recipe_contains) [] [] (ad 34) (fd 34)
  f_Recipe_eq : FunD K "__eq__" "Recipe.__eq__" (defArgs s_Recipe_eq) (defBody s_Recipe_eq) (defScope s_Recipe_eq) [] [] (ad 37) (fd 37)
  f_Recipe_field : FunD K "field" "Recipe.field" (defArgs s_Recipe_field) (defBody s_Recipe_field) (defScope s_Recipe_field) [] [] (ad 20) (fd 20)
  f_Recipe_init : FunD K "__init__" "Recipe.__init__" (defArgs s_Recipe_init) (defBody s_Recipe_init) (defScope s_Recipe_init) [] [] (ad 19) (fd 19)
  f_Recipe_len : FunD K "__len__" "Recipe.__len__" (defArgs s_Recipe_len) (defBody s_Recipe_len) (defScope s_Recipe_len) [] [] (ad 35) (fd 35)
  f_Recipe_names : FunD K "names" "Recipe.names" (defArgs s_Recipe_names) (defBody s_Recipe_names) (defScope s_Recipe_names) [] [] (ad 24) (fd 24)
  f__law_are_drops : FunD K "_law_are_drops" "_law_are_drops" (defArgs s__law_are_drops) (defBody s__law_are_drops) (defScope s__law_are_drops) [] [] (ad 74) (fd 74)
  f__law_drops : FunD K "_law_drops" "_law_drops" (defArgs s__law_drops) (defBody s__law_drops) (defScope s__law_drops) [] [] (ad 76) (fd 76)
  f__law_drops_right : FunD K "_law_drops_right" "_law_drops_right" (defArgs s__law_drops_right) (defBody s__law_drops_right) (defScope s__law_drops_right) [] [] (ad 80) (fd 80)
  f__law_is_number : FunD K "_law_is_number" "_law_is_number" (defArgs s__law_is_number) (defBody s__law_is_number) (defScope s__law_is_number) [] [] (ad 72) (fd 72)
  f__law_is_place : FunD K "_law_is_place" "_law_is_place" (defArgs s__law_is_place) (defBody s__law_is_place) (defScope s__law_is_place) [] [] (ad 73) (fd 73)
  f__law_leaf : FunD K "_law_leaf" "_law_leaf" (defArgs s__law_leaf) (defBody s__law_leaf) (defScope s__law_leaf) [] [] (ad 68) (fd 68)
  f__law_leaves : FunD K "_law_leaves" "_law_leaves" (defArgs s__law_leaves) (defBody s__law_leaves) (defScope s__law_leaves) [] [] (ad 71) (fd 71)
  f__law_made : FunD K "_law_made" "_law_made" (defArgs s__law_made) (defBody s__law_made) (defScope s__law_made) [] [] (ad 77) (fd 77)
  f__law_number : FunD K "_law_number" "_law_number" (defArgs s__law_number) (defBody s__law_number) (defScope s__law_number) [] [] (ad 66) (fd 66)
  f__law_pick : FunD K "_law_pick" "_law_pick" (defArgs s__law_pick) (defBody s__law_pick) (defScope s__law_pick) [] [] (ad 67) (fd 67)
  f__law_places : FunD K "_law_places" "_law_places" (defArgs s__law_places) (defBody s__law_places) (defScope s__law_places) [] [] (ad 70) (fd 70)
  f__law_plan_right : FunD K "_law_plan_right" "_law_plan_right" (defArgs s__law_plan_right) (defBody s__law_plan_right) (defScope s__law_plan_right) [] [] (ad 78) (fd 78)
  f__law_rows_of : FunD K "_law_rows_of" "_law_rows_of" (defArgs s__law_rows_of) (defBody s__law_rows_of) (defScope s__law_rows_of) [] [] (ad 79) (fd 79)
  f__law_rule : FunD K "_law_rule" "_law_rule" (defArgs s__law_rule) (defBody s__law_rule) (defScope s__law_rule) [] [] (ad 69) (fd 69)
  f__law_wrong : FunD K "_law_wrong" "_law_wrong" (defArgs s__law_wrong) (defBody s__law_wrong) (defScope s__law_wrong) [] [] (ad 75) (fd 75)
  f_drops_fit : FunD K "drops_fit" "drops_fit" (defArgs s_drops_fit) (defBody s_drops_fit) (defScope s_drops_fit) [] [] (ad 63) (fd 63)
  f_form_of : FunD K "form_of" "form_of" (defArgs s_form_of) (defBody s_form_of) (defScope s_form_of) [] [] (ad 42) (fd 42)
  f_in_order : FunD K "in_order" "in_order" (defArgs s_in_order) (defBody s_in_order) (defScope s_in_order) [] [] (ad 5) (fd 5)
  f_is_ascending : FunD K "is_ascending" "is_ascending" (defArgs s_is_ascending) (defBody s_is_ascending) (defScope s_is_ascending) [] [] (ad 64) (fd 64)
  f_is_integer : FunD K "is_integer" "is_integer" (defArgs s_is_integer) (defBody s_is_integer) (defScope s_is_integer) [] [] (ad 2) (fd 2)
  f_is_name : FunD K "is_name" "is_name" (defArgs s_is_name) (defBody s_is_name) (defScope s_is_name) [] [] (ad 4) (fd 4)
  f_is_whole : FunD K "is_whole" "is_whole" (defArgs s_is_whole) (defBody s_is_whole) (defScope s_is_whole) [] [] (ad 3) (fd 3)
  f_kind_of : FunD K "kind_of" "kind_of" (defArgs s_kind_of) (defBody s_kind_of) (defScope s_kind_of) [] [] (ad 38) (fd 38)
  f_law : FunD K "law" "law" (defArgs s_law) (defBody s_law) (defScope s_law) [] [] (ad 81) (fd 81)
  f_leaf_form : FunD K "leaf_form" "leaf_form" (defArgs s_leaf_form) (defBody s_leaf_form) (defScope s_leaf_form) [] [] (ad 40) (fd 40)
  f_leaves_of : FunD K "leaves_of" "leaves_of" (defArgs s_leaves_of) (defBody s_leaves_of) (defScope s_leaves_of) [] [] (ad 39) (fd 39)
  f_name_of : FunD K "name_of" "name_of" (defArgs s_name_of) (defBody s_name_of) (defScope s_name_of) [] [] (ad 41) (fd 41)
  f_number_rows : FunD K "number_rows" "number_rows" (defArgs s_number_rows) (defBody s_number_rows) (defScope s_number_rows) [] [] (ad 65) (fd 65)
  f_pair_fits : FunD K "pair_fits" "pair_fits" (defArgs s_pair_fits) (defBody s_pair_fits) (defScope s_pair_fits) [] [] (ad 60) (fd 60)
  f_recipe_fits : FunD K "recipe_fits" "recipe_fits" (defArgs s_recipe_fits) (defBody s_recipe_fits) (defScope s_recipe_fits) [] [] (ad 61) (fd 61)
  f_rule_fits : FunD K "rule_fits" "rule_fits" (defArgs s_rule_fits) (defBody s_rule_fits) (defScope s_rule_fits) [] [] (ad 62) (fd 62)
  f_usable_names : FunD K "usable_names" "usable_names" (defArgs s_usable_names) (defBody s_usable_names) (defScope s_usable_names) [] [] (ad 6) (fd 6)
  f_wrong_part : FunD K "wrong_part" "wrong_part" (defArgs s_wrong_part) (defBody s_wrong_part) (defScope s_wrong_part) [] [] (ad 59) (fd 59)
  fi_Plan_getitem : PySem.W.fnIn K (ad 55) = true
  gC_Key : mg "Key" = some (.ref (cl.at_ 0))
  gC_Plan : mg "Plan" = some (.ref (cl.at_ 2))
  gC_Recipe : mg "Recipe" = some (.ref (cl.at_ 1))
  g_BadName : mg "BadName" = some (.ref (ad 86))
  g_BadNumber : mg "BadNumber" = some (.ref (ad 90))
  g_BadPlace : mg "BadPlace" = some (.ref (ad 97))
  g_BadPlan : mg "BadPlan" = some (.ref (ad 93))
  g_BadRecipe : mg "BadRecipe" = some (.ref (ad 87))
  g__law_are_drops : mg "_law_are_drops" = some (.ref (ad 74))
  g__law_drops : mg "_law_drops" = some (.ref (ad 76))
  g__law_drops_right : mg "_law_drops_right" = some (.ref (ad 80))
  g__law_is_number : mg "_law_is_number" = some (.ref (ad 72))
  g__law_is_place : mg "_law_is_place" = some (.ref (ad 73))
  g__law_leaf : mg "_law_leaf" = some (.ref (ad 68))
  g__law_leaves : mg "_law_leaves" = some (.ref (ad 71))
  g__law_made : mg "_law_made" = some (.ref (ad 77))
  g__law_number : mg "_law_number" = some (.ref (ad 66))
  g__law_pick : mg "_law_pick" = some (.ref (ad 67))
  g__law_places : mg "_law_places" = some (.ref (ad 70))
  g__law_plan_right : mg "_law_plan_right" = some (.ref (ad 78))
  g__law_rows_of : mg "_law_rows_of" = some (.ref (ad 79))
  g__law_rule : mg "_law_rule" = some (.ref (ad 69))
  g__law_wrong : mg "_law_wrong" = some (.ref (ad 75))
  g__wall : mg "_wall" = some (.ref (ad 0))
  g_come_to : mg "come_to" = some (.ref (ad 43))
  g_drops_fit : mg "drops_fit" = some (.ref (ad 63))
  g_form_of : mg "form_of" = some (.ref (ad 42))
  g_in_order : mg "in_order" = some (.ref (ad 5))
  g_is_ascending : mg "is_ascending" = some (.ref (ad 64))
  g_is_integer : mg "is_integer" = some (.ref (ad 2))
  g_is_name : mg "is_name" = some (.ref (ad 4))
  g_is_whole : mg "is_whole" = some (.ref (ad 3))
  g_joined : mg "joined" = some (.ref (ad 44))
  g_kind_of : mg "kind_of" = some (.ref (ad 38))
  g_leaf_form : mg "leaf_form" = some (.ref (ad 40))
  g_leaves_of : mg "leaves_of" = some (.ref (ad 39))
  g_name_of : mg "name_of" = some (.ref (ad 41))
  g_number_rows : mg "number_rows" = some (.ref (ad 65))
  g_pair_fits : mg "pair_fits" = some (.ref (ad 60))
  g_recipe_fits : mg "recipe_fits" = some (.ref (ad 61))
  g_rule_fits : mg "rule_fits" = some (.ref (ad 62))
  g_usable_names : mg "usable_names" = some (.ref (ad 6))
  g_wrong_part : mg "wrong_part" = some (.ref (ad 59))
  i_Key_contains : PySem.W.isFn K (.ref (ad 16)) = true
  i_Key_eq : PySem.W.isFn K (.ref (ad 18)) = true
  i_Key_le : PySem.W.isFn K (.ref (ad 14)) = true
  i_Key_len : PySem.W.isFn K (.ref (ad 17)) = true
  i_Key_or : PySem.W.isFn K (.ref (ad 10)) = true
  i_Key_sub : PySem.W.isFn K (.ref (ad 12)) = true
  i_Plan_eq : PySem.W.isFn K (.ref (ad 58)) = true
  i_Plan_getitem : PySem.W.isFn K (.ref (ad 55)) = true
  i_Plan_len : PySem.W.isFn K (.ref (ad 57)) = true
  i_Recipe_add : PySem.W.isFn K (.ref (ad 27)) = true
  i_Recipe_contains : PySem.W.isFn K (.ref (ad 34)) = true
  i_Recipe_eq : PySem.W.isFn K (.ref (ad 37)) = true
  i_Recipe_len : PySem.W.isFn K (.ref (ad 35)) = true
  i_Recipe_mul : PySem.W.isFn K (.ref (ad 31)) = true
  i_Recipe_sub : PySem.W.isFn K (.ref (ad 29)) = true
  ia_all : ∀ j, j < 3 → InsTy K (cl.at_ j)
  kC_Key : PySem.W.keepIn K (.ref (cl.at_ 0)) = true
  kC_Plan : PySem.W.keepIn K (.ref (cl.at_ 2)) = true
  kC_Recipe : PySem.W.keepIn K (.ref (cl.at_ 1)) = true
  k__law_are_drops : PySem.W.keepIn K (.ref (ad 74)) = true
  k__law_drops : PySem.W.keepIn K (.ref (ad 76)) = true
  k__law_drops_right : PySem.W.keepIn K (.ref (ad 80)) = true
  k__law_is_number : PySem.W.keepIn K (.ref (ad 72)) = true
  k__law_is_place : PySem.W.keepIn K (.ref (ad 73)) = true
  k__law_leaf : PySem.W.keepIn K (.ref (ad 68)) = true
  k__law_leaves : PySem.W.keepIn K (.ref (ad 71)) = true
  k__law_made : PySem.W.keepIn K (.ref (ad 77)) = true
  k__law_number : PySem.W.keepIn K (.ref (ad 66)) = true
  k__law_pick : PySem.W.keepIn K (.ref (ad 67)) = true
  k__law_places : PySem.W.keepIn K (.ref (ad 70)) = true
  k__law_plan_right : PySem.W.keepIn K (.ref (ad 78)) = true
  k__law_rows_of : PySem.W.keepIn K (.ref (ad 79)) = true
  k__law_rule : PySem.W.keepIn K (.ref (ad 69)) = true
  k__law_wrong : PySem.W.keepIn K (.ref (ad 75)) = true
  k__wall : PySem.W.keepIn K (.ref (ad 0)) = true
  k_come_to : PySem.W.keepIn K (.ref (ad 43)) = true
  k_drops_fit : PySem.W.keepIn K (.ref (ad 63)) = true
  k_form_of : PySem.W.keepIn K (.ref (ad 42)) = true
  k_in_order : PySem.W.keepIn K (.ref (ad 5)) = true
  k_is_ascending : PySem.W.keepIn K (.ref (ad 64)) = true
  k_is_integer : PySem.W.keepIn K (.ref (ad 2)) = true
  k_is_name : PySem.W.keepIn K (.ref (ad 4)) = true
  k_is_whole : PySem.W.keepIn K (.ref (ad 3)) = true
  k_joined : PySem.W.keepIn K (.ref (ad 44)) = true
  k_kind_of : PySem.W.keepIn K (.ref (ad 38)) = true
  k_leaf_form : PySem.W.keepIn K (.ref (ad 40)) = true
  k_leaves_of : PySem.W.keepIn K (.ref (ad 39)) = true
  k_name_of : PySem.W.keepIn K (.ref (ad 41)) = true
  k_number_rows : PySem.W.keepIn K (.ref (ad 65)) = true
  k_pair_fits : PySem.W.keepIn K (.ref (ad 60)) = true
  k_recipe_fits : PySem.W.keepIn K (.ref (ad 61)) = true
  k_rule_fits : PySem.W.keepIn K (.ref (ad 62)) = true
  k_usable_names : PySem.W.keepIn K (.ref (ad 6)) = true
  k_wrong_part : PySem.W.keepIn K (.ref (ad 59)) = true
  kc_Key : KitC K cl 0 3
  kc_Plan : KitC K cl 2 3
  kc_Recipe : KitC K cl 1 3
  kt_dict : ∀ j, j < 3 → PySem.W.kitOne K (.ref (cl.at_ j)) (.type "dict") = some false
  kt_str : ∀ j, j < 3 → PySem.W.kitOne K (.ref (cl.at_ j)) (.type "str") = some false
  kt_tuple : ∀ j, j < 3 → PySem.W.kitOne K (.ref (cl.at_ j)) (.type "tuple") = some false
  mt_Plan_check_place : Meth K (cl.at_ 2) "check_place" (ad 54)
  na_Key_held : NoAttr K (cl.at_ 0) "held"
  na_Plan_held : NoAttr K (cl.at_ 2) "held"
  na_Recipe_form : NoAttr K (cl.at_ 1) "form"
  na_Recipe_leaves : NoAttr K (cl.at_ 1) "leaves"
  ne_Key : PySem.W.findIn K (.ref (cl.at_ 0)) "__ne__" = some (some (.builtin "object.__ne__"))
  ne_Plan : PySem.W.findIn K (.ref (cl.at_ 2)) "__ne__" = some (some (.builtin "object.__ne__"))
  ne_Recipe : PySem.W.findIn K (.ref (cl.at_ 1)) "__ne__" = some (some (.builtin "object.__ne__"))
  pr_Key_names : PropOf K (cl.at_ 0) "names" (ad 98) (ad 9)
  pr_Plan_base : PropOf K (cl.at_ 2) "base" (ad 101) (ad 46)
  pr_Plan_cells : PropOf K (cl.at_ 2) "cells" (ad 95) (ad 48)
  pr_Plan_drops : PropOf K (cl.at_ 2) "drops" (ad 102) (ad 50)
  pr_Plan_fields : PropOf K (cl.at_ 2) "fields" (ad 94) (ad 47)
  pr_Plan_places : PropOf K (cl.at_ 2) "places" (ad 96) (ad 49)
  pr_Recipe_names : PropOf K (cl.at_ 1) "names" (ad 89) (ad 24)
  rn_Key : PySem.W.subIn K (.ref (cl.at_ 0)) (.type "NoneType") = some false
  rn_Recipe : PySem.W.subIn K (.ref (cl.at_ 1)) (.type "NoneType") = some false
  rs_Key : PySem.W.subIn K (.ref (cl.at_ 0)) (.type "str") = some false
  rs_Recipe : PySem.W.subIn K (.ref (cl.at_ 1)) (.type "str") = some false
  sf_Key : PySem.W.selfFirst K (cl.at_ 0) = true
  sf_Recipe : PySem.W.selfFirst K (cl.at_ 1) = true
  sn_Key : PySem.W.subIn K (.type "NoneType") (.ref (cl.at_ 0)) = some false
  sn_Plan : PySem.W.subIn K (.type "NoneType") (.ref (cl.at_ 2)) = some false
  sn_Recipe : PySem.W.subIn K (.type "NoneType") (.ref (cl.at_ 1)) = some false
  so_Key_Plan : PySem.W.subIn K (.ref (cl.at_ 0)) (.ref (cl.at_ 2)) = some false
  so_Key_Recipe : PySem.W.subIn K (.ref (cl.at_ 0)) (.ref (cl.at_ 1)) = some false
  so_Plan_Key : PySem.W.subIn K (.ref (cl.at_ 2)) (.ref (cl.at_ 0)) = some false
  so_Plan_Recipe : PySem.W.subIn K (.ref (cl.at_ 2)) (.ref (cl.at_ 1)) = some false
  so_Recipe_Key : PySem.W.subIn K (.ref (cl.at_ 1)) (.ref (cl.at_ 0)) = some false
  so_Recipe_Plan : PySem.W.subIn K (.ref (cl.at_ 1)) (.ref (cl.at_ 2)) = some false
  ss_Key : PySem.W.subIn K (.type "str") (.ref (cl.at_ 0)) = some false
  ss_Plan : PySem.W.subIn K (.type "str") (.ref (cl.at_ 2)) = some false
  ss_Recipe : PySem.W.subIn K (.type "str") (.ref (cl.at_ 1)) = some false
  su_BadPlan : SupX P K mg "__init__" "BadPlan.__init__" "part" s_BadPlan_init (ad 1) (ad 93) (fd 1)
  xN_BadPlan : cl.xn 3 = (["part"] : List Str)
  x_BadName : cl.xv 0 = .ref (ad 86)
  x_BadNumber : cl.xv 2 = .ref (ad 90)
  x_BadPlace : cl.xv 4 = .ref (ad 97)
  x_BadPlan : cl.xv 3 = .ref (ad 93)
  x_BadRecipe : cl.xv 1 = .ref (ad 87)
  xf_BadPlan : XfC K (ad 93)
  xm_BadPlan : ∀ k r, ex_BadPlan k = some r → PySem.W.exmOne K (cl.xv k) (.ref (ad 93)) = some r
section
variable {P : Program} {w : World} {K : PySem.W.Frag} {mg : Str → Option Value} {base : Heap} {cl : Cl} {ad : Nat → Addr} {fd : Nat → FuncData} {mc : Value}
theorem ok_BadPlan_init (T : Tx P K mg cl ad fd mc w) : FnOk P w K mg base (L2.CX P w) 1 (ad 1) (fd 1) ["self", "part"] (spX (ad 93) "part" OkF) :=
  super_init (k := 0) T.su_BadPlan (by constructor <;> first | rfl | decide +kernel) rfl ⟨_, rfl, rfl⟩ (by decide) rfl (by rfl) (fun _ => rfl) (by decide) (by decide) (by decide)
theorem ok_Key_eq (T : Tx P K mg cl ad fd mc w) : FnD P w K mg base cl 2 (ad 18) m_Key_eq :=
  fnD_of0 T.f_Key_eq sc_Key_eq (fun _ _ _ _ _ _ us hl => match us, hl with | [_, _], _ => rfl) (fun cdv A outer s H E c hc hr => by
    subst hc
    exact dss_one (ds_ret (DE.w (de_and (de_isi (g := isiCX 0 3) (DE.w (de_var 1)) (pe_glob (v := .ref (c.cl.at_ 0)) rfl T.gC_Key rfl) (.own _) (isiCX_ok T.kc_Key) (isiCX_in T.ia_all) T.b_isinstance) (de_one (de_cmp (ow_eq hr.units) (DE.w (de_fld (k := 0) (DE.w (de_var 0)) T.C_Key T.na_Key_held)) (DE.w (de_fld (k := 0) (DE.w (de_var 1)) T.C_Key T.na_Key_held))))))))
theorem ok_Recipe_eq (T : Tx P K mg cl ad fd mc w) : FnD P w K mg base cl 2 (ad 37) m_Recipe_eq :=
  fnD_of0 T.f_Recipe_eq sc_Recipe_eq (fun _ _ _ _ _ _ us hl => match us, hl with | [_, _], _ => rfl) (fun cdv A outer s H E c hc hr => by
    subst hc
    exact dss_one (ds_ret (DE.w (de_and (de_isi (g := isiCX 1 3) (DE.w (de_var 1)) (pe_glob (v := .ref (c.cl.at_ 1)) rfl T.gC_Recipe rfl) (.own _) (isiCX_ok T.kc_Recipe) (isiCX_in T.ia_all) T.b_isinstance) (de_one (de_cmp (ow_eq hr.units) (DE.w (de_fld (k := 1) (DE.w (de_var 0)) T.C_Recipe T.na_Recipe_form)) (DE.w (de_fld (k := 1) (DE.w (de_var 1)) T.C_Recipe T.na_Recipe_form))))))))
theorem ok_Plan_eq (T : Tx P K mg cl ad fd mc w) (F_Key_eq : FnD P w K mg base cl 2 (ad 18) m_Key_eq) (F_Recipe_eq : FnD P w K mg base cl 2 (ad 37) m_Recipe_eq) : FnD P w K mg base cl 11 (ad 58) m_Plan_eq :=
  fnD_of0 T.f_Plan_eq sc_Plan_eq (fun _ _ _ _ _ _ us hl => match us, hl with | [_, _], _ => rfl) (fun cdv A outer s H E c hc hr => by
    subst hc
    exact dss_one (ds_ret (DE.w (de_and (de_isi (g := isiCX 2 3) (DE.w (de_var 1)) (pe_glob (v := .ref (c.cl.at_ 2)) rfl T.gC_Plan rfl) (.own _) (isiCX_ok T.kc_Plan) (isiCX_in T.ia_all) T.b_isinstance) (de_one (de_cmpS (OpS.alt (OpW.s (ow_eq hr.units)) (os_eqT (kr := 2) (n := 5) (ow := (fun k => if k = 1 then some m_Recipe_eq else if k = 0 then some m_Key_eq else none)) (fun k F z => by (try dsimp only at z); by_cases e0 : k = 1; (rw [if_pos e0] at z; cases z; subst e0; exact ⟨_, ⟨FnD.mono (k := 2) F_Recipe_eq (by decide), T.d_Recipe_eq, T.i_Recipe_eq, T.sn_Recipe, T.ss_Recipe, T.rn_Recipe, T.rs_Recipe⟩⟩); rw [if_neg e0] at z; by_cases e1 : k = 0; (rw [if_pos e1] at z; cases z; subst e1; exact ⟨_, ⟨FnD.mono (k := 2) F_Key_eq (by decide), T.d_Key_eq, T.i_Key_eq, T.sn_Key, T.ss_Key, T.rn_Key, T.rs_Key⟩⟩); rw [if_neg e1] at z; cases z) takes_b (hr.mono (by decide)))) (de_fld (k := 2) (DE.w (de_var 0)) T.C_Plan T.na_Plan_held) (de_fld (k := 2) (DE.w (de_var 1)) T.C_Plan T.na_Plan_held)))))))
theorem ok_Plan_base (T : Tx P K mg cl ad fd mc w) : FnD P w K mg base cl 2 (ad 46) m_Plan_base :=
  fnD_of0 T.f_Plan_base sc_Plan_base (fun _ _ _ _ _ _ us hl => match us, hl with | [_], _ => rfl) (fun cdv A outer s H E c hc hr => by
    subst hc
    exact dss_one (ds_ret (DE.w (de_ix (DE.w (de_fld (k := 2) (DE.w (de_var 0)) T.C_Plan T.na_Plan_held)) (de_int)))))
theorem ok_Plan_cells (T : Tx P K mg cl ad fd mc w) : FnD P w K mg base cl 2 (ad 48) m_Plan_cells :=
  fnD_of0 T.f_Plan_cells sc_Plan_cells (fun _ _ _ _ _ _ us hl => match us, hl with | [_], _ => rfl) (fun cdv A outer s H E c hc hr => by
    subst hc
    exact dss_one (ds_ret (DE.w (de_ix (DE.w (de_fld (k := 2) (DE.w (de_var 0)) T.C_Plan T.na_Plan_held)) (de_int)))))
theorem ok_Plan_drops (T : Tx P K mg cl ad fd mc w) : FnD P w K mg base cl 2 (ad 50) m_Plan_drops :=
  fnD_of0 T.f_Plan_drops sc_Plan_drops (fun _ _ _ _ _ _ us hl => match us, hl with | [_], _ => rfl) (fun cdv A outer s H E c hc hr => by
    subst hc
    exact dss_one (ds_ret (DE.w (de_ix (DE.w (de_fld (k := 2) (DE.w (de_var 0)) T.C_Plan T.na_Plan_held)) (de_int)))))
theorem ok_Plan_fields (T : Tx P K mg cl ad fd mc w) : FnD P w K mg base cl 2 (ad 47) m_Plan_fields :=
  fnD_of0 T.f_Plan_fields sc_Plan_fields (fun _ _ _ _ _ _ us hl => match us, hl with | [_], _ => rfl) (fun cdv A outer s H E c hc hr => by
    subst hc
    exact dss_one (ds_ret (DE.w (de_ix (DE.w (de_fld (k := 2) (DE.w (de_var 0)) T.C_Plan T.na_Plan_held)) (de_int)))))
theorem ok_is_integer (T : Tx P K mg cl ad fd mc w) : FnD P w K mg base cl 2 (ad 2) m_is_integer :=
  fnD_of0 T.f_is_integer sc_is_integer (fun _ _ _ _ _ _ us hl => match us, hl with | [_], _ => rfl) (fun cdv A outer s H E c hc hr => by
    subst hc
    exact dss_one (ds_ret (DE.w (de_and (de_isi (g := isiT_int) (DE.w (de_var 0)) (pe_bltn (v := .ty "int") rfl T.b_int boot_int rfl) (.ty "int") (isiT_int_ok) (by intro k r h; cases h) T.b_isinstance) (de_one (de_not (de_isi (g := isiT_bool) (DE.w (de_var 0)) (pe_bltn (v := .ty "bool") rfl T.b_bool boot_bool rfl) (.ty "bool") (isiT_bool_ok) (by intro k r h; cases h) T.b_isinstance)))))))
theorem ok_is_whole (T : Tx P K mg cl ad fd mc w) (F_is_integer : FnD P w K mg base cl 2 (ad 2) m_is_integer) : FnD P w K mg base cl 3 (ad 3) m_is_whole :=
  fnD_of0 T.f_is_whole sc_is_whole (fun _ _ _ _ _ _ us hl => match us, hl with | [_, _, _], _ => rfl) (fun cdv A outer s H E c hc hr => by
    subst hc
    exact dss_one (ds_ret (DE.w (de_and (de_call (caD_of F_is_integer (hr.mono (by decide)) takes_b) T.k_is_integer T.g_is_integer (da_cons (de_var 0) (da_nil))) (de_one (de_chain or_le or_le (de_var 1) (de_var 0) (de_var 2)))))))
theorem ok_kind_of (T : Tx P K mg cl ad fd mc w) (F_is_whole : FnD P w K mg base cl 3 (ad 3) m_is_whole) : FnD P w K mg base cl 4 (ad 38) m_kind_of :=
  fnD_of0 T.f_kind_of sc_kind_of (fun _ _ _ _ _ _ us hl => match us, hl with | [_], _ => rfl) (fun cdv A outer s H E c hc hr => by
    subst hc
    exact dss_cons (ds_if (dt_pt (dt_or (dt_not (dt_val (de_isi (g := isiT_tuple) (DE.w (de_var 0)) (pe_bltn (v := .ty "tuple") rfl T.b_tuple boot_tuple rfl) (.ty "tuple") (isiT_tuple_ok) (by intro k r h; cases h) T.b_isinstance))) (dt_or (dt_cmp (ow_ltI) (DE.w (de_callB ca_len (dw_cons (DE.w (de_var 0)) (dw_nil)) T.b_len boot_len)) (DE.w (de_int))) (dt_or1 (dt_not (dt_val (de_isi (g := isiT_str) (DE.w (de_ix (DE.w (de_var 0)) (de_int))) (pe_bltn (v := .ty "str") rfl T.b_str boot_str rfl) (.ty "str") (isiT_str_ok) (by intro k r h; cases h) T.b_isinstance))))))) (dss_one (ds_ret (DE.w (de_non)))) (dss_nil)) (dss_cons (ds_asg (de_ix (DE.w (de_var 0)) (de_int)) (dg_name 1 sc_kind_of.nd)) (dss_cons (ds_if (dt_pt (dt_and (dt_topIn (topD_pk T.c_WIDTHS) (de_var 1)) (dt_and1 (dt_cmp (ow_eq hr.units) (DE.w (de_callB ca_len (dw_cons (DE.w (de_var 0)) (dw_nil)) T.b_len boot_len)) (DE.w (de_bin ow_addW (DE.w (de_int)) (DE.w (de_topAt (topD_pk T.c_WIDTHS) (de_var 1))))))))) (dss_one (ds_ret (DE.w (de_var 1)))) (dss_nil)) (dss_cons (ds_if (dt_pt (dt_and (dt_topIn (topD_pk T.c_HIGHEST) (de_var 1)) (dt_and (dt_cmp (ow_eq hr.units) (DE.w (de_callB ca_len (dw_cons (DE.w (de_var 0)) (dw_nil)) T.b_len boot_len)) (DE.w (de_int))) (dt_and1 (dt_val (de_call (caD_of F_is_whole (hr.mono (by decide)) takes_b) T.k_is_whole T.g_is_whole (da_cons (de_ix (DE.w (de_var 0)) (de_int)) (da_cons (de_int) (da_cons (de_topAt (topD_pk T.c_HIGHEST) (de_var 1)) (da_nil)))))))))) (dss_one (ds_ret (DE.w (de_var 1)))) (dss_nil)) (dss_one (ds_ret (DE.w (de_non))))))))
theorem ok_leaves_of (T : Tx P K mg cl ad fd mc w) (F_kind_of : FnD P w K mg base cl 4 (ad 38) m_kind_of) : FnD P w K mg base cl 5 (ad 39) m_leaves_of :=
  fnD_of0 T.f_leaves_of sc_leaves_of (fun _ _ _ _ _ _ us hl => match us, hl with | [_], _ => rfl) (fun cdv A outer s H E c hc hr => by
    subst hc
    exact dss_cons (ds_newL 1 sc_leaves_of.nd (da_nil)) (dss_cons (ds_asg (de_lst (da_cons (de_var 0) (da_nil))) (dg_name 2 sc_leaves_of.nd)) (dss_cons (ds_while 1000 passes_b (dt_pt (dt_and (dt_tru (DE.w (de_var 2))) (dt_and1 (dt_cmp (ow_leI) (DE.w (de_bin ow_addW (DE.w (de_callB ca_len (dw_cons (dw_own 1) (dw_nil)) T.b_len boot_len)) (DE.w (de_callB ca_len (dw_cons (DE.w (de_var 2)) (dw_nil)) T.b_len boot_len)))) (DE.w (de_globI T.c_MOST_LEAVES)))))) (dss_cons (ds_par2 rfl sc_leaves_of.nd (da_cons (de_ix (DE.w (de_var 2)) (de_int)) (da_cons (de_sl (DE.w (de_var 2)) (do_some (de_int)) (do_no)) (da_nil)))) (dss_cons (ds_asg (de_call (caD_of F_kind_of (hr.mono (by decide)) takes_b) T.k_kind_of T.g_kind_of (da_cons (de_var 4) (da_nil))) (dg_name 3 sc_leaves_of.nd)) (dss_cons (ds_if (dt_cmp (ow_isN) (DE.w (de_var 3)) (DE.w (de_non))) (dss_one (ds_ret (DE.w (de_non)))) (dss_nil)) (dss_one (ds_if (dt_topIn (topD_pk T.c_HIGHEST) (de_var 3)) (dss_one (ds_app 1 (de_var 4))) (dss_one (ds_asg (de_bin ow_addW (DE.w (de_callT ca_lst (dw_cons (DE.w (de_sl (DE.w (de_var 4)) (do_some (de_int)) (do_no))) (dw_nil)) T.b_list boot_list)) (DE.w (de_var 2))) (dg_name 2 sc_leaves_of.nd))))))))) (dss_one (ds_ret (dw_if (dt_tru (DE.w (de_var 2))) (DE.w (de_non)) (dw_own 1)))))))
theorem ok_Recipe_init (T : Tx P K mg cl ad fd mc w) (F_leaves_of : FnD P w K mg base cl 5 (ad 39) m_leaves_of) : FnR P w K mg base (L2.CX P w) 6 (ad 19) (spI K cl 1 i_Recipe) := by
  have body : ∀ (cdv : Value) (A : Around) (outer : List PySem.Env) (s : Shared) (H : Hp) (E : XK) (c : Cc), c.cl = cl → Room 5 (A.deeper (envOfC "Recipe.__init__" (defScope s_Recipe_init) s.heap.objs.size (ad 19) cdv)) → DSs (Xb P w K mg base ["self", "form", "leaves"] "Recipe.__init__" s_Recipe_init (ad 19) cdv A outer s H E) c (Wb E) (defBody s_Recipe_init) b_Recipe_init := (fun cdv A outer s H E c hc hr => by
    subst hc
    exact dss_cons (ds_asg (de_call (caD_of F_leaves_of (hr.mono (by decide)) takes_b) T.k_leaves_of T.g_leaves_of (da_cons (de_var 1) (da_nil))) (dg_name 2 sc_Recipe_init.nd)) (dss_cons (ds_if (dt_cmp (ow_isN) (DE.w (de_var 2)) (DE.w (de_non))) (dss_one (ds_raise (k := 1) T.e_BadRecipe T.x_BadRecipe T.g_BadRecipe rfl takes_b)) (dss_nil)) (dss_cons (ds_setF 0 1 (de_var 1) T.C_Recipe T.na_Recipe_form) (dss_one (ds_setF 0 1 (de_callT ca_tup (dw_cons (DE.w (de_var 2)) (dw_nil)) T.b_tuple boot_tuple) T.C_Recipe T.na_Recipe_leaves)))))
  exact fnI_of (kc := 1) (dd := []) T.f_Recipe_init sc_Recipe_init (T.f_Recipe_init.bindsN (fun _ _ _ _ _ _ us hl => match us, hl with | [_, _], _ => rfl)) .nil (fun _ => reps_nil) body
theorem ok_form_of (T : Tx P K mg cl ad fd mc w) (F_is_whole : FnD P w K mg base cl 3 (ad 3) m_is_whole) : FnD P w K mg base cl 4 (ad 42) m_form_of :=
  fnD_of0 T.f_form_of sc_form_of (fun _ _ _ _ _ _ us hl => match us, hl with | [_], _ => rfl) (fun cdv A outer s H E c hc hr => by
    subst hc
    exact dss_cons (ds_if (dt_val (de_isi (g := isiCX 1 3) (DE.w (de_var 0)) (pe_glob (v := .ref (c.cl.at_ 1)) rfl T.gC_Recipe rfl) (.own _) (isiCX_ok T.kc_Recipe) (isiCX_in T.ia_all) T.b_isinstance)) (dss_one (ds_ret (DE.w (de_fld (k := 1) (DE.w (de_var 0)) T.C_Recipe T.na_Recipe_form)))) (dss_nil)) (dss_cons (ds_if (dt_not (dt_val (de_call (caD_of F_is_whole (hr.mono (by decide)) takes_b) T.k_is_whole T.g_is_whole (da_cons (de_var 0) (da_cons (de_int) (da_cons (de_topAt (topD_pk T.c_HIGHEST) (de_str)) (da_nil))))))) (dss_one (ds_raise (k := 1) T.e_BadRecipe T.x_BadRecipe T.g_BadRecipe rfl takes_b)) (dss_nil)) (dss_one (ds_ret (DE.w (de_tup (da_cons (de_str) (da_cons (de_var 0) (da_nil)))))))))
theorem ok_Recipe_add (T : Tx P K mg cl ad fd mc w) (F_Recipe_init : FnR P w K mg base (L2.CX P w) 6 (ad 19) (spI K cl 1 i_Recipe)) (F_form_of : FnD P w K mg base cl 4 (ad 42) m_form_of) : FnD P w K mg base cl 8 (ad 27) m_Recipe_add :=
  fnD_of0 T.f_Recipe_add sc_Recipe_add (fun _ _ _ _ _ _ us hl => match us, hl with | [_, _], _ => rfl) (fun cdv A outer s H E c hc hr => by
    subst hc
    exact dss_one (ds_ret (DE.w (de_call (cd_make (C := 0) (kc := 1) T.M_Recipe F_Recipe_init (hr.mono (by decide)) takes_b) T.kC_Recipe T.gC_Recipe (da_cons (de_tup (da_cons (de_str) (da_cons (de_fld (k := 1) (DE.w (de_var 0)) T.C_Recipe T.na_Recipe_form) (da_cons (de_call (caD_of F_form_of (hr.mono (by decide)) takes_b) T.k_form_of T.g_form_of (da_cons (de_var 1) (da_nil))) (da_nil))))) (da_nil))))))
theorem ok_in_order (T : Tx P K mg cl ad fd mc w) : FnD P w K mg base cl 2 (ad 5) m_in_order :=
  fnD_of0 T.f_in_order sc_in_order (fun _ _ _ _ _ _ us hl => match us, hl with | [_], _ => rfl) (fun cdv A outer s H E c hc hr => by
    subst hc
    exact dss_one (ds_ret (DE.w (de_callT ca_tup (dw_cons (DE.w (de_lc (own := [("name", 1)]) (T := [1]) (tlc_any (vs := [1]) (by decide)) rfl sc_in_order.nd (pi_or (pi_list (de_glob (v := .ref (ad 82)) T.c_NAMES.1 rfl (tupK_rep (xs := [w_f0, w_f1, w_f2, w_c0, w_c1, w_p0, w_p1]) T.c_NAMES.2))) (pi_tup (de_glob (v := .ref (ad 82)) T.c_NAMES.1 rfl (tupK_rep (xs := [w_f0, w_f1, w_f2, w_c0, w_c1, w_p0, w_p1]) T.c_NAMES.2)))) (blkOk_by (N := ["names", "name"]) (sc := defScope s_in_order) (by decide +kernel)) (fun _ _ _ _ _ => dg_name 1 sc_in_order.nd) (fun _ _ _ _ _ => dts_one (dt_cmp (ow_in) (DE.w (de_var 1)) (DE.w (de_var 0)))) (fun _ _ _ _ _ => de_var 1))) (dw_nil)) T.b_tuple boot_tuple))))
theorem ok_is_name (T : Tx P K mg cl ad fd mc w) : FnD P w K mg base cl 2 (ad 4) m_is_name :=
  fnD_of0 T.f_is_name sc_is_name (fun _ _ _ _ _ _ us hl => match us, hl with | [_], _ => rfl) (fun cdv A outer s H E c hc hr => by
    subst hc
    exact dss_one (ds_ret (DE.w (de_and (de_isi (g := isiT_str) (DE.w (de_var 0)) (pe_bltn (v := .ty "str") rfl T.b_str boot_str rfl) (.ty "str") (isiT_str_ok) (by intro k r h; cases h) T.b_isinstance) (de_one (de_cmp (ow_in) (DE.w (de_var 0)) (DE.w (de_glob (v := .ref (ad 82)) T.c_NAMES.1 rfl (tupK_rep (xs := [w_f0, w_f1, w_f2, w_c0, w_c1, w_p0, w_p1]) T.c_NAMES.2)))))))))
theorem ok_Key_init (T : Tx P K mg cl ad fd mc w) (F_in_order : FnD P w K mg base cl 2 (ad 5) m_in_order) (F_is_name : FnD P w K mg base cl 2 (ad 4) m_is_name) : FnR P w K mg base (L2.CX P w) 3 (ad 7) (spI K cl 0 i_Key) := by
  have body : ∀ (cdv : Value) (A : Around) (outer : List PySem.Env) (s : Shared) (H : Hp) (E : XK) (c : Cc), c.cl = cl → Room 2 (A.deeper (envOfC "Key.__init__" (defScope s_Key_init) s.heap.objs.size (ad 7) cdv)) → DSs (Xb P w K mg base ["self", "names", "name"] "Key.__init__" s_Key_init (ad 7) cdv A outer s H E) c (Wb E) (defBody s_Key_init) b_Key_init := (fun cdv A outer s H E c hc hr => by
    subst hc
    exact dss_cons (ds_if (dt_pt (dt_or (dt_not (dt_val (de_isiT (g := isiT_lt) (cvs := [.ty "list", .ty "tuple"]) (us := [.type "list", .type "tuple"]) (DE.w (de_var 1)) (pa_cons (pe_bltn (v := .ty "list") rfl T.b_list boot_list rfl) (pa_cons (pe_bltn (v := .ty "tuple") rfl T.b_tuple boot_tuple rfl) pa_nil)) (fun _ _ _ q => q) (by decide) (.cons (.ty "list") (.cons (.ty "tuple") .nil)) isiT_lt_ok (by intro k r h; cases h) T.b_isinstance))) (dt_or1 (dt_not (dt_val (de_callB (ca_all rfl) (dw_cons (DE.w (de_lc (own := [("name", 2)]) (T := [2]) (tlc_any (vs := [2]) (by decide)) rfl sc_Key_init.nd (pi_or (pi_list (de_var 1)) (pi_tup (de_var 1))) (blkOk_by (N := ["self", "names", "name"]) (sc := defScope s_Key_init) (by decide +kernel)) (fun _ _ _ _ _ => dg_name 2 sc_Key_init.nd) (fun _ _ _ _ _ => dts_nil) (fun _ _ _ _ _ => de_call (caD_of F_is_name (hr.mono (by decide)) takes0) T.k_is_name T.g_is_name (da_cons (de_var 2) (da_nil))))) (dw_nil)) T.b_all (by decide +kernel))))))) (dss_one (ds_raise (k := 0) T.e_BadName T.x_BadName T.g_BadName rfl takes_b)) (dss_nil)) (dss_one (ds_setF 0 0 (de_call (caD_of F_in_order (hr.mono (by decide)) takes_b) T.k_in_order T.g_in_order (da_cons (de_var 1) (da_nil))) T.C_Key T.na_Key_held)))
  obtain ⟨ds0, v0, bn0⟩ := T.f_Key_init.binds1 (ps := ["self", "names"]) 2 1 (by intro h; cases h) rfl (fun _ _ _ _ _ _ _ us its hu hi => match us, hu, its, hi with | [_, _], _, [_], _ => ⟨_, rfl, rfl⟩)
  obtain ⟨ds1, v1, bn1⟩ := T.f_Key_init.binds1 (ps := ["self", "names"]) 1 0 (by intro h; cases h) rfl (fun _ _ _ _ _ _ _ us its hu hi => match us, hu, its, hi with | [_], _, [_], _ => ⟨_, rfl, rfl⟩)
  exact fnI_two (fnI_of (kc := 0) (dd := []) T.f_Key_init sc_Key_init bn0 v0 (fun _ => reps_nil) body) (fnI_of (kc := 0) (dd := [.tup []]) T.f_Key_init sc_Key_init bn1 v1 (fun H => reps_cons (rep_tup (Or.inr T.df_Key_init) reps_nil) reps_nil) body)
theorem ok_Key_len (T : Tx P K mg cl ad fd mc w) : FnD P w K mg base cl 2 (ad 17) m_Key_len :=
  fnD_of0 T.f_Key_len sc_Key_len (fun _ _ _ _ _ _ us hl => match us, hl with | [_], _ => rfl) (fun cdv A outer s H E c hc hr => by
    subst hc
    exact dss_one (ds_ret (DE.w (de_callB ca_len (dw_cons (DE.w (de_fld (k := 0) (DE.w (de_var 0)) T.C_Key T.na_Key_held)) (dw_nil)) T.b_len boot_len))))
theorem ok_Plan_places (T : Tx P K mg cl ad fd mc w) : FnD P w K mg base cl 2 (ad 49) m_Plan_places :=
  fnD_of0 T.f_Plan_places sc_Plan_places (fun _ _ _ _ _ _ us hl => match us, hl with | [_], _ => rfl) (fun cdv A outer s H E c hc hr => by
    subst hc
    exact dss_one (ds_ret (DE.w (de_ix (DE.w (de_fld (k := 2) (DE.w (de_var 0)) T.C_Plan T.na_Plan_held)) (de_int)))))
theorem ok_Plan_len (T : Tx P K mg cl ad fd mc w) (F_Plan_places : FnD P w K mg base cl 2 (ad 49) m_Plan_places) : FnD P w K mg base cl 4 (ad 57) m_Plan_len :=
  fnD_of0 T.f_Plan_len sc_Plan_len (fun _ _ _ _ _ _ us hl => match us, hl with | [_], _ => rfl) (fun cdv A outer s H E c hc hr => by
    subst hc
    exact dss_one (ds_ret (DE.w (de_callB ca_len (dw_cons (DE.w (de_prop (kc := 2) (de_var 0) T.C_Plan T.pr_Plan_places F_Plan_places (hr.mono (by decide)))) (dw_nil)) T.b_len boot_len))))
theorem ok_Recipe_len (T : Tx P K mg cl ad fd mc w) : FnD P w K mg base cl 2 (ad 35) m_Recipe_len :=
  fnD_of0 T.f_Recipe_len sc_Recipe_len (fun _ _ _ _ _ _ us hl => match us, hl with | [_], _ => rfl) (fun cdv A outer s H E c hc hr => by
    subst hc
    exact dss_one (ds_ret (DE.w (de_callB ca_len (dw_cons (DE.w (de_fld (k := 1) (DE.w (de_var 0)) T.C_Recipe T.na_Recipe_leaves)) (dw_nil)) T.b_len boot_len))))
theorem ok_is_ascending (T : Tx P K mg cl ad fd mc w) (F_is_whole : FnD P w K mg base cl 3 (ad 3) m_is_whole) : FnD P w K mg base cl 4 (ad 64) m_is_ascending :=
  fnD_of0 T.f_is_ascending sc_is_ascending (fun _ _ _ _ _ _ us hl => match us, hl with | [_, _], _ => rfl) (fun cdv A outer s H E c hc hr => by
    subst hc
    exact dss_cons (ds_if (dt_pt (dt_or (dt_not (dt_val (de_isi (g := isiT_tuple) (DE.w (de_var 0)) (pe_bltn (v := .ty "tuple") rfl T.b_tuple boot_tuple rfl) (.ty "tuple") (isiT_tuple_ok) (by intro k r h; cases h) T.b_isinstance))) (dt_or1 (dt_not (dt_val (de_callB (ca_all rfl) (dw_cons (DE.w (de_lc (own := [("place", 3)]) (T := [3]) (tlc_any (vs := [3]) (by decide)) rfl sc_is_ascending.nd (pi_or (pi_list (de_var 0)) (pi_tup (de_var 0))) (blkOk_by (N := ["dropped", "many", "at", "place"]) (sc := defScope s_is_ascending) (by decide +kernel)) (fun _ _ _ _ _ => dg_name 3 sc_is_ascending.nd) (fun _ _ _ _ _ => dts_nil) (fun _ _ _ _ _ => de_call (caD_of F_is_whole (hr.mono (by decide)) takes0) T.k_is_whole T.g_is_whole (da_cons (de_var 3) (da_cons (de_int) (da_cons (de_bin ow_subI (DE.w (de_var 1)) (DE.w (de_int))) (da_nil))))))) (dw_nil)) T.b_all (by decide +kernel))))))) (dss_one (ds_ret (DE.w (de_bl)))) (dss_nil)) (dss_one (ds_ret (DE.w (de_callB (ca_all rfl) (dw_cons (DE.w (de_lc (own := [("at", 2)]) (T := [2]) (tlc_r1 (vs := [2]) (by decide)) rfl sc_is_ascending.nd (pi_range1 rfl T.b_range (da_cons (de_bin ow_subI (DE.w (de_callB ca_len (dw_cons (DE.w (de_var 0)) (dw_nil)) T.b_len boot_len)) (DE.w (de_int))) (da_nil))) (blkOk_by (N := ["dropped", "many", "at", "place"]) (sc := defScope s_is_ascending) (by decide +kernel)) (fun _ _ _ _ _ => dg_name 2 sc_is_ascending.nd) (fun _ _ _ _ _ => dts_nil) (fun _ _ _ _ _ => de_cmp (ow_ltI) (DE.w (de_ix (DE.w (de_var 0)) (de_var 2))) (DE.w (de_ix (DE.w (de_var 0)) (de_bin ow_addW (DE.w (de_var 2)) (DE.w (de_int)))))))) (dw_nil)) T.b_all (by decide +kernel))))))
theorem ok_drops_fit (T : Tx P K mg cl ad fd mc w) (F_is_ascending : FnD P w K mg base cl 4 (ad 64) m_is_ascending) : FnD P w K mg base cl 5 (ad 63) m_drops_fit :=
  fnD_of0 T.f_drops_fit sc_drops_fit (fun _ _ _ _ _ _ us hl => match us, hl with | [_, _, _], _ => rfl) (fun cdv A outer s H E c hc hr => by
    subst hc
    exact dss_cons (ds_if (dt_pt (dt_or (dt_not (dt_val (de_isi (g := isiT_tuple) (DE.w (de_var 0)) (pe_bltn (v := .ty "tuple") rfl T.b_tuple boot_tuple rfl) (.ty "tuple") (isiT_tuple_ok) (by intro k r h; cases h) T.b_isinstance))) (dt_or1 (dt_cmp (ow_ne hr.units) (DE.w (de_callB ca_len (dw_cons (DE.w (de_var 0)) (dw_nil)) T.b_len boot_len)) (DE.w (de_var 1)))))) (dss_one (ds_ret (DE.w (de_bl)))) (dss_nil)) (dss_one (ds_ret (DE.w (de_callB (ca_all rfl) (dw_cons (DE.w (de_lc (own := [("dropped", 3)]) (T := [3]) (tlc_any (vs := [3]) (by decide)) rfl sc_drops_fit.nd (pi_or (pi_list (de_var 0)) (pi_tup (de_var 0))) (blkOk_by (N := ["drops", "cells", "many", "dropped"]) (sc := defScope s_drops_fit) (by decide +kernel)) (fun _ _ _ _ _ => dg_name 3 sc_drops_fit.nd) (fun _ _ _ _ _ => dts_nil) (fun _ _ _ _ _ => de_call (caD_of F_is_ascending (hr.mono (by decide)) takes0) T.k_is_ascending T.g_is_ascending (da_cons (de_var 3) (da_cons (de_var 2) (da_nil)))))) (dw_nil)) T.b_all (by decide +kernel))))))
theorem ok_number_rows (T : Tx P K mg cl ad fd mc w) : FnD P w K mg base cl 2 (ad 65) m_number_rows :=
  fnD_of0 T.f_number_rows sc_number_rows (fun _ _ _ _ _ _ us hl => match us, hl with | [_, _], _ => rfl) (fun cdv A outer s H E c hc hr => by
    subst hc
    exact dss_cons (ds_asg (de_lst (da_cons (de_tup (da_nil)) (da_nil))) (dg_name 2 sc_number_rows.nd)) (dss_cons (ds_forR1 passes_b rfl T.b_range (da_cons (de_var 1) (da_nil)) (dg_name 3 sc_number_rows.nd) (dss_one (ds_setLc2 (own := [("row", 4), ("n", 5)]) (T := [4]) (T1 := [5]) (vs1 := [5]) (tlc2_list (vs := [4, 5]) (vs1 := [5]) (by decide) (by decide)) rfl sc_number_rows.nd (pi_list (de_var 2)) (blkOk_by (N := ["base", "many", "rows", "at", "row", "n"]) (sc := defScope s_number_rows) (by decide +kernel)) (by decide) (fun _ _ _ _ _ => dg_name 4 sc_number_rows.nd) (fun _ _ _ _ _ => dts_nil) (fun _ _ _ _ _ => pi_range1 rfl T.b_range (da_cons (de_var 0) (da_nil))) (fun _ _ _ _ _ => dg_name 5 sc_number_rows.nd) (fun _ _ _ _ _ => dts_nil) (fun _ _ _ _ _ => de_tup (da_star (de_var 4) (da_cons (de_var 5) (da_nil))))))) (dss_one (ds_ret (DE.w (de_var 2))))))
theorem ok_Key_le (T : Tx P K mg cl ad fd mc w) : FnD P w K mg base cl 2 (ad 14) m_Key_le :=
  fnD_of0 T.f_Key_le sc_Key_le (fun _ _ _ _ _ _ us hl => match us, hl with | [_, _], _ => rfl) (fun cdv A outer s H E c hc hr => by
    subst hc
    exact dss_cons (ds_if (dt_not (dt_val (de_isi (g := isiCX 0 3) (DE.w (de_var 1)) (pe_glob (v := .ref (c.cl.at_ 0)) rfl T.gC_Key rfl) (.own _) (isiCX_ok T.kc_Key) (isiCX_in T.ia_all) T.b_isinstance))) (dss_one (ds_ret (DE.w (de_bad)))) (dss_nil)) (dss_one (ds_ret (DE.w (de_callB (ca_all rfl) (dw_cons (DE.w (de_lc (own := [("name", 2)]) (T := [2]) (tlc_any (vs := [2]) (by decide)) rfl sc_Key_le.nd (pi_or (pi_list (de_fld (k := 0) (DE.w (de_var 0)) T.C_Key T.na_Key_held)) (pi_tup (de_fld (k := 0) (DE.w (de_var 0)) T.C_Key T.na_Key_held))) (blkOk_by (N := ["self", "other", "name"]) (sc := defScope s_Key_le) (by decide +kernel)) (fun _ _ _ _ _ => dg_name 2 sc_Key_le.nd) (fun _ _ _ _ _ => dts_nil) (fun _ _ _ _ _ => de_cmp (ow_in) (DE.w (de_var 2)) (DE.w (de_fld (k := 0) (DE.w (de_var 1)) T.C_Key T.na_Key_held))))) (dw_nil)) T.b_all (by decide +kernel))))))
theorem ok_Key_names (T : Tx P K mg cl ad fd mc w) : FnD P w K mg base cl 2 (ad 9) m_Key_names :=
  fnD_of0 T.f_Key_names sc_Key_names (fun _ _ _ _ _ _ us hl => match us, hl with | [_], _ => rfl) (fun cdv A outer s H E c hc hr => by
    subst hc
    exact dss_one (ds_ret (DE.w (de_fld (k := 0) (DE.w (de_var 0)) T.C_Key T.na_Key_held))))
theorem ok_name_of (T : Tx P K mg cl ad fd mc w) : FnD P w K mg base cl 2 (ad 41) m_name_of :=
  fnD_of0 T.f_name_of sc_name_of (fun _ _ _ _ _ _ us hl => match us, hl with | [_], _ => rfl) (fun cdv A outer s H E c hc hr => by
    subst hc
    exact dss_one (ds_ret (DE.w (de_joined2 (de_fmt (de_topAt (topD_pk T.c_LETTERS) (de_ix (DE.w (de_var 0)) (de_int)))) (de_fmt (de_ix (DE.w (de_var 0)) (de_int)))))))
theorem ok_Recipe_names (T : Tx P K mg cl ad fd mc w) (F_in_order : FnD P w K mg base cl 2 (ad 5) m_in_order) (F_name_of : FnD P w K mg base cl 2 (ad 41) m_name_of) : FnD P w K mg base cl 3 (ad 24) m_Recipe_names :=
  fnD_of0 T.f_Recipe_names sc_Recipe_names (fun _ _ _ _ _ _ us hl => match us, hl with | [_], _ => rfl) (fun cdv A outer s H E c hc hr => by
    subst hc
    exact dss_one (ds_ret (DE.w (de_call (caD_of F_in_order (hr.mono (by decide)) takes_b) T.k_in_order T.g_in_order (da_cons (de_lc (own := [("leaf", 1)]) (T := [1]) (tlc_any (vs := [1]) (by decide)) rfl sc_Recipe_names.nd (pi_or (pi_list (de_fld (k := 1) (DE.w (de_var 0)) T.C_Recipe T.na_Recipe_leaves)) (pi_tup (de_fld (k := 1) (DE.w (de_var 0)) T.C_Recipe T.na_Recipe_leaves))) (blkOk_by (N := ["self", "leaf"]) (sc := defScope s_Recipe_names) (by decide +kernel)) (fun _ _ _ _ _ => dg_name 1 sc_Recipe_names.nd) (fun _ _ _ _ _ => dts_one (dt_topIn (topD_pk T.c_LETTERS) (de_ix (DE.w (de_var 1)) (de_int)))) (fun _ _ _ _ _ => de_call (caD_of F_name_of (hr.mono (by decide)) takes0) T.k_name_of T.g_name_of (da_cons (de_var 1) (da_nil)))) (da_nil))))))
theorem ok_recipe_fits (T : Tx P K mg cl ad fd mc w) (F_Key_init : FnR P w K mg base (L2.CX P w) 3 (ad 7) (spI K cl 0 i_Key)) (F_Key_le : FnD P w K mg base cl 2 (ad 14) m_Key_le) (F_Key_names : FnD P w K mg base cl 2 (ad 9) m_Key_names) (F_Recipe_names : FnD P w K mg base cl 3 (ad 24) m_Recipe_names) : FnD P w K mg base cl 5 (ad 61) m_recipe_fits :=
  fnD_of0 T.f_recipe_fits sc_recipe_fits (fun _ _ _ _ _ _ us hl => match us, hl with | [_, _, _], _ => rfl) (fun cdv A outer s H E c hc hr => by
    subst hc
    exact dss_cons (ds_if (dt_not (dt_val (de_isi (g := isiCX 1 3) (DE.w (de_var 0)) (pe_glob (v := .ref (c.cl.at_ 1)) rfl T.gC_Recipe rfl) (.own _) (isiCX_ok T.kc_Recipe) (isiCX_in T.ia_all) T.b_isinstance))) (dss_one (ds_ret (DE.w (de_bl)))) (dss_nil)) (dss_cons (ds_setLc (own := [("leaf", 4)]) (T := [4]) (tlc_any (vs := [4]) (by decide)) rfl sc_recipe_fits.nd (pi_or (pi_list (de_fld (k := 1) (DE.w (de_var 0)) T.C_Recipe T.na_Recipe_leaves)) (pi_tup (de_fld (k := 1) (DE.w (de_var 0)) T.C_Recipe T.na_Recipe_leaves))) (blkOk_by (N := ["recipe", "base", "usable", "numbers", "leaf", "n"]) (sc := defScope s_recipe_fits) (by decide +kernel)) (fun _ _ _ _ _ => dg_name 4 sc_recipe_fits.nd) (fun _ _ _ _ _ => dts_one (dt_cmp (ow_eq hr.units) (DE.w (de_ix (DE.w (de_var 4)) (de_int))) (DE.w (de_str)))) (fun _ _ _ _ _ => de_ix (DE.w (de_var 4)) (de_int))) (dss_one (ds_ret (DE.w (de_and (de_cmpS (OpS.alt (os_cmp (kc := 0) rfl (caD_of F_Key_le (hr.mono (by decide)) takes_b) hr.units0 T.d_Key_le T.i_Key_le) (OpW.s (ow_leI))) (de_call (cd_make (C := 0) (kc := 0) T.M_Key F_Key_init (hr.mono (by decide)) takes_b) T.kC_Key T.gC_Key (da_cons (de_alt (de_prop (kc := 0) (de_var 0) T.C_Key T.pr_Key_names F_Key_names (hr.mono (by decide))) (de_prop (kc := 1) (de_var 0) T.C_Recipe T.pr_Recipe_names F_Recipe_names (hr.mono (by decide)))) (da_nil))) (de_var 2)) (de_one (de_callB (ca_all rfl) (dw_cons (DE.w (de_lc (own := [("n", 5)]) (T := [5]) (tlc_any (vs := [5]) (by decide)) rfl sc_recipe_fits.nd (pi_or (pi_list (de_var 3)) (pi_tup (de_var 3))) (blkOk_by (N := ["recipe", "base", "usable", "numbers", "leaf", "n"]) (sc := defScope s_recipe_fits) (by decide +kernel)) (fun _ _ _ _ _ => dg_name 5 sc_recipe_fits.nd) (fun _ _ _ _ _ => dts_nil) (fun _ _ _ _ _ => de_cmp (ow_ltI) (DE.w (de_var 5)) (DE.w (de_var 1))))) (dw_nil)) T.b_all (by decide +kernel)))))))))
theorem ok_rule_fits (T : Tx P K mg cl ad fd mc w) (F_Key_le : FnD P w K mg base cl 2 (ad 14) m_Key_le) : FnD P w K mg base cl 3 (ad 62) m_rule_fits :=
  fnD_of0 T.f_rule_fits sc_rule_fits (fun _ _ _ _ _ _ us hl => match us, hl with | [_, _], _ => rfl) (fun cdv A outer s H E c hc hr => by
    subst hc
    exact dss_cons (ds_if (dt_val (de_isi (g := isiCX 0 3) (DE.w (de_var 0)) (pe_glob (v := .ref (c.cl.at_ 0)) rfl T.gC_Key rfl) (.own _) (isiCX_ok T.kc_Key) (isiCX_in T.ia_all) T.b_isinstance)) (dss_one (ds_ret (DE.w (de_cmpS (OpS.alt (os_cmp (kc := 0) rfl (caD_of F_Key_le (hr.mono (by decide)) takes_b) hr.units0 T.d_Key_le T.i_Key_le) (OpW.s (ow_leI))) (de_var 0) (de_var 1))))) (dss_nil)) (dss_one (ds_ret (DE.w (de_or (de_cmp (ow_isN) (DE.w (de_var 0)) (DE.w (de_non))) (de_one (de_and (de_isi (g := isiTX "str" 3) (DE.w (de_var 0)) (pe_bltn (v := .ty "str") rfl T.b_str boot_str rfl) (.ty "str") (isiTX_ok T.kt_str isiT_str_ok) (isiTX_in T.ia_all) T.b_isinstance) (de_one (de_cmp (ow_in) (DE.w (de_var 0)) (DE.w (de_glob (v := .ref (ad 99)) T.c_WORDS.1 rfl (tupK_rep (xs := [w_reads, w_shown]) T.c_WORDS.2))))))))))))
theorem ok_pair_fits (T : Tx P K mg cl ad fd mc w) (F_Key_len : FnD P w K mg base cl 2 (ad 17) m_Key_len) (F_Plan_len : FnD P w K mg base cl 4 (ad 57) m_Plan_len) (F_Recipe_len : FnD P w K mg base cl 2 (ad 35) m_Recipe_len) (F_recipe_fits : FnD P w K mg base cl 5 (ad 61) m_recipe_fits) (F_rule_fits : FnD P w K mg base cl 3 (ad 62) m_rule_fits) : FnD P w K mg base cl 6 (ad 60) m_pair_fits :=
  fnD_of0 T.f_pair_fits sc_pair_fits (fun _ _ _ _ _ _ us hl => match us, hl with | [_, _, _], _ => rfl) (fun cdv A outer s H E c hc hr => by
    subst hc
    exact dss_cons (ds_if (dt_pt (dt_or (dt_not (dt_val (de_isi (g := isiTX "tuple" 3) (DE.w (de_var 0)) (pe_bltn (v := .ty "tuple") rfl T.b_tuple boot_tuple rfl) (.ty "tuple") (isiTX_ok T.kt_tuple isiT_tuple_ok) (isiTX_in T.ia_all) T.b_isinstance))) (dt_or1 (dt_cmp (ow_ne hr.units) (DE.w (de_callBS (CaD.alt (cd_len (kc := 0) F_Key_len (hr.mono (by decide)) takes_b T.d_Key_len T.i_Key_len) (CaD.alt (cd_len (kc := 1) F_Recipe_len (hr.mono (by decide)) takes_b T.d_Recipe_len T.i_Recipe_len) (CaD.alt (cd_len (kc := 2) F_Plan_len (hr.mono (by decide)) takes_b T.d_Plan_len T.i_Plan_len) (CaW.d ca_len)))) (da_cons (de_var 0) (da_nil)) T.b_len boot_len)) (DE.w (de_int)))))) (dss_one (ds_ret (DE.w (de_bl)))) (dss_nil)) (dss_one (ds_ret (DE.w (de_and (de_call (caD_of F_recipe_fits (hr.mono (by decide)) takes_b) T.k_recipe_fits T.g_recipe_fits (da_cons (de_ix (DE.w (de_var 0)) (de_int)) (da_cons (de_var 1) (da_cons (de_var 2) (da_nil))))) (de_one (de_call (caD_of F_rule_fits (hr.mono (by decide)) takes_b) T.k_rule_fits T.g_rule_fits (da_cons (de_ix (DE.w (de_var 0)) (de_int)) (da_cons (de_var 2) (da_nil))))))))))
theorem ok_usable_names (T : Tx P K mg cl ad fd mc w) : FnD P w K mg base cl 2 (ad 6) m_usable_names :=
  fnD_of0 T.f_usable_names sc_usable_names (fun _ _ _ _ _ _ us hl => match us, hl with | [_, _, _], _ => rfl) (fun cdv A outer s H E c hc hr => by
    subst hc
    exact dss_one (ds_ret (DE.w (de_bin ow_addW (DE.w (de_bin ow_addW (DE.w (de_sl (DE.w (de_glob (v := .ref (ad 83)) T.c_FIELD_NAMES.1 rfl (tupK_rep (xs := [w_f0, w_f1, w_f2]) T.c_FIELD_NAMES.2))) (do_no) (do_some (de_var 0)))) (DE.w (de_sl (DE.w (de_glob (v := .ref (ad 84)) T.c_CELL_NAMES.1 rfl (tupK_rep (xs := [w_c0, w_c1]) T.c_CELL_NAMES.2))) (do_no) (do_some (de_var 1)))))) (DE.w (de_sl (DE.w (de_glob (v := .ref (ad 85)) T.c_PLACE_NAMES.1 rfl (tupK_rep (xs := [w_p0, w_p1]) T.c_PLACE_NAMES.2))) (do_no) (do_some (de_var 2))))))))
theorem ok_wrong_part (T : Tx P K mg cl ad fd mc w) (F_Key_init : FnR P w K mg base (L2.CX P w) 3 (ad 7) (spI K cl 0 i_Key)) (F_Key_len : FnD P w K mg base cl 2 (ad 17) m_Key_len) (F_Plan_len : FnD P w K mg base cl 4 (ad 57) m_Plan_len) (F_Recipe_len : FnD P w K mg base cl 2 (ad 35) m_Recipe_len) (F_drops_fit : FnD P w K mg base cl 5 (ad 63) m_drops_fit) (F_is_whole : FnD P w K mg base cl 3 (ad 3) m_is_whole) (F_number_rows : FnD P w K mg base cl 2 (ad 65) m_number_rows) (F_pair_fits : FnD P w K mg base cl 6 (ad 60) m_pair_fits) (F_usable_names : FnD P w K mg base cl 2 (ad 6) m_usable_names) : FnD P w K mg base cl 7 (ad 59) m_wrong_part :=
  fnD_of0 T.f_wrong_part sc_wrong_part (fun _ _ _ _ _ _ us hl => match us, hl with | [_, _, _, _, _], _ => rfl) (fun cdv A outer s H E c hc hr => by
    subst hc
    exact dss_cons (ds_if (dt_not (dt_val (de_call (caD_of F_is_whole (hr.mono (by decide)) takes_b) T.k_is_whole T.g_is_whole (da_cons (de_var 0) (da_cons (de_int) (da_cons (de_int) (da_nil))))))) (dss_one (ds_ret (DE.w (de_str)))) (dss_nil)) (dss_cons (ds_if (dt_not (dt_val (de_call (caD_of F_is_whole (hr.mono (by decide)) takes_b) T.k_is_whole T.g_is_whole (da_cons (de_var 1) (da_cons (de_int) (da_cons (de_int) (da_nil))))))) (dss_one (ds_ret (DE.w (de_str)))) (dss_nil)) (dss_cons (ds_if (dt_pt (dt_or (dt_not (dt_val (de_call (caD_of F_is_whole (hr.mono (by decide)) takes_b) T.k_is_whole T.g_is_whole (da_cons (de_var 2) (da_cons (de_int) (da_cons (de_int) (da_nil))))))) (dt_or1 (dt_cmp (ow_gtI) (DE.w (de_callBS (CaD.alt (cd_len (kc := 0) F_Key_len (hr.mono (by decide)) takes_b T.d_Key_len T.i_Key_len) (CaD.alt (cd_len (kc := 1) F_Recipe_len (hr.mono (by decide)) takes_b T.d_Recipe_len T.i_Recipe_len) (CaD.alt (cd_len (kc := 2) F_Plan_len (hr.mono (by decide)) takes_b T.d_Plan_len T.i_Plan_len) (CaW.d ca_len)))) (da_cons (de_call (caD_of F_number_rows (hr.mono (by decide)) takes_b) T.k_number_rows T.g_number_rows (da_cons (de_var 0) (da_cons (de_bin ow_addW (DE.w (de_var 1)) (DE.w (de_var 2))) (da_nil)))) (da_nil)) T.b_len boot_len)) (DE.w (de_globI T.c_MOST_SITUATIONS)))))) (dss_one (ds_ret (DE.w (de_str)))) (dss_nil)) (dss_cons (ds_if (dt_pt (dt_or (dt_not (dt_val (de_isi (g := isiT_tuple) (DE.w (de_var 3)) (pe_bltn (v := .ty "tuple") rfl T.b_tuple boot_tuple rfl) (.ty "tuple") (isiT_tuple_ok) (by intro k r h; cases h) T.b_isinstance))) (dt_or1 (dt_not (dt_chain or_le or_le (de_int) (de_callB ca_len (dw_cons (DE.w (de_var 3)) (dw_nil)) T.b_len boot_len) (de_int)))))) (dss_one (ds_ret (DE.w (de_str)))) (dss_nil)) (dss_cons (ds_forEnT passes_b rfl T.b_enumerate (da_cons (de_var 3) (da_nil)) (dg_tup rfl (dgs_cons (dg_name 5 sc_wrong_part.nd) (dgs_cons (dg_name 6 sc_wrong_part.nd) (dgs_nil)))) (dss_one (ds_if (dt_not (dt_val (de_call (caD_of F_pair_fits (hr.mono (by decide)) takes_b) T.k_pair_fits T.g_pair_fits (da_cons (de_var 6) (da_cons (de_var 0) (da_cons (de_call (cd_make (C := 0) (kc := 0) T.M_Key F_Key_init (hr.mono (by decide)) takes_b) T.kC_Key T.gC_Key (da_cons (de_call (caD_of F_usable_names (hr.mono (by decide)) takes_b) T.k_usable_names T.g_usable_names (da_cons (de_var 1) (da_cons (de_var 2) (da_cons (de_var 5) (da_nil))))) (da_nil))) (da_nil))))))) (dss_one (ds_ret (DE.w (de_str)))) (dss_nil)))) (dss_cons (ds_if (dt_pt (dt_and (dt_cmp (ow_notN) (DE.w (de_var 4)) (DE.w (de_non))) (dt_and1 (dt_not (dt_val (de_call (caD_of F_drops_fit (hr.mono (by decide)) takes_b) T.k_drops_fit T.g_drops_fit (da_cons (de_var 4) (da_cons (de_var 2) (da_cons (de_callB ca_len (dw_cons (DE.w (de_var 3)) (dw_nil)) T.b_len boot_len) (da_nil)))))))))) (dss_one (ds_ret (DE.w (de_str)))) (dss_nil)) (dss_one (ds_ret (DE.w (de_non))))))))))
theorem ok1_Plan_init (T : Tx P K mg cl ad fd mc w) (F_wrong_part : FnD P w K mg base cl 7 (ad 59) m_wrong_part) (FX_BadPlan : FnOk P w K mg base (L2.CX P w) 1 (ad 1) (fd 1) ["self", "part"] (spX (ad 93) "part" OkF)) : FnOk P w K mg base (L2.CX P w) 8 (ad 45) (fd 45) ["self", "base", "fields", "cells", "places", "drops"] (spI K cl 2 i1_Plan) := by
  have body : ∀ (cdv : Value) (A : Around) (outer : List PySem.Env) (s : Shared) (H : Hp) (E : XK) (c : Cc), c.cl = cl → Room 7 (A.deeper (envOfC "Plan.__init__" (defScope s_Plan_init) s.heap.objs.size (ad 45) cdv)) → DSs (Xb P w K mg base ["self", "base", "fields", "cells", "places", "drops", "part"] "Plan.__init__" s_Plan_init (ad 45) cdv A outer s H E) c (Wb E) (defBody s_Plan_init) b_Plan_init := (fun cdv A outer s H E c hc hr => by
    subst hc
    exact dss_cons (ds_asg (de_call (caD_of F_wrong_part (hr.mono (by decide)) takes_b) T.k_wrong_part T.g_wrong_part (da_cons (de_var 1) (da_cons (de_var 2) (da_cons (de_var 3) (da_cons (de_var 4) (da_cons (de_var 5) (da_nil))))))) (dg_name 6 sc_Plan_init.nd)) (dss_cons (ds_if (dt_cmp (ow_notN) (DE.w (de_var 6)) (DE.w (de_non))) (dss_one (ds_raiseX (k := 3) (j := 1) T.su_BadPlan.oex T.su_BadPlan.ini T.su_BadPlan.tyf FX_BadPlan (T.su_BadPlan.binds (fun _ _ _ _ _ _ _ us hl => match us, hl with | [_, _], _ => rfl)) (hr.mono (by decide)) (de_var 6) T.x_BadPlan T.xN_BadPlan T.g_BadPlan rfl takes_b)) (dss_nil)) (dss_cons (ds_if (dt_cmp (ow_isN) (DE.w (de_var 5)) (DE.w (de_non))) (dss_one (ds_asg (de_bin ow_repT (DE.w (de_tup (da_cons (de_tup (da_nil)) (da_nil)))) (DE.w (de_var 3))) (dg_name 5 sc_Plan_init.nd))) (dss_nil)) (dss_one (ds_setF 0 2 (de_tup (da_cons (de_var 1) (da_cons (de_var 2) (da_cons (de_var 3) (da_cons (de_var 4) (da_cons (de_var 5) (da_nil))))))) T.C_Plan T.na_Plan_held)))))
  exact fnI_ok (kc := 2) T.f_Plan_init sc_Plan_init body
theorem ok_Plan_init (T : Tx P K mg cl ad fd mc w) (F1 : FnOk P w K mg base (L2.CX P w) 8 (ad 45) (fd 45) ["self", "base", "fields", "cells", "places", "drops"] (spI K cl 2 i1_Plan)) : FnR P w K mg base (L2.CX P w) 8 (ad 45) (spI K cl 2 i_Plan) := by
  obtain ⟨ds0, v0, bn0⟩ := T.f_Plan_init.binds0 (ps := ["self", "base", "fields", "cells", "places", "drops"]) 5 (by intro h; cases h) rfl (fun _ _ _ _ _ _ us ks hl hk => match us, hl, ks, hk with | [_, _, _, _, _], _, [_], _ => ⟨_, _, _, _, _, _, rfl, rfl, rfl⟩)
  exact fnI_raw F1 bn0 v0 (fun H => reps_cons (by unfold Rep; rfl) reps_nil)
theorem kb_Plan_init (T : Tx P K mg cl ad fd mc w) : KBn K (fd 45) ["self", "base", "fields", "cells", "places", "drops"] 5 ["drops"] (fun us ws => us ++ ws) (fun vs zs => vs ++ zs) := by
  obtain ⟨_, h⟩ := T.f_Plan_init.kbinds0 (ps := ["self", "base", "fields", "cells", "places", "drops"]) 5 ["drops"] [] (fun us _ ws => us ++ ws) (by intro h; cases h) (by intro q h; cases h) (fun r1 _ r3 => r1.append r3) (fun _ _ _ _ _ _ us mv ws hl hm hk => match us, hl, mv, hm, ws, hk with | [_, _, _, _, _], _, [], _, [_], _ => rfl)
  exact h
theorem ok__law_made (T : Tx P K mg cl ad fd mc w) (F_Plan_init : FnR P w K mg base (L2.CX P w) 8 (ad 45) (spI K cl 2 i_Plan)) (F1_Plan_init : FnOk P w K mg base (L2.CX P w) 8 (ad 45) (fd 45) ["self", "base", "fields", "cells", "places", "drops"] (spI K cl 2 i1_Plan)) (KB_Plan_init : KBn K (fd 45) ["self", "base", "fields", "cells", "places", "drops"] 5 ["drops"] (fun us ws => us ++ ws) (fun vs zs => vs ++ zs)) : FnD P w K mg base cl 10 (ad 77) m__law_made :=
  fnD_of0 T.f__law_made sc__law_made (fun _ _ _ _ _ _ us hl => match us, hl with | [_, _, _, _, _, _], _ => rfl) (fun cdv A outer s H E c hc hr => by
    subst hc
    exact dss_one (ds_tryAs (ex := ex_BadPlan) (kx := 3) (i := 6) T.xf_BadPlan T.su_BadPlan.fno rfl rfl sc__law_made.nd rfl rfl ⟨rfl, by decide, .inl T.g_BadPlan⟩ takes_b T.xm_BadPlan T.x_BadPlan T.xN_BadPlan (fun W pn xe tk po => dss_cons (ds_if (dt_tru (DE.w (de_var 5))) (dss_one (ds_ret (DE.w (de_call (cd_make (C := 0) (kc := 2) T.M_Plan F_Plan_init (hr.mono (by decide)) tk) T.kC_Plan T.gC_Plan (da_cons (de_var 0) (da_cons (de_var 1) (da_cons (de_var 2) (da_cons (de_var 3) (da_nil))))))))) (dss_nil)) (dss_one (ds_ret (DE.w (de_makeK1 (kc := 2) (n := 4) T.M_Plan F1_Plan_init (hr.mono (by decide)) tk T.gC_Plan KB_Plan_init (da_cons (de_var 0) (da_cons (de_var 1) (da_cons (de_var 2) (da_cons (de_var 3) (da_nil))))) (de_var 4) rfl)))))))
theorem ok__law_drops_right (T : Tx P K mg cl ad fd mc w) (F_Key_eq : FnD P w K mg base cl 2 (ad 18) m_Key_eq) (F_Key_init : FnR P w K mg base (L2.CX P w) 3 (ad 7) (spI K cl 0 i_Key)) (F_Plan_eq : FnD P w K mg base cl 11 (ad 58) m_Plan_eq) (F_Plan_init : FnR P w K mg base (L2.CX P w) 8 (ad 45) (spI K cl 2 i_Plan)) (F_Recipe_eq : FnD P w K mg base cl 2 (ad 37) m_Recipe_eq) (F_Recipe_init : FnR P w K mg base (L2.CX P w) 6 (ad 19) (spI K cl 1 i_Recipe)) (F__law_made : FnD P w K mg base cl 10 (ad 77) m__law_made) (F1_Plan_init : FnOk P w K mg base (L2.CX P w) 8 (ad 45) (fd 45) ["self", "base", "fields", "cells", "places", "drops"] (spI K cl 2 i1_Plan)) (KB_Plan_init : KBn K (fd 45) ["self", "base", "fields", "cells", "places", "drops"] 5 ["drops"] (fun us ws => us ++ ws) (fun vs zs => vs ++ zs)) : FnD P w K mg base cl 13 (ad 80) m__law_drops_right :=
  fnD_of0 T.f__law_drops_right sc__law_drops_right (fun _ _ _ _ _ _ us hl => match us, hl with | [], _ => rfl) (fun cdv A outer s H E c hc hr => by
    subst hc
    exact dss_cons (ds_asg (de_tup (da_cons (de_tup (da_cons (de_tup (da_cons (de_str) (da_cons (de_int) (da_nil)))) (da_cons (de_non) (da_nil)))) (da_cons (de_tup (da_cons (de_tup (da_cons (de_str) (da_cons (de_int) (da_nil)))) (da_cons (de_non) (da_nil)))) (da_nil)))) (dg_name 0 sc__law_drops_right.nd)) (dss_cons (ds_asg (de_callT ca_tup (dw_cons (DE.w (de_lc (own := [("form", 4), ("rule", 5)]) (T := [4, 5]) (tlc_any (vs := [4, 5]) (by decide)) rfl sc__law_drops_right.nd (pi_or (pi_list (de_var 0)) (pi_tup (de_var 0))) (blkOk_by (N := ["two", "given", "one", "other", "form", "rule"]) (sc := defScope s__law_drops_right) (by decide +kernel)) (fun _ _ _ _ _ => dg_tup rfl (dgs_cons (dg_name 4 sc__law_drops_right.nd) (dgs_cons (dg_name 5 sc__law_drops_right.nd) (dgs_nil)))) (fun _ _ _ _ _ => dts_nil) (fun _ _ _ _ _ => de_tup (da_cons (de_call (cd_make (C := 0) (kc := 1) T.M_Recipe F_Recipe_init (hr.mono (by decide)) takes0) T.kC_Recipe T.gC_Recipe (da_cons (de_var 4) (da_nil))) (da_cons (de_var 5) (da_nil)))))) (dw_nil)) T.b_tuple boot_tuple) (dg_name 1 sc__law_drops_right.nd)) (dss_cons (ds_if (dt_pt (dt_or (dt_cmpS (OpS.alt (os_ne (kc := 0) F_Key_eq (hr.mono (by decide)) takes_b T.C_Key T.ne_Key T.d_Key_eq T.i_Key_eq) (OpS.alt (os_ne (kc := 1) F_Recipe_eq (hr.mono (by decide)) takes_b T.C_Recipe T.ne_Recipe T.d_Recipe_eq T.i_Recipe_eq) (OpS.alt (os_ne (kc := 2) F_Plan_eq (hr.mono (by decide)) takes_b T.C_Plan T.ne_Plan T.d_Plan_eq T.i_Plan_eq) (OpW.s (ow_ne hr.units))))) (de_call (caD_of F__law_made (hr.mono (by decide)) takes_b) T.k__law_made T.g__law_made (da_cons (de_int) (da_cons (de_int) (da_cons (de_int) (da_cons (de_var 1) (da_cons (de_tup (da_cons (de_tup (da_cons (de_int) (da_cons (de_int) (da_nil)))) (da_nil))) (da_cons (de_bl) (da_nil)))))))) (de_str)) (dt_or1 (dt_cmpS (OpS.alt (os_ne (kc := 0) F_Key_eq (hr.mono (by decide)) takes_b T.C_Key T.ne_Key T.d_Key_eq T.i_Key_eq) (OpS.alt (os_ne (kc := 1) F_Recipe_eq (hr.mono (by decide)) takes_b T.C_Recipe T.ne_Recipe T.d_Recipe_eq T.i_Recipe_eq) (OpS.alt (os_ne (kc := 2) F_Plan_eq (hr.mono (by decide)) takes_b T.C_Plan T.ne_Plan T.d_Plan_eq T.i_Plan_eq) (OpW.s (ow_ne hr.units))))) (de_call (caD_of F__law_made (hr.mono (by decide)) takes_b) T.k__law_made T.g__law_made (da_cons (de_int) (da_cons (de_int) (da_cons (de_int) (da_cons (de_var 1) (da_cons (de_tup (da_cons (de_tup (da_cons (de_int) (da_cons (de_int) (da_nil)))) (da_nil))) (da_cons (de_bl) (da_nil)))))))) (de_str))))) (dss_one (ds_ret (DE.w (de_bl)))) (dss_nil)) (dss_cons (ds_par2 rfl sc__law_drops_right.nd (da_cons (de_makeK1 (kc := 2) (n := 4) T.M_Plan F1_Plan_init (hr.mono (by decide)) takes_b T.gC_Plan KB_Plan_init (da_cons (de_int) (da_cons (de_int) (da_cons (de_int) (da_cons (de_var 1) (da_nil))))) (de_tup (da_cons (de_tup (da_cons (de_int) (da_nil))) (da_nil))) rfl) (da_cons (de_call (cd_make (C := 0) (kc := 2) T.M_Plan F_Plan_init (hr.mono (by decide)) takes_b) T.kC_Plan T.gC_Plan (da_cons (de_int) (da_cons (de_int) (da_cons (de_int) (da_cons (de_var 1) (da_nil)))))) (da_nil)))) (dss_cons (ds_if (dt_pt (dt_or (dt_cmpS (OpS.alt (os_cmpX (kc := 0) (oth := (fun j => [1, 2].contains j)) (caD_of F_Key_eq (hr.mono (by decide)) takes_b) hr.units0 T.d_Key_eq T.i_Key_eq T.sn_Key T.ss_Key (oth_of (l := [1, 2]) (fun j hj => by simp only [List.mem_cons, List.not_mem_nil, or_false] at hj; rcases hj with rfl | rfl <;> first | exact T.so_Recipe_Key | exact T.so_Plan_Key))) (OpS.alt (os_cmpX (kc := 1) (oth := (fun j => [0, 2].contains j)) (caD_of F_Recipe_eq (hr.mono (by decide)) takes_b) hr.units0 T.d_Recipe_eq T.i_Recipe_eq T.sn_Recipe T.ss_Recipe (oth_of (l := [0, 2]) (fun j hj => by simp only [List.mem_cons, List.not_mem_nil, or_false] at hj; rcases hj with rfl | rfl <;> first | exact T.so_Key_Recipe | exact T.so_Plan_Recipe))) (OpS.alt (os_cmpX (kc := 2) (oth := (fun j => [0, 1].contains j)) (caD_of F_Plan_eq (hr.mono (by decide)) takes_b) hr.units0 T.d_Plan_eq T.i_Plan_eq T.sn_Plan T.ss_Plan (oth_of (l := [0, 1]) (fun j hj => by simp only [List.mem_cons, List.not_mem_nil, or_false] at hj; rcases hj with rfl | rfl <;> first | exact T.so_Key_Plan | exact T.so_Recipe_Plan))) (OpW.s (ow_eq hr.units))))) (de_ix (DE.w (de_ix (DE.w (de_var 1)) (de_int))) (de_int)) (de_var 2)) (dt_or (dt_cmpS (OpS.alt (os_cmpX (kc := 0) (oth := (fun j => [1, 2].contains j)) (caD_of F_Key_eq (hr.mono (by decide)) takes_b) hr.units0 T.d_Key_eq T.i_Key_eq T.sn_Key T.ss_Key (oth_of (l := [1, 2]) (fun j hj => by simp only [List.mem_cons, List.not_mem_nil, or_false] at hj; rcases hj with rfl | rfl <;> first | exact T.so_Recipe_Key | exact T.so_Plan_Key))) (OpS.alt (os_cmpX (kc := 1) (oth := (fun j => [0, 2].contains j)) (caD_of F_Recipe_eq (hr.mono (by decide)) takes_b) hr.units0 T.d_Recipe_eq T.i_Recipe_eq T.sn_Recipe T.ss_Recipe (oth_of (l := [0, 2]) (fun j hj => by simp only [List.mem_cons, List.not_mem_nil, or_false] at hj; rcases hj with rfl | rfl <;> first | exact T.so_Key_Recipe | exact T.so_Plan_Recipe))) (OpS.alt (os_cmpX (kc := 2) (oth := (fun j => [0, 1].contains j)) (caD_of F_Plan_eq (hr.mono (by decide)) takes_b) hr.units0 T.d_Plan_eq T.i_Plan_eq T.sn_Plan T.ss_Plan (oth_of (l := [0, 1]) (fun j hj => by simp only [List.mem_cons, List.not_mem_nil, or_false] at hj; rcases hj with rfl | rfl <;> first | exact T.so_Key_Plan | exact T.so_Recipe_Plan))) (OpW.s (ow_eq hr.units))))) (de_var 2) (de_ix (DE.w (de_ix (DE.w (de_var 1)) (de_int))) (de_int))) (dt_or (dt_cmpS (OpS.alt (os_cmpX (kc := 0) (oth := (fun j => [1, 2].contains j)) (caD_of F_Key_eq (hr.mono (by decide)) takes_b) hr.units0 T.d_Key_eq T.i_Key_eq T.sn_Key T.ss_Key (oth_of (l := [1, 2]) (fun j hj => by simp only [List.mem_cons, List.not_mem_nil, or_false] at hj; rcases hj with rfl | rfl <;> first | exact T.so_Recipe_Key | exact T.so_Plan_Key))) (OpS.alt (os_cmpX (kc := 1) (oth := (fun j => [0, 2].contains j)) (caD_of F_Recipe_eq (hr.mono (by decide)) takes_b) hr.units0 T.d_Recipe_eq T.i_Recipe_eq T.sn_Recipe T.ss_Recipe (oth_of (l := [0, 2]) (fun j hj => by simp only [List.mem_cons, List.not_mem_nil, or_false] at hj; rcases hj with rfl | rfl <;> first | exact T.so_Key_Recipe | exact T.so_Plan_Recipe))) (OpS.alt (os_cmpX (kc := 2) (oth := (fun j => [0, 1].contains j)) (caD_of F_Plan_eq (hr.mono (by decide)) takes_b) hr.units0 T.d_Plan_eq T.i_Plan_eq T.sn_Plan T.ss_Plan (oth_of (l := [0, 1]) (fun j hj => by simp only [List.mem_cons, List.not_mem_nil, or_false] at hj; rcases hj with rfl | rfl <;> first | exact T.so_Key_Plan | exact T.so_Recipe_Plan))) (OpW.s (ow_eq hr.units))))) (de_call (cd_make (C := 0) (kc := 0) T.M_Key F_Key_init (hr.mono (by decide)) takes_b) T.kC_Key T.gC_Key (da_cons (de_lst (da_cons (de_str) (da_nil))) (da_nil))) (de_var 2)) (dt_or1 (dt_cmpS (OpS.alt (os_cmpX (kc := 0) (oth := (fun j => [1, 2].contains j)) (caD_of F_Key_eq (hr.mono (by decide)) takes_b) hr.units0 T.d_Key_eq T.i_Key_eq T.sn_Key T.ss_Key (oth_of (l := [1, 2]) (fun j hj => by simp only [List.mem_cons, List.not_mem_nil, or_false] at hj; rcases hj with rfl | rfl <;> first | exact T.so_Recipe_Key | exact T.so_Plan_Key))) (OpS.alt (os_cmpX (kc := 1) (oth := (fun j => [0, 2].contains j)) (caD_of F_Recipe_eq (hr.mono (by decide)) takes_b) hr.units0 T.d_Recipe_eq T.i_Recipe_eq T.sn_Recipe T.ss_Recipe (oth_of (l := [0, 2]) (fun j hj => by simp only [List.mem_cons, List.not_mem_nil, or_false] at hj; rcases hj with rfl | rfl <;> first | exact T.so_Key_Recipe | exact T.so_Plan_Recipe))) (OpS.alt (os_cmpX (kc := 2) (oth := (fun j => [0, 1].contains j)) (caD_of F_Plan_eq (hr.mono (by decide)) takes_b) hr.units0 T.d_Plan_eq T.i_Plan_eq T.sn_Plan T.ss_Plan (oth_of (l := [0, 1]) (fun j hj => by simp only [List.mem_cons, List.not_mem_nil, or_false] at hj; rcases hj with rfl | rfl <;> first | exact T.so_Key_Plan | exact T.so_Recipe_Plan))) (OpW.s (ow_eq hr.units))))) (de_ix (DE.w (de_ix (DE.w (de_var 1)) (de_int))) (de_int)) (de_call (cd_make (C := 0) (kc := 0) T.M_Key F_Key_init (hr.mono (by decide)) takes_b) T.kC_Key T.gC_Key (da_cons (de_lst (da_cons (de_str) (da_nil))) (da_nil))))))))) (dss_one (ds_ret (DE.w (de_bl)))) (dss_nil)) (dss_one (ds_ret (DE.w (de_and (de_cmpS (OpS.alt (os_ne (kc := 0) F_Key_eq (hr.mono (by decide)) takes_b T.C_Key T.ne_Key T.d_Key_eq T.i_Key_eq) (OpS.alt (os_ne (kc := 1) F_Recipe_eq (hr.mono (by decide)) takes_b T.C_Recipe T.ne_Recipe T.d_Recipe_eq T.i_Recipe_eq) (OpS.alt (os_ne (kc := 2) F_Plan_eq (hr.mono (by decide)) takes_b T.C_Plan T.ne_Plan T.d_Plan_eq T.i_Plan_eq) (OpW.s (ow_ne hr.units))))) (de_var 2) (de_var 3)) (de_and (de_cmpS (OpS.alt (os_cmpX (kc := 0) (oth := (fun j => [1, 2].contains j)) (caD_of F_Key_eq (hr.mono (by decide)) takes_b) hr.units0 T.d_Key_eq T.i_Key_eq T.sn_Key T.ss_Key (oth_of (l := [1, 2]) (fun j hj => by simp only [List.mem_cons, List.not_mem_nil, or_false] at hj; rcases hj with rfl | rfl <;> first | exact T.so_Recipe_Key | exact T.so_Plan_Key))) (OpS.alt (os_cmpX (kc := 1) (oth := (fun j => [0, 2].contains j)) (caD_of F_Recipe_eq (hr.mono (by decide)) takes_b) hr.units0 T.d_Recipe_eq T.i_Recipe_eq T.sn_Recipe T.ss_Recipe (oth_of (l := [0, 2]) (fun j hj => by simp only [List.mem_cons, List.not_mem_nil, or_false] at hj; rcases hj with rfl | rfl <;> first | exact T.so_Key_Recipe | exact T.so_Plan_Recipe))) (OpS.alt (os_cmpX (kc := 2) (oth := (fun j => [0, 1].contains j)) (caD_of F_Plan_eq (hr.mono (by decide)) takes_b) hr.units0 T.d_Plan_eq T.i_Plan_eq T.sn_Plan T.ss_Plan (oth_of (l := [0, 1]) (fun j hj => by simp only [List.mem_cons, List.not_mem_nil, or_false] at hj; rcases hj with rfl | rfl <;> first | exact T.so_Key_Plan | exact T.so_Recipe_Plan))) (OpW.s (ow_eq hr.units))))) (de_var 3) (de_makeK1 (kc := 2) (n := 4) T.M_Plan F1_Plan_init (hr.mono (by decide)) takes_b T.gC_Plan KB_Plan_init (da_cons (de_int) (da_cons (de_int) (da_cons (de_int) (da_cons (de_var 1) (da_nil))))) (de_tup (da_cons (de_tup (da_nil)) (da_nil))) rfl)) (de_one (de_cmpS (OpS.alt (os_cmpX (kc := 0) (oth := (fun j => [1, 2].contains j)) (caD_of F_Key_eq (hr.mono (by decide)) takes_b) hr.units0 T.d_Key_eq T.i_Key_eq T.sn_Key T.ss_Key (oth_of (l := [1, 2]) (fun j hj => by simp only [List.mem_cons, List.not_mem_nil, or_false] at hj; rcases hj with rfl | rfl <;> first | exact T.so_Recipe_Key | exact T.so_Plan_Key))) (OpS.alt (os_cmpX (kc := 1) (oth := (fun j => [0, 2].contains j)) (caD_of F_Recipe_eq (hr.mono (by decide)) takes_b) hr.units0 T.d_Recipe_eq T.i_Recipe_eq T.sn_Recipe T.ss_Recipe (oth_of (l := [0, 2]) (fun j hj => by simp only [List.mem_cons, List.not_mem_nil, or_false] at hj; rcases hj with rfl | rfl <;> first | exact T.so_Key_Recipe | exact T.so_Plan_Recipe))) (OpS.alt (os_cmpX (kc := 2) (oth := (fun j => [0, 1].contains j)) (caD_of F_Plan_eq (hr.mono (by decide)) takes_b) hr.units0 T.d_Plan_eq T.i_Plan_eq T.sn_Plan T.ss_Plan (oth_of (l := [0, 1]) (fun j hj => by simp only [List.mem_cons, List.not_mem_nil, or_false] at hj; rcases hj with rfl | rfl <;> first | exact T.so_Key_Plan | exact T.so_Recipe_Plan))) (OpW.s (ow_eq hr.units))))) (de_var 2) (de_makeK1 (kc := 2) (n := 4) T.M_Plan F1_Plan_init (hr.mono (by decide)) takes_b T.gC_Plan KB_Plan_init (da_cons (de_int) (da_cons (de_int) (da_cons (de_int) (da_cons (de_var 1) (da_nil))))) (de_tup (da_cons (de_tup (da_cons (de_int) (da_nil))) (da_nil))) rfl)))))))))))))
theorem ok_Plan_check_place (T : Tx P K mg cl ad fd mc w) (F_Plan_places : FnD P w K mg base cl 2 (ad 49) m_Plan_places) (F_is_whole : FnD P w K mg base cl 3 (ad 3) m_is_whole) : FnD P w K mg base cl 4 (ad 54) m_Plan_check_place :=
  fnD_of0 T.f_Plan_check_place sc_Plan_check_place (fun _ _ _ _ _ _ us hl => match us, hl with | [_, _], _ => rfl) (fun cdv A outer s H E c hc hr => by
    subst hc
    exact dss_one (ds_if (dt_not (dt_val (de_call (caD_of F_is_whole (hr.mono (by decide)) takes_b) T.k_is_whole T.g_is_whole (da_cons (de_var 1) (da_cons (de_int) (da_cons (de_bin ow_subI (DE.w (de_callB ca_len (dw_cons (DE.w (de_prop (kc := 2) (de_var 0) T.C_Plan T.pr_Plan_places F_Plan_places (hr.mono (by decide)))) (dw_nil)) T.b_len boot_len)) (DE.w (de_int))) (da_nil))))))) (dss_one (ds_raise (k := 4) T.e_BadPlace T.x_BadPlace T.g_BadPlace rfl takes_b)) (dss_nil)))
theorem ok_Plan_getitem (T : Tx P K mg cl ad fd mc w) (F_Plan_check_place : FnD P w K mg base cl 4 (ad 54) m_Plan_check_place) (F_Plan_places : FnD P w K mg base cl 2 (ad 49) m_Plan_places) : FnD P w K mg base cl 5 (ad 55) m_Plan_getitem :=
  fnD_of0 T.f_Plan_getitem sc_Plan_getitem (fun _ _ _ _ _ _ us hl => match us, hl with | [_, _], _ => rfl) (fun cdv A outer s H E c hc hr => by
    subst hc
    exact dss_cons (ds_expr (de_meth (kc := 2) (de_var 0) T.C_Plan T.mt_Plan_check_place (caD_of F_Plan_check_place (hr.mono (by decide)) takes_b) (da_cons (de_var 1) (da_nil)))) (dss_one (ds_ret (DE.w (de_ix (DE.w (de_prop (kc := 2) (de_var 0) T.C_Plan T.pr_Plan_places F_Plan_places (hr.mono (by decide)))) (de_var 1))))))
theorem ok__law_is_number (T : Tx P K mg cl ad fd mc w) : FnD P w K mg base cl 2 (ad 72) m__law_is_number :=
  fnD_of0 T.f__law_is_number sc__law_is_number (fun _ _ _ _ _ _ us hl => match us, hl with | [_, _, _], _ => rfl) (fun cdv A outer s H E c hc hr => by
    subst hc
    exact dss_one (ds_ret (DE.w (de_and (de_isi (g := isiT_int) (DE.w (de_var 0)) (pe_bltn (v := .ty "int") rfl T.b_int boot_int rfl) (.ty "int") (isiT_int_ok) (by intro k r h; cases h) T.b_isinstance) (de_and (de_not (de_isi (g := isiT_bool) (DE.w (de_var 0)) (pe_bltn (v := .ty "bool") rfl T.b_bool boot_bool rfl) (.ty "bool") (isiT_bool_ok) (by intro k r h; cases h) T.b_isinstance)) (de_one (de_chain or_le or_le (de_var 1) (de_var 0) (de_var 2))))))))
theorem ok__law_number (T : Tx P K mg cl ad fd mc w) : FnD P w K mg base cl 2 (ad 66) m__law_number :=
  fnD_of0 T.f__law_number sc__law_number (fun _ _ _ _ _ _ us hl => match us, hl with | [_, _], _ => rfl) (fun cdv A outer s H E c hc hr => by
    subst hc
    exact dss_cons (ds_asg (de_if (dt_cmp (ow_ne hr.units) (DE.w (de_var 0)) (DE.w (de_lst (da_nil)))) (de_sl (DE.w (de_var 0)) (do_no) (do_some (de_int))) (de_lst (da_cons (de_int) (da_nil)))) (dg_name 2 sc__law_number.nd)) (dss_cons (ds_asg (de_bin ow_addW (DE.w (de_ix (DE.w (de_var 2)) (de_bin ow_modI (DE.w (de_callT ca_int (dw_cons (DE.w (de_var 1)) (dw_nil)) T.b_int boot_int)) (DE.w (de_callB ca_len (dw_cons (DE.w (de_var 2)) (dw_nil)) T.b_len boot_len))))) (DE.w (de_bin ow_mulI (DE.w (de_int)) (DE.w (de_bin ow_divI (DE.w (de_var 1)) (DE.w (de_callB ca_len (dw_cons (DE.w (de_var 2)) (dw_nil)) T.b_len boot_len))))))) (dg_name 3 sc__law_number.nd)) (dss_cons (ds_par2 rfl sc__law_number.nd (da_cons (de_bin ow_modI (DE.w (de_callT ca_int (dw_cons (DE.w (de_var 3)) (dw_nil)) T.b_int boot_int)) (DE.w (de_int))) (da_cons (de_bin ow_modI (DE.w (de_callT ca_int (dw_cons (DE.w (de_bin ow_divI (DE.w (de_var 3)) (DE.w (de_int)))) (dw_nil)) T.b_int boot_int)) (DE.w (de_int))) (da_nil)))) (dss_cons (ds_asg (de_bin ow_modI (DE.w (de_callT ca_int (dw_cons (DE.w (de_callB (ca_sum rfl) (dw_cons (DE.w (de_var 2)) (dw_nil)) T.b_sum (by decide +kernel))) (dw_nil)) T.b_int boot_int)) (DE.w (de_int))) (dg_name 4 sc__law_number.nd)) (dss_cons (ds_asg (de_bin ow_modI (DE.w (de_callT ca_int (dw_cons (DE.w (de_bin ow_addW (DE.w (de_bin ow_addW (DE.w (de_bin ow_mulI (DE.w (de_bin ow_addW (DE.w (de_var 6)) (DE.w (de_bin ow_mulI (DE.w (de_int)) (DE.w (de_var 1)))))) (DE.w (de_int)))) (DE.w (de_bin ow_mulI (DE.w (de_int)) (DE.w (de_var 7)))))) (DE.w (de_var 4)))) (dw_nil)) T.b_int boot_int)) (DE.w (de_int))) (dg_name 5 sc__law_number.nd)) (dss_one (ds_ret (DE.w (de_bin ow_addW (DE.w (de_bin ow_mulI (DE.w (de_bin ow_modI (DE.w (de_callT ca_int (dw_cons (DE.w (de_bin ow_mulI (DE.w (de_var 5)) (DE.w (de_bin ow_addW (DE.w (de_bin ow_addW (DE.w (de_var 5)) (DE.w (de_bin ow_mulI (DE.w (de_int)) (DE.w (de_var 1)))))) (DE.w (de_int)))))) (dw_nil)) T.b_int boot_int)) (DE.w (de_int)))) (DE.w (de_int)))) (DE.w (de_var 7)))))))))))
theorem ok__law_pick (T : Tx P K mg cl ad fd mc w) (F__law_number : FnD P w K mg base cl 2 (ad 66) m__law_number) : FnD P w K mg base cl 3 (ad 67) m__law_pick :=
  fnD_of0 T.f__law_pick sc__law_pick (fun _ _ _ _ _ _ us hl => match us, hl with | [_, _, _, _], _ => rfl) (fun cdv A outer s H E c hc hr => by
    subst hc
    exact dss_cons (ds_asg (de_callT ca_int (dw_cons (DE.w (de_call (caD_of F__law_number (hr.mono (by decide)) takes_b) T.k__law_number T.g__law_number (da_cons (de_var 0) (da_cons (de_var 1) (da_nil))))) (dw_nil)) T.b_int boot_int) (dg_name 4 sc__law_pick.nd)) (dss_one (ds_ret (DE.w (de_if (dt_cmp (ow_eq hr.units) (DE.w (de_bin ow_modI (DE.w (de_callT ca_int (dw_cons (DE.w (de_var 4)) (dw_nil)) T.b_int boot_int)) (DE.w (de_int)))) (DE.w (de_int))) (de_ix (DE.w (de_var 3)) (de_bin ow_modI (DE.w (de_callT ca_int (dw_cons (DE.w (de_bin ow_divI (DE.w (de_var 4)) (DE.w (de_int)))) (dw_nil)) T.b_int boot_int)) (DE.w (de_callB ca_len (dw_cons (DE.w (de_var 3)) (dw_nil)) T.b_len boot_len)))) (de_ix (DE.w (de_var 2)) (de_bin ow_modI (DE.w (de_callT ca_int (dw_cons (DE.w (de_bin ow_divI (DE.w (de_var 4)) (DE.w (de_int)))) (dw_nil)) T.b_int boot_int)) (DE.w (de_callB ca_len (dw_cons (DE.w (de_var 2)) (dw_nil)) T.b_len boot_len)))))))))
theorem ok__law_drops (T : Tx P K mg cl ad fd mc w) (F__law_is_number : FnD P w K mg base cl 2 (ad 72) m__law_is_number) (F__law_number : FnD P w K mg base cl 2 (ad 66) m__law_number) (F__law_pick : FnD P w K mg base cl 3 (ad 67) m__law_pick) : FnD P w K mg base cl 4 (ad 76) m__law_drops :=
  fnD_of0 T.f__law_drops sc__law_drops (fun _ _ _ _ _ _ us hl => match us, hl with | [_, _, _, _], _ => rfl) (fun cdv A outer s H E c hc hr => by
    subst hc
    exact dss_cons (ds_if (dt_cmp (ow_eq hr.units) (DE.w (de_bin ow_modI (DE.w (de_callT ca_int (dw_cons (DE.w (de_call (caD_of F__law_number (hr.mono (by decide)) takes_b) T.k__law_number T.g__law_number (da_cons (de_var 0) (da_cons (de_var 1) (da_nil))))) (dw_nil)) T.b_int boot_int)) (DE.w (de_int)))) (DE.w (de_int))) (dss_one (ds_ret (DE.w (de_non)))) (dss_nil)) (dss_cons (ds_parL rfl sc__law_drops.nd (de_if (dt_val (de_call (caD_of F__law_is_number (hr.mono (by decide)) takes_b) T.k__law_is_number T.g__law_is_number (da_cons (de_var 2) (da_cons (de_int) (da_cons (de_int) (da_nil)))))) (de_var 2) (de_int))) (dss_cons (ds_forR1 passes_b rfl T.b_range (da_cons (de_var 5) (da_nil)) (dg_name 4 sc__law_drops.nd) (dss_cons (ds_asg (de_callT ca_int (dw_cons (DE.w (de_call (caD_of F__law_number (hr.mono (by decide)) takes_b) T.k__law_number T.g__law_number (da_cons (de_var 0) (da_cons (de_bin ow_addW (DE.w (de_bin ow_addW (DE.w (de_var 1)) (DE.w (de_int)))) (DE.w (de_var 4))) (da_nil))))) (dw_nil)) T.b_int boot_int) (dg_name 7 sc__law_drops.nd)) (dss_cons (ds_asg (de_callT ca_tup (dw_cons (DE.w (de_lc (own := [("place", 10)]) (T := [10]) (tlc_r1 (vs := [10]) (by decide)) rfl sc__law_drops.nd (pi_range1 rfl T.b_range (da_cons (de_var 3) (da_nil))) (blkOk_by (N := ["script", "at", "cells", "many", "cell", "size", "rows", "seed", "row", "odd", "place"]) (sc := defScope s__law_drops) (by decide +kernel)) (fun _ _ _ _ _ => dg_name 10 sc__law_drops.nd) (fun _ _ _ _ _ => dts_one (dt_cmp (ow_eq hr.units) (DE.w (de_bin ow_modI (DE.w (de_callT ca_int (dw_cons (DE.w (de_bin ow_divI (DE.w (de_var 7)) (DE.w (de_bin ow_addW (DE.w (de_int)) (DE.w (de_var 10)))))) (dw_nil)) T.b_int boot_int)) (DE.w (de_int)))) (DE.w (de_int)))) (fun _ _ _ _ _ => de_var 10))) (dw_nil)) T.b_tuple boot_tuple) (dg_name 8 sc__law_drops.nd)) (dss_cons (ds_asg (de_tup (da_cons (de_tup (da_cons (de_var 3) (da_nil))) (da_cons (de_tup (da_cons (de_neg (de_int)) (da_nil))) (da_cons (de_bin ow_addW (DE.w (de_var 8)) (DE.w (de_sl (DE.w (de_var 8)) (do_no) (do_some (de_int))))) (da_cons (de_alt (de_revT (DE.w (de_var 8))) (de_rev (DE.w (de_var 8)))) (da_cons (de_tup (da_cons (de_bl) (da_nil))) (da_cons (de_callT ca_lst (dw_cons (DE.w (de_var 8)) (dw_nil)) T.b_list boot_list) (da_cons (de_non) (da_cons (de_int) (da_cons (de_tup (da_cons (de_str) (da_nil))) (da_nil))))))))))) (dg_name 9 sc__law_drops.nd)) (dss_one (ds_app 6 (de_if (dt_cmp (ow_eq hr.units) (DE.w (de_bin ow_modI (DE.w (de_callT ca_int (dw_cons (DE.w (de_var 7)) (dw_nil)) T.b_int boot_int)) (DE.w (de_int)))) (DE.w (de_int))) (de_ix (DE.w (de_var 9)) (de_bin ow_modI (DE.w (de_callT ca_int (dw_cons (DE.w (de_bin ow_divI (DE.w (de_var 7)) (DE.w (de_int)))) (dw_nil)) T.b_int boot_int)) (DE.w (de_int)))) (de_var 8)))))))) (dss_one (ds_share (i := 6) (ds_ret (DE.w (de_call (caD_of F__law_pick (hr.mono (by decide)) takes_b) T.k__law_pick T.g__law_pick (da_cons (de_var 0) (da_cons (de_bin ow_addW (DE.w (de_var 1)) (DE.w (de_int))) (da_cons (de_tup (da_cons (de_callT ca_tup (dw_cons (DE.w (de_var 6)) (dw_nil)) T.b_tuple boot_tuple) (da_nil))) (da_cons (de_tup (da_cons (de_bin ow_addW (DE.w (de_callT ca_tup (dw_cons (DE.w (de_var 6)) (dw_nil)) T.b_tuple boot_tuple)) (DE.w (de_tup (da_cons (de_tup (da_nil)) (da_nil))))) (da_cons (de_var 6) (da_cons (de_tup (da_nil)) (da_cons (de_int) (da_cons (de_str) (da_nil))))))) (da_nil)))))))))))))
theorem ok__law_leaf (T : Tx P K mg cl ad fd mc w) (F__law_pick : FnD P w K mg base cl 3 (ad 67) m__law_pick) : FnD P w K mg base cl 4 (ad 68) m__law_leaf :=
  fnD_of0 T.f__law_leaf sc__law_leaf (fun _ _ _ _ _ _ us hl => match us, hl with | [_, _], _ => rfl) (fun cdv A outer s H E c hc hr => by
    subst hc
    exact dss_one (ds_ret (DE.w (de_call (caD_of F__law_pick (hr.mono (by decide)) takes_b) T.k__law_pick T.g__law_pick (da_cons (de_var 0) (da_cons (de_var 1) (da_cons (de_tup (da_cons (de_tup (da_cons (de_str) (da_cons (de_int) (da_nil)))) (da_cons (de_tup (da_cons (de_str) (da_cons (de_int) (da_nil)))) (da_cons (de_tup (da_cons (de_str) (da_cons (de_int) (da_nil)))) (da_cons (de_tup (da_cons (de_str) (da_cons (de_int) (da_nil)))) (da_cons (de_tup (da_cons (de_str) (da_cons (de_int) (da_nil)))) (da_nil))))))) (da_cons (de_tup (da_cons (de_tup (da_cons (de_str) (da_cons (de_int) (da_nil)))) (da_cons (de_tup (da_cons (de_str) (da_cons (de_int) (da_nil)))) (da_cons (de_tup (da_cons (de_str) (da_cons (de_int) (da_nil)))) (da_cons (de_tup (da_cons (de_str) (da_cons (de_int) (da_nil)))) (da_cons (de_tup (da_cons (de_str) (da_cons (de_int) (da_nil)))) (da_nil))))))) (da_nil)))))))))
theorem ok_leaf_form (T : Tx P K mg cl ad fd mc w) (F_is_whole : FnD P w K mg base cl 3 (ad 3) m_is_whole) : FnD P w K mg base cl 4 (ad 40) m_leaf_form :=
  fnD_of0 T.f_leaf_form sc_leaf_form (fun _ _ _ _ _ _ us hl => match us, hl with | [_, _], _ => rfl) (fun cdv A outer s H E c hc hr => by
    subst hc
    exact dss_cons (ds_if (dt_not (dt_val (de_call (caD_of F_is_whole (hr.mono (by decide)) takes_b) T.k_is_whole T.g_is_whole (da_cons (de_var 1) (da_cons (de_int) (da_cons (de_topAt (topD_pk T.c_HIGHEST) (de_var 0)) (da_nil))))))) (dss_one (ds_raise (k := 2) T.e_BadNumber T.x_BadNumber T.g_BadNumber rfl takes_b)) (dss_nil)) (dss_one (ds_ret (DE.w (de_tup (da_cons (de_var 0) (da_cons (de_var 1) (da_nil))))))))
theorem ok_Recipe_field (T : Tx P K mg cl ad fd mc w) (F_Recipe_init : FnR P w K mg base (L2.CX P w) 6 (ad 19) (spI K cl 1 i_Recipe)) (F_leaf_form : FnD P w K mg base cl 4 (ad 40) m_leaf_form) : FnD P w K mg base cl 8 (ad 20) m_Recipe_field :=
  fnD_of0 T.f_Recipe_field sc_Recipe_field (fun _ _ _ _ _ _ us hl => match us, hl with | [_, _], _ => rfl) (fun cdv A outer s H E c hc hr => by
    subst hc
    exact dss_one (ds_ret (DE.w (de_callL (i := 0) (kc := 1) (cd_make (C := 0) (kc := 1) T.M_Recipe F_Recipe_init (hr.mono (by decide)) takes_b) T.kC_Recipe (da_cons (de_call (caD_of F_leaf_form (hr.mono (by decide)) takes_b) T.k_leaf_form T.g_leaf_form (da_cons (de_str) (da_cons (de_var 1) (da_nil)))) (da_nil))))))
theorem ok__law_rule (T : Tx P K mg cl ad fd mc w) (F_Key_init : FnR P w K mg base (L2.CX P w) 3 (ad 7) (spI K cl 0 i_Key)) (F_Recipe_field : FnD P w K mg base cl 8 (ad 20) m_Recipe_field) (F__law_number : FnD P w K mg base cl 2 (ad 66) m__law_number) (F__law_pick : FnD P w K mg base cl 3 (ad 67) m__law_pick) : FnD P w K mg base cl 9 (ad 69) m__law_rule :=
  fnD_of0 T.f__law_rule sc__law_rule (fun _ _ _ _ _ _ us hl => match us, hl with | [_, _], _ => rfl) (fun cdv A outer s H E c hc hr => by
    subst hc
    exact dss_cons (ds_setLc (own := [("turn", 4)]) (T := [4]) (tlc_r1 (vs := [4]) (by decide)) rfl sc__law_rule.nd (pi_range1 rfl T.b_range (da_cons (de_bin ow_modI (DE.w (de_callT ca_int (dw_cons (DE.w (de_call (caD_of F__law_number (hr.mono (by decide)) takes_b) T.k__law_number T.g__law_number (da_cons (de_var 0) (da_cons (de_bin ow_addW (DE.w (de_var 1)) (DE.w (de_int))) (da_nil))))) (dw_nil)) T.b_int boot_int)) (DE.w (de_int))) (da_nil))) (blkOk_by (N := ["script", "at", "names", "some", "turn"]) (sc := defScope s__law_rule) (by decide +kernel)) (fun _ _ _ _ _ => dg_name 4 sc__law_rule.nd) (fun _ _ _ _ _ => dts_nil) (fun _ _ _ _ _ => de_call (caD_of F__law_pick (hr.mono (by decide)) takes0) T.k__law_pick T.g__law_pick (da_cons (de_var 0) (da_cons (de_bin ow_addW (DE.w (de_bin ow_addW (DE.w (de_var 1)) (DE.w (de_int)))) (DE.w (de_var 4))) (da_cons (de_tup (da_cons (de_str) (da_cons (de_str) (da_cons (de_str) (da_cons (de_str) (da_nil)))))) (da_cons (de_tup (da_cons (de_str) (da_cons (de_str) (da_cons (de_str) (da_cons (de_str) (da_nil)))))) (da_nil))))))) (dss_cons (ds_asg (de_tup (da_cons (de_non) (da_cons (de_str) (da_cons (de_str) (da_cons (de_call (cd_make (C := 0) (kc := 0) T.M_Key F_Key_init (hr.mono (by decide)) takes_b) T.kC_Key T.gC_Key (da_cons (de_var 2) (da_nil))) (da_cons (de_call (cd_make (C := 0) (kc := 0) T.M_Key F_Key_init (hr.mono (by decide)) takes_b) T.kC_Key T.gC_Key (da_cons (de_var 2) (da_nil))) (da_cons (de_call0 (cd_make (C := 0) (kc := 0) T.M_Key F_Key_init (hr.mono (by decide)) takes_b) T.kC_Key T.gC_Key) (da_nil)))))))) (dg_name 3 sc__law_rule.nd)) (dss_one (ds_ret (DE.w (de_call (caD_of F__law_pick (hr.mono (by decide)) takes_b) T.k__law_pick T.g__law_pick (da_cons (de_var 0) (da_cons (de_var 1) (da_cons (de_var 3) (da_cons (de_tup (da_cons (de_str) (da_cons (de_int) (da_cons (de_callT ca_tup (dw_cons (DE.w (de_var 2)) (dw_nil)) T.b_tuple boot_tuple) (da_cons (de_str) (da_cons (de_bl) (da_cons (de_cm (kc := 1) (pe_glob (v := .ref (c.cl.at_ 1)) rfl T.gC_Recipe rfl) T.cr_Recipe T.cm_Recipe_field F_Recipe_field (hr.mono (by decide)) takes_b (da_cons (de_int) (da_nil))) (da_nil)))))))) (da_nil)))))))))))
theorem ok__law_places (T : Tx P K mg cl ad fd mc w) (F__law_leaf : FnD P w K mg base cl 4 (ad 68) m__law_leaf) (F__law_number : FnD P w K mg base cl 2 (ad 66) m__law_number) (F__law_pick : FnD P w K mg base cl 3 (ad 67) m__law_pick) (F__law_rule : FnD P w K mg base cl 9 (ad 69) m__law_rule) : FnD P w K mg base cl 10 (ad 70) m__law_places :=
  fnD_of0 T.f__law_places sc__law_places (fun _ _ _ _ _ _ us hl => match us, hl with | [_, _], _ => rfl) (fun cdv A outer s H E c hc hr => by
    subst hc
    exact dss_cons (ds_newL 2 sc__law_places.nd (da_nil)) (dss_cons (ds_forR1 passes_b rfl T.b_range (da_cons (de_callT ca_int (dw_cons (DE.w (de_call (caD_of F__law_pick (hr.mono (by decide)) takes_b) T.k__law_pick T.g__law_pick (da_cons (de_var 0) (da_cons (de_var 1) (da_cons (de_tup (da_cons (de_int) (da_cons (de_int) (da_cons (de_int) (da_cons (de_int) (da_nil)))))) (da_cons (de_tup (da_cons (de_int) (da_cons (de_int) (da_nil)))) (da_nil))))))) (dw_nil)) T.b_int boot_int) (da_nil)) (dg_name 3 sc__law_places.nd) (dss_cons (ds_par2 rfl sc__law_places.nd (da_cons (de_bin ow_addW (DE.w (de_bin ow_addW (DE.w (de_var 1)) (DE.w (de_int)))) (DE.w (de_bin ow_mulI (DE.w (de_int)) (DE.w (de_var 3))))) (da_cons (de_bin ow_modI (DE.w (de_callT ca_int (dw_cons (DE.w (de_call (caD_of F__law_number (hr.mono (by decide)) takes_b) T.k__law_number T.g__law_number (da_cons (de_var 0) (da_cons (de_bin ow_addW (DE.w (de_bin ow_addW (DE.w (de_var 1)) (DE.w (de_int)))) (DE.w (de_bin ow_mulI (DE.w (de_int)) (DE.w (de_var 3))))) (da_nil))))) (dw_nil)) T.b_int boot_int)) (DE.w (de_int))) (da_nil)))) (dss_cons (ds_asg (de_call (caD_of F__law_leaf (hr.mono (by decide)) takes_b) T.k__law_leaf T.g__law_leaf (da_cons (de_var 0) (da_cons (de_var 5) (da_nil)))) (dg_name 4 sc__law_places.nd)) (dss_cons (ds_if (dt_cmp (ow_eq hr.units) (DE.w (de_var 6)) (DE.w (de_int))) (dss_one (ds_asg (de_tup (da_cons (de_str) (da_cons (de_var 4) (da_cons (de_call (caD_of F__law_leaf (hr.mono (by decide)) takes_b) T.k__law_leaf T.g__law_leaf (da_cons (de_var 0) (da_cons (de_bin ow_addW (DE.w (de_var 5)) (DE.w (de_int))) (da_nil)))) (da_nil))))) (dg_name 4 sc__law_places.nd))) (dss_one (ds_if (dt_cmp (ow_eq hr.units) (DE.w (de_var 6)) (DE.w (de_int))) (dss_one (ds_asg (de_tup (da_cons (de_str) (da_cons (de_call (caD_of F__law_leaf (hr.mono (by decide)) takes_b) T.k__law_leaf T.g__law_leaf (da_cons (de_var 0) (da_cons (de_bin ow_addW (DE.w (de_var 5)) (DE.w (de_int))) (da_nil)))) (da_cons (de_call (caD_of F__law_leaf (hr.mono (by decide)) takes_b) T.k__law_leaf T.g__law_leaf (da_cons (de_var 0) (da_cons (de_bin ow_addW (DE.w (de_var 5)) (DE.w (de_int))) (da_nil)))) (da_cons (de_var 4) (da_nil)))))) (dg_name 4 sc__law_places.nd))) (dss_nil)))) (dss_one (ds_app 2 (de_tup (da_cons (de_var 4) (da_cons (de_call (caD_of F__law_rule (hr.mono (by decide)) takes_b) T.k__law_rule T.g__law_rule (da_cons (de_var 0) (da_cons (de_bin ow_addW (DE.w (de_var 5)) (DE.w (de_int))) (da_nil)))) (da_nil)))))))))) (dss_one (ds_ret (DE.w (de_callT ca_tup (dw_cons (dw_own 2) (dw_nil)) T.b_tuple boot_tuple))))))
theorem ok__law_rows_of (T : Tx P K mg cl ad fd mc w) (F_Key_names : FnD P w K mg base cl 2 (ad 9) m_Key_names) (F_Plan_places : FnD P w K mg base cl 2 (ad 49) m_Plan_places) (F_Recipe_names : FnD P w K mg base cl 3 (ad 24) m_Recipe_names) : FnD P w K mg base cl 5 (ad 79) m__law_rows_of :=
  fnD_of0 T.f__law_rows_of sc__law_rows_of (fun _ _ _ _ _ _ us hl => match us, hl with | [_], _ => rfl) (fun cdv A outer s H E c hc hr => by
    subst hc
    exact dss_cons (ds_newL 1 sc__law_rows_of.nd (da_nil)) (dss_cons (ds_for passes_b rfl (de_prop (kc := 2) (de_var 0) T.C_Plan T.pr_Plan_places F_Plan_places (hr.mono (by decide))) (dg_tup rfl (dgs_cons (dg_name 2 sc__law_rows_of.nd) (dgs_cons (dg_name 3 sc__law_rows_of.nd) (dgs_nil)))) (dss_one (ds_app 1 (de_tup (da_cons (de_fld (k := 1) (DE.w (de_var 2)) T.C_Recipe T.na_Recipe_form) (da_cons (de_if (dt_val (de_isi (g := isiCX 0 3) (DE.w (de_var 3)) (pe_glob (v := .ref (c.cl.at_ 0)) rfl T.gC_Key rfl) (.own _) (isiCX_ok T.kc_Key) (isiCX_in T.ia_all) T.b_isinstance)) (de_alt (de_prop (kc := 0) (de_var 3) T.C_Key T.pr_Key_names F_Key_names (hr.mono (by decide))) (de_prop (kc := 1) (de_var 3) T.C_Recipe T.pr_Recipe_names F_Recipe_names (hr.mono (by decide)))) (de_var 3)) (da_nil))))))) (dss_one (ds_ret (dw_own 1)))))
theorem ok__law_are_drops (T : Tx P K mg cl ad fd mc w) (F__law_is_number : FnD P w K mg base cl 2 (ad 72) m__law_is_number) : FnD P w K mg base cl 3 (ad 74) m__law_are_drops :=
  fnD_of0 T.f__law_are_drops sc__law_are_drops (fun _ _ _ _ _ _ us hl => match us, hl with | [_, _, _], _ => rfl) (fun cdv A outer s H E c hc hr => by
    subst hc
    exact dss_cons (ds_if (dt_cmp (ow_isN) (DE.w (de_var 2)) (DE.w (de_non))) (dss_one (ds_ret (DE.w (de_bl)))) (dss_nil)) (dss_cons (ds_if (dt_pt (dt_or (dt_not (dt_val (de_isi (g := isiT_tuple) (DE.w (de_var 2)) (pe_bltn (v := .ty "tuple") rfl T.b_tuple boot_tuple rfl) (.ty "tuple") (isiT_tuple_ok) (by intro k r h; cases h) T.b_isinstance))) (dt_or1 (dt_cmp (ow_ne hr.units) (DE.w (de_callB ca_len (dw_cons (DE.w (de_var 2)) (dw_nil)) T.b_len boot_len)) (DE.w (de_var 0)))))) (dss_one (ds_ret (DE.w (de_bl)))) (dss_nil)) (dss_cons (ds_for passes_b rfl (de_var 2) (dg_name 3 sc__law_are_drops.nd) (dss_cons (ds_if (dt_pt (dt_or (dt_not (dt_val (de_isi (g := isiT_tuple) (DE.w (de_var 3)) (pe_bltn (v := .ty "tuple") rfl T.b_tuple boot_tuple rfl) (.ty "tuple") (isiT_tuple_ok) (by intro k r h; cases h) T.b_isinstance))) (dt_or1 (dt_not (dt_val (de_callB (ca_all rfl) (dw_cons (DE.w (de_lc (own := [("place", 4)]) (T := [4]) (tlc_any (vs := [4]) (by decide)) rfl sc__law_are_drops.nd (pi_or (pi_list (de_var 3)) (pi_tup (de_var 3))) (blkOk_by (N := ["cells", "many", "gone", "some", "place"]) (sc := defScope s__law_are_drops) (by decide +kernel)) (fun _ _ _ _ _ => dg_name 4 sc__law_are_drops.nd) (fun _ _ _ _ _ => dts_nil) (fun _ _ _ _ _ => de_call (caD_of F__law_is_number (hr.mono (by decide)) takes0) T.k__law_is_number T.g__law_is_number (da_cons (de_var 4) (da_cons (de_int) (da_cons (de_bin ow_subI (DE.w (de_var 1)) (DE.w (de_int))) (da_nil))))))) (dw_nil)) T.b_all (by decide +kernel))))))) (dss_one (ds_ret (DE.w (de_bl)))) (dss_nil)) (dss_one (ds_if (dt_cmp (ow_ne hr.units) (DE.w (de_callT ca_lst (dw_cons (DE.w (de_var 3)) (dw_nil)) T.b_list boot_list)) (DE.w (de_sset (de_lc (own := [("place", 4)]) (T := [4]) (tlc_any (vs := [4]) (by decide)) rfl sc__law_are_drops.nd (pi_or (pi_list (de_var 3)) (pi_tup (de_var 3))) (blkOk_by (N := ["cells", "many", "gone", "some", "place"]) (sc := defScope s__law_are_drops) (by decide +kernel)) (fun _ _ _ _ _ => dg_name 4 sc__law_are_drops.nd) (fun _ _ _ _ _ => dts_nil) (fun _ _ _ _ _ => de_callT ca_int (dw_cons (DE.w (de_var 4)) (dw_nil)) T.b_int boot_int)) rfl T.b_sorted T.b_set))) (dss_one (ds_ret (DE.w (de_bl)))) (dss_nil))))) (dss_one (ds_ret (DE.w (de_bl)))))))
theorem ok_Key_contains (T : Tx P K mg cl ad fd mc w) : FnD P w K mg base cl 2 (ad 16) m_Key_contains :=
  fnD_of0 T.f_Key_contains sc_Key_contains (fun _ _ _ _ _ _ us hl => match us, hl with | [_, _], _ => rfl) (fun cdv A outer s H E c hc hr => by
    subst hc
    exact dss_one (ds_ret (DE.w (de_and (de_isi (g := isiTX "str" 3) (DE.w (de_var 1)) (pe_bltn (v := .ty "str") rfl T.b_str boot_str rfl) (.ty "str") (isiTX_ok T.kt_str isiT_str_ok) (isiTX_in T.ia_all) T.b_isinstance) (de_one (de_cmp (ow_in) (DE.w (de_var 1)) (DE.w (de_fld (k := 0) (DE.w (de_var 0)) T.C_Key T.na_Key_held))))))))
theorem ok_Recipe_contains (T : Tx P K mg cl ad fd mc w) (F_Recipe_names : FnD P w K mg base cl 3 (ad 24) m_Recipe_names) : FnD P w K mg base cl 5 (ad 34) m_Recipe_contains :=
  fnD_of0 T.f_Recipe_contains sc_Recipe_contains (fun _ _ _ _ _ _ us hl => match us, hl with | [_, _], _ => rfl) (fun cdv A outer s H E c hc hr => by
    subst hc
    exact dss_one (ds_ret (DE.w (de_and (de_isi (g := isiTX "str" 3) (DE.w (de_var 1)) (pe_bltn (v := .ty "str") rfl T.b_str boot_str rfl) (.ty "str") (isiTX_ok T.kt_str isiT_str_ok) (isiTX_in T.ia_all) T.b_isinstance) (de_one (de_cmp (ow_in) (DE.w (de_var 1)) (DE.w (de_prop (kc := 1) (de_var 0) T.C_Recipe T.pr_Recipe_names F_Recipe_names (hr.mono (by decide))))))))))
theorem ok__law_leaves (T : Tx P K mg cl ad fd mc w) : ∀ n : Nat, FnD P w K mg base cl (2 + n) (ad 71) (m__law_leaves n)
  | 0 => fnD_bad fun _ => rfl
  | n + 1 => by
    have F__law_leaves := ok__law_leaves T  n
    exact fnD_of0 (k := 2 + n) T.f__law_leaves sc__law_leaves (fun _ _ _ _ _ _ us hl => match us, hl with | [_], _ => rfl) (fun cdv A outer s H E c hc hr => by
    subst hc
    exact dss_cons (ds_if (dt_cmp (ow_in) (DE.w (de_ix (DE.w (de_var 0)) (de_int))) (DE.w (de_tup (da_cons (de_str) (da_cons (de_str) (da_cons (de_str) (da_cons (de_str) (da_nil)))))))) (dss_one (ds_ret (DE.w (de_lst (da_cons (de_var 0) (da_nil)))))) (dss_nil)) (dss_cons (ds_asg (de_lst (da_nil)) (dg_name 1 sc__law_leaves.nd)) (dss_cons (ds_for passes_b rfl (de_sl (DE.w (de_var 0)) (do_some (de_int)) (do_no)) (dg_name 2 sc__law_leaves.nd) (dss_one (ds_asg (de_bin ow_addW (DE.w (de_var 1)) (DE.w (de_call (caD_of F__law_leaves (hr.mono (by omega)) takes_b) T.k__law_leaves T.g__law_leaves (da_cons (de_var 2) (da_nil))))) (dg_name 1 sc__law_leaves.nd)))) (dss_one (ds_ret (DE.w (de_var 1)))))))
theorem ok__law_is_place (T : Tx P K mg cl ad fd mc w) (F_Key_contains : FnD P w K mg base cl 2 (ad 16) m_Key_contains) (F_Key_eq : FnD P w K mg base cl 2 (ad 18) m_Key_eq) (F_Key_names : FnD P w K mg base cl 2 (ad 9) m_Key_names) (F_Plan_eq : FnD P w K mg base cl 11 (ad 58) m_Plan_eq) (F_Recipe_add : FnD P w K mg base cl 8 (ad 27) m_Recipe_add) (F_Recipe_contains : FnD P w K mg base cl 5 (ad 34) m_Recipe_contains) (F_Recipe_eq : FnD P w K mg base cl 2 (ad 37) m_Recipe_eq) (F_Recipe_names : FnD P w K mg base cl 3 (ad 24) m_Recipe_names) (F__law_leaves : FnD P w K mg base cl 42 (ad 71) (m__law_leaves 40)) : FnD P w K mg base cl 43 (ad 73) m__law_is_place :=
  fnD_of0 T.f__law_is_place sc__law_is_place (fun _ _ _ _ _ _ us hl => match us, hl with | [_, _, _], _ => rfl) (fun cdv A outer s H E c hc hr => by
    subst hc
    exact dss_cons (ds_asg (de_tup (da_cons (de_var 0) (da_cons (de_var 2) (da_nil)))) (dg_tup rfl (dgs_cons (dg_tup rfl (dgs_cons (dg_name 6 sc__law_is_place.nd) (dgs_cons (dg_name 7 sc__law_is_place.nd) (dgs_cons (dg_name 8 sc__law_is_place.nd) (dgs_nil))))) (dgs_cons (dg_tup rfl (dgs_cons (dg_name 9 sc__law_is_place.nd) (dgs_cons (dg_name 10 sc__law_is_place.nd) (dgs_nil)))) (dgs_nil))))) (dss_cons (ds_asg (de_bin ow_addW (DE.w (de_bin ow_addW (DE.w (de_sl (DE.w (de_lst (da_cons (de_str) (da_cons (de_str) (da_cons (de_str) (da_nil)))))) (do_no) (do_some (de_var 7)))) (DE.w (de_sl (DE.w (de_lst (da_cons (de_str) (da_cons (de_str) (da_nil))))) (do_no) (do_some (de_var 8)))))) (DE.w (de_sl (DE.w (de_lst (da_cons (de_str) (da_cons (de_str) (da_nil))))) (do_no) (do_some (de_var 1))))) (dg_name 3 sc__law_is_place.nd)) (dss_cons (ds_for passes_b rfl (de_call (caD_of F__law_leaves (hr.mono (by decide)) takes_b) T.k__law_leaves T.g__law_leaves (da_cons (de_var 9) (da_nil))) (dg_tup rfl (dgs_cons (dg_name 4 sc__law_is_place.nd) (dgs_cons (dg_name 5 sc__law_is_place.nd) (dgs_nil)))) (dss_one (ds_if (dt_pt (dt_or (dt_pt (dt_and (dt_cmpS (OpS.alt (os_cmpX (kc := 0) (oth := (fun j => [1, 2].contains j)) (caD_of F_Key_eq (hr.mono (by decide)) takes_b) hr.units0 T.d_Key_eq T.i_Key_eq T.sn_Key T.ss_Key (oth_of (l := [1, 2]) (fun j hj => by simp only [List.mem_cons, List.not_mem_nil, or_false] at hj; rcases hj with rfl | rfl <;> first | exact T.so_Recipe_Key | exact T.so_Plan_Key))) (OpS.alt (os_cmpX (kc := 1) (oth := (fun j => [0, 2].contains j)) (caD_of F_Recipe_eq (hr.mono (by decide)) takes_b) hr.units0 T.d_Recipe_eq T.i_Recipe_eq T.sn_Recipe T.ss_Recipe (oth_of (l := [0, 2]) (fun j hj => by simp only [List.mem_cons, List.not_mem_nil, or_false] at hj; rcases hj with rfl | rfl <;> first | exact T.so_Key_Recipe | exact T.so_Plan_Recipe))) (OpS.alt (os_cmpX (kc := 2) (oth := (fun j => [0, 1].contains j)) (caD_of F_Plan_eq (hr.mono (by decide)) takes_b) hr.units0 T.d_Plan_eq T.i_Plan_eq T.sn_Plan T.ss_Plan (oth_of (l := [0, 1]) (fun j hj => by simp only [List.mem_cons, List.not_mem_nil, or_false] at hj; rcases hj with rfl | rfl <;> first | exact T.so_Key_Plan | exact T.so_Recipe_Plan))) (OpW.s (ow_eq hr.units))))) (de_var 4) (de_str)) (dt_and1 (dt_cmp (ow_geI) (DE.w (de_var 5)) (DE.w (de_var 6)))))) (dt_or1 (dt_pt (dt_and (dt_cmpS (OpS.alt (os_ne (kc := 0) F_Key_eq (hr.mono (by decide)) takes_b T.C_Key T.ne_Key T.d_Key_eq T.i_Key_eq) (OpS.alt (os_ne (kc := 1) F_Recipe_eq (hr.mono (by decide)) takes_b T.C_Recipe T.ne_Recipe T.d_Recipe_eq T.i_Recipe_eq) (OpS.alt (os_ne (kc := 2) F_Plan_eq (hr.mono (by decide)) takes_b T.C_Plan T.ne_Plan T.d_Plan_eq T.i_Plan_eq) (OpW.s (ow_ne hr.units))))) (de_var 4) (de_str)) (dt_and1 (dt_cmpS (OpS.alt (os_notIn (kc := 0) (caD_of F_Key_contains (hr.mono (by decide)) takes_b) T.d_Key_contains T.i_Key_contains) (OpS.alt (os_notIn (kc := 1) (caD_of F_Recipe_contains (hr.mono (by decide)) takes_b) T.d_Recipe_contains T.i_Recipe_contains) (OpW.s (ow_notIn)))) (de_binS (OpS.alt (os_own (kc := 1) (caD_of F_Recipe_add (hr.mono (by decide)) takes_b) T.sf_Recipe T.d_Recipe_add T.i_Recipe_add) (OpW.s ow_addW)) (de_ix (DE.w (de_var 4)) (de_int)) (de_callT ca_strI (dw_cons (DE.w (de_var 5)) (dw_nil)) T.b_str boot_str)) (de_var 3)))))))) (dss_one (ds_ret (DE.w (de_bl)))) (dss_nil)))) (dss_cons (ds_if (dt_val (de_isi (g := isiCX 0 3) (DE.w (de_var 10)) (pe_glob (v := .ref (c.cl.at_ 0)) rfl T.gC_Key rfl) (.own _) (isiCX_ok T.kc_Key) (isiCX_in T.ia_all) T.b_isinstance)) (dss_one (ds_ret (DE.w (de_callB (ca_all rfl) (dw_cons (DE.w (de_lc (own := [("name", 11)]) (T := [11]) (tlc_any (vs := [11]) (by decide)) rfl sc__law_is_place.nd (pi_or (pi_list (de_alt (de_prop (kc := 0) (de_var 10) T.C_Key T.pr_Key_names F_Key_names (hr.mono (by decide))) (de_prop (kc := 1) (de_var 10) T.C_Recipe T.pr_Recipe_names F_Recipe_names (hr.mono (by decide))))) (pi_tup (de_alt (de_prop (kc := 0) (de_var 10) T.C_Key T.pr_Key_names F_Key_names (hr.mono (by decide))) (de_prop (kc := 1) (de_var 10) T.C_Recipe T.pr_Recipe_names F_Recipe_names (hr.mono (by decide)))))) (blkOk_by (N := ["sizes", "at", "row", "names", "word", "number", "base", "fields", "cells", "form", "rule", "name"]) (sc := defScope s__law_is_place) (by decide +kernel)) (fun _ _ _ _ _ => dg_name 11 sc__law_is_place.nd) (fun _ _ _ _ _ => dts_nil) (fun _ _ _ _ _ => de_cmpS (OpS.alt (os_in (kc := 0) (caD_of F_Key_contains (hr.mono (by decide)) takes0) T.d_Key_contains T.i_Key_contains) (OpS.alt (os_in (kc := 1) (caD_of F_Recipe_contains (hr.mono (by decide)) takes0) T.d_Recipe_contains T.i_Recipe_contains) (OpW.s (ow_in)))) (de_var 11) (de_var 3)))) (dw_nil)) T.b_all (by decide +kernel))))) (dss_nil)) (dss_one (ds_ret (DE.w (de_or (de_cmp (ow_isN) (DE.w (de_var 10)) (DE.w (de_non))) (de_one (de_and (de_isi (g := isiTX "str" 3) (DE.w (de_var 10)) (pe_bltn (v := .ty "str") rfl T.b_str boot_str rfl) (.ty "str") (isiTX_ok T.kt_str isiT_str_ok) (isiTX_in T.ia_all) T.b_isinstance) (de_one (de_cmp (ow_in) (DE.w (de_var 10)) (DE.w (de_tup (da_cons (de_str) (da_cons (de_str) (da_nil)))))))))))))))))
theorem ok__law_wrong (T : Tx P K mg cl ad fd mc w) (F__law_are_drops : FnD P w K mg base cl 3 (ad 74) m__law_are_drops) (F__law_is_number : FnD P w K mg base cl 2 (ad 72) m__law_is_number) (F__law_is_place : FnD P w K mg base cl 43 (ad 73) m__law_is_place) : FnD P w K mg base cl 44 (ad 75) m__law_wrong :=
  fnD_of0 T.f__law_wrong sc__law_wrong (fun _ _ _ _ _ _ us hl => match us, hl with | [_, _, _, _, _, _], _ => rfl) (fun cdv A outer s H E c hc hr => by
    subst hc
    exact dss_cons (ds_if (dt_not (dt_val (de_call (caD_of F__law_is_number (hr.mono (by decide)) takes_b) T.k__law_is_number T.g__law_is_number (da_cons (de_var 0) (da_cons (de_int) (da_cons (de_int) (da_nil))))))) (dss_one (ds_ret (DE.w (de_str)))) (dss_nil)) (dss_cons (ds_if (dt_not (dt_val (de_call (caD_of F__law_is_number (hr.mono (by decide)) takes_b) T.k__law_is_number T.g__law_is_number (da_cons (de_var 1) (da_cons (de_int) (da_cons (de_int) (da_nil))))))) (dss_one (ds_ret (DE.w (de_str)))) (dss_nil)) (dss_cons (ds_if (dt_pt (dt_or (dt_not (dt_val (de_call (caD_of F__law_is_number (hr.mono (by decide)) takes_b) T.k__law_is_number T.g__law_is_number (da_cons (de_var 2) (da_cons (de_int) (da_cons (de_int) (da_nil))))))) (dt_or1 (dt_pt (dt_and (dt_cmp (ow_eq hr.units) (DE.w (de_var 0)) (DE.w (de_int))) (dt_and1 (dt_cmp (ow_gtI) (DE.w (de_bin ow_addW (DE.w (de_var 1)) (DE.w (de_var 2)))) (DE.w (de_int))))))))) (dss_one (ds_ret (DE.w (de_str)))) (dss_nil)) (dss_cons (ds_if (dt_pt (dt_or (dt_cmp (ow_ne hr.units) (DE.w (de_var 4)) (DE.w (de_int))) (dt_or1 (dt_not (dt_chain or_le or_le (de_int) (de_callB ca_len (dw_cons (DE.w (de_var 3)) (dw_nil)) T.b_len boot_len) (de_int)))))) (dss_one (ds_ret (DE.w (de_str)))) (dss_nil)) (dss_cons (ds_if (dt_not (dt_val (de_callB (ca_all rfl) (dw_cons (DE.w (de_lc (own := [("at", 6), ("row", 7)]) (T := [6, 7]) (tlc_enT (vs := [6, 7]) (by decide)) rfl sc__law_wrong.nd (pi_enumT rfl T.b_enumerate (da_cons (de_var 3) (da_nil)) (by rfl)) (blkOk_by (N := ["base", "fields", "cells", "rows", "kind", "gone", "at", "row"]) (sc := defScope s__law_wrong) (by decide +kernel)) (fun _ _ _ _ _ => dg_tup rfl (dgs_cons (dg_name 6 sc__law_wrong.nd) (dgs_cons (dg_name 7 sc__law_wrong.nd) (dgs_nil)))) (fun _ _ _ _ _ => dts_nil) (fun _ _ _ _ _ => de_call (caD_of F__law_is_place (hr.mono (by decide)) takes0) T.k__law_is_place T.g__law_is_place (da_cons (de_tup (da_cons (de_var 0) (da_cons (de_var 1) (da_cons (de_var 2) (da_nil))))) (da_cons (de_var 6) (da_cons (de_var 7) (da_nil))))))) (dw_nil)) T.b_all (by decide +kernel)))) (dss_one (ds_ret (DE.w (de_str)))) (dss_nil)) (dss_one (ds_ret (DE.w (de_if (dt_val (de_call (caD_of F__law_are_drops (hr.mono (by decide)) takes_b) T.k__law_are_drops T.g__law_are_drops (da_cons (de_var 2) (da_cons (de_callB ca_len (dw_cons (DE.w (de_var 3)) (dw_nil)) T.b_len boot_len) (da_cons (de_var 5) (da_nil)))))) (de_non) (de_str))))))))))
theorem ok__law_plan_right (T : Tx P K mg cl ad fd mc w) (F_Key_eq : FnD P w K mg base cl 2 (ad 18) m_Key_eq) (F_Key_len : FnD P w K mg base cl 2 (ad 17) m_Key_len) (F_Key_names : FnD P w K mg base cl 2 (ad 9) m_Key_names) (F_Plan_eq : FnD P w K mg base cl 11 (ad 58) m_Plan_eq) (F_Plan_getitem : FnD P w K mg base cl 5 (ad 55) m_Plan_getitem) (F_Plan_len : FnD P w K mg base cl 4 (ad 57) m_Plan_len) (F_Plan_base : FnD P w K mg base cl 2 (ad 46) m_Plan_base) (F_Plan_cells : FnD P w K mg base cl 2 (ad 48) m_Plan_cells) (F_Plan_drops : FnD P w K mg base cl 2 (ad 50) m_Plan_drops) (F_Plan_fields : FnD P w K mg base cl 2 (ad 47) m_Plan_fields) (F_Recipe_add : FnD P w K mg base cl 8 (ad 27) m_Recipe_add) (F_Recipe_eq : FnD P w K mg base cl 2 (ad 37) m_Recipe_eq) (F_Recipe_init : FnR P w K mg base (L2.CX P w) 6 (ad 19) (spI K cl 1 i_Recipe)) (F_Recipe_len : FnD P w K mg base cl 2 (ad 35) m_Recipe_len) (F_Recipe_names : FnD P w K mg base cl 3 (ad 24) m_Recipe_names) (F__law_drops : FnD P w K mg base cl 4 (ad 76) m__law_drops) (F__law_made : FnD P w K mg base cl 10 (ad 77) m__law_made) (F__law_number : FnD P w K mg base cl 2 (ad 66) m__law_number) (F__law_pick : FnD P w K mg base cl 3 (ad 67) m__law_pick) (F__law_places : FnD P w K mg base cl 10 (ad 70) m__law_places) (F__law_rows_of : FnD P w K mg base cl 5 (ad 79) m__law_rows_of) (F__law_wrong : FnD P w K mg base cl 44 (ad 75) m__law_wrong) : FnD P w K mg base cl 45 (ad 78) m__law_plan_right :=
  fnD_of0 T.f__law_plan_right sc__law_plan_right (fun _ _ _ _ _ _ us hl => match us, hl with | [_, _], _ => rfl) (fun cdv A outer s H E c hc hr => by
    subst hc
    exact dss_cons (ds_asg (de_call (caD_of F__law_pick (hr.mono (by decide)) takes_b) T.k__law_pick T.g__law_pick (da_cons (de_var 0) (da_cons (de_var 1) (da_cons (de_tup (da_cons (de_int) (da_cons (de_int) (da_cons (de_int) (da_cons (de_int) (da_nil)))))) (da_cons (de_tup (da_cons (de_int) (da_cons (de_int) (da_cons (de_bl) (da_cons (de_non) (da_cons (de_str) (da_cons (de_tup (da_cons (de_int) (da_nil))) (da_cons (de_int) (da_nil))))))))) (da_nil)))))) (dg_name 2 sc__law_plan_right.nd)) (dss_cons (ds_asg (de_call (caD_of F__law_pick (hr.mono (by decide)) takes_b) T.k__law_pick T.g__law_pick (da_cons (de_var 0) (da_cons (de_binS (OpS.alt (os_own (kc := 1) (caD_of F_Recipe_add (hr.mono (by decide)) takes_b) T.sf_Recipe T.d_Recipe_add T.i_Recipe_add) (OpW.s ow_addW)) (de_var 1) (de_int)) (da_cons (de_tup (da_cons (de_int) (da_cons (de_int) (da_cons (de_int) (da_cons (de_int) (da_nil)))))) (da_cons (de_tup (da_cons (de_int) (da_cons (de_int) (da_cons (de_bl) (da_cons (de_non) (da_cons (de_str) (da_cons (de_neg (de_int)) (da_nil)))))))) (da_nil)))))) (dg_name 3 sc__law_plan_right.nd)) (dss_cons (ds_asg (de_call (caD_of F__law_pick (hr.mono (by decide)) takes_b) T.k__law_pick T.g__law_pick (da_cons (de_var 0) (da_cons (de_binS (OpS.alt (os_own (kc := 1) (caD_of F_Recipe_add (hr.mono (by decide)) takes_b) T.sf_Recipe T.d_Recipe_add T.i_Recipe_add) (OpW.s ow_addW)) (de_var 1) (de_int)) (da_cons (de_tup (da_cons (de_int) (da_cons (de_int) (da_cons (de_int) (da_cons (de_int) (da_nil)))))) (da_cons (de_tup (da_cons (de_neg (de_int)) (da_cons (de_int) (da_cons (de_bl) (da_cons (de_non) (da_cons (de_str) (da_cons (de_bin ow_powI (DE.w (de_int)) (DE.w (de_int))) (da_nil)))))))) (da_nil)))))) (dg_name 4 sc__law_plan_right.nd)) (dss_cons (ds_par2 rfl sc__law_plan_right.nd (da_cons (de_call (caD_of F__law_places (hr.mono (by decide)) takes_b) T.k__law_places T.g__law_places (da_cons (de_var 0) (da_cons (de_binS (OpS.alt (os_own (kc := 1) (caD_of F_Recipe_add (hr.mono (by decide)) takes_b) T.sf_Recipe T.d_Recipe_add T.i_Recipe_add) (OpW.s ow_addW)) (de_var 1) (de_int)) (da_nil)))) (da_cons (de_call (caD_of F__law_pick (hr.mono (by decide)) takes_b) T.k__law_pick T.g__law_pick (da_cons (de_var 0) (da_cons (de_binS (OpS.alt (os_own (kc := 1) (caD_of F_Recipe_add (hr.mono (by decide)) takes_b) T.sf_Recipe T.d_Recipe_add T.i_Recipe_add) (OpW.s ow_addW)) (de_var 1) (de_int)) (da_cons (de_tup (da_cons (de_int) (da_nil))) (da_cons (de_tup (da_cons (de_int) (da_cons (de_int) (da_cons (de_int) (da_cons (de_int) (da_nil)))))) (da_nil)))))) (da_nil)))) (dss_cons (ds_asg (de_callT ca_tup (dw_cons (DE.w (de_lc (own := [("form", 14), ("rule", 15)]) (T := [14, 15]) (tlc_any (vs := [14, 15]) (by decide)) rfl sc__law_plan_right.nd (pi_or (pi_list (de_var 12)) (pi_tup (de_var 12))) (blkOk_by (N := ["script", "by", "base", "fields", "cells", "given", "handed", "gone", "due", "found", "plain", "is_right", "rows", "kind", "form", "rule", "at"]) (sc := defScope s__law_plan_right) (by decide +kernel)) (fun _ _ _ _ _ => dg_tup rfl (dgs_cons (dg_name 14 sc__law_plan_right.nd) (dgs_cons (dg_name 15 sc__law_plan_right.nd) (dgs_nil)))) (fun _ _ _ _ _ => dts_nil) (fun _ _ _ _ _ => de_tup (da_cons (de_call (cd_make (C := 0) (kc := 1) T.M_Recipe F_Recipe_init (hr.mono (by decide)) takes0) T.kC_Recipe T.gC_Recipe (da_cons (de_var 14) (da_nil))) (da_cons (de_var 15) (da_nil)))))) (dw_nil)) T.b_tuple boot_tuple) (dg_name 5 sc__law_plan_right.nd)) (dss_cons (ds_asg (de_ix (DE.w (de_tup (da_cons (de_var 5) (da_cons (de_callT ca_lst (dw_cons (DE.w (de_var 5)) (dw_nil)) T.b_list boot_list) (da_cons (de_binS (OpS.alt (os_own (kc := 1) (caD_of F_Recipe_add (hr.mono (by decide)) takes_b) T.sf_Recipe T.d_Recipe_add T.i_Recipe_add) (OpW.s ow_addW)) (de_var 5) (de_tup (da_cons (de_int) (da_nil)))) (da_cons (de_non) (da_cons (de_binS (OpS.alt (os_own (kc := 1) (caD_of F_Recipe_add (hr.mono (by decide)) takes_b) T.sf_Recipe T.d_Recipe_add T.i_Recipe_add) (OpW.s ow_addW)) (de_sl (DE.w (de_var 5)) (do_no) (do_some (de_int))) (de_tup (da_cons (de_tup (da_cons (de_non) (da_cons (de_non) (da_nil)))) (da_nil)))) (da_nil)))))))) (de_var 13)) (dg_name 6 sc__law_plan_right.nd)) (dss_cons (ds_asg (de_call (caD_of F__law_drops (hr.mono (by decide)) takes_b) T.k__law_drops T.g__law_drops (da_cons (de_var 0) (da_cons (de_binS (OpS.alt (os_own (kc := 1) (caD_of F_Recipe_add (hr.mono (by decide)) takes_b) T.sf_Recipe T.d_Recipe_add T.i_Recipe_add) (OpW.s ow_addW)) (de_var 1) (de_int)) (da_cons (de_var 4) (da_cons (de_callBS (CaD.alt (cd_len (kc := 0) F_Key_len (hr.mono (by decide)) takes_b T.d_Key_len T.i_Key_len) (CaD.alt (cd_len (kc := 1) F_Recipe_len (hr.mono (by decide)) takes_b T.d_Recipe_len T.i_Recipe_len) (CaD.alt (cd_len (kc := 2) F_Plan_len (hr.mono (by decide)) takes_b T.d_Plan_len T.i_Plan_len) (CaW.d ca_len)))) (da_cons (de_var 12) (da_nil)) T.b_len boot_len) (da_nil)))))) (dg_name 7 sc__law_plan_right.nd)) (dss_cons (ds_asg (de_call (caD_of F__law_wrong (hr.mono (by decide)) takes_b) T.k__law_wrong T.g__law_wrong (da_cons (de_var 2) (da_cons (de_var 3) (da_cons (de_var 4) (da_cons (de_var 12) (da_cons (de_var 13) (da_cons (de_var 7) (da_nil)))))))) (dg_name 8 sc__law_plan_right.nd)) (dss_cons (ds_asg (de_call (caD_of F__law_made (hr.mono (by decide)) takes_b) T.k__law_made T.g__law_made (da_cons (de_var 2) (da_cons (de_var 3) (da_cons (de_var 4) (da_cons (de_var 6) (da_cons (de_var 7) (da_cons (de_and (de_cmp (ow_isN) (DE.w (de_var 7)) (DE.w (de_non))) (de_one (de_cmp (ow_eq hr.units) (DE.w (de_bin ow_modI (DE.w (de_callT ca_int (dw_cons (DE.w (de_call (caD_of F__law_number (hr.mono (by decide)) takes_b) T.k__law_number T.g__law_number (da_cons (de_var 0) (da_cons (de_binS (OpS.alt (os_own (kc := 1) (caD_of F_Recipe_add (hr.mono (by decide)) takes_b) T.sf_Recipe T.d_Recipe_add T.i_Recipe_add) (OpW.s ow_addW)) (de_var 1) (de_int)) (da_nil))))) (dw_nil)) T.b_int boot_int)) (DE.w (de_int)))) (DE.w (de_int))))) (da_nil)))))))) (dg_name 9 sc__law_plan_right.nd)) (dss_cons (ds_if (dt_cmp (ow_notN) (DE.w (de_var 8)) (DE.w (de_non))) (dss_one (ds_ret (DE.w (de_tup (da_cons (de_cmpS (OpS.alt (os_cmpX (kc := 0) (oth := (fun j => [1, 2].contains j)) (caD_of F_Key_eq (hr.mono (by decide)) takes_b) hr.units0 T.d_Key_eq T.i_Key_eq T.sn_Key T.ss_Key (oth_of (l := [1, 2]) (fun j hj => by simp only [List.mem_cons, List.not_mem_nil, or_false] at hj; rcases hj with rfl | rfl <;> first | exact T.so_Recipe_Key | exact T.so_Plan_Key))) (OpS.alt (os_cmpX (kc := 1) (oth := (fun j => [0, 2].contains j)) (caD_of F_Recipe_eq (hr.mono (by decide)) takes_b) hr.units0 T.d_Recipe_eq T.i_Recipe_eq T.sn_Recipe T.ss_Recipe (oth_of (l := [0, 2]) (fun j hj => by simp only [List.mem_cons, List.not_mem_nil, or_false] at hj; rcases hj with rfl | rfl <;> first | exact T.so_Key_Recipe | exact T.so_Plan_Recipe))) (OpS.alt (os_cmpX (kc := 2) (oth := (fun j => [0, 1].contains j)) (caD_of F_Plan_eq (hr.mono (by decide)) takes_b) hr.units0 T.d_Plan_eq T.i_Plan_eq T.sn_Plan T.ss_Plan (oth_of (l := [0, 1]) (fun j hj => by simp only [List.mem_cons, List.not_mem_nil, or_false] at hj; rcases hj with rfl | rfl <;> first | exact T.so_Key_Plan | exact T.so_Recipe_Plan))) (OpW.s (ow_eq hr.units))))) (de_var 9) (de_var 8)) (da_cons (de_non) (da_nil))))))) (dss_nil)) (dss_cons (ds_if (dt_pt (dt_or (dt_not (dt_val (de_isi (g := isiCX 2 3) (DE.w (de_var 9)) (pe_glob (v := .ref (c.cl.at_ 2)) rfl T.gC_Plan rfl) (.own _) (isiCX_ok T.kc_Plan) (isiCX_in T.ia_all) T.b_isinstance))) (dt_or1 (dt_cmp (ow_ne hr.units) (DE.w (de_callBS (CaD.alt (cd_len (kc := 0) F_Key_len (hr.mono (by decide)) takes_b T.d_Key_len T.i_Key_len) (CaD.alt (cd_len (kc := 1) F_Recipe_len (hr.mono (by decide)) takes_b T.d_Recipe_len T.i_Recipe_len) (CaD.alt (cd_len (kc := 2) F_Plan_len (hr.mono (by decide)) takes_b T.d_Plan_len T.i_Plan_len) (CaW.d ca_len)))) (da_cons (de_var 9) (da_nil)) T.b_len boot_len)) (DE.w (de_callBS (CaD.alt (cd_len (kc := 0) F_Key_len (hr.mono (by decide)) takes_b T.d_Key_len T.i_Key_len) (CaD.alt (cd_len (kc := 1) F_Recipe_len (hr.mono (by decide)) takes_b T.d_Recipe_len T.i_Recipe_len) (CaD.alt (cd_len (kc := 2) F_Plan_len (hr.mono (by decide)) takes_b T.d_Plan_len T.i_Plan_len) (CaW.d ca_len)))) (da_cons (de_var 12) (da_nil)) T.b_len boot_len)))))) (dss_one (ds_ret (DE.w (de_tup (da_cons (de_bl) (da_cons (de_non) (da_nil))))))) (dss_nil)) (dss_cons (ds_setLc (own := [("form", 14), ("rule", 15)]) (T := [14, 15]) (tlc_any (vs := [14, 15]) (by decide)) rfl sc__law_plan_right.nd (pi_or (pi_list (de_var 12)) (pi_tup (de_var 12))) (blkOk_by (N := ["script", "by", "base", "fields", "cells", "given", "handed", "gone", "due", "found", "plain", "is_right", "rows", "kind", "form", "rule", "at"]) (sc := defScope s__law_plan_right) (by decide +kernel)) (fun _ _ _ _ _ => dg_tup rfl (dgs_cons (dg_name 14 sc__law_plan_right.nd) (dgs_cons (dg_name 15 sc__law_plan_right.nd) (dgs_nil)))) (fun _ _ _ _ _ => dts_nil) (fun _ _ _ _ _ => de_tup (da_cons (de_var 14) (da_cons (de_if (dt_val (de_isi (g := isiCX 0 3) (DE.w (de_var 15)) (pe_glob (v := .ref (c.cl.at_ 0)) rfl T.gC_Key rfl) (.own _) (isiCX_ok T.kc_Key) (isiCX_in T.ia_all) T.b_isinstance)) (de_alt (de_prop (kc := 0) (de_var 15) T.C_Key T.pr_Key_names F_Key_names (hr.mono (by decide))) (de_prop (kc := 1) (de_var 15) T.C_Recipe T.pr_Recipe_names F_Recipe_names (hr.mono (by decide)))) (de_var 15)) (da_nil))))) (dss_cons (ds_if (dt_cmpS (OpS.alt (os_ne (kc := 0) F_Key_eq (hr.mono (by decide)) takes_b T.C_Key T.ne_Key T.d_Key_eq T.i_Key_eq) (OpS.alt (os_ne (kc := 1) F_Recipe_eq (hr.mono (by decide)) takes_b T.C_Recipe T.ne_Recipe T.d_Recipe_eq T.i_Recipe_eq) (OpS.alt (os_ne (kc := 2) F_Plan_eq (hr.mono (by decide)) takes_b T.C_Plan T.ne_Plan T.d_Plan_eq T.i_Plan_eq) (OpW.s (ow_ne hr.units))))) (de_call (caD_of F__law_rows_of (hr.mono (by decide)) takes_b) T.k__law_rows_of T.g__law_rows_of (da_cons (de_var 9) (da_nil))) (de_var 10)) (dss_one (ds_ret (DE.w (de_tup (da_cons (de_bl) (da_cons (de_non) (da_nil))))))) (dss_nil)) (dss_cons (ds_asg (de_if (dt_cmp (ow_notN) (DE.w (de_var 7)) (DE.w (de_non))) (de_var 7) (de_bin ow_repT (DE.w (de_tup (da_cons (de_tup (da_nil)) (da_nil)))) (DE.w (de_var 4)))) (dg_name 8 sc__law_plan_right.nd)) (dss_cons (ds_asg (de_cmp (ow_eq hr.units) (DE.w (de_tup (da_cons (de_prop (kc := 2) (de_var 9) T.C_Plan T.pr_Plan_base F_Plan_base (hr.mono (by decide))) (da_cons (de_prop (kc := 2) (de_var 9) T.C_Plan T.pr_Plan_fields F_Plan_fields (hr.mono (by decide))) (da_cons (de_prop (kc := 2) (de_var 9) T.C_Plan T.pr_Plan_cells F_Plan_cells (hr.mono (by decide))) (da_cons (de_prop (kc := 2) (de_var 9) T.C_Plan T.pr_Plan_drops F_Plan_drops (hr.mono (by decide))) (da_nil))))))) (DE.w (de_tup (da_cons (de_var 2) (da_cons (de_var 3) (da_cons (de_var 4) (da_cons (de_var 8) (da_nil)))))))) (dg_name 11 sc__law_plan_right.nd)) (dss_cons (ds_asg (de_and (de_var 11) (de_one (de_callB (ca_all rfl) (dw_cons (DE.w (de_lc (own := [("at", 16)]) (T := [16]) (tlc_r1 (vs := [16]) (by decide)) rfl sc__law_plan_right.nd (pi_range1 rfl T.b_range (da_cons (de_callBS (CaD.alt (cd_len (kc := 0) F_Key_len (hr.mono (by decide)) takes_b T.d_Key_len T.i_Key_len) (CaD.alt (cd_len (kc := 1) F_Recipe_len (hr.mono (by decide)) takes_b T.d_Recipe_len T.i_Recipe_len) (CaD.alt (cd_len (kc := 2) F_Plan_len (hr.mono (by decide)) takes_b T.d_Plan_len T.i_Plan_len) (CaW.d ca_len)))) (da_cons (de_var 12) (da_nil)) T.b_len boot_len) (da_nil))) (blkOk_by (N := ["script", "by", "base", "fields", "cells", "given", "handed", "gone", "due", "found", "plain", "is_right", "rows", "kind", "form", "rule", "at"]) (sc := defScope s__law_plan_right) (by decide +kernel)) (fun _ _ _ _ _ => dg_name 16 sc__law_plan_right.nd) (fun _ _ _ _ _ => dts_nil) (fun _ _ _ _ _ => de_cmpS (OpS.alt (os_cmpX (kc := 0) (oth := (fun j => [1, 2].contains j)) (caD_of F_Key_eq (hr.mono (by decide)) takes0) hr.units0 T.d_Key_eq T.i_Key_eq T.sn_Key T.ss_Key (oth_of (l := [1, 2]) (fun j hj => by simp only [List.mem_cons, List.not_mem_nil, or_false] at hj; rcases hj with rfl | rfl <;> first | exact T.so_Recipe_Key | exact T.so_Plan_Key))) (OpS.alt (os_cmpX (kc := 1) (oth := (fun j => [0, 2].contains j)) (caD_of F_Recipe_eq (hr.mono (by decide)) takes0) hr.units0 T.d_Recipe_eq T.i_Recipe_eq T.sn_Recipe T.ss_Recipe (oth_of (l := [0, 2]) (fun j hj => by simp only [List.mem_cons, List.not_mem_nil, or_false] at hj; rcases hj with rfl | rfl <;> first | exact T.so_Key_Recipe | exact T.so_Plan_Recipe))) (OpS.alt (os_cmpX (kc := 2) (oth := (fun j => [0, 1].contains j)) (caD_of F_Plan_eq (hr.mono (by decide)) takes0) hr.units0 T.d_Plan_eq T.i_Plan_eq T.sn_Plan T.ss_Plan (oth_of (l := [0, 1]) (fun j hj => by simp only [List.mem_cons, List.not_mem_nil, or_false] at hj; rcases hj with rfl | rfl <;> first | exact T.so_Key_Plan | exact T.so_Recipe_Plan))) (OpW.s (ow_eq hr.units))))) (de_ix (DE.w (de_alt (de_subO (kc := 2) F_Plan_getitem (hr.mono (by decide)) takes0 T.d_Plan_getitem T.fi_Plan_getitem T.i_Plan_getitem (de_var 9) (de_var 16)) (de_ix (DE.w (de_var 9)) (de_var 16)))) (de_int)) (de_ix (DE.w (de_ix (DE.w (de_var 5)) (de_var 16))) (de_int))))) (dw_nil)) T.b_all (by decide +kernel)))) (dg_name 11 sc__law_plan_right.nd)) (dss_one (ds_ret (DE.w (de_tup (da_cons (de_var 11) (da_cons (de_var 9) (da_nil)))))))))))))))))))))))
theorem ok_law (T : Tx P K mg cl ad fd mc w) (F_Key_eq : FnD P w K mg base cl 2 (ad 18) m_Key_eq) (F_Plan_eq : FnD P w K mg base cl 11 (ad 58) m_Plan_eq) (F_Plan_base : FnD P w K mg base cl 2 (ad 46) m_Plan_base) (F_Plan_cells : FnD P w K mg base cl 2 (ad 48) m_Plan_cells) (F_Plan_drops : FnD P w K mg base cl 2 (ad 50) m_Plan_drops) (F_Plan_fields : FnD P w K mg base cl 2 (ad 47) m_Plan_fields) (F_Recipe_add : FnD P w K mg base cl 8 (ad 27) m_Recipe_add) (F_Recipe_eq : FnD P w K mg base cl 2 (ad 37) m_Recipe_eq) (F__law_drops_right : FnD P w K mg base cl 13 (ad 80) m__law_drops_right) (F__law_plan_right : FnD P w K mg base cl 45 (ad 78) m__law_plan_right) (F__law_rows_of : FnD P w K mg base cl 5 (ad 79) m__law_rows_of) (ht : ∀ ns : List Int, ns.length ≤ 63 → m_law [.scr ns] = .ok (.bl true)) : FnOk P w K mg base (L2.CX P w) 46 (ad 81) (fd 81) ["script"] (spL K) :=
  law_fn (cl := cl) (fb := b_law) T.f_law sc_law (fun cdv A outer s H E c hc hr => by
    subst hc
    exact dss_cons (ds_if (dt_not (dt_val (de_call0 (caD_of F__law_drops_right (hr.mono (by decide)) takes_b) T.k__law_drops_right T.g__law_drops_right))) (dss_one (ds_ret (DE.w (de_bl)))) (dss_nil)) (dss_cons (ds_asg (de_lst (da_nil)) (dg_name 1 sc_law.nd)) (dss_cons (ds_forR3 passes_b rfl T.b_range (da_cons (de_int) (da_cons (de_int) (da_cons (de_int) (da_nil)))) (dg_name 2 sc_law.nd) (dss_cons (ds_asg (de_call (caD_of F__law_plan_right (hr.mono (by decide)) takes_b) T.k__law_plan_right T.g__law_plan_right (da_cons (de_var 0) (da_cons (de_var 2) (da_nil)))) (dg_tup rfl (dgs_cons (dg_name 5 sc_law.nd) (dgs_cons (dg_name 6 sc_law.nd) (dgs_nil))))) (dss_cons (ds_if (dt_not (dt_tru (DE.w (de_var 5)))) (dss_one (ds_ret (DE.w (de_bl)))) (dss_nil)) (dss_one (ds_asg (de_binS (OpS.alt (os_own (kc := 1) (caD_of F_Recipe_add (hr.mono (by decide)) takes_b) T.sf_Recipe T.d_Recipe_add T.i_Recipe_add) (OpW.s ow_addW)) (de_var 1) (de_if (dt_cmp (ow_notN) (DE.w (de_var 6)) (DE.w (de_non))) (de_lst (da_cons (de_var 6) (da_nil))) (de_lst (da_nil)))) (dg_name 1 sc_law.nd)))))) (dss_cons (ds_for passes_b rfl (de_var 1) (dg_name 3 sc_law.nd) (dss_one (ds_for passes_b rfl (de_var 1) (dg_name 4 sc_law.nd) (dss_cons (ds_asg (de_cmp (ow_eq hr.units) (DE.w (de_tup (da_cons (de_prop (kc := 2) (de_var 3) T.C_Plan T.pr_Plan_base F_Plan_base (hr.mono (by decide))) (da_cons (de_prop (kc := 2) (de_var 3) T.C_Plan T.pr_Plan_fields F_Plan_fields (hr.mono (by decide))) (da_cons (de_prop (kc := 2) (de_var 3) T.C_Plan T.pr_Plan_cells F_Plan_cells (hr.mono (by decide))) (da_cons (de_prop (kc := 2) (de_var 3) T.C_Plan T.pr_Plan_drops F_Plan_drops (hr.mono (by decide))) (da_nil))))))) (DE.w (de_tup (da_cons (de_prop (kc := 2) (de_var 4) T.C_Plan T.pr_Plan_base F_Plan_base (hr.mono (by decide))) (da_cons (de_prop (kc := 2) (de_var 4) T.C_Plan T.pr_Plan_fields F_Plan_fields (hr.mono (by decide))) (da_cons (de_prop (kc := 2) (de_var 4) T.C_Plan T.pr_Plan_cells F_Plan_cells (hr.mono (by decide))) (da_cons (de_prop (kc := 2) (de_var 4) T.C_Plan T.pr_Plan_drops F_Plan_drops (hr.mono (by decide))) (da_nil)))))))) (dg_name 7 sc_law.nd)) (dss_one (ds_if (dt_pt (dt_or (dt_cmp (ow_ne hr.units) (DE.w (de_cmpS (OpS.alt (os_cmpX (kc := 0) (oth := (fun j => [1, 2].contains j)) (caD_of F_Key_eq (hr.mono (by decide)) takes_b) hr.units0 T.d_Key_eq T.i_Key_eq T.sn_Key T.ss_Key (oth_of (l := [1, 2]) (fun j hj => by simp only [List.mem_cons, List.not_mem_nil, or_false] at hj; rcases hj with rfl | rfl <;> first | exact T.so_Recipe_Key | exact T.so_Plan_Key))) (OpS.alt (os_cmpX (kc := 1) (oth := (fun j => [0, 2].contains j)) (caD_of F_Recipe_eq (hr.mono (by decide)) takes_b) hr.units0 T.d_Recipe_eq T.i_Recipe_eq T.sn_Recipe T.ss_Recipe (oth_of (l := [0, 2]) (fun j hj => by simp only [List.mem_cons, List.not_mem_nil, or_false] at hj; rcases hj with rfl | rfl <;> first | exact T.so_Key_Recipe | exact T.so_Plan_Recipe))) (OpS.alt (os_cmpX (kc := 2) (oth := (fun j => [0, 1].contains j)) (caD_of F_Plan_eq (hr.mono (by decide)) takes_b) hr.units0 T.d_Plan_eq T.i_Plan_eq T.sn_Plan T.ss_Plan (oth_of (l := [0, 1]) (fun j hj => by simp only [List.mem_cons, List.not_mem_nil, or_false] at hj; rcases hj with rfl | rfl <;> first | exact T.so_Key_Plan | exact T.so_Recipe_Plan))) (OpW.s (ow_eq hr.units))))) (de_var 3) (de_var 4))) (DE.w (de_and (de_var 7) (de_one (de_cmpS (OpS.alt (os_cmpX (kc := 0) (oth := (fun j => [1, 2].contains j)) (caD_of F_Key_eq (hr.mono (by decide)) takes_b) hr.units0 T.d_Key_eq T.i_Key_eq T.sn_Key T.ss_Key (oth_of (l := [1, 2]) (fun j hj => by simp only [List.mem_cons, List.not_mem_nil, or_false] at hj; rcases hj with rfl | rfl <;> first | exact T.so_Recipe_Key | exact T.so_Plan_Key))) (OpS.alt (os_cmpX (kc := 1) (oth := (fun j => [0, 2].contains j)) (caD_of F_Recipe_eq (hr.mono (by decide)) takes_b) hr.units0 T.d_Recipe_eq T.i_Recipe_eq T.sn_Recipe T.ss_Recipe (oth_of (l := [0, 2]) (fun j hj => by simp only [List.mem_cons, List.not_mem_nil, or_false] at hj; rcases hj with rfl | rfl <;> first | exact T.so_Key_Recipe | exact T.so_Plan_Recipe))) (OpS.alt (os_cmpX (kc := 2) (oth := (fun j => [0, 1].contains j)) (caD_of F_Plan_eq (hr.mono (by decide)) takes_b) hr.units0 T.d_Plan_eq T.i_Plan_eq T.sn_Plan T.ss_Plan (oth_of (l := [0, 1]) (fun j hj => by simp only [List.mem_cons, List.not_mem_nil, or_false] at hj; rcases hj with rfl | rfl <;> first | exact T.so_Key_Plan | exact T.so_Recipe_Plan))) (OpW.s (ow_eq hr.units))))) (de_call (caD_of F__law_rows_of (hr.mono (by decide)) takes_b) T.k__law_rows_of T.g__law_rows_of (da_cons (de_var 3) (da_nil))) (de_call (caD_of F__law_rows_of (hr.mono (by decide)) takes_b) T.k__law_rows_of T.g__law_rows_of (da_cons (de_var 4) (da_nil)))))))) (dt_or1 (dt_cmp (ow_eq hr.units) (DE.w (de_cmpS (OpS.alt (os_ne (kc := 0) F_Key_eq (hr.mono (by decide)) takes_b T.C_Key T.ne_Key T.d_Key_eq T.i_Key_eq) (OpS.alt (os_ne (kc := 1) F_Recipe_eq (hr.mono (by decide)) takes_b T.C_Recipe T.ne_Recipe T.d_Recipe_eq T.i_Recipe_eq) (OpS.alt (os_ne (kc := 2) F_Plan_eq (hr.mono (by decide)) takes_b T.C_Plan T.ne_Plan T.d_Plan_eq T.i_Plan_eq) (OpW.s (ow_ne hr.units))))) (de_var 3) (de_var 4))) (DE.w (de_cmpS (OpS.alt (os_cmpX (kc := 0) (oth := (fun j => [1, 2].contains j)) (caD_of F_Key_eq (hr.mono (by decide)) takes_b) hr.units0 T.d_Key_eq T.i_Key_eq T.sn_Key T.ss_Key (oth_of (l := [1, 2]) (fun j hj => by simp only [List.mem_cons, List.not_mem_nil, or_false] at hj; rcases hj with rfl | rfl <;> first | exact T.so_Recipe_Key | exact T.so_Plan_Key))) (OpS.alt (os_cmpX (kc := 1) (oth := (fun j => [0, 2].contains j)) (caD_of F_Recipe_eq (hr.mono (by decide)) takes_b) hr.units0 T.d_Recipe_eq T.i_Recipe_eq T.sn_Recipe T.ss_Recipe (oth_of (l := [0, 2]) (fun j hj => by simp only [List.mem_cons, List.not_mem_nil, or_false] at hj; rcases hj with rfl | rfl <;> first | exact T.so_Key_Recipe | exact T.so_Plan_Recipe))) (OpS.alt (os_cmpX (kc := 2) (oth := (fun j => [0, 1].contains j)) (caD_of F_Plan_eq (hr.mono (by decide)) takes_b) hr.units0 T.d_Plan_eq T.i_Plan_eq T.sn_Plan T.ss_Plan (oth_of (l := [0, 1]) (fun j hj => by simp only [List.mem_cons, List.not_mem_nil, or_false] at hj; rcases hj with rfl | rfl <;> first | exact T.so_Key_Plan | exact T.so_Recipe_Plan))) (OpW.s (ow_eq hr.units))))) (de_var 3) (de_var 4))))))) (dss_one (ds_ret (DE.w (de_bl)))) (dss_nil))))))) (dss_one (ds_ret (DE.w (de_bl)))))))) ht
end
theorem all_mk {P : Program} {w : World} {K : PySem.W.Frag} {h : Heap} {mg : Str → Option Value} {fa : Addr} {C0 C1 C2 a0 a1 a2 a3 a4 a5 a6 a7 a9 a10 a12 a14 a16 a17 a18 a19 a20 a24 a27 a29 a31 a34 a35 a37 a38 a39 a40 a41 a42 a43 a44 a45 a46 a47 a48 a49 a50 a54 a55 a57 a58 a59 a60 a61 a62 a63 a64 a65 a66 a67 a68 a69 a70 a71 a72 a73 a74 a75 a76 a77 a78 a79 a80 a81 a82 a83 a84 a85 a86 a87 a88 a89 a90 a91 a92 a93 a94 a95 a96 a97 a98 a99 a100 a101 a102 a103 : Addr} {mc : Value} {t0_CELL_NAMES t1_CELL_NAMES : Tok} {od_CELL_NAMES : Option Addr} {nn_CELL_NAMES : Nat} {sl_CELL_NAMES : Array (Option Value)}
    {t0_FIELD_NAMES t1_FIELD_NAMES t2_FIELD_NAMES : Tok} {od_FIELD_NAMES : Option Addr} {nn_FIELD_NAMES : Nat} {sl_FIELD_NAMES : Array (Option Value)}
    {tk0_HIGHEST tv0_HIGHEST tk1_HIGHEST tv1_HIGHEST tk2_HIGHEST tv2_HIGHEST tk3_HIGHEST tv3_HIGHEST : Tok} {nn_HIGHEST : Nat}
    {tk0_LETTERS tv0_LETTERS tk1_LETTERS tv1_LETTERS tk2_LETTERS tv2_LETTERS : Tok} {nn_LETTERS : Nat}
    {tk_MOST_LEAVES : Tok}
    {tk_MOST_SITUATIONS : Tok}
    {t0_NAMES t1_NAMES t2_NAMES t3_NAMES t4_NAMES t5_NAMES t6_NAMES : Tok} {od_NAMES : Option Addr} {nn_NAMES : Nat} {sl_NAMES : Array (Option Value)}
    {t0_PLACE_NAMES t1_PLACE_NAMES : Tok} {od_PLACE_NAMES : Option Addr} {nn_PLACE_NAMES : Nat} {sl_PLACE_NAMES : Array (Option Value)}
    {tk0_WIDTHS tv0_WIDTHS tk1_WIDTHS tv1_WIDTHS tk2_WIDTHS tv2_WIDTHS tk3_WIDTHS tv3_WIDTHS tk4_WIDTHS tv4_WIDTHS : Tok} {nn_WIDTHS : Nat}
    {t0_WORDS t1_WORDS : Tok} {od_WORDS : Option Addr} {nn_WORDS : Nat} {sl_WORDS : Array (Option Value)}
    {rc_Recipe_field : List Value}
    {od_Key_init : Option Addr} {nn_Key_init : Nat} {sl_Key_init : Array (Option Value)}
    {oc_Key_contains kV_Key_contains dc_Key_contains pm_Key_contains cd_Key_contains ct_Key_contains : Value} {oo_Key_contains an_Key_contains : Option Addr} {so_Key_contains : Array (Option Value)}
    {oc_Key_eq kV_Key_eq dc_Key_eq pm_Key_eq cd_Key_eq ct_Key_eq : Value} {oo_Key_eq an_Key_eq : Option Addr} {so_Key_eq : Array (Option Value)}
    {oc_Key_init kV_Key_init dc_Key_init pm_Key_init cd_Key_init ct_Key_init : Value} {oo_Key_init an_Key_init : Option Addr} {so_Key_init : Array (Option Value)}
    {dT_Key_init : Addr} {dd_Key_init : Option Addr} {dn_Key_init : Nat} {ds_Key_init : Array (Option Value)} {dc2_Key_init : Value}
    {oc_Key_le kV_Key_le dc_Key_le pm_Key_le cd_Key_le ct_Key_le : Value} {oo_Key_le an_Key_le : Option Addr} {so_Key_le : Array (Option Value)}
    {oc_Key_len kV_Key_len dc_Key_len pm_Key_len cd_Key_len ct_Key_len : Value} {oo_Key_len an_Key_len : Option Addr} {so_Key_len : Array (Option Value)}
    {oc_Key_names kV_Key_names dc_Key_names pm_Key_names cd_Key_names ct_Key_names : Value} {oo_Key_names an_Key_names : Option Addr} {so_Key_names : Array (Option Value)}
    {oc_Plan_base kV_Plan_base dc_Plan_base pm_Plan_base cd_Plan_base ct_Plan_base : Value} {oo_Plan_base an_Plan_base : Option Addr} {so_Plan_base : Array (Option Value)}
    {oc_Plan_cells kV_Plan_cells dc_Plan_cells pm_Plan_cells cd_Plan_cells ct_Plan_cells : Value} {oo_Plan_cells an_Plan_cells : Option Addr} {so_Plan_cells : Array (Option Value)}
    {oc_Plan_check_place kV_Plan_check_place dc_Plan_check_place pm_Plan_check_place cd_Plan_check_place ct_Plan_check_place : Value} {oo_Plan_check_place an_Plan_check_place : Option Addr} {so_Plan_check_place : Array (Option Value)}
    {oc_Plan_drops kV_Plan_drops dc_Plan_drops pm_Plan_drops cd_Plan_drops ct_Plan_drops : Value} {oo_Plan_drops an_Plan_drops : Option Addr} {so_Plan_drops : Array (Option Value)}
    {oc_Plan_eq kV_Plan_eq dc_Plan_eq pm_Plan_eq cd_Plan_eq ct_Plan_eq : Value} {oo_Plan_eq an_Plan_eq : Option Addr} {so_Plan_eq : Array (Option Value)}
    {oc_Plan_fields kV_Plan_fields dc_Plan_fields pm_Plan_fields cd_Plan_fields ct_Plan_fields : Value} {oo_Plan_fields an_Plan_fields : Option Addr} {so_Plan_fields : Array (Option Value)}
    {oc_Plan_getitem kV_Plan_getitem dc_Plan_getitem pm_Plan_getitem cd_Plan_getitem ct_Plan_getitem : Value} {oo_Plan_getitem an_Plan_getitem : Option Addr} {so_Plan_getitem : Array (Option Value)}
    {oc_Plan_init kV_Plan_init dc_Plan_init pm_Plan_init cd_Plan_init ct_Plan_init : Value} {oo_Plan_init an_Plan_init : Option Addr} {so_Plan_init : Array (Option Value)}
    {kD_Plan_init : Addr}
    {oc_Plan_len kV_Plan_len dc_Plan_len pm_Plan_len cd_Plan_len ct_Plan_len : Value} {oo_Plan_len an_Plan_len : Option Addr} {so_Plan_len : Array (Option Value)}
    {oc_Plan_places kV_Plan_places dc_Plan_places pm_Plan_places cd_Plan_places ct_Plan_places : Value} {oo_Plan_places an_Plan_places : Option Addr} {so_Plan_places : Array (Option Value)}
    {oc_Recipe_add kV_Recipe_add dc_Recipe_add pm_Recipe_add cd_Recipe_add ct_Recipe_add : Value} {oo_Recipe_add an_Recipe_add : Option Addr} {so_Recipe_add : Array (Option Value)}
    {oc_Recipe_contains kV_Recipe_contains dc_Recipe_contains pm_Recipe_contains cd_Recipe_contains ct_Recipe_contains : Value} {oo_Recipe_contains an_Recipe_contains : Option Addr} {so_Recipe_contains : Array (Option Value)}
    {oc_Recipe_eq kV_Recipe_eq dc_Recipe_eq pm_Recipe_eq cd_Recipe_eq ct_Recipe_eq : Value} {oo_Recipe_eq an_Recipe_eq : Option Addr} {so_Recipe_eq : Array (Option Value)}
    {oc_Recipe_field kV_Recipe_field dc_Recipe_field pm_Recipe_field cd_Recipe_field ct_Recipe_field : Value} {oo_Recipe_field an_Recipe_field : Option Addr} {so_Recipe_field : Array (Option Value)}
    {oc_Recipe_init kV_Recipe_init dc_Recipe_init pm_Recipe_init cd_Recipe_init ct_Recipe_init : Value} {oo_Recipe_init an_Recipe_init : Option Addr} {so_Recipe_init : Array (Option Value)}
    {oc_Recipe_len kV_Recipe_len dc_Recipe_len pm_Recipe_len cd_Recipe_len ct_Recipe_len : Value} {oo_Recipe_len an_Recipe_len : Option Addr} {so_Recipe_len : Array (Option Value)}
    {oc_Recipe_names kV_Recipe_names dc_Recipe_names pm_Recipe_names cd_Recipe_names ct_Recipe_names : Value} {oo_Recipe_names an_Recipe_names : Option Addr} {so_Recipe_names : Array (Option Value)}
    {oc__law_are_drops kV__law_are_drops dc__law_are_drops pm__law_are_drops cd__law_are_drops ct__law_are_drops : Value} {oo__law_are_drops an__law_are_drops : Option Addr} {so__law_are_drops : Array (Option Value)}
    {oc__law_drops kV__law_drops dc__law_drops pm__law_drops cd__law_drops ct__law_drops : Value} {oo__law_drops an__law_drops : Option Addr} {so__law_drops : Array (Option Value)}
    {oc__law_drops_right kV__law_drops_right dc__law_drops_right pm__law_drops_right cd__law_drops_right ct__law_drops_right : Value} {oo__law_drops_right an__law_drops_right : Option Addr} {so__law_drops_right : Array (Option Value)}
    {oc__law_is_number kV__law_is_number dc__law_is_number pm__law_is_number cd__law_is_number ct__law_is_number : Value} {oo__law_is_number an__law_is_number : Option Addr} {so__law_is_number : Array (Option Value)}
    {oc__law_is_place kV__law_is_place dc__law_is_place pm__law_is_place cd__law_is_place ct__law_is_place : Value} {oo__law_is_place an__law_is_place : Option Addr} {so__law_is_place : Array (Option Value)}
    {oc__law_leaf kV__law_leaf dc__law_leaf pm__law_leaf cd__law_leaf ct__law_leaf : Value} {oo__law_leaf an__law_leaf : Option Addr} {so__law_leaf : Array (Option Value)}
    {oc__law_leaves kV__law_leaves dc__law_leaves pm__law_leaves cd__law_leaves ct__law_leaves : Value} {oo__law_leaves an__law_leaves : Option Addr} {so__law_leaves : Array (Option Value)}
    {oc__law_made kV__law_made dc__law_made pm__law_made cd__law_made ct__law_made : Value} {oo__law_made an__law_made : Option Addr} {so__law_made : Array (Option Value)}
    {oc__law_number kV__law_number dc__law_number pm__law_number cd__law_number ct__law_number : Value} {oo__law_number an__law_number : Option Addr} {so__law_number : Array (Option Value)}
    {oc__law_pick kV__law_pick dc__law_pick pm__law_pick cd__law_pick ct__law_pick : Value} {oo__law_pick an__law_pick : Option Addr} {so__law_pick : Array (Option Value)}
    {oc__law_places kV__law_places dc__law_places pm__law_places cd__law_places ct__law_places : Value} {oo__law_places an__law_places : Option Addr} {so__law_places : Array (Option Value)}
    {oc__law_plan_right kV__law_plan_right dc__law_plan_right pm__law_plan_right cd__law_plan_right ct__law_plan_right : Value} {oo__law_plan_right an__law_plan_right : Option Addr} {so__law_plan_right : Array (Option Value)}
    {oc__law_rows_of kV__law_rows_of dc__law_rows_of pm__law_rows_of cd__law_rows_of ct__law_rows_of : Value} {oo__law_rows_of an__law_rows_of : Option Addr} {so__law_rows_of : Array (Option Value)}
    {oc__law_rule kV__law_rule dc__law_rule pm__law_rule cd__law_rule ct__law_rule : Value} {oo__law_rule an__law_rule : Option Addr} {so__law_rule : Array (Option Value)}
    {oc__law_wrong kV__law_wrong dc__law_wrong pm__law_wrong cd__law_wrong ct__law_wrong : Value} {oo__law_wrong an__law_wrong : Option Addr} {so__law_wrong : Array (Option Value)}
    {oc_drops_fit kV_drops_fit dc_drops_fit pm_drops_fit cd_drops_fit ct_drops_fit : Value} {oo_drops_fit an_drops_fit : Option Addr} {so_drops_fit : Array (Option Value)}
    {oc_form_of kV_form_of dc_form_of pm_form_of cd_form_of ct_form_of : Value} {oo_form_of an_form_of : Option Addr} {so_form_of : Array (Option Value)}
    {oc_in_order kV_in_order dc_in_order pm_in_order cd_in_order ct_in_order : Value} {oo_in_order an_in_order : Option Addr} {so_in_order : Array (Option Value)}
    {oc_is_ascending kV_is_ascending dc_is_ascending pm_is_ascending cd_is_ascending ct_is_ascending : Value} {oo_is_ascending an_is_ascending : Option Addr} {so_is_ascending : Array (Option Value)}
    {oc_is_integer kV_is_integer dc_is_integer pm_is_integer cd_is_integer ct_is_integer : Value} {oo_is_integer an_is_integer : Option Addr} {so_is_integer : Array (Option Value)}
    {oc_is_name kV_is_name dc_is_name pm_is_name cd_is_name ct_is_name : Value} {oo_is_name an_is_name : Option Addr} {so_is_name : Array (Option Value)}
    {oc_is_whole kV_is_whole dc_is_whole pm_is_whole cd_is_whole ct_is_whole : Value} {oo_is_whole an_is_whole : Option Addr} {so_is_whole : Array (Option Value)}
    {oc_kind_of kV_kind_of dc_kind_of pm_kind_of cd_kind_of ct_kind_of : Value} {oo_kind_of an_kind_of : Option Addr} {so_kind_of : Array (Option Value)}
    {oc_law kV_law dc_law pm_law cd_law ct_law : Value} {oo_law an_law : Option Addr} {so_law : Array (Option Value)}
    {oc_leaf_form kV_leaf_form dc_leaf_form pm_leaf_form cd_leaf_form ct_leaf_form : Value} {oo_leaf_form an_leaf_form : Option Addr} {so_leaf_form : Array (Option Value)}
    {oc_leaves_of kV_leaves_of dc_leaves_of pm_leaves_of cd_leaves_of ct_leaves_of : Value} {oo_leaves_of an_leaves_of : Option Addr} {so_leaves_of : Array (Option Value)}
    {oc_name_of kV_name_of dc_name_of pm_name_of cd_name_of ct_name_of : Value} {oo_name_of an_name_of : Option Addr} {so_name_of : Array (Option Value)}
    {oc_number_rows kV_number_rows dc_number_rows pm_number_rows cd_number_rows ct_number_rows : Value} {oo_number_rows an_number_rows : Option Addr} {so_number_rows : Array (Option Value)}
    {oc_pair_fits kV_pair_fits dc_pair_fits pm_pair_fits cd_pair_fits ct_pair_fits : Value} {oo_pair_fits an_pair_fits : Option Addr} {so_pair_fits : Array (Option Value)}
    {oc_recipe_fits kV_recipe_fits dc_recipe_fits pm_recipe_fits cd_recipe_fits ct_recipe_fits : Value} {oo_recipe_fits an_recipe_fits : Option Addr} {so_recipe_fits : Array (Option Value)}
    {oc_rule_fits kV_rule_fits dc_rule_fits pm_rule_fits cd_rule_fits ct_rule_fits : Value} {oo_rule_fits an_rule_fits : Option Addr} {so_rule_fits : Array (Option Value)}
    {oc_usable_names kV_usable_names dc_usable_names pm_usable_names cd_usable_names ct_usable_names : Value} {oo_usable_names an_usable_names : Option Addr} {so_usable_names : Array (Option Value)}
    {oc_wrong_part kV_wrong_part dc_wrong_part pm_wrong_part cd_wrong_part ct_wrong_part : Value} {oo_wrong_part an_wrong_part : Option Addr} {so_wrong_part : Array (Option Value)}
    {rp_Key_names : List Value}
    {rp_Plan_base : List Value}
    {rp_Plan_cells : List Value}
    {rp_Plan_drops : List Value}
    {rp_Plan_fields : List Value}
    {rp_Plan_places : List Value}
    {rp_Recipe_names : List Value}
    {oc_BadPlan_init kV_BadPlan_init dc_BadPlan_init pm_BadPlan_init ct_BadPlan_init xl_BadPlan_init xo_BadPlan_init : Value} {oo_BadPlan_init an_BadPlan_init xd_BadPlan_init xe_BadPlan_init : Option Addr} {cda_BadPlan_init cc_BadPlan_init : Addr} {so_BadPlan_init xs_BadPlan_init xt_BadPlan_init : Array (Option Value)} {vs_BadPlan_init : Array Value} {fl_BadPlan_init : Str} {tf_BadPlan_init : Tok}
    {xq1_BadPlan_init xq2_BadPlan_init : Str} {xN_BadPlan_init : Addr} {xbs_BadPlan_init xbm_BadPlan_init : List Value} {xsn_BadPlan_init : List Str} {xsub_BadPlan_init : List Value} {xab_BadPlan_init : Bool} {xcol_BadPlan_init : Option Bool} {xdd_BadPlan_init : Option Addr} {xk0_BadPlan_init xk1_BadPlan_init xk2_BadPlan_init xk3_BadPlan_init xk5_BadPlan_init : Option Value} {xcd_BadPlan_init : ClassData} (X : K.In h) (G : h.Ns mainGlobals mg) (hfa : mg "law" = some (.ref fa))
    (nC_Key : PySem.W.nsIn K mainGlobals "Key" = some (some (.ref C0)))
    (nC_Plan : PySem.W.nsIn K mainGlobals "Plan" = some (some (.ref C2)))
    (nC_Recipe : PySem.W.nsIn K mainGlobals "Recipe" = some (some (.ref C1)))
    (n_law : PySem.W.nsIn K mainGlobals "law" = some (some (.ref a81)))
    (n_CELL_NAMES : PySem.W.nsIn K mainGlobals "CELL_NAMES" = some (some (.ref a84)))
    (n_FIELD_NAMES : PySem.W.nsIn K mainGlobals "FIELD_NAMES" = some (some (.ref a83)))
    (n_HIGHEST : PySem.W.nsIn K mainGlobals "HIGHEST" = some (some (.ref a92)))
    (n_LETTERS : PySem.W.nsIn K mainGlobals "LETTERS" = some (some (.ref a88)))
    (n_MOST_LEAVES : PySem.W.nsIn K mainGlobals "MOST_LEAVES" = some (some (.int 9 tk_MOST_LEAVES)))
    (n_MOST_SITUATIONS : PySem.W.nsIn K mainGlobals "MOST_SITUATIONS" = some (some (.int 81 tk_MOST_SITUATIONS)))
    (n_NAMES : PySem.W.nsIn K mainGlobals "NAMES" = some (some (.ref a82)))
    (n_PLACE_NAMES : PySem.W.nsIn K mainGlobals "PLACE_NAMES" = some (some (.ref a85)))
    (n_WIDTHS : PySem.W.nsIn K mainGlobals "WIDTHS" = some (some (.ref a91)))
    (n_WORDS : PySem.W.nsIn K mainGlobals "WORDS" = some (some (.ref a99)))
    (n_BadName : PySem.W.nsIn K mainGlobals "BadName" = some (some (.ref a86)))
    (n_BadNumber : PySem.W.nsIn K mainGlobals "BadNumber" = some (some (.ref a90)))
    (n_BadPlace : PySem.W.nsIn K mainGlobals "BadPlace" = some (some (.ref a97)))
    (n_BadPlan : PySem.W.nsIn K mainGlobals "BadPlan" = some (some (.ref a93)))
    (n_BadRecipe : PySem.W.nsIn K mainGlobals "BadRecipe" = some (some (.ref a87)))
    (n__law_are_drops : PySem.W.nsIn K mainGlobals "_law_are_drops" = some (some (.ref a74)))
    (n__law_drops : PySem.W.nsIn K mainGlobals "_law_drops" = some (some (.ref a76)))
    (n__law_drops_right : PySem.W.nsIn K mainGlobals "_law_drops_right" = some (some (.ref a80)))
    (n__law_is_number : PySem.W.nsIn K mainGlobals "_law_is_number" = some (some (.ref a72)))
    (n__law_is_place : PySem.W.nsIn K mainGlobals "_law_is_place" = some (some (.ref a73)))
    (n__law_leaf : PySem.W.nsIn K mainGlobals "_law_leaf" = some (some (.ref a68)))
    (n__law_leaves : PySem.W.nsIn K mainGlobals "_law_leaves" = some (some (.ref a71)))
    (n__law_made : PySem.W.nsIn K mainGlobals "_law_made" = some (some (.ref a77)))
    (n__law_number : PySem.W.nsIn K mainGlobals "_law_number" = some (some (.ref a66)))
    (n__law_pick : PySem.W.nsIn K mainGlobals "_law_pick" = some (some (.ref a67)))
    (n__law_places : PySem.W.nsIn K mainGlobals "_law_places" = some (some (.ref a70)))
    (n__law_plan_right : PySem.W.nsIn K mainGlobals "_law_plan_right" = some (some (.ref a78)))
    (n__law_rows_of : PySem.W.nsIn K mainGlobals "_law_rows_of" = some (some (.ref a79)))
    (n__law_rule : PySem.W.nsIn K mainGlobals "_law_rule" = some (some (.ref a69)))
    (n__law_wrong : PySem.W.nsIn K mainGlobals "_law_wrong" = some (some (.ref a75)))
    (n__wall : PySem.W.nsIn K mainGlobals "_wall" = some (some (.ref a0)))
    (n_come_to : PySem.W.nsIn K mainGlobals "come_to" = some (some (.ref a43)))
    (n_drops_fit : PySem.W.nsIn K mainGlobals "drops_fit" = some (some (.ref a63)))
    (n_form_of : PySem.W.nsIn K mainGlobals "form_of" = some (some (.ref a42)))
    (n_in_order : PySem.W.nsIn K mainGlobals "in_order" = some (some (.ref a5)))
    (n_is_ascending : PySem.W.nsIn K mainGlobals "is_ascending" = some (some (.ref a64)))
    (n_is_integer : PySem.W.nsIn K mainGlobals "is_integer" = some (some (.ref a2)))
    (n_is_name : PySem.W.nsIn K mainGlobals "is_name" = some (some (.ref a4)))
    (n_is_whole : PySem.W.nsIn K mainGlobals "is_whole" = some (some (.ref a3)))
    (n_joined : PySem.W.nsIn K mainGlobals "joined" = some (some (.ref a44)))
    (n_kind_of : PySem.W.nsIn K mainGlobals "kind_of" = some (some (.ref a38)))
    (n_leaf_form : PySem.W.nsIn K mainGlobals "leaf_form" = some (some (.ref a40)))
    (n_leaves_of : PySem.W.nsIn K mainGlobals "leaves_of" = some (some (.ref a39)))
    (n_name_of : PySem.W.nsIn K mainGlobals "name_of" = some (some (.ref a41)))
    (n_number_rows : PySem.W.nsIn K mainGlobals "number_rows" = some (some (.ref a65)))
    (n_pair_fits : PySem.W.nsIn K mainGlobals "pair_fits" = some (some (.ref a60)))
    (n_recipe_fits : PySem.W.nsIn K mainGlobals "recipe_fits" = some (some (.ref a61)))
    (n_rule_fits : PySem.W.nsIn K mainGlobals "rule_fits" = some (some (.ref a62)))
    (n_usable_names : PySem.W.nsIn K mainGlobals "usable_names" = some (some (.ref a6)))
    (n_wrong_part : PySem.W.nsIn K mainGlobals "wrong_part" = some (some (.ref a59)))
    (M2_Key : PySem.W.findIn K (.ref C0) "__init__" = some (some (.ref a7)))
    (M2_Plan : PySem.W.findIn K (.ref C2) "__init__" = some (some (.ref a45)))
    (M2_Recipe : PySem.W.findIn K (.ref C1) "__init__" = some (some (.ref a19)))
    (cr0_Recipe : PySem.W.typeIn K (.ref C1) = some mc)
    (d_Key_contains : PySem.W.findIn K (.ref C0) "__contains__" = some (some (.ref a16)))
    (d_Key_eq : PySem.W.findIn K (.ref C0) "__eq__" = some (some (.ref a18)))
    (d_Key_le : PySem.W.findIn K (.ref C0) "__le__" = some (some (.ref a14)))
    (d_Key_len : PySem.W.findIn K (.ref C0) "__len__" = some (some (.ref a17)))
    (d_Key_or : PySem.W.findIn K (.ref C0) "__or__" = some (some (.ref a10)))
    (d_Key_sub : PySem.W.findIn K (.ref C0) "__sub__" = some (some (.ref a12)))
    (d_Plan_eq : PySem.W.findIn K (.ref C2) "__eq__" = some (some (.ref a58)))
    (d_Plan_getitem : PySem.W.findIn K (.ref C2) "__getitem__" = some (some (.ref a55)))
    (d_Plan_len : PySem.W.findIn K (.ref C2) "__len__" = some (some (.ref a57)))
    (d_Recipe_add : PySem.W.findIn K (.ref C1) "__add__" = some (some (.ref a27)))
    (d_Recipe_contains : PySem.W.findIn K (.ref C1) "__contains__" = some (some (.ref a34)))
    (d_Recipe_eq : PySem.W.findIn K (.ref C1) "__eq__" = some (some (.ref a37)))
    (d_Recipe_len : PySem.W.findIn K (.ref C1) "__len__" = some (some (.ref a35)))
    (d_Recipe_mul : PySem.W.findIn K (.ref C1) "__mul__" = some (some (.ref a31)))
    (d_Recipe_sub : PySem.W.findIn K (.ref C1) "__sub__" = some (some (.ref a29)))
    (d_Plan_check_place : PySem.W.findIn K (.ref C2) "check_place" = some (some (.ref a54)))
    (p1_Key_names : PySem.W.findIn K (.ref C0) "names" = some (some (.ref a98)))
    (p1_Plan_base : PySem.W.findIn K (.ref C2) "base" = some (some (.ref a101)))
    (p1_Plan_cells : PySem.W.findIn K (.ref C2) "cells" = some (some (.ref a95)))
    (p1_Plan_drops : PySem.W.findIn K (.ref C2) "drops" = some (some (.ref a102)))
    (p1_Plan_fields : PySem.W.findIn K (.ref C2) "fields" = some (some (.ref a94)))
    (p1_Plan_places : PySem.W.findIn K (.ref C2) "places" = some (some (.ref a96)))
    (p1_Recipe_names : PySem.W.findIn K (.ref C1) "names" = some (some (.ref a89)))
    (cr1_Recipe : PySem.W.readsIn K C1 mc = true)
    (p4_Key_names : PySem.W.recIn K a98 "property" = some (Value.ref a9 :: rp_Key_names))
    (p4_Plan_base : PySem.W.recIn K a101 "property" = some (Value.ref a46 :: rp_Plan_base))
    (p4_Plan_cells : PySem.W.recIn K a95 "property" = some (Value.ref a48 :: rp_Plan_cells))
    (p4_Plan_drops : PySem.W.recIn K a102 "property" = some (Value.ref a50 :: rp_Plan_drops))
    (p4_Plan_fields : PySem.W.recIn K a94 "property" = some (Value.ref a47 :: rp_Plan_fields))
    (p4_Plan_places : PySem.W.recIn K a96 "property" = some (Value.ref a49 :: rp_Plan_places))
    (p4_Recipe_names : PySem.W.recIn K a89 "property" = some (Value.ref a24 :: rp_Recipe_names))
    (cm1_Recipe_field : PySem.W.findCls K (.ref C1) mc "field" = some (PySem.W.CFound.get (.builtin "classmethod.__get__") (.ref a100) .none (.ref C1)))
    (cm2_Recipe_field : PySem.W.recIn K a100 "classmethod" = some (Value.ref a20 :: rc_Recipe_field))
    (n2_BadPlan_init : PySem.W.findIn K (.ref a93) "__init__" = some (some (.ref a1)))
    (l_CELL_NAMES : K.lookup a84 = some ⟨.type "tuple", od_CELL_NAMES, .seq #[.str "c0" t0_CELL_NAMES, .str "c1" t1_CELL_NAMES] nn_CELL_NAMES, sl_CELL_NAMES⟩)
    (l_FIELD_NAMES : K.lookup a83 = some ⟨.type "tuple", od_FIELD_NAMES, .seq #[.str "f0" t0_FIELD_NAMES, .str "f1" t1_FIELD_NAMES, .str "f2" t2_FIELD_NAMES] nn_FIELD_NAMES, sl_FIELD_NAMES⟩)
    (l_HIGHEST : K.lookup a92 = some ⟨.type "dict", none, .dict #[⟨PyData.keyHash w.params "number", .str "number" tk0_HIGHEST, .int 2 tv0_HIGHEST⟩, ⟨PyData.keyHash w.params "field", .str "field" tk1_HIGHEST, .int 2 tv1_HIGHEST⟩, ⟨PyData.keyHash w.params "cell", .str "cell" tk2_HIGHEST, .int 1 tv2_HIGHEST⟩, ⟨PyData.keyHash w.params "place", .str "place" tk3_HIGHEST, .int 1 tv3_HIGHEST⟩] nn_HIGHEST, #[]⟩)
    (l_LETTERS : K.lookup a88 = some ⟨.type "dict", none, .dict #[⟨PyData.keyHash w.params "field", .str "field" tk0_LETTERS, .str "f" tv0_LETTERS⟩, ⟨PyData.keyHash w.params "cell", .str "cell" tk1_LETTERS, .str "c" tv1_LETTERS⟩, ⟨PyData.keyHash w.params "place", .str "place" tk2_LETTERS, .str "p" tv2_LETTERS⟩] nn_LETTERS, #[]⟩)
    (l_NAMES : K.lookup a82 = some ⟨.type "tuple", od_NAMES, .seq #[.str "f0" t0_NAMES, .str "f1" t1_NAMES, .str "f2" t2_NAMES, .str "c0" t3_NAMES, .str "c1" t4_NAMES, .str "p0" t5_NAMES, .str "p1" t6_NAMES] nn_NAMES, sl_NAMES⟩)
    (l_PLACE_NAMES : K.lookup a85 = some ⟨.type "tuple", od_PLACE_NAMES, .seq #[.str "p0" t0_PLACE_NAMES, .str "p1" t1_PLACE_NAMES] nn_PLACE_NAMES, sl_PLACE_NAMES⟩)
    (l_WIDTHS : K.lookup a91 = some ⟨.type "dict", none, .dict #[⟨PyData.keyHash w.params "sum", .str "sum" tk0_WIDTHS, .int 2 tv0_WIDTHS⟩, ⟨PyData.keyHash w.params "less", .str "less" tk1_WIDTHS, .int 2 tv1_WIDTHS⟩, ⟨PyData.keyHash w.params "times", .str "times" tk2_WIDTHS, .int 2 tv2_WIDTHS⟩, ⟨PyData.keyHash w.params "same", .str "same" tk3_WIDTHS, .int 2 tv3_WIDTHS⟩, ⟨PyData.keyHash w.params "when", .str "when" tk4_WIDTHS, .int 3 tv4_WIDTHS⟩] nn_WIDTHS, #[]⟩)
    (l_WORDS : K.lookup a99 = some ⟨.type "tuple", od_WORDS, .seq #[.str "reads" t0_WORDS, .str "shown" t1_WORDS] nn_WORDS, sl_WORDS⟩)
    (l_Key_contains : K.lookup a16 = some ⟨oc_Key_contains, oo_Key_contains, .func (PySem.W.fnOf "__contains__" "Key.__contains__" (defArgs s_Key_contains) (defBody s_Key_contains) (defScope s_Key_contains) .none kV_Key_contains dc_Key_contains pm_Key_contains an_Key_contains cd_Key_contains ct_Key_contains), so_Key_contains⟩)
    (l_Key_eq : K.lookup a18 = some ⟨oc_Key_eq, oo_Key_eq, .func (PySem.W.fnOf "__eq__" "Key.__eq__" (defArgs s_Key_eq) (defBody s_Key_eq) (defScope s_Key_eq) .none kV_Key_eq dc_Key_eq pm_Key_eq an_Key_eq cd_Key_eq ct_Key_eq), so_Key_eq⟩)
    (l_Key_init : K.lookup a7 = some ⟨oc_Key_init, oo_Key_init, .func (PySem.W.fnOf "__init__" "Key.__init__" (defArgs s_Key_init) (defBody s_Key_init) (defScope s_Key_init) (.ref dT_Key_init) kV_Key_init dc_Key_init pm_Key_init an_Key_init cd_Key_init ct_Key_init), so_Key_init⟩)
    (l_Key_le : K.lookup a14 = some ⟨oc_Key_le, oo_Key_le, .func (PySem.W.fnOf "__le__" "Key.__le__" (defArgs s_Key_le) (defBody s_Key_le) (defScope s_Key_le) .none kV_Key_le dc_Key_le pm_Key_le an_Key_le cd_Key_le ct_Key_le), so_Key_le⟩)
    (l_Key_len : K.lookup a17 = some ⟨oc_Key_len, oo_Key_len, .func (PySem.W.fnOf "__len__" "Key.__len__" (defArgs s_Key_len) (defBody s_Key_len) (defScope s_Key_len) .none kV_Key_len dc_Key_len pm_Key_len an_Key_len cd_Key_len ct_Key_len), so_Key_len⟩)
    (l_Key_names : K.lookup a9 = some ⟨oc_Key_names, oo_Key_names, .func (PySem.W.fnOf "names" "Key.names" (defArgs s_Key_names) (defBody s_Key_names) (defScope s_Key_names) .none kV_Key_names dc_Key_names pm_Key_names an_Key_names cd_Key_names ct_Key_names), so_Key_names⟩)
    (l_Plan_base : K.lookup a46 = some ⟨oc_Plan_base, oo_Plan_base, .func (PySem.W.fnOf "base" "Plan.base" (defArgs s_Plan_base) (defBody s_Plan_base) (defScope s_Plan_base) .none kV_Plan_base dc_Plan_base pm_Plan_base an_Plan_base cd_Plan_base ct_Plan_base), so_Plan_base⟩)
    (l_Plan_cells : K.lookup a48 = some ⟨oc_Plan_cells, oo_Plan_cells, .func (PySem.W.fnOf "cells" "Plan.cells" (defArgs s_Plan_cells) (defBody s_Plan_cells) (defScope s_Plan_cells) .none kV_Plan_cells dc_Plan_cells pm_Plan_cells an_Plan_cells cd_Plan_cells ct_Plan_cells), so_Plan_cells⟩)
    (l_Plan_check_place : K.lookup a54 = some ⟨oc_Plan_check_place, oo_Plan_check_place, .func (PySem.W.fnOf "check_place" "Plan.check_place" (defArgs s_Plan_check_place) (defBody s_Plan_check_place) (defScope s_Plan_check_place) .none kV_Plan_check_place dc_Plan_check_place pm_Plan_check_place an_Plan_check_place cd_Plan_check_place ct_Plan_check_place), so_Plan_check_place⟩)
    (l_Plan_drops : K.lookup a50 = some ⟨oc_Plan_drops, oo_Plan_drops, .func (PySem.W.fnOf "drops" "Plan.drops" (defArgs s_Plan_drops) (defBody s_Plan_drops) (defScope s_Plan_drops) .none kV_Plan_drops dc_Plan_drops pm_Plan_drops an_Plan_drops cd_Plan_drops ct_Plan_drops), so_Plan_drops⟩)
    (l_Plan_eq : K.lookup a58 = some ⟨oc_Plan_eq, oo_Plan_eq, .func (PySem.W.fnOf "__eq__" "Plan.__eq__" (defArgs s_Plan_eq) (defBody s_Plan_eq) (defScope s_Plan_eq) .none kV_Plan_eq dc_Plan_eq pm_Plan_eq an_Plan_eq cd_Plan_eq ct_Plan_eq), so_Plan_eq⟩)
    (l_Plan_fields : K.lookup a47 = some ⟨oc_Plan_fields, oo_Plan_fields, .func (PySem.W.fnOf "fields" "Plan.fields" (defArgs s_Plan_fields) (defBody s_Plan_fields) (defScope s_Plan_fields) .none kV_Plan_fields dc_Plan_fields pm_Plan_fields an_Plan_fields cd_Plan_fields ct_Plan_fields), so_Plan_fields⟩)
    (l_Plan_getitem : K.lookup a55 = some ⟨oc_Plan_getitem, oo_Plan_getitem, .func (PySem.W.fnOf "__getitem__" "Plan.__getitem__" (defArgs s_Plan_getitem) (defBody s_Plan_getitem) (defScope s_Plan_getitem) .none kV_Plan_getitem dc_Plan_getitem pm_Plan_getitem an_Plan_getitem cd_Plan_getitem ct_Plan_getitem), so_Plan_getitem⟩)
    (l_Plan_init : K.lookup a45 = some ⟨oc_Plan_init, oo_Plan_init, .func (PySem.W.fnOf "__init__" "Plan.__init__" (defArgs s_Plan_init) (defBody s_Plan_init) (defScope s_Plan_init) .none (.ref kD_Plan_init) dc_Plan_init pm_Plan_init an_Plan_init cd_Plan_init ct_Plan_init), so_Plan_init⟩)
    (l_Plan_len : K.lookup a57 = some ⟨oc_Plan_len, oo_Plan_len, .func (PySem.W.fnOf "__len__" "Plan.__len__" (defArgs s_Plan_len) (defBody s_Plan_len) (defScope s_Plan_len) .none kV_Plan_len dc_Plan_len pm_Plan_len an_Plan_len cd_Plan_len ct_Plan_len), so_Plan_len⟩)
    (l_Plan_places : K.lookup a49 = some ⟨oc_Plan_places, oo_Plan_places, .func (PySem.W.fnOf "places" "Plan.places" (defArgs s_Plan_places) (defBody s_Plan_places) (defScope s_Plan_places) .none kV_Plan_places dc_Plan_places pm_Plan_places an_Plan_places cd_Plan_places ct_Plan_places), so_Plan_places⟩)
    (l_Recipe_add : K.lookup a27 = some ⟨oc_Recipe_add, oo_Recipe_add, .func (PySem.W.fnOf "__add__" "Recipe.__add__" (defArgs s_Recipe_add) (defBody s_Recipe_add) (defScope s_Recipe_add) .none kV_Recipe_add dc_Recipe_add pm_Recipe_add an_Recipe_add cd_Recipe_add ct_Recipe_add), so_Recipe_add⟩)
    (l_Recipe_contains : K.lookup a34 = some ⟨oc_Recipe_contains, oo_Recipe_contains, .func (PySem.W.fnOf "__contains__" "Recipe.__contains__" (defArgs s_Recipe_contains) (defBody s_Recipe_contains) (defScope s_Recipe_contains) .none kV_Recipe_contains dc_Recipe_contains pm_Recipe_contains an_Recipe_contains cd_Recipe_contains ct_Recipe_contains), so_Recipe_contains⟩)
    (l_Recipe_eq : K.lookup a37 = some ⟨oc_Recipe_eq, oo_Recipe_eq, .func (PySem.W.fnOf "__eq__" "Recipe.__eq__" (defArgs s_Recipe_eq) (defBody s_Recipe_eq) (defScope s_Recipe_eq) .none kV_Recipe_eq dc_Recipe_eq pm_Recipe_eq an_Recipe_eq cd_Recipe_eq ct_Recipe_eq), so_Recipe_eq⟩)
    (l_Recipe_field : K.lookup a20 = some ⟨oc_Recipe_field, oo_Recipe_field, .func (PySem.W.fnOf "field" "Recipe.field" (defArgs s_Recipe_field) (defBody s_Recipe_field) (defScope s_Recipe_field) .none kV_Recipe_field dc_Recipe_field pm_Recipe_field an_Recipe_field cd_Recipe_field ct_Recipe_field), so_Recipe_field⟩)
    (l_Recipe_init : K.lookup a19 = some ⟨oc_Recipe_init, oo_Recipe_init, .func (PySem.W.fnOf "__init__" "Recipe.__init__" (defArgs s_Recipe_init) (defBody s_Recipe_init) (defScope s_Recipe_init) .none kV_Recipe_init dc_Recipe_init pm_Recipe_init an_Recipe_init cd_Recipe_init ct_Recipe_init), so_Recipe_init⟩)
    (l_Recipe_len : K.lookup a35 = some ⟨oc_Recipe_len, oo_Recipe_len, .func (PySem.W.fnOf "__len__" "Recipe.__len__" (defArgs s_Recipe_len) (defBody s_Recipe_len) (defScope s_Recipe_len) .none kV_Recipe_len dc_Recipe_len pm_Recipe_len an_Recipe_len cd_Recipe_len ct_Recipe_len), so_Recipe_len⟩)
    (l_Recipe_names : K.lookup a24 = some ⟨oc_Recipe_names, oo_Recipe_names, .func (PySem.W.fnOf "names" "Recipe.names" (defArgs s_Recipe_names) (defBody s_Recipe_names) (defScope s_Recipe_names) .none kV_Recipe_names dc_Recipe_names pm_Recipe_names an_Recipe_names cd_Recipe_names ct_Recipe_names), so_Recipe_names⟩)
    (l__law_are_drops : K.lookup a74 = some ⟨oc__law_are_drops, oo__law_are_drops, .func (PySem.W.fnOf "_law_are_drops" "_law_are_drops" (defArgs s__law_are_drops) (defBody s__law_are_drops) (defScope s__law_are_drops) .none kV__law_are_drops dc__law_are_drops pm__law_are_drops an__law_are_drops cd__law_are_drops ct__law_are_drops), so__law_are_drops⟩)
    (l__law_drops : K.lookup a76 = some ⟨oc__law_drops, oo__law_drops, .func (PySem.W.fnOf "_law_drops" "_law_drops" (defArgs s__law_drops) (defBody s__law_drops) (defScope s__law_drops) .none kV__law_drops dc__law_drops pm__law_drops an__law_drops cd__law_drops ct__law_drops), so__law_drops⟩)
    (l__law_drops_right : K.lookup a80 = some ⟨oc__law_drops_right, oo__law_drops_right, .func (PySem.W.fnOf "_law_drops_right" "_law_drops_right" (defArgs s__law_drops_right) (defBody s__law_drops_right) (defScope s__law_drops_right) .none kV__law_drops_right dc__law_drops_right pm__law_drops_right an__law_drops_right cd__law_drops_right ct__law_drops_right), so__law_drops_right⟩)
    (l__law_is_number : K.lookup a72 = some ⟨oc__law_is_number, oo__law_is_number, .func (PySem.W.fnOf "_law_is_number" "_law_is_number" (defArgs s__law_is_number) (defBody s__law_is_number) (defScope s__law_is_number) .none kV__law_is_number dc__law_is_number pm__law_is_number an__law_is_number cd__law_is_number ct__law_is_number), so__law_is_number⟩)
    (l__law_is_place : K.lookup a73 = some ⟨oc__law_is_place, oo__law_is_place, .func (PySem.W.fnOf "_law_is_place" "_law_is_place" (defArgs s__law_is_place) (defBody s__law_is_place) (defScope s__law_is_place) .none kV__law_is_place dc__law_is_place pm__law_is_place an__law_is_place cd__law_is_place ct__law_is_place), so__law_is_place⟩)
    (l__law_leaf : K.lookup a68 = some ⟨oc__law_leaf, oo__law_leaf, .func (PySem.W.fnOf "_law_leaf" "_law_leaf" (defArgs s__law_leaf) (defBody s__law_leaf) (defScope s__law_leaf) .none kV__law_leaf dc__law_leaf pm__law_leaf an__law_leaf cd__law_leaf ct__law_leaf), so__law_leaf⟩)
    (l__law_leaves : K.lookup a71 = some ⟨oc__law_leaves, oo__law_leaves, .func (PySem.W.fnOf "_law_leaves" "_law_leaves" (defArgs s__law_leaves) (defBody s__law_leaves) (defScope s__law_leaves) .none kV__law_leaves dc__law_leaves pm__law_leaves an__law_leaves cd__law_leaves ct__law_leaves), so__law_leaves⟩)
    (l__law_made : K.lookup a77 = some ⟨oc__law_made, oo__law_made, .func (PySem.W.fnOf "_law_made" "_law_made" (defArgs s__law_made) (defBody s__law_made) (defScope s__law_made) .none kV__law_made dc__law_made pm__law_made an__law_made cd__law_made ct__law_made), so__law_made⟩)
    (l__law_number : K.lookup a66 = some ⟨oc__law_number, oo__law_number, .func (PySem.W.fnOf "_law_number" "_law_number" (defArgs s__law_number) (defBody s__law_number) (defScope s__law_number) .none kV__law_number dc__law_number pm__law_number an__law_number cd__law_number ct__law_number), so__law_number⟩)
    (l__law_pick : K.lookup a67 = some ⟨oc__law_pick, oo__law_pick, .func (PySem.W.fnOf "_law_pick" "_law_pick" (defArgs s__law_pick) (defBody s__law_pick) (defScope s__law_pick) .none kV__law_pick dc__law_pick pm__law_pick an__law_pick cd__law_pick ct__law_pick), so__law_pick⟩)
    (l__law_places : K.lookup a70 = some ⟨oc__law_places, oo__law_places, .func (PySem.W.fnOf "_law_places" "_law_places" (defArgs s__law_places) (defBody s__law_places) (defScope s__law_places) .none kV__law_places dc__law_places pm__law_places an__law_places cd__law_places ct__law_places), so__law_places⟩)
    (l__law_plan_right : K.lookup a78 = some ⟨oc__law_plan_right, oo__law_plan_right, .func (PySem.W.fnOf "_law_plan_right" "_law_plan_right" (defArgs s__law_plan_right) (defBody s__law_plan_right) (defScope s__law_plan_right) .none kV__law_plan_right dc__law_plan_right pm__law_plan_right an__law_plan_right cd__law_plan_right ct__law_plan_right), so__law_plan_right⟩)
    (l__law_rows_of : K.lookup a79 = some ⟨oc__law_rows_of, oo__law_rows_of, .func (PySem.W.fnOf "_law_rows_of" "_law_rows_of" (defArgs s__law_rows_of) (defBody s__law_rows_of) (defScope s__law_rows_of) .none kV__law_rows_of dc__law_rows_of pm__law_rows_of an__law_rows_of cd__law_rows_of ct__law_rows_of), so__law_rows_of⟩)
    (l__law_rule : K.lookup a69 = some ⟨oc__law_rule, oo__law_rule, .func (PySem.W.fnOf "_law_rule" "_law_rule" (defArgs s__law_rule) (defBody s__law_rule) (defScope s__law_rule) .none kV__law_rule dc__law_rule pm__law_rule an__law_rule cd__law_rule ct__law_rule), so__law_rule⟩)
    (l__law_wrong : K.lookup a75 = some ⟨oc__law_wrong, oo__law_wrong, .func (PySem.W.fnOf "_law_wrong" "_law_wrong" (defArgs s__law_wrong) (defBody s__law_wrong) (defScope s__law_wrong) .none kV__law_wrong dc__law_wrong pm__law_wrong an__law_wrong cd__law_wrong ct__law_wrong), so__law_wrong⟩)
    (l_drops_fit : K.lookup a63 = some ⟨oc_drops_fit, oo_drops_fit, .func (PySem.W.fnOf "drops_fit" "drops_fit" (defArgs s_drops_fit) (defBody s_drops_fit) (defScope s_drops_fit) .none kV_drops_fit dc_drops_fit pm_drops_fit an_drops_fit cd_drops_fit ct_drops_fit), so_drops_fit⟩)
    (l_form_of : K.lookup a42 = some ⟨oc_form_of, oo_form_of, .func (PySem.W.fnOf "form_of" "form_of" (defArgs s_form_of) (defBody s_form_of) (defScope s_form_of) .none kV_form_of dc_form_of pm_form_of an_form_of cd_form_of ct_form_of), so_form_of⟩)
    (l_in_order : K.lookup a5 = some ⟨oc_in_order, oo_in_order, .func (PySem.W.fnOf "in_order" "in_order" (defArgs s_in_order) (defBody s_in_order) (defScope s_in_order) .none kV_in_order dc_in_order pm_in_order an_in_order cd_in_order ct_in_order), so_in_order⟩)
    (l_is_ascending : K.lookup a64 = some ⟨oc_is_ascending, oo_is_ascending, .func (PySem.W.fnOf "is_ascending" "is_ascending" (defArgs s_is_ascending) (defBody s_is_ascending) (defScope s_is_ascending) .none kV_is_ascending dc_is_ascending pm_is_ascending an_is_ascending cd_is_ascending ct_is_ascending), so_is_ascending⟩)
    (l_is_integer : K.lookup a2 = some ⟨oc_is_integer, oo_is_integer, .func (PySem.W.fnOf "is_integer" "is_integer" (defArgs s_is_integer) (defBody s_is_integer) (defScope s_is_integer) .none kV_is_integer dc_is_integer pm_is_integer an_is_integer cd_is_integer ct_is_integer), so_is_integer⟩)
    (l_is_name : K.lookup a4 = some ⟨oc_is_name, oo_is_name, .func (PySem.W.fnOf "is_name" "is_name" (defArgs s_is_name) (defBody s_is_name) (defScope s_is_name) .none kV_is_name dc_is_name pm_is_name an_is_name cd_is_name ct_is_name), so_is_name⟩)
    (l_is_whole : K.lookup a3 = some ⟨oc_is_whole, oo_is_whole, .func (PySem.W.fnOf "is_whole" "is_whole" (defArgs s_is_whole) (defBody s_is_whole) (defScope s_is_whole) .none kV_is_whole dc_is_whole pm_is_whole an_is_whole cd_is_whole ct_is_whole), so_is_whole⟩)
    (l_kind_of : K.lookup a38 = some ⟨oc_kind_of, oo_kind_of, .func (PySem.W.fnOf "kind_of" "kind_of" (defArgs s_kind_of) (defBody s_kind_of) (defScope s_kind_of) .none kV_kind_of dc_kind_of pm_kind_of an_kind_of cd_kind_of ct_kind_of), so_kind_of⟩)
    (l_law : K.lookup a81 = some ⟨oc_law, oo_law, .func (PySem.W.fnOf "law" "law" (defArgs s_law) (defBody s_law) (defScope s_law) .none kV_law dc_law pm_law an_law cd_law ct_law), so_law⟩)
    (l_leaf_form : K.lookup a40 = some ⟨oc_leaf_form, oo_leaf_form, .func (PySem.W.fnOf "leaf_form" "leaf_form" (defArgs s_leaf_form) (defBody s_leaf_form) (defScope s_leaf_form) .none kV_leaf_form dc_leaf_form pm_leaf_form an_leaf_form cd_leaf_form ct_leaf_form), so_leaf_form⟩)
    (l_leaves_of : K.lookup a39 = some ⟨oc_leaves_of, oo_leaves_of, .func (PySem.W.fnOf "leaves_of" "leaves_of" (defArgs s_leaves_of) (defBody s_leaves_of) (defScope s_leaves_of) .none kV_leaves_of dc_leaves_of pm_leaves_of an_leaves_of cd_leaves_of ct_leaves_of), so_leaves_of⟩)
    (l_name_of : K.lookup a41 = some ⟨oc_name_of, oo_name_of, .func (PySem.W.fnOf "name_of" "name_of" (defArgs s_name_of) (defBody s_name_of) (defScope s_name_of) .none kV_name_of dc_name_of pm_name_of an_name_of cd_name_of ct_name_of), so_name_of⟩)
    (l_number_rows : K.lookup a65 = some ⟨oc_number_rows, oo_number_rows, .func (PySem.W.fnOf "number_rows" "number_rows" (defArgs s_number_rows) (defBody s_number_rows) (defScope s_number_rows) .none kV_number_rows dc_number_rows pm_number_rows an_number_rows cd_number_rows ct_number_rows), so_number_rows⟩)
    (l_pair_fits : K.lookup a60 = some ⟨oc_pair_fits, oo_pair_fits, .func (PySem.W.fnOf "pair_fits" "pair_fits" (defArgs s_pair_fits) (defBody s_pair_fits) (defScope s_pair_fits) .none kV_pair_fits dc_pair_fits pm_pair_fits an_pair_fits cd_pair_fits ct_pair_fits), so_pair_fits⟩)
    (l_recipe_fits : K.lookup a61 = some ⟨oc_recipe_fits, oo_recipe_fits, .func (PySem.W.fnOf "recipe_fits" "recipe_fits" (defArgs s_recipe_fits) (defBody s_recipe_fits) (defScope s_recipe_fits) .none kV_recipe_fits dc_recipe_fits pm_recipe_fits an_recipe_fits cd_recipe_fits ct_recipe_fits), so_recipe_fits⟩)
    (l_rule_fits : K.lookup a62 = some ⟨oc_rule_fits, oo_rule_fits, .func (PySem.W.fnOf "rule_fits" "rule_fits" (defArgs s_rule_fits) (defBody s_rule_fits) (defScope s_rule_fits) .none kV_rule_fits dc_rule_fits pm_rule_fits an_rule_fits cd_rule_fits ct_rule_fits), so_rule_fits⟩)
    (l_usable_names : K.lookup a6 = some ⟨oc_usable_names, oo_usable_names, .func (PySem.W.fnOf "usable_names" "usable_names" (defArgs s_usable_names) (defBody s_usable_names) (defScope s_usable_names) .none kV_usable_names dc_usable_names pm_usable_names an_usable_names cd_usable_names ct_usable_names), so_usable_names⟩)
    (l_wrong_part : K.lookup a59 = some ⟨oc_wrong_part, oo_wrong_part, .func (PySem.W.fnOf "wrong_part" "wrong_part" (defArgs s_wrong_part) (defBody s_wrong_part) (defScope s_wrong_part) .none kV_wrong_part dc_wrong_part pm_wrong_part an_wrong_part cd_wrong_part ct_wrong_part), so_wrong_part⟩)
    (l_BadPlan_init : K.lookup a1 = some ⟨oc_BadPlan_init, oo_BadPlan_init, .func (PySem.W.ksFn "__init__" "BadPlan.__init__" (defArgs s_BadPlan_init) (defBody s_BadPlan_init) (defScope s_BadPlan_init) .none kV_BadPlan_init dc_BadPlan_init pm_BadPlan_init an_BadPlan_init (.ref cda_BadPlan_init) ct_BadPlan_init cc_BadPlan_init), so_BadPlan_init⟩)
    (lT_Key_init : K.lookup dT_Key_init = some ⟨dc2_Key_init, dd_Key_init, .seq #[.ref a103] dn_Key_init, ds_Key_init⟩)
    (kw_Plan_init : PySem.W.nsIn K kD_Plan_init "drops" = some (some .none))
    (lc_BadPlan_init : K.lookup cc_BadPlan_init = some ⟨xl_BadPlan_init, xd_BadPlan_init, .cell (some (.ref a93)), xs_BadPlan_init⟩)
    (lo2_BadPlan_init : K.lookup cda_BadPlan_init = some ⟨xo_BadPlan_init, xe_BadPlan_init, .fields vs_BadPlan_init, xt_BadPlan_init⟩)
    (lx_BadPlan_init : K.lookup a93 = some (excClassObj xq1_BadPlan_init xq2_BadPlan_init a93 xN_BadPlan_init xbs_BadPlan_init xbm_BadPlan_init true xsn_BadPlan_init xsub_BadPlan_init xab_BadPlan_init xcol_BadPlan_init xdd_BadPlan_init xk0_BadPlan_init xk1_BadPlan_init xk2_BadPlan_init xk3_BadPlan_init xk5_BadPlan_init "ValueError.__new__"))
    (cl_BadPlan_init : PySem.W.clsIn K a93 = some xcd_BadPlan_init)
    (le_Key_init : K.lookup a103 = some ⟨.type "tuple", od_Key_init, .seq #[] nn_Key_init, sl_Key_init⟩)
    (v2_BadPlan_init : vs_BadPlan_init[2]? = some (.str fl_BadPlan_init tf_BadPlan_init))
    (ff_BadPlan_init : ((P.main.file : Str) == fl_BadPlan_init) = true)
    (rv_BadPlan_init : PySem.HandSPX.refsVE xbm_BadPlan_init = true)
    (C1_Key : PySem.W.plainGet K C0 Str.empty = true)
    (C2_Key : PySem.W.hasDictIn K C0 = true)
    (C3_Key : PySem.W.plainOver K C0 = true)
    (C4_Key : PySem.W.findIn K (.ref C0) "__setattr__" = some (some (.builtin "object.__setattr__")))
    (C1_Plan : PySem.W.plainGet K C2 Str.empty = true)
    (C2_Plan : PySem.W.hasDictIn K C2 = true)
    (C3_Plan : PySem.W.plainOver K C2 = true)
    (C4_Plan : PySem.W.findIn K (.ref C2) "__setattr__" = some (some (.builtin "object.__setattr__")))
    (C1_Recipe : PySem.W.plainGet K C1 Str.empty = true)
    (C2_Recipe : PySem.W.hasDictIn K C1 = true)
    (C3_Recipe : PySem.W.plainOver K C1 = true)
    (C4_Recipe : PySem.W.findIn K (.ref C1) "__setattr__" = some (some (.builtin "object.__setattr__")))
    (I1_Key : PySem.W.findIn K (.ref C0) "__class__" = some (some (.builtin "object.__class__")))
    (I2_Key : PySem.W.specialIn K (.builtin "object.__class__") "__get__" = some (some (.builtin "getset_descriptor.__get__")))
    (I3_Key : PySem.W.takesIn K (.builtin "object.__class__") = some true)
    (I4_Key : PySem.W.mroIn K C0 (.type "object") = some true)
    (I1_Plan : PySem.W.findIn K (.ref C2) "__class__" = some (some (.builtin "object.__class__")))
    (I2_Plan : PySem.W.specialIn K (.builtin "object.__class__") "__get__" = some (some (.builtin "getset_descriptor.__get__")))
    (I3_Plan : PySem.W.takesIn K (.builtin "object.__class__") = some true)
    (I4_Plan : PySem.W.mroIn K C2 (.type "object") = some true)
    (I1_Recipe : PySem.W.findIn K (.ref C1) "__class__" = some (some (.builtin "object.__class__")))
    (I2_Recipe : PySem.W.specialIn K (.builtin "object.__class__") "__get__" = some (some (.builtin "getset_descriptor.__get__")))
    (I3_Recipe : PySem.W.takesIn K (.builtin "object.__class__") = some true)
    (I4_Recipe : PySem.W.mroIn K C1 (.type "object") = some true)
    (M1_Key : PySem.W.makesIn K C0 = true)
    (M3_Key : PySem.W.isFn K (.ref a7) = true)
    (kC_Key : PySem.W.keepIn K (.ref C0) = true)
    (M1_Plan : PySem.W.makesIn K C2 = true)
    (M3_Plan : PySem.W.isFn K (.ref a45) = true)
    (kC_Plan : PySem.W.keepIn K (.ref C2) = true)
    (M1_Recipe : PySem.W.makesIn K C1 = true)
    (M3_Recipe : PySem.W.isFn K (.ref a19) = true)
    (kC_Recipe : PySem.W.keepIn K (.ref C1) = true)
    (z_all : PySem.W.nsIn K mainGlobals "all" = some none)
    (z_bool : PySem.W.nsIn K mainGlobals "bool" = some none)
    (z_dict : PySem.W.nsIn K mainGlobals "dict" = some none)
    (z_enumerate : PySem.W.nsIn K mainGlobals "enumerate" = some none)
    (z_int : PySem.W.nsIn K mainGlobals "int" = some none)
    (z_isinstance : PySem.W.nsIn K mainGlobals "isinstance" = some none)
    (z_len : PySem.W.nsIn K mainGlobals "len" = some none)
    (z_list : PySem.W.nsIn K mainGlobals "list" = some none)
    (z_range : PySem.W.nsIn K mainGlobals "range" = some none)
    (z_set : PySem.W.nsIn K mainGlobals "set" = some none)
    (z_sorted : PySem.W.nsIn K mainGlobals "sorted" = some none)
    (z_str : PySem.W.nsIn K mainGlobals "str" = some none)
    (z_sum : PySem.W.nsIn K mainGlobals "sum" = some none)
    (z_tuple : PySem.W.nsIn K mainGlobals "tuple" = some none)
    (lo_HIGHEST : (a92 == sysModules) = false)
    (lo_LETTERS : (a88 == sysModules) = false)
    (lo_WIDTHS : (a91 == sysModules) = false)
    (cm3_Recipe_field : PySem.W.fnIn K a20 = true)
    (cr2_Recipe : PySem.W.specialIn K (.ref C1) "__getattribute__" = some (some (.builtin "type.__getattribute__")))
    (e1_BadName : PySem.W.excIn K a86 [Value.type "ValueError", Value.type "Exception", Value.type "BaseException", Value.type "object"] "ValueError.__new__" = true)
    (e2_BadName : PySem.W.keepIn K (.ref a86) = true)
    (e3_BadName : PySem.W.subIn K (.ref a86) (.type "BaseException") = some true)
    (e4_BadName : PySem.W.typeIn K (.ref a86) = some (.type "type"))
    (e1_BadNumber : PySem.W.excIn K a90 [Value.type "ValueError", Value.type "Exception", Value.type "BaseException", Value.type "object"] "ValueError.__new__" = true)
    (e2_BadNumber : PySem.W.keepIn K (.ref a90) = true)
    (e3_BadNumber : PySem.W.subIn K (.ref a90) (.type "BaseException") = some true)
    (e4_BadNumber : PySem.W.typeIn K (.ref a90) = some (.type "type"))
    (e1_BadPlace : PySem.W.excIn K a97 [Value.type "ValueError", Value.type "Exception", Value.type "BaseException", Value.type "object"] "ValueError.__new__" = true)
    (e2_BadPlace : PySem.W.keepIn K (.ref a97) = true)
    (e3_BadPlace : PySem.W.subIn K (.ref a97) (.type "BaseException") = some true)
    (e4_BadPlace : PySem.W.typeIn K (.ref a97) = some (.type "type"))
    (e1_BadRecipe : PySem.W.excIn K a87 [Value.type "ValueError", Value.type "Exception", Value.type "BaseException", Value.type "object"] "ValueError.__new__" = true)
    (e2_BadRecipe : PySem.W.keepIn K (.ref a87) = true)
    (e3_BadRecipe : PySem.W.subIn K (.ref a87) (.type "BaseException") = some true)
    (e4_BadRecipe : PySem.W.typeIn K (.ref a87) = some (.type "type"))
    (c_Key_contains : PySem.W.codeIn K cd_Key_contains "Key.__contains__" = true)
    (k_Key_contains : PySem.W.keepIn K (.ref a16) = true)
    (c_Key_eq : PySem.W.codeIn K cd_Key_eq "Key.__eq__" = true)
    (k_Key_eq : PySem.W.keepIn K (.ref a18) = true)
    (c_Key_init : PySem.W.codeIn K cd_Key_init "Key.__init__" = true)
    (k_Key_init : PySem.W.keepIn K (.ref a7) = true)
    (c_Key_le : PySem.W.codeIn K cd_Key_le "Key.__le__" = true)
    (k_Key_le : PySem.W.keepIn K (.ref a14) = true)
    (c_Key_len : PySem.W.codeIn K cd_Key_len "Key.__len__" = true)
    (k_Key_len : PySem.W.keepIn K (.ref a17) = true)
    (c_Key_names : PySem.W.codeIn K cd_Key_names "Key.names" = true)
    (k_Key_names : PySem.W.keepIn K (.ref a9) = true)
    (c_Plan_base : PySem.W.codeIn K cd_Plan_base "Plan.base" = true)
    (k_Plan_base : PySem.W.keepIn K (.ref a46) = true)
    (c_Plan_cells : PySem.W.codeIn K cd_Plan_cells "Plan.cells" = true)
    (k_Plan_cells : PySem.W.keepIn K (.ref a48) = true)
    (c_Plan_check_place : PySem.W.codeIn K cd_Plan_check_place "Plan.check_place" = true)
    (k_Plan_check_place : PySem.W.keepIn K (.ref a54) = true)
    (c_Plan_drops : PySem.W.codeIn K cd_Plan_drops "Plan.drops" = true)
    (k_Plan_drops : PySem.W.keepIn K (.ref a50) = true)
    (c_Plan_eq : PySem.W.codeIn K cd_Plan_eq "Plan.__eq__" = true)
    (k_Plan_eq : PySem.W.keepIn K (.ref a58) = true)
    (c_Plan_fields : PySem.W.codeIn K cd_Plan_fields "Plan.fields" = true)
    (k_Plan_fields : PySem.W.keepIn K (.ref a47) = true)
    (c_Plan_getitem : PySem.W.codeIn K cd_Plan_getitem "Plan.__getitem__" = true)
    (k_Plan_getitem : PySem.W.keepIn K (.ref a55) = true)
    (c_Plan_init : PySem.W.codeIn K cd_Plan_init "Plan.__init__" = true)
    (k_Plan_init : PySem.W.keepIn K (.ref a45) = true)
    (c_Plan_len : PySem.W.codeIn K cd_Plan_len "Plan.__len__" = true)
    (k_Plan_len : PySem.W.keepIn K (.ref a57) = true)
    (c_Plan_places : PySem.W.codeIn K cd_Plan_places "Plan.places" = true)
    (k_Plan_places : PySem.W.keepIn K (.ref a49) = true)
    (c_Recipe_add : PySem.W.codeIn K cd_Recipe_add "Recipe.__add__" = true)
    (k_Recipe_add : PySem.W.keepIn K (.ref a27) = true)
    (c_Recipe_contains : PySem.W.codeIn K cd_Recipe_contains "Recipe.__contains__" = true)
    (k_Recipe_contains : PySem.W.keepIn K (.ref a34) = true)
    (c_Recipe_eq : PySem.W.codeIn K cd_Recipe_eq "Recipe.__eq__" = true)
    (k_Recipe_eq : PySem.W.keepIn K (.ref a37) = true)
    (c_Recipe_field : PySem.W.codeIn K cd_Recipe_field "Recipe.field" = true)
    (k_Recipe_field : PySem.W.keepIn K (.ref a20) = true)
    (c_Recipe_init : PySem.W.codeIn K cd_Recipe_init "Recipe.__init__" = true)
    (k_Recipe_init : PySem.W.keepIn K (.ref a19) = true)
    (c_Recipe_len : PySem.W.codeIn K cd_Recipe_len "Recipe.__len__" = true)
    (k_Recipe_len : PySem.W.keepIn K (.ref a35) = true)
    (c_Recipe_names : PySem.W.codeIn K cd_Recipe_names "Recipe.names" = true)
    (k_Recipe_names : PySem.W.keepIn K (.ref a24) = true)
    (c__law_are_drops : PySem.W.codeIn K cd__law_are_drops "_law_are_drops" = true)
    (k__law_are_drops : PySem.W.keepIn K (.ref a74) = true)
    (c__law_drops : PySem.W.codeIn K cd__law_drops "_law_drops" = true)
    (k__law_drops : PySem.W.keepIn K (.ref a76) = true)
    (c__law_drops_right : PySem.W.codeIn K cd__law_drops_right "_law_drops_right" = true)
    (k__law_drops_right : PySem.W.keepIn K (.ref a80) = true)
    (c__law_is_number : PySem.W.codeIn K cd__law_is_number "_law_is_number" = true)
    (k__law_is_number : PySem.W.keepIn K (.ref a72) = true)
    (c__law_is_place : PySem.W.codeIn K cd__law_is_place "_law_is_place" = true)
    (k__law_is_place : PySem.W.keepIn K (.ref a73) = true)
    (c__law_leaf : PySem.W.codeIn K cd__law_leaf "_law_leaf" = true)
    (k__law_leaf : PySem.W.keepIn K (.ref a68) = true)
    (c__law_leaves : PySem.W.codeIn K cd__law_leaves "_law_leaves" = true)
    (k__law_leaves : PySem.W.keepIn K (.ref a71) = true)
    (c__law_made : PySem.W.codeIn K cd__law_made "_law_made" = true)
    (k__law_made : PySem.W.keepIn K (.ref a77) = true)
    (c__law_number : PySem.W.codeIn K cd__law_number "_law_number" = true)
    (k__law_number : PySem.W.keepIn K (.ref a66) = true)
    (c__law_pick : PySem.W.codeIn K cd__law_pick "_law_pick" = true)
    (k__law_pick : PySem.W.keepIn K (.ref a67) = true)
    (c__law_places : PySem.W.codeIn K cd__law_places "_law_places" = true)
    (k__law_places : PySem.W.keepIn K (.ref a70) = true)
    (c__law_plan_right : PySem.W.codeIn K cd__law_plan_right "_law_plan_right" = true)
    (k__law_plan_right : PySem.W.keepIn K (.ref a78) = true)
    (c__law_rows_of : PySem.W.codeIn K cd__law_rows_of "_law_rows_of" = true)
    (k__law_rows_of : PySem.W.keepIn K (.ref a79) = true)
    (c__law_rule : PySem.W.codeIn K cd__law_rule "_law_rule" = true)
    (k__law_rule : PySem.W.keepIn K (.ref a69) = true)
    (c__law_wrong : PySem.W.codeIn K cd__law_wrong "_law_wrong" = true)
    (k__law_wrong : PySem.W.keepIn K (.ref a75) = true)
    (c_drops_fit : PySem.W.codeIn K cd_drops_fit "drops_fit" = true)
    (k_drops_fit : PySem.W.keepIn K (.ref a63) = true)
    (c_form_of : PySem.W.codeIn K cd_form_of "form_of" = true)
    (k_form_of : PySem.W.keepIn K (.ref a42) = true)
    (c_in_order : PySem.W.codeIn K cd_in_order "in_order" = true)
    (k_in_order : PySem.W.keepIn K (.ref a5) = true)
    (c_is_ascending : PySem.W.codeIn K cd_is_ascending "is_ascending" = true)
    (k_is_ascending : PySem.W.keepIn K (.ref a64) = true)
    (c_is_integer : PySem.W.codeIn K cd_is_integer "is_integer" = true)
    (k_is_integer : PySem.W.keepIn K (.ref a2) = true)
    (c_is_name : PySem.W.codeIn K cd_is_name "is_name" = true)
    (k_is_name : PySem.W.keepIn K (.ref a4) = true)
    (c_is_whole : PySem.W.codeIn K cd_is_whole "is_whole" = true)
    (k_is_whole : PySem.W.keepIn K (.ref a3) = true)
    (c_kind_of : PySem.W.codeIn K cd_kind_of "kind_of" = true)
    (k_kind_of : PySem.W.keepIn K (.ref a38) = true)
    (c_law : PySem.W.codeIn K cd_law "law" = true)
    (k_law : PySem.W.keepIn K (.ref a81) = true)
    (c_leaf_form : PySem.W.codeIn K cd_leaf_form "leaf_form" = true)
    (k_leaf_form : PySem.W.keepIn K (.ref a40) = true)
    (c_leaves_of : PySem.W.codeIn K cd_leaves_of "leaves_of" = true)
    (k_leaves_of : PySem.W.keepIn K (.ref a39) = true)
    (c_name_of : PySem.W.codeIn K cd_name_of "name_of" = true)
    (k_name_of : PySem.W.keepIn K (.ref a41) = true)
    (c_number_rows : PySem.W.codeIn K cd_number_rows "number_rows" = true)
    (k_number_rows : PySem.W.keepIn K (.ref a65) = true)
    (c_pair_fits : PySem.W.codeIn K cd_pair_fits "pair_fits" = true)
    (k_pair_fits : PySem.W.keepIn K (.ref a60) = true)
    (c_recipe_fits : PySem.W.codeIn K cd_recipe_fits "recipe_fits" = true)
    (k_recipe_fits : PySem.W.keepIn K (.ref a61) = true)
    (c_rule_fits : PySem.W.codeIn K cd_rule_fits "rule_fits" = true)
    (k_rule_fits : PySem.W.keepIn K (.ref a62) = true)
    (c_usable_names : PySem.W.codeIn K cd_usable_names "usable_names" = true)
    (k_usable_names : PySem.W.keepIn K (.ref a6) = true)
    (c_wrong_part : PySem.W.codeIn K cd_wrong_part "wrong_part" = true)
    (k_wrong_part : PySem.W.keepIn K (.ref a59) = true)
    (fi_Plan_getitem : PySem.W.fnIn K a55 = true)
    (i_Key_contains : PySem.W.isFn K (.ref a16) = true)
    (i_Key_eq : PySem.W.isFn K (.ref a18) = true)
    (i_Key_le : PySem.W.isFn K (.ref a14) = true)
    (i_Key_len : PySem.W.isFn K (.ref a17) = true)
    (i_Key_or : PySem.W.isFn K (.ref a10) = true)
    (i_Key_sub : PySem.W.isFn K (.ref a12) = true)
    (i_Plan_eq : PySem.W.isFn K (.ref a58) = true)
    (i_Plan_getitem : PySem.W.isFn K (.ref a55) = true)
    (i_Plan_len : PySem.W.isFn K (.ref a57) = true)
    (i_Recipe_add : PySem.W.isFn K (.ref a27) = true)
    (i_Recipe_contains : PySem.W.isFn K (.ref a34) = true)
    (i_Recipe_eq : PySem.W.isFn K (.ref a37) = true)
    (i_Recipe_len : PySem.W.isFn K (.ref a35) = true)
    (i_Recipe_mul : PySem.W.isFn K (.ref a31) = true)
    (i_Recipe_sub : PySem.W.isFn K (.ref a29) = true)
    (k__wall : PySem.W.keepIn K (.ref a0) = true)
    (k_come_to : PySem.W.keepIn K (.ref a43) = true)
    (k_joined : PySem.W.keepIn K (.ref a44) = true)
    (k5_Key : PySem.W.isClsIn K C0 = true)
    (k4_Key : PySem.W.typeIn K (.ref C0) = some (.type "type"))
    (s0_Key : PySem.W.subIn K (.type "NoneType") (.ref C0) = some false)
    (s1_Key : PySem.W.subIn K (.type "bool") (.ref C0) = some false)
    (s2_Key : PySem.W.subIn K (.type "int") (.ref C0) = some false)
    (s3_Key : PySem.W.subIn K (.type "str") (.ref C0) = some false)
    (s4_Key : PySem.W.subIn K (.type "tuple") (.ref C0) = some false)
    (s5_Key : PySem.W.subIn K (.type "list") (.ref C0) = some false)
    (s6_Key : PySem.W.subIn K (.type "dict") (.ref C0) = some false)
    (so_Recipe_Key : PySem.W.subIn K (.ref C1) (.ref C0) = some false)
    (lo_ne_Recipe_Key : (C1 == C0) = false)
    (so_Plan_Key : PySem.W.subIn K (.ref C2) (.ref C0) = some false)
    (lo_ne_Plan_Key : (C2 == C0) = false)
    (k5_Plan : PySem.W.isClsIn K C2 = true)
    (k4_Plan : PySem.W.typeIn K (.ref C2) = some (.type "type"))
    (s0_Plan : PySem.W.subIn K (.type "NoneType") (.ref C2) = some false)
    (s1_Plan : PySem.W.subIn K (.type "bool") (.ref C2) = some false)
    (s2_Plan : PySem.W.subIn K (.type "int") (.ref C2) = some false)
    (s3_Plan : PySem.W.subIn K (.type "str") (.ref C2) = some false)
    (s4_Plan : PySem.W.subIn K (.type "tuple") (.ref C2) = some false)
    (s5_Plan : PySem.W.subIn K (.type "list") (.ref C2) = some false)
    (s6_Plan : PySem.W.subIn K (.type "dict") (.ref C2) = some false)
    (so_Key_Plan : PySem.W.subIn K (.ref C0) (.ref C2) = some false)
    (lo_ne_Key_Plan : (C0 == C2) = false)
    (so_Recipe_Plan : PySem.W.subIn K (.ref C1) (.ref C2) = some false)
    (lo_ne_Recipe_Plan : (C1 == C2) = false)
    (k5_Recipe : PySem.W.isClsIn K C1 = true)
    (k4_Recipe : PySem.W.typeIn K (.ref C1) = some (.type "type"))
    (s0_Recipe : PySem.W.subIn K (.type "NoneType") (.ref C1) = some false)
    (s1_Recipe : PySem.W.subIn K (.type "bool") (.ref C1) = some false)
    (s2_Recipe : PySem.W.subIn K (.type "int") (.ref C1) = some false)
    (s3_Recipe : PySem.W.subIn K (.type "str") (.ref C1) = some false)
    (s4_Recipe : PySem.W.subIn K (.type "tuple") (.ref C1) = some false)
    (s5_Recipe : PySem.W.subIn K (.type "list") (.ref C1) = some false)
    (s6_Recipe : PySem.W.subIn K (.type "dict") (.ref C1) = some false)
    (so_Key_Recipe : PySem.W.subIn K (.ref C0) (.ref C1) = some false)
    (lo_ne_Key_Recipe : (C0 == C1) = false)
    (so_Plan_Recipe : PySem.W.subIn K (.ref C2) (.ref C1) = some false)
    (lo_ne_Plan_Recipe : (C2 == C1) = false)
    (sk_Key_dict : PySem.W.subIn K (.ref C0) (.type "dict") = some false)
    (sk_Recipe_dict : PySem.W.subIn K (.ref C1) (.type "dict") = some false)
    (sk_Plan_dict : PySem.W.subIn K (.ref C2) (.type "dict") = some false)
    (sk_Key_str : PySem.W.subIn K (.ref C0) (.type "str") = some false)
    (sk_Recipe_str : PySem.W.subIn K (.ref C1) (.type "str") = some false)
    (sk_Plan_str : PySem.W.subIn K (.ref C2) (.type "str") = some false)
    (sk_Key_tuple : PySem.W.subIn K (.ref C0) (.type "tuple") = some false)
    (sk_Recipe_tuple : PySem.W.subIn K (.ref C1) (.type "tuple") = some false)
    (sk_Plan_tuple : PySem.W.subIn K (.ref C2) (.type "tuple") = some false)
    (i_Plan_check_place : PySem.W.isFn K (.ref a54) = true)
    (na_Key_held : PySem.W.findIn K (.ref C0) "held" = some none)
    (na_Plan_held : PySem.W.findIn K (.ref C2) "held" = some none)
    (na_Recipe_form : PySem.W.findIn K (.ref C1) "form" = some none)
    (na_Recipe_leaves : PySem.W.findIn K (.ref C1) "leaves" = some none)
    (ne_Key : PySem.W.findIn K (.ref C0) "__ne__" = some (some (.builtin "object.__ne__")))
    (ne_Plan : PySem.W.findIn K (.ref C2) "__ne__" = some (some (.builtin "object.__ne__")))
    (ne_Recipe : PySem.W.findIn K (.ref C1) "__ne__" = some (some (.builtin "object.__ne__")))
    (p2_Key_names : PySem.W.specialIn K (.ref a98) "__get__" = some (some (.builtin "property.__get__")))
    (p3_Key_names : PySem.W.takesIn K (.ref a98) = some true)
    (p2_Plan_base : PySem.W.specialIn K (.ref a101) "__get__" = some (some (.builtin "property.__get__")))
    (p3_Plan_base : PySem.W.takesIn K (.ref a101) = some true)
    (p2_Plan_cells : PySem.W.specialIn K (.ref a95) "__get__" = some (some (.builtin "property.__get__")))
    (p3_Plan_cells : PySem.W.takesIn K (.ref a95) = some true)
    (p2_Plan_drops : PySem.W.specialIn K (.ref a102) "__get__" = some (some (.builtin "property.__get__")))
    (p3_Plan_drops : PySem.W.takesIn K (.ref a102) = some true)
    (p2_Plan_fields : PySem.W.specialIn K (.ref a94) "__get__" = some (some (.builtin "property.__get__")))
    (p3_Plan_fields : PySem.W.takesIn K (.ref a94) = some true)
    (p2_Plan_places : PySem.W.specialIn K (.ref a96) "__get__" = some (some (.builtin "property.__get__")))
    (p3_Plan_places : PySem.W.takesIn K (.ref a96) = some true)
    (p2_Recipe_names : PySem.W.specialIn K (.ref a89) "__get__" = some (some (.builtin "property.__get__")))
    (p3_Recipe_names : PySem.W.takesIn K (.ref a89) = some true)
    (rn_Key : PySem.W.subIn K (.ref C0) (.type "NoneType") = some false)
    (rn_Recipe : PySem.W.subIn K (.ref C1) (.type "NoneType") = some false)
    (rs_Key : PySem.W.subIn K (.ref C0) (.type "str") = some false)
    (rs_Recipe : PySem.W.subIn K (.ref C1) (.type "str") = some false)
    (sf_Key : PySem.W.selfFirst K C0 = true)
    (sf_Recipe : PySem.W.selfFirst K C1 = true)
    (sn_Key : PySem.W.subIn K (.type "NoneType") (.ref C0) = some false)
    (sn_Plan : PySem.W.subIn K (.type "NoneType") (.ref C2) = some false)
    (sn_Recipe : PySem.W.subIn K (.type "NoneType") (.ref C1) = some false)
    (ss_Key : PySem.W.subIn K (.type "str") (.ref C0) = some false)
    (ss_Plan : PySem.W.subIn K (.type "str") (.ref C2) = some false)
    (ss_Recipe : PySem.W.subIn K (.type "str") (.ref C1) = some false)
    (c_BadPlan_init : PySem.W.codeIn K (.ref cda_BadPlan_init) "BadPlan.__init__" = true)
    (sa_BadPlan_init : PySem.W.findIn K (.ref a93) "__setattr__" = some (some (.builtin "object.__setattr__")))
    (e3_BadPlan : PySem.W.subIn K (.ref a93) (.type "BaseException") = some true)
    (e4_BadPlan : PySem.W.typeIn K (.ref a93) = some (.type "type"))
    (e2_BadPlan : PySem.W.keepIn K (.ref a93) = true)
    (tp : (P.main.scope.names.lookup ("super" : Str)).isSome = false)
    (z_super : PySem.W.nsIn K mainGlobals "super" = some none)
    (fn_BadPlan_init : PySem.W.findIn K (.ref a93) "part" = some none)
    (se_BadPlan_init : PySem.W.mroIn K a93 (.ref a93) = some true)
    (op : PySem.W.nsIn K PySem.cStatics "thirdparty.any" = some none)
    (sp_BadPlan_init : PySem.W.ks_superIn K a93 a93 "__init__" = some (some (.builtin "ValueError.__init__")))
    (ve_BadPlan_init : PySem.W.subIn K (.ref a93) (.type "ValueError") = some true)
    (ty_BadPlan_init : PySem.W.typeIn K (.ref a1) = some (.type "function"))
    (xf1_BadPlan : PySem.W.findIn K (.ref a93) "__getattribute__" = some (some (.builtin "BaseException.__getattribute__")))
    (xf2_BadPlan : PySem.W.findIn K (.ref a93) "__getattr__" = some none)
    (xf4_BadPlan : PySem.W.hasDictIn K a93 = true)
    (e5_BadPlan : PySem.W.isClsIn K a93 = true)
    (xm0_BadPlan : PySem.W.subIn K (.ref a86) (.ref a93) = some false)
    (xm1_BadPlan : PySem.W.subIn K (.ref a87) (.ref a93) = some false)
    (xm2_BadPlan : PySem.W.subIn K (.ref a90) (.ref a93) = some false)
    (xm3_BadPlan : PySem.W.subIn K (.ref a93) (.ref a93) = some true)
    (xm4_BadPlan : PySem.W.subIn K (.ref a97) (.ref a93) = some false)
    (ht : ∀ ns : List Int, ns.length ≤ 63 → m_law [.scr ns] = .ok (.bl true)) :
    ∃ fd : FuncData, (∀ (s : Shared) (v : Value), BindsTo s fd ⟨[v], []⟩ [("script", v)]) ∧ ∀ base : Heap, K.In base → base.Ns mainGlobals mg → FnOk P w K mg base (L2.CX P w) 46 fa fd ["script"] (spL K) := by
  have e := (PySem.W.mg_of X G n_law).symm.trans hfa
  cases e
  have T : Tx P K mg ⟨fun i => [C0, C1, C2].getD i 0, fun i => [.ref a86, .ref a87, .ref a90, .ref a93, .ref a97].getD i .none, fun i => ([[], [], [], ["part"], []] : List (List Str)).getD i []⟩ (fun i => [a0, a1, a2, a3, a4, a5, a6, a7, 0, a9, a10, 0, a12, 0, a14, 0, a16, a17, a18, a19, a20, 0, 0, 0, a24, 0, 0, a27, 0, a29, 0, a31, 0, 0, a34, a35, 0, a37, a38, a39, a40, a41, a42, a43, a44, a45, a46, a47, a48, a49, a50, 0, 0, 0, a54, a55, 0, a57, a58, a59, a60, a61, a62, a63, a64, a65, a66, a67, a68, a69, a70, a71, a72, a73, a74, a75, a76, a77, a78, a79, a80, fa, a82, a83, a84, a85, a86, a87, a88, a89, a90, a91, a92, a93, a94, a95, a96, a97, a98, a99, a100, a101, a102, a103].getD i 0) (fun i => [(PySem.W.fnOf "__contains__" "Key.__contains__" (defArgs s_Key_contains) (defBody s_Key_contains) (defScope s_Key_contains) .none kV_Key_contains dc_Key_contains pm_Key_contains an_Key_contains cd_Key_contains ct_Key_contains), (PySem.W.ksFn "__init__" "BadPlan.__init__" (defArgs s_BadPlan_init) (defBody s_BadPlan_init) (defScope s_BadPlan_init) .none kV_BadPlan_init dc_BadPlan_init pm_BadPlan_init an_BadPlan_init (.ref cda_BadPlan_init) ct_BadPlan_init cc_BadPlan_init), (PySem.W.fnOf "is_integer" "is_integer" (defArgs s_is_integer) (defBody s_is_integer) (defScope s_is_integer) .none kV_is_integer dc_is_integer pm_is_integer an_is_integer cd_is_integer ct_is_integer), (PySem.W.fnOf "is_whole" "is_whole" (defArgs s_is_whole) (defBody s_is_whole) (defScope s_is_whole) .none kV_is_whole dc_is_whole pm_is_whole an_is_whole cd_is_whole ct_is_whole), (PySem.W.fnOf "is_name" "is_name" (defArgs s_is_name) (defBody s_is_name) (defScope s_is_name) .none kV_is_name dc_is_name pm_is_name an_is_name cd_is_name ct_is_name), (PySem.W.fnOf "in_order" "in_order" (defArgs s_in_order) (defBody s_in_order) (defScope s_in_order) .none kV_in_order dc_in_order pm_in_order an_in_order cd_in_order ct_in_order), (PySem.W.fnOf "usable_names" "usable_names" (defArgs s_usable_names) (defBody s_usable_names) (defScope s_usable_names) .none kV_usable_names dc_usable_names pm_usable_names an_usable_names cd_usable_names ct_usable_names), (PySem.W.fnOf "__init__" "Key.__init__" (defArgs s_Key_init) (defBody s_Key_init) (defScope s_Key_init) (.ref dT_Key_init) kV_Key_init dc_Key_init pm_Key_init an_Key_init cd_Key_init ct_Key_init), (PySem.W.fnOf "__contains__" "Key.__contains__" (defArgs s_Key_contains) (defBody s_Key_contains) (defScope s_Key_contains) .none kV_Key_contains dc_Key_contains pm_Key_contains an_Key_contains cd_Key_contains ct_Key_contains), (PySem.W.fnOf "names" "Key.names" (defArgs s_Key_names) (defBody s_Key_names) (defScope s_Key_names) .none kV_Key_names dc_Key_names pm_Key_names an_Key_names cd_Key_names ct_Key_names), (PySem.W.fnOf "__contains__" "Key.__contains__" (defArgs s_Key_contains) (defBody s_Key_contains) (defScope s_Key_contains) .none kV_Key_contains dc_Key_contains pm_Key_contains an_Key_contains cd_Key_contains ct_Key_contains), (PySem.W.fnOf "__contains__" "Key.__contains__" (defArgs s_Key_contains) (defBody s_Key_contains) (defScope s_Key_contains) .none kV_Key_contains dc_Key_contains pm_Key_contains an_Key_contains cd_Key_contains ct_Key_contains), (PySem.W.fnOf "__contains__" "Key.__contains__" (defArgs s_Key_contains) (defBody s_Key_contains) (defScope s_Key_contains) .none kV_Key_contains dc_Key_contains pm_Key_contains an_Key_contains cd_Key_contains ct_Key_contains), (PySem.W.fnOf "__contains__" "Key.__contains__" (defArgs s_Key_contains) (defBody s_Key_contains) (defScope s_Key_contains) .none kV_Key_contains dc_Key_contains pm_Key_contains an_Key_contains cd_Key_contains ct_Key_contains), (PySem.W.fnOf "__le__" "Key.__le__" (defArgs s_Key_le) (defBody s_Key_le) (defScope s_Key_le) .none kV_Key_le dc_Key_le pm_Key_le an_Key_le cd_Key_le ct_Key_le), (PySem.W.fnOf "__contains__" "Key.__contains__" (defArgs s_Key_contains) (defBody s_Key_contains) (defScope s_Key_contains) .none kV_Key_contains dc_Key_contains pm_Key_contains an_Key_contains cd_Key_contains ct_Key_contains), (PySem.W.fnOf "__contains__" "Key.__contains__" (defArgs s_Key_contains) (defBody s_Key_contains) (defScope s_Key_contains) .none kV_Key_contains dc_Key_contains pm_Key_contains an_Key_contains cd_Key_contains ct_Key_contains), (PySem.W.fnOf "__len__" "Key.__len__" (defArgs s_Key_len) (defBody s_Key_len) (defScope s_Key_len) .none kV_Key_len dc_Key_len pm_Key_len an_Key_len cd_Key_len ct_Key_len), (PySem.W.fnOf "__eq__" "Key.__eq__" (defArgs s_Key_eq) (defBody s_Key_eq) (defScope s_Key_eq) .none kV_Key_eq dc_Key_eq pm_Key_eq an_Key_eq cd_Key_eq ct_Key_eq), (PySem.W.fnOf "__init__" "Recipe.__init__" (defArgs s_Recipe_init) (defBody s_Recipe_init) (defScope s_Recipe_init) .none kV_Recipe_init dc_Recipe_init pm_Recipe_init an_Recipe_init cd_Recipe_init ct_Recipe_init), (PySem.W.fnOf "field" "Recipe.field" (defArgs s_Recipe_field) (defBody s_Recipe_field) (defScope s_Recipe_field) .none kV_Recipe_field dc_Recipe_field pm_Recipe_field an_Recipe_field cd_Recipe_field ct_Recipe_field), (PySem.W.fnOf "__contains__" "Key.__contains__" (defArgs s_Key_contains) (defBody s_Key_contains) (defScope s_Key_contains) .none kV_Key_contains dc_Key_contains pm_Key_contains an_Key_contains cd_Key_contains ct_Key_contains), (PySem.W.fnOf "__contains__" "Key.__contains__" (defArgs s_Key_contains) (defBody s_Key_contains) (defScope s_Key_contains) .none kV_Key_contains dc_Key_contains pm_Key_contains an_Key_contains cd_Key_contains ct_Key_contains), (PySem.W.fnOf "__contains__" "Key.__contains__" (defArgs s_Key_contains) (defBody s_Key_contains) (defScope s_Key_contains) .none kV_Key_contains dc_Key_contains pm_Key_contains an_Key_contains cd_Key_contains ct_Key_contains), (PySem.W.fnOf "names" "Recipe.names" (defArgs s_Recipe_names) (defBody s_Recipe_names) (defScope s_Recipe_names) .none kV_Recipe_names dc_Recipe_names pm_Recipe_names an_Recipe_names cd_Recipe_names ct_Recipe_names), (PySem.W.fnOf "__contains__" "Key.__contains__" (defArgs s_Key_contains) (defBody s_Key_contains) (defScope s_Key_contains) .none kV_Key_contains dc_Key_contains pm_Key_contains an_Key_contains cd_Key_contains ct_Key_contains), (PySem.W.fnOf "__contains__" "Key.__contains__" (defArgs s_Key_contains) (defBody s_Key_contains) (defScope s_Key_contains) .none kV_Key_contains dc_Key_contains pm_Key_contains an_Key_contains cd_Key_contains ct_Key_contains), (PySem.W.fnOf "__add__" "Recipe.__add__" (defArgs s_Recipe_add) (defBody s_Recipe_add) (defScope s_Recipe_add) .none kV_Recipe_add dc_Recipe_add pm_Recipe_add an_Recipe_add cd_Recipe_add ct_Recipe_add), (PySem.W.fnOf "__contains__" "Key.__contains__" (defArgs s_Key_contains) (defBody s_Key_contains) (defScope s_Key_contains) .none kV_Key_contains dc_Key_contains pm_Key_contains an_Key_contains cd_Key_contains ct_Key_contains), (PySem.W.fnOf "__contains__" "Key.__contains__" (defArgs s_Key_contains) (defBody s_Key_contains) (defScope s_Key_contains) .none kV_Key_contains dc_Key_contains pm_Key_contains an_Key_contains cd_Key_contains ct_Key_contains), (PySem.W.fnOf "__contains__" "Key.__contains__" (defArgs s_Key_contains) (defBody s_Key_contains) (defScope s_Key_contains) .none kV_Key_contains dc_Key_contains pm_Key_contains an_Key_contains cd_Key_contains ct_Key_contains), (PySem.W.fnOf "__contains__" "Key.__contains__" (defArgs s_Key_contains) (defBody s_Key_contains) (defScope s_Key_contains) .none kV_Key_contains dc_Key_contains pm_Key_contains an_Key_contains cd_Key_contains ct_Key_contains), (PySem.W.fnOf "__contains__" "Key.__contains__" (defArgs s_Key_contains) (defBody s_Key_contains) (defScope s_Key_contains) .none kV_Key_contains dc_Key_contains pm_Key_contains an_Key_contains cd_Key_contains ct_Key_contains), (PySem.W.fnOf "__contains__" "Key.__contains__" (defArgs s_Key_contains) (defBody s_Key_contains) (defScope s_Key_contains) .none kV_Key_contains dc_Key_contains pm_Key_contains an_Key_contains cd_Key_contains ct_Key_contains), (PySem.W.fnOf "__contains__" "Recipe.__contains__" (defArgs s_Recipe_contains) (defBody s_Recipe_contains) (defScope s_Recipe_contains) .none kV_Recipe_contains dc_Recipe_contains pm_Recipe_contains an_Recipe_contains cd_Recipe_contains ct_Recipe_contains), (PySem.W.fnOf "__len__" "Recipe.__len__" (defArgs s_Recipe_len) (defBody s_Recipe_len) (defScope s_Recipe_len) .none kV_Recipe_len dc_Recipe_len pm_Recipe_len an_Recipe_len cd_Recipe_len ct_Recipe_len), (PySem.W.fnOf "__contains__" "Key.__contains__" (defArgs s_Key_contains) (defBody s_Key_contains) (defScope s_Key_contains) .none kV_Key_contains dc_Key_contains pm_Key_contains an_Key_contains cd_Key_contains ct_Key_contains), (PySem.W.fnOf "__eq__" "Recipe.__eq__" (defArgs s_Recipe_eq) (defBody s_Recipe_eq) (defScope s_Recipe_eq) .none kV_Recipe_eq dc_Recipe_eq pm_Recipe_eq an_Recipe_eq cd_Recipe_eq ct_Recipe_eq), (PySem.W.fnOf "kind_of" "kind_of" (defArgs s_kind_of) (defBody s_kind_of) (defScope s_kind_of) .none kV_kind_of dc_kind_of pm_kind_of an_kind_of cd_kind_of ct_kind_of), (PySem.W.fnOf "leaves_of" "leaves_of" (defArgs s_leaves_of) (defBody s_leaves_of) (defScope s_leaves_of) .none kV_leaves_of dc_leaves_of pm_leaves_of an_leaves_of cd_leaves_of ct_leaves_of), (PySem.W.fnOf "leaf_form" "leaf_form" (defArgs s_leaf_form) (defBody s_leaf_form) (defScope s_leaf_form) .none kV_leaf_form dc_leaf_form pm_leaf_form an_leaf_form cd_leaf_form ct_leaf_form), (PySem.W.fnOf "name_of" "name_of" (defArgs s_name_of) (defBody s_name_of) (defScope s_name_of) .none kV_name_of dc_name_of pm_name_of an_name_of cd_name_of ct_name_of), (PySem.W.fnOf "form_of" "form_of" (defArgs s_form_of) (defBody s_form_of) (defScope s_form_of) .none kV_form_of dc_form_of pm_form_of an_form_of cd_form_of ct_form_of), (PySem.W.fnOf "__contains__" "Key.__contains__" (defArgs s_Key_contains) (defBody s_Key_contains) (defScope s_Key_contains) .none kV_Key_contains dc_Key_contains pm_Key_contains an_Key_contains cd_Key_contains ct_Key_contains), (PySem.W.fnOf "__contains__" "Key.__contains__" (defArgs s_Key_contains) (defBody s_Key_contains) (defScope s_Key_contains) .none kV_Key_contains dc_Key_contains pm_Key_contains an_Key_contains cd_Key_contains ct_Key_contains), (PySem.W.fnOf "__init__" "Plan.__init__" (defArgs s_Plan_init) (defBody s_Plan_init) (defScope s_Plan_init) .none (.ref kD_Plan_init) dc_Plan_init pm_Plan_init an_Plan_init cd_Plan_init ct_Plan_init), (PySem.W.fnOf "base" "Plan.base" (defArgs s_Plan_base) (defBody s_Plan_base) (defScope s_Plan_base) .none kV_Plan_base dc_Plan_base pm_Plan_base an_Plan_base cd_Plan_base ct_Plan_base), (PySem.W.fnOf "fields" "Plan.fields" (defArgs s_Plan_fields) (defBody s_Plan_fields) (defScope s_Plan_fields) .none kV_Plan_fields dc_Plan_fields pm_Plan_fields an_Plan_fields cd_Plan_fields ct_Plan_fields), (PySem.W.fnOf "cells" "Plan.cells" (defArgs s_Plan_cells) (defBody s_Plan_cells) (defScope s_Plan_cells) .none kV_Plan_cells dc_Plan_cells pm_Plan_cells an_Plan_cells cd_Plan_cells ct_Plan_cells), (PySem.W.fnOf "places" "Plan.places" (defArgs s_Plan_places) (defBody s_Plan_places) (defScope s_Plan_places) .none kV_Plan_places dc_Plan_places pm_Plan_places an_Plan_places cd_Plan_places ct_Plan_places), (PySem.W.fnOf "drops" "Plan.drops" (defArgs s_Plan_drops) (defBody s_Plan_drops) (defScope s_Plan_drops) .none kV_Plan_drops dc_Plan_drops pm_Plan_drops an_Plan_drops cd_Plan_drops ct_Plan_drops), (PySem.W.fnOf "__contains__" "Key.__contains__" (defArgs s_Key_contains) (defBody s_Key_contains) (defScope s_Key_contains) .none kV_Key_contains dc_Key_contains pm_Key_contains an_Key_contains cd_Key_contains ct_Key_contains), (PySem.W.fnOf "__contains__" "Key.__contains__" (defArgs s_Key_contains) (defBody s_Key_contains) (defScope s_Key_contains) .none kV_Key_contains dc_Key_contains pm_Key_contains an_Key_contains cd_Key_contains ct_Key_contains), (PySem.W.fnOf "__contains__" "Key.__contains__" (defArgs s_Key_contains) (defBody s_Key_contains) (defScope s_Key_contains) .none kV_Key_contains dc_Key_contains pm_Key_contains an_Key_contains cd_Key_contains ct_Key_contains), (PySem.W.fnOf "check_place" "Plan.check_place" (defArgs s_Plan_check_place) (defBody s_Plan_check_place) (defScope s_Plan_check_place) .none kV_Plan_check_place dc_Plan_check_place pm_Plan_check_place an_Plan_check_place cd_Plan_check_place ct_Plan_check_place), (PySem.W.fnOf "__getitem__" "Plan.__getitem__" (defArgs s_Plan_getitem) (defBody s_Plan_getitem) (defScope s_Plan_getitem) .none kV_Plan_getitem dc_Plan_getitem pm_Plan_getitem an_Plan_getitem cd_Plan_getitem ct_Plan_getitem), (PySem.W.fnOf "__contains__" "Key.__contains__" (defArgs s_Key_contains) (defBody s_Key_contains) (defScope s_Key_contains) .none kV_Key_contains dc_Key_contains pm_Key_contains an_Key_contains cd_Key_contains ct_Key_contains), (PySem.W.fnOf "__len__" "Plan.__len__" (defArgs s_Plan_len) (defBody s_Plan_len) (defScope s_Plan_len) .none kV_Plan_len dc_Plan_len pm_Plan_len an_Plan_len cd_Plan_len ct_Plan_len), (PySem.W.fnOf "__eq__" "Plan.__eq__" (defArgs s_Plan_eq) (defBody s_Plan_eq) (defScope s_Plan_eq) .none kV_Plan_eq dc_Plan_eq pm_Plan_eq an_Plan_eq cd_Plan_eq ct_Plan_eq), (PySem.W.fnOf "wrong_part" "wrong_part" (defArgs s_wrong_part) (defBody s_wrong_part) (defScope s_wrong_part) .none kV_wrong_part dc_wrong_part pm_wrong_part an_wrong_part cd_wrong_part ct_wrong_part), (PySem.W.fnOf "pair_fits" "pair_fits" (defArgs s_pair_fits) (defBody s_pair_fits) (defScope s_pair_fits) .none kV_pair_fits dc_pair_fits pm_pair_fits an_pair_fits cd_pair_fits ct_pair_fits), (PySem.W.fnOf "recipe_fits" "recipe_fits" (defArgs s_recipe_fits) (defBody s_recipe_fits) (defScope s_recipe_fits) .none kV_recipe_fits dc_recipe_fits pm_recipe_fits an_recipe_fits cd_recipe_fits ct_recipe_fits), (PySem.W.fnOf "rule_fits" "rule_fits" (defArgs s_rule_fits) (defBody s_rule_fits) (defScope s_rule_fits) .none kV_rule_fits dc_rule_fits pm_rule_fits an_rule_fits cd_rule_fits ct_rule_fits), (PySem.W.fnOf "drops_fit" "drops_fit" (defArgs s_drops_fit) (defBody s_drops_fit) (defScope s_drops_fit) .none kV_drops_fit dc_drops_fit pm_drops_fit an_drops_fit cd_drops_fit ct_drops_fit), (PySem.W.fnOf "is_ascending" "is_ascending" (defArgs s_is_ascending) (defBody s_is_ascending) (defScope s_is_ascending) .none kV_is_ascending dc_is_ascending pm_is_ascending an_is_ascending cd_is_ascending ct_is_ascending), (PySem.W.fnOf "number_rows" "number_rows" (defArgs s_number_rows) (defBody s_number_rows) (defScope s_number_rows) .none kV_number_rows dc_number_rows pm_number_rows an_number_rows cd_number_rows ct_number_rows), (PySem.W.fnOf "_law_number" "_law_number" (defArgs s__law_number) (defBody s__law_number) (defScope s__law_number) .none kV__law_number dc__law_number pm__law_number an__law_number cd__law_number ct__law_number), (PySem.W.fnOf "_law_pick" "_law_pick" (defArgs s__law_pick) (defBody s__law_pick) (defScope s__law_pick) .none kV__law_pick dc__law_pick pm__law_pick an__law_pick cd__law_pick ct__law_pick), (PySem.W.fnOf "_law_leaf" "_law_leaf" (defArgs s__law_leaf) (defBody s__law_leaf) (defScope s__law_leaf) .none kV__law_leaf dc__law_leaf pm__law_leaf an__law_leaf cd__law_leaf ct__law_leaf), (PySem.W.fnOf "_law_rule" "_law_rule" (defArgs s__law_rule) (defBody s__law_rule) (defScope s__law_rule) .none kV__law_rule dc__law_rule pm__law_rule an__law_rule cd__law_rule ct__law_rule), (PySem.W.fnOf "_law_places" "_law_places" (defArgs s__law_places) (defBody s__law_places) (defScope s__law_places) .none kV__law_places dc__law_places pm__law_places an__law_places cd__law_places ct__law_places), (PySem.W.fnOf "_law_leaves" "_law_leaves" (defArgs s__law_leaves) (defBody s__law_leaves) (defScope s__law_leaves) .none kV__law_leaves dc__law_leaves pm__law_leaves an__law_leaves cd__law_leaves ct__law_leaves), (PySem.W.fnOf "_law_is_number" "_law_is_number" (defArgs s__law_is_number) (defBody s__law_is_number) (defScope s__law_is_number) .none kV__law_is_number dc__law_is_number pm__law_is_number an__law_is_number cd__law_is_number ct__law_is_number), (PySem.W.fnOf "_law_is_place" "_law_is_place" (defArgs s__law_is_place) (defBody s__law_is_place) (defScope s__law_is_place) .none kV__law_is_place dc__law_is_place pm__law_is_place an__law_is_place cd__law_is_place ct__law_is_place), (PySem.W.fnOf "_law_are_drops" "_law_are_drops" (defArgs s__law_are_drops) (defBody s__law_are_drops) (defScope s__law_are_drops) .none kV__law_are_drops dc__law_are_drops pm__law_are_drops an__law_are_drops cd__law_are_drops ct__law_are_drops), (PySem.W.fnOf "_law_wrong" "_law_wrong" (defArgs s__law_wrong) (defBody s__law_wrong) (defScope s__law_wrong) .none kV__law_wrong dc__law_wrong pm__law_wrong an__law_wrong cd__law_wrong ct__law_wrong), (PySem.W.fnOf "_law_drops" "_law_drops" (defArgs s__law_drops) (defBody s__law_drops) (defScope s__law_drops) .none kV__law_drops dc__law_drops pm__law_drops an__law_drops cd__law_drops ct__law_drops), (PySem.W.fnOf "_law_made" "_law_made" (defArgs s__law_made) (defBody s__law_made) (defScope s__law_made) .none kV__law_made dc__law_made pm__law_made an__law_made cd__law_made ct__law_made), (PySem.W.fnOf "_law_plan_right" "_law_plan_right" (defArgs s__law_plan_right) (defBody s__law_plan_right) (defScope s__law_plan_right) .none kV__law_plan_right dc__law_plan_right pm__law_plan_right an__law_plan_right cd__law_plan_right ct__law_plan_right), (PySem.W.fnOf "_law_rows_of" "_law_rows_of" (defArgs s__law_rows_of) (defBody s__law_rows_of) (defScope s__law_rows_of) .none kV__law_rows_of dc__law_rows_of pm__law_rows_of an__law_rows_of cd__law_rows_of ct__law_rows_of), (PySem.W.fnOf "_law_drops_right" "_law_drops_right" (defArgs s__law_drops_right) (defBody s__law_drops_right) (defScope s__law_drops_right) .none kV__law_drops_right dc__law_drops_right pm__law_drops_right an__law_drops_right cd__law_drops_right ct__law_drops_right), (PySem.W.fnOf "law" "law" (defArgs s_law) (defBody s_law) (defScope s_law) .none kV_law dc_law pm_law an_law cd_law ct_law), (PySem.W.fnOf "__contains__" "Key.__contains__" (defArgs s_Key_contains) (defBody s_Key_contains) (defScope s_Key_contains) .none kV_Key_contains dc_Key_contains pm_Key_contains an_Key_contains cd_Key_contains ct_Key_contains), (PySem.W.fnOf "__contains__" "Key.__contains__" (defArgs s_Key_contains) (defBody s_Key_contains) (defScope s_Key_contains) .none kV_Key_contains dc_Key_contains pm_Key_contains an_Key_contains cd_Key_contains ct_Key_contains), (PySem.W.fnOf "__contains__" "Key.__contains__" (defArgs s_Key_contains) (defBody s_Key_contains) (defScope s_Key_contains) .none kV_Key_contains dc_Key_contains pm_Key_contains an_Key_contains cd_Key_contains ct_Key_contains), (PySem.W.fnOf "__contains__" "Key.__contains__" (defArgs s_Key_contains) (defBody s_Key_contains) (defScope s_Key_contains) .none kV_Key_contains dc_Key_contains pm_Key_contains an_Key_contains cd_Key_contains ct_Key_contains), (PySem.W.fnOf "__contains__" "Key.__contains__" (defArgs s_Key_contains) (defBody s_Key_contains) (defScope s_Key_contains) .none kV_Key_contains dc_Key_contains pm_Key_contains an_Key_contains cd_Key_contains ct_Key_contains), (PySem.W.fnOf "__contains__" "Key.__contains__" (defArgs s_Key_contains) (defBody s_Key_contains) (defScope s_Key_contains) .none kV_Key_contains dc_Key_contains pm_Key_contains an_Key_contains cd_Key_contains ct_Key_contains), (PySem.W.fnOf "__contains__" "Key.__contains__" (defArgs s_Key_contains) (defBody s_Key_contains) (defScope s_Key_contains) .none kV_Key_contains dc_Key_contains pm_Key_contains an_Key_contains cd_Key_contains ct_Key_contains), (PySem.W.fnOf "__contains__" "Key.__contains__" (defArgs s_Key_contains) (defBody s_Key_contains) (defScope s_Key_contains) .none kV_Key_contains dc_Key_contains pm_Key_contains an_Key_contains cd_Key_contains ct_Key_contains), (PySem.W.fnOf "__contains__" "Key.__contains__" (defArgs s_Key_contains) (defBody s_Key_contains) (defScope s_Key_contains) .none kV_Key_contains dc_Key_contains pm_Key_contains an_Key_contains cd_Key_contains ct_Key_contains), (PySem.W.fnOf "__contains__" "Key.__contains__" (defArgs s_Key_contains) (defBody s_Key_contains) (defScope s_Key_contains) .none kV_Key_contains dc_Key_contains pm_Key_contains an_Key_contains cd_Key_contains ct_Key_contains), (PySem.W.fnOf "__contains__" "Key.__contains__" (defArgs s_Key_contains) (defBody s_Key_contains) (defScope s_Key_contains) .none kV_Key_contains dc_Key_contains pm_Key_contains an_Key_contains cd_Key_contains ct_Key_contains), (PySem.W.fnOf "__contains__" "Key.__contains__" (defArgs s_Key_contains) (defBody s_Key_contains) (defScope s_Key_contains) .none kV_Key_contains dc_Key_contains pm_Key_contains an_Key_contains cd_Key_contains ct_Key_contains), (PySem.W.fnOf "__contains__" "Key.__contains__" (defArgs s_Key_contains) (defBody s_Key_contains) (defScope s_Key_contains) .none kV_Key_contains dc_Key_contains pm_Key_contains an_Key_contains cd_Key_contains ct_Key_contains), (PySem.W.fnOf "__contains__" "Key.__contains__" (defArgs s_Key_contains) (defBody s_Key_contains) (defScope s_Key_contains) .none kV_Key_contains dc_Key_contains pm_Key_contains an_Key_contains cd_Key_contains ct_Key_contains), (PySem.W.fnOf "__contains__" "Key.__contains__" (defArgs s_Key_contains) (defBody s_Key_contains) (defScope s_Key_contains) .none kV_Key_contains dc_Key_contains pm_Key_contains an_Key_contains cd_Key_contains ct_Key_contains), (PySem.W.fnOf "__contains__" "Key.__contains__" (defArgs s_Key_contains) (defBody s_Key_contains) (defScope s_Key_contains) .none kV_Key_contains dc_Key_contains pm_Key_contains an_Key_contains cd_Key_contains ct_Key_contains), (PySem.W.fnOf "__contains__" "Key.__contains__" (defArgs s_Key_contains) (defBody s_Key_contains) (defScope s_Key_contains) .none kV_Key_contains dc_Key_contains pm_Key_contains an_Key_contains cd_Key_contains ct_Key_contains), (PySem.W.fnOf "__contains__" "Key.__contains__" (defArgs s_Key_contains) (defBody s_Key_contains) (defScope s_Key_contains) .none kV_Key_contains dc_Key_contains pm_Key_contains an_Key_contains cd_Key_contains ct_Key_contains), (PySem.W.fnOf "__contains__" "Key.__contains__" (defArgs s_Key_contains) (defBody s_Key_contains) (defScope s_Key_contains) .none kV_Key_contains dc_Key_contains pm_Key_contains an_Key_contains cd_Key_contains ct_Key_contains), (PySem.W.fnOf "__contains__" "Key.__contains__" (defArgs s_Key_contains) (defBody s_Key_contains) (defScope s_Key_contains) .none kV_Key_contains dc_Key_contains pm_Key_contains an_Key_contains cd_Key_contains ct_Key_contains), (PySem.W.fnOf "__contains__" "Key.__contains__" (defArgs s_Key_contains) (defBody s_Key_contains) (defScope s_Key_contains) .none kV_Key_contains dc_Key_contains pm_Key_contains an_Key_contains cd_Key_contains ct_Key_contains), (PySem.W.fnOf "__contains__" "Key.__contains__" (defArgs s_Key_contains) (defBody s_Key_contains) (defScope s_Key_contains) .none kV_Key_contains dc_Key_contains pm_Key_contains an_Key_contains cd_Key_contains ct_Key_contains)].getD i (PySem.W.fnOf "__contains__" "Key.__contains__" (defArgs s_Key_contains) (defBody s_Key_contains) (defScope s_Key_contains) .none kV_Key_contains dc_Key_contains pm_Key_contains an_Key_contains cd_Key_contains ct_Key_contains)) mc w := {
    C_Key := ⟨C1_Key, C2_Key, C3_Key, C4_Key⟩
    C_Plan := ⟨C1_Plan, C2_Plan, C3_Plan, C4_Plan⟩
    C_Recipe := ⟨C1_Recipe, C2_Recipe, C3_Recipe, C4_Recipe⟩
    I_Key := ⟨⟨C1_Key, C2_Key, C3_Key, C4_Key⟩, I1_Key, I2_Key, I3_Key, I4_Key⟩
    I_Plan := ⟨⟨C1_Plan, C2_Plan, C3_Plan, C4_Plan⟩, I1_Plan, I2_Plan, I3_Plan, I4_Plan⟩
    I_Recipe := ⟨⟨C1_Recipe, C2_Recipe, C3_Recipe, C4_Recipe⟩, I1_Recipe, I2_Recipe, I3_Recipe, I4_Recipe⟩
    M_Key := ⟨M1_Key, M2_Key, M3_Key, kC_Key⟩
    M_Plan := ⟨M1_Plan, M2_Plan, M3_Plan, kC_Plan⟩
    M_Recipe := ⟨M1_Recipe, M2_Recipe, M3_Recipe, kC_Recipe⟩
    b_all := PySem.W.mg_none_of X G z_all
    b_bool := PySem.W.mg_none_of X G z_bool
    b_dict := PySem.W.mg_none_of X G z_dict
    b_enumerate := PySem.W.mg_none_of X G z_enumerate
    b_int := PySem.W.mg_none_of X G z_int
    b_isinstance := PySem.W.mg_none_of X G z_isinstance
    b_len := PySem.W.mg_none_of X G z_len
    b_list := PySem.W.mg_none_of X G z_list
    b_range := PySem.W.mg_none_of X G z_range
    b_set := PySem.W.mg_none_of X G z_set
    b_sorted := PySem.W.mg_none_of X G z_sorted
    b_str := PySem.W.mg_none_of X G z_str
    b_sum := PySem.W.mg_none_of X G z_sum
    b_tuple := PySem.W.mg_none_of X G z_tuple
    c_CELL_NAMES := ⟨PySem.W.mg_of X G n_CELL_NAMES, _, _, _, l_CELL_NAMES, rfl, rfl, (show 2 ≤ sizeLine by decide), (.cons ⟨_, rfl⟩ (.cons ⟨_, rfl⟩ .nil))⟩
    c_FIELD_NAMES := ⟨PySem.W.mg_of X G n_FIELD_NAMES, _, _, _, l_FIELD_NAMES, rfl, rfl, (show 3 ≤ sizeLine by decide), (.cons ⟨_, rfl⟩ (.cons ⟨_, rfl⟩ (.cons ⟨_, rfl⟩ .nil)))⟩
    c_HIGHEST := ⟨PySem.W.mg_of X G n_HIGHEST, _, _, l_HIGHEST, ⟨⟨_, _, rfl, rfl⟩, ⟨⟨_, _, rfl, rfl⟩, ⟨⟨_, _, rfl, rfl⟩, ⟨⟨_, _, rfl, rfl⟩, trivial⟩⟩⟩⟩, lo_HIGHEST, (.cons (v := .int 2) rfl ⟨_, rfl⟩ (fun _ _ => by unfold Rep; rfl) (.cons (v := .int 2) rfl ⟨_, rfl⟩ (fun _ _ => by unfold Rep; rfl) (.cons (v := .int 1) rfl ⟨_, rfl⟩ (fun _ _ => by unfold Rep; rfl) (.cons (v := .int 1) rfl ⟨_, rfl⟩ (fun _ _ => by unfold Rep; rfl) .nil))))⟩
    c_LETTERS := ⟨PySem.W.mg_of X G n_LETTERS, _, _, l_LETTERS, ⟨⟨_, _, rfl, rfl⟩, ⟨⟨_, _, rfl, rfl⟩, ⟨⟨_, _, rfl, rfl⟩, trivial⟩⟩⟩, lo_LETTERS, (.cons (v := .str "f") rfl ⟨_, rfl⟩ (fun _ _ => by unfold Rep; rfl) (.cons (v := .str "c") rfl ⟨_, rfl⟩ (fun _ _ => by unfold Rep; rfl) (.cons (v := .str "p") rfl ⟨_, rfl⟩ (fun _ _ => by unfold Rep; rfl) .nil)))⟩
    c_MOST_LEAVES := ⟨_, PySem.W.mg_of X G n_MOST_LEAVES⟩
    c_MOST_SITUATIONS := ⟨_, PySem.W.mg_of X G n_MOST_SITUATIONS⟩
    c_NAMES := ⟨PySem.W.mg_of X G n_NAMES, _, _, _, l_NAMES, rfl, rfl, (show 7 ≤ sizeLine by decide), (.cons ⟨_, rfl⟩ (.cons ⟨_, rfl⟩ (.cons ⟨_, rfl⟩ (.cons ⟨_, rfl⟩ (.cons ⟨_, rfl⟩ (.cons ⟨_, rfl⟩ (.cons ⟨_, rfl⟩ .nil)))))))⟩
    c_PLACE_NAMES := ⟨PySem.W.mg_of X G n_PLACE_NAMES, _, _, _, l_PLACE_NAMES, rfl, rfl, (show 2 ≤ sizeLine by decide), (.cons ⟨_, rfl⟩ (.cons ⟨_, rfl⟩ .nil))⟩
    c_WIDTHS := ⟨PySem.W.mg_of X G n_WIDTHS, _, _, l_WIDTHS, ⟨⟨_, _, rfl, rfl⟩, ⟨⟨_, _, rfl, rfl⟩, ⟨⟨_, _, rfl, rfl⟩, ⟨⟨_, _, rfl, rfl⟩, ⟨⟨_, _, rfl, rfl⟩, trivial⟩⟩⟩⟩⟩, lo_WIDTHS, (.cons (v := .int 2) rfl ⟨_, rfl⟩ (fun _ _ => by unfold Rep; rfl) (.cons (v := .int 2) rfl ⟨_, rfl⟩ (fun _ _ => by unfold Rep; rfl) (.cons (v := .int 2) rfl ⟨_, rfl⟩ (fun _ _ => by unfold Rep; rfl) (.cons (v := .int 2) rfl ⟨_, rfl⟩ (fun _ _ => by unfold Rep; rfl) (.cons (v := .int 3) rfl ⟨_, rfl⟩ (fun _ _ => by unfold Rep; rfl) .nil)))))⟩
    c_WORDS := ⟨PySem.W.mg_of X G n_WORDS, _, _, _, l_WORDS, rfl, rfl, (show 2 ≤ sizeLine by decide), (.cons ⟨_, rfl⟩ (.cons ⟨_, rfl⟩ .nil))⟩
    cm_Recipe_field := ⟨cm1_Recipe_field, ⟨_, cm2_Recipe_field⟩, cm3_Recipe_field⟩
    cr_Recipe := ⟨cr1_Recipe, cr2_Recipe⟩
    d_Key_contains := d_Key_contains
    d_Key_eq := d_Key_eq
    d_Key_le := d_Key_le
    d_Key_len := d_Key_len
    d_Key_or := d_Key_or
    d_Key_sub := d_Key_sub
    d_Plan_eq := d_Plan_eq
    d_Plan_getitem := d_Plan_getitem
    d_Plan_len := d_Plan_len
    d_Recipe_add := d_Recipe_add
    d_Recipe_contains := d_Recipe_contains
    d_Recipe_eq := d_Recipe_eq
    d_Recipe_len := d_Recipe_len
    d_Recipe_mul := d_Recipe_mul
    d_Recipe_sub := d_Recipe_sub
    df_Key_init := ⟨_, _, _, le_Key_init, rfl, rfl, (show 0 ≤ sizeLine by decide), .nil⟩
    e_BadName := ⟨e1_BadName, e2_BadName, e3_BadName, e4_BadName⟩
    e_BadNumber := ⟨e1_BadNumber, e2_BadNumber, e3_BadNumber, e4_BadNumber⟩
    e_BadPlace := ⟨e1_BadPlace, e2_BadPlace, e3_BadPlace, e4_BadPlace⟩
    e_BadRecipe := ⟨e1_BadRecipe, e2_BadRecipe, e3_BadRecipe, e4_BadRecipe⟩
    f_Key_contains := ⟨⟨_, _, _, _, _, _, _, _, _, _, rfl, l_Key_contains, c_Key_contains, .inl ⟨rfl, rfl⟩, .inl rfl⟩, k_Key_contains⟩
    f_Key_eq := ⟨⟨_, _, _, _, _, _, _, _, _, _, rfl, l_Key_eq, c_Key_eq, .inl ⟨rfl, rfl⟩, .inl rfl⟩, k_Key_eq⟩
    f_Key_init := ⟨⟨_, _, _, _, _, _, _, _, _, _, rfl, l_Key_init, c_Key_init, .inr ⟨(by intro h; cases h), _, _, [.ref a103], _, rfl, lT_Key_init, rfl, .cons rfl .nil⟩, .inl rfl⟩, k_Key_init⟩
    f_Key_le := ⟨⟨_, _, _, _, _, _, _, _, _, _, rfl, l_Key_le, c_Key_le, .inl ⟨rfl, rfl⟩, .inl rfl⟩, k_Key_le⟩
    f_Key_len := ⟨⟨_, _, _, _, _, _, _, _, _, _, rfl, l_Key_len, c_Key_len, .inl ⟨rfl, rfl⟩, .inl rfl⟩, k_Key_len⟩
    f_Key_names := ⟨⟨_, _, _, _, _, _, _, _, _, _, rfl, l_Key_names, c_Key_names, .inl ⟨rfl, rfl⟩, .inl rfl⟩, k_Key_names⟩
    f_Plan_base := ⟨⟨_, _, _, _, _, _, _, _, _, _, rfl, l_Plan_base, c_Plan_base, .inl ⟨rfl, rfl⟩, .inl rfl⟩, k_Plan_base⟩
    f_Plan_cells := ⟨⟨_, _, _, _, _, _, _, _, _, _, rfl, l_Plan_cells, c_Plan_cells, .inl ⟨rfl, rfl⟩, .inl rfl⟩, k_Plan_cells⟩
    f_Plan_check_place := ⟨⟨_, _, _, _, _, _, _, _, _, _, rfl, l_Plan_check_place, c_Plan_check_place, .inl ⟨rfl, rfl⟩, .inl rfl⟩, k_Plan_check_place⟩
    f_Plan_drops := ⟨⟨_, _, _, _, _, _, _, _, _, _, rfl, l_Plan_drops, c_Plan_drops, .inl ⟨rfl, rfl⟩, .inl rfl⟩, k_Plan_drops⟩
    f_Plan_eq := ⟨⟨_, _, _, _, _, _, _, _, _, _, rfl, l_Plan_eq, c_Plan_eq, .inl ⟨rfl, rfl⟩, .inl rfl⟩, k_Plan_eq⟩
    f_Plan_fields := ⟨⟨_, _, _, _, _, _, _, _, _, _, rfl, l_Plan_fields, c_Plan_fields, .inl ⟨rfl, rfl⟩, .inl rfl⟩, k_Plan_fields⟩
    f_Plan_getitem := ⟨⟨_, _, _, _, _, _, _, _, _, _, rfl, l_Plan_getitem, c_Plan_getitem, .inl ⟨rfl, rfl⟩, .inl rfl⟩, k_Plan_getitem⟩
    f_Plan_init := ⟨⟨_, _, _, _, _, _, _, _, _, _, rfl, l_Plan_init, c_Plan_init, .inl ⟨rfl, rfl⟩, .inr ⟨_, rfl, fun q hq => by (have e := List.mem_singleton.mp hq; subst e; exact ⟨_, kw_Plan_init, rfl⟩)⟩⟩, k_Plan_init⟩
    f_Plan_len := ⟨⟨_, _, _, _, _, _, _, _, _, _, rfl, l_Plan_len, c_Plan_len, .inl ⟨rfl, rfl⟩, .inl rfl⟩, k_Plan_len⟩
    f_Plan_places := ⟨⟨_, _, _, _, _, _, _, _, _, _, rfl, l_Plan_places, c_Plan_places, .inl ⟨rfl, rfl⟩, .inl rfl⟩, k_Plan_places⟩
    f_Recipe_add := ⟨⟨_, _, _, _, _, _, _, _, _, _, rfl, l_Recipe_add, c_Recipe_add, .inl ⟨rfl, rfl⟩, .inl rfl⟩, k_Recipe_add⟩
    f_Recipe_contains := ⟨⟨_, _, _, _, _, _, _, _, _, _, rfl, l_Recipe_contains, c_Recipe_contains, .inl ⟨rfl, rfl⟩, .inl rfl⟩, k_Recipe_contains⟩
    f_Recipe_eq := ⟨⟨_, _, _, _, _, _, _, _, _, _, rfl, l_Recipe_eq, c_Recipe_eq, .inl ⟨rfl, rfl⟩, .inl rfl⟩, k_Recipe_eq⟩
    f_Recipe_field := ⟨⟨_, _, _, _, _, _, _, _, _, _, rfl, l_Recipe_field, c_Recipe_field, .inl ⟨rfl, rfl⟩, .inl rfl⟩, k_Recipe_field⟩
    f_Recipe_init := ⟨⟨_, _, _, _, _, _, _, _, _, _, rfl, l_Recipe_init, c_Recipe_init, .inl ⟨rfl, rfl⟩, .inl rfl⟩, k_Recipe_init⟩
    f_Recipe_len := ⟨⟨_, _, _, _, _, _, _, _, _, _, rfl, l_Recipe_len, c_Recipe_len, .inl ⟨rfl, rfl⟩, .inl rfl⟩, k_Recipe_len⟩
    f_Recipe_names := ⟨⟨_, _, _, _, _, _, _, _, _, _, rfl, l_Recipe_names, c_Recipe_names, .inl ⟨rfl, rfl⟩, .inl rfl⟩, k_Recipe_names⟩
    f__law_are_drops := ⟨⟨_, _, _, _, _, _, _, _, _, _, rfl, l__law_are_drops, c__law_are_drops, .inl ⟨rfl, rfl⟩, .inl rfl⟩, k__law_are_drops⟩
    f__law_drops := ⟨⟨_, _, _, _, _, _, _, _, _, _, rfl, l__law_drops, c__law_drops, .inl ⟨rfl, rfl⟩, .inl rfl⟩, k__law_drops⟩
    f__law_drops_right := ⟨⟨_, _, _, _, _, _, _, _, _, _, rfl, l__law_drops_right, c__law_drops_right, .inl ⟨rfl, rfl⟩, .inl rfl⟩, k__law_drops_right⟩
    f__law_is_number := ⟨⟨_, _, _, _, _, _, _, _, _, _, rfl, l__law_is_number, c__law_is_number, .inl ⟨rfl, rfl⟩, .inl rfl⟩, k__law_is_number⟩
    f__law_is_place := ⟨⟨_, _, _, _, _, _, _, _, _, _, rfl, l__law_is_place, c__law_is_place, .inl ⟨rfl, rfl⟩, .inl rfl⟩, k__law_is_place⟩
    f__law_leaf := ⟨⟨_, _, _, _, _, _, _, _, _, _, rfl, l__law_leaf, c__law_leaf, .inl ⟨rfl, rfl⟩, .inl rfl⟩, k__law_leaf⟩
    f__law_leaves := ⟨⟨_, _, _, _, _, _, _, _, _, _, rfl, l__law_leaves, c__law_leaves, .inl ⟨rfl, rfl⟩, .inl rfl⟩, k__law_leaves⟩
    f__law_made := ⟨⟨_, _, _, _, _, _, _, _, _, _, rfl, l__law_made, c__law_made, .inl ⟨rfl, rfl⟩, .inl rfl⟩, k__law_made⟩
    f__law_number := ⟨⟨_, _, _, _, _, _, _, _, _, _, rfl, l__law_number, c__law_number, .inl ⟨rfl, rfl⟩, .inl rfl⟩, k__law_number⟩
    f__law_pick := ⟨⟨_, _, _, _, _, _, _, _, _, _, rfl, l__law_pick, c__law_pick, .inl ⟨rfl, rfl⟩, .inl rfl⟩, k__law_pick⟩
    f__law_places := ⟨⟨_, _, _, _, _, _, _, _, _, _, rfl, l__law_places, c__law_places, .inl ⟨rfl, rfl⟩, .inl rfl⟩, k__law_places⟩
    f__law_plan_right := ⟨⟨_, _, _, _, _, _, _, _, _, _, rfl, l__law_plan_right, c__law_plan_right, .inl ⟨rfl, rfl⟩, .inl rfl⟩, k__law_plan_right⟩
    f__law_rows_of := ⟨⟨_, _, _, _, _, _, _, _, _, _, rfl, l__law_rows_of, c__law_rows_of, .inl ⟨rfl, rfl⟩, .inl rfl⟩, k__law_rows_of⟩
    f__law_rule := ⟨⟨_, _, _, _, _, _, _, _, _, _, rfl, l__law_rule, c__law_rule, .inl ⟨rfl, rfl⟩, .inl rfl⟩, k__law_rule⟩
    f__law_wrong := ⟨⟨_, _, _, _, _, _, _, _, _, _, rfl, l__law_wrong, c__law_wrong, .inl ⟨rfl, rfl⟩, .inl rfl⟩, k__law_wrong⟩
    f_drops_fit := ⟨⟨_, _, _, _, _, _, _, _, _, _, rfl, l_drops_fit, c_drops_fit, .inl ⟨rfl, rfl⟩, .inl rfl⟩, k_drops_fit⟩
    f_form_of := ⟨⟨_, _, _, _, _, _, _, _, _, _, rfl, l_form_of, c_form_of, .inl ⟨rfl, rfl⟩, .inl rfl⟩, k_form_of⟩
    f_in_order := ⟨⟨_, _, _, _, _, _, _, _, _, _, rfl, l_in_order, c_in_order, .inl ⟨rfl, rfl⟩, .inl rfl⟩, k_in_order⟩
    f_is_ascending := ⟨⟨_, _, _, _, _, _, _, _, _, _, rfl, l_is_ascending, c_is_ascending, .inl ⟨rfl, rfl⟩, .inl rfl⟩, k_is_ascending⟩
    f_is_integer := ⟨⟨_, _, _, _, _, _, _, _, _, _, rfl, l_is_integer, c_is_integer, .inl ⟨rfl, rfl⟩, .inl rfl⟩, k_is_integer⟩
    f_is_name := ⟨⟨_, _, _, _, _, _, _, _, _, _, rfl, l_is_name, c_is_name, .inl ⟨rfl, rfl⟩, .inl rfl⟩, k_is_name⟩
    f_is_whole := ⟨⟨_, _, _, _, _, _, _, _, _, _, rfl, l_is_whole, c_is_whole, .inl ⟨rfl, rfl⟩, .inl rfl⟩, k_is_whole⟩
    f_kind_of := ⟨⟨_, _, _, _, _, _, _, _, _, _, rfl, l_kind_of, c_kind_of, .inl ⟨rfl, rfl⟩, .inl rfl⟩, k_kind_of⟩
    f_law := ⟨⟨_, _, _, _, _, _, _, _, _, _, rfl, l_law, c_law, .inl ⟨rfl, rfl⟩, .inl rfl⟩, k_law⟩
    f_leaf_form := ⟨⟨_, _, _, _, _, _, _, _, _, _, rfl, l_leaf_form, c_leaf_form, .inl ⟨rfl, rfl⟩, .inl rfl⟩, k_leaf_form⟩
    f_leaves_of := ⟨⟨_, _, _, _, _, _, _, _, _, _, rfl, l_leaves_of, c_leaves_of, .inl ⟨rfl, rfl⟩, .inl rfl⟩, k_leaves_of⟩
    f_name_of := ⟨⟨_, _, _, _, _, _, _, _, _, _, rfl, l_name_of, c_name_of, .inl ⟨rfl, rfl⟩, .inl rfl⟩, k_name_of⟩
    f_number_rows := ⟨⟨_, _, _, _, _, _, _, _, _, _, rfl, l_number_rows, c_number_rows, .inl ⟨rfl, rfl⟩, .inl rfl⟩, k_number_rows⟩
    f_pair_fits := ⟨⟨_, _, _, _, _, _, _, _, _, _, rfl, l_pair_fits, c_pair_fits, .inl ⟨rfl, rfl⟩, .inl rfl⟩, k_pair_fits⟩
    f_recipe_fits := ⟨⟨_, _, _, _, _, _, _, _, _, _, rfl, l_recipe_fits, c_recipe_fits, .inl ⟨rfl, rfl⟩, .inl rfl⟩, k_recipe_fits⟩
    f_rule_fits := ⟨⟨_, _, _, _, _, _, _, _, _, _, rfl, l_rule_fits, c_rule_fits, .inl ⟨rfl, rfl⟩, .inl rfl⟩, k_rule_fits⟩
    f_usable_names := ⟨⟨_, _, _, _, _, _, _, _, _, _, rfl, l_usable_names, c_usable_names, .inl ⟨rfl, rfl⟩, .inl rfl⟩, k_usable_names⟩
    f_wrong_part := ⟨⟨_, _, _, _, _, _, _, _, _, _, rfl, l_wrong_part, c_wrong_part, .inl ⟨rfl, rfl⟩, .inl rfl⟩, k_wrong_part⟩
    fi_Plan_getitem := fi_Plan_getitem
    gC_Key := PySem.W.mg_of X G nC_Key
    gC_Plan := PySem.W.mg_of X G nC_Plan
    gC_Recipe := PySem.W.mg_of X G nC_Recipe
    g_BadName := PySem.W.mg_of X G n_BadName
    g_BadNumber := PySem.W.mg_of X G n_BadNumber
    g_BadPlace := PySem.W.mg_of X G n_BadPlace
    g_BadPlan := PySem.W.mg_of X G n_BadPlan
    g_BadRecipe := PySem.W.mg_of X G n_BadRecipe
    g__law_are_drops := PySem.W.mg_of X G n__law_are_drops
    g__law_drops := PySem.W.mg_of X G n__law_drops
    g__law_drops_right := PySem.W.mg_of X G n__law_drops_right
    g__law_is_number := PySem.W.mg_of X G n__law_is_number
    g__law_is_place := PySem.W.mg_of X G n__law_is_place
    g__law_leaf := PySem.W.mg_of X G n__law_leaf
    g__law_leaves := PySem.W.mg_of X G n__law_leaves
    g__law_made := PySem.W.mg_of X G n__law_made
    g__law_number := PySem.W.mg_of X G n__law_number
    g__law_pick := PySem.W.mg_of X G n__law_pick
    g__law_places := PySem.W.mg_of X G n__law_places
    g__law_plan_right := PySem.W.mg_of X G n__law_plan_right
    g__law_rows_of := PySem.W.mg_of X G n__law_rows_of
    g__law_rule := PySem.W.mg_of X G n__law_rule
    g__law_wrong := PySem.W.mg_of X G n__law_wrong
    g__wall := PySem.W.mg_of X G n__wall
    g_come_to := PySem.W.mg_of X G n_come_to
    g_drops_fit := PySem.W.mg_of X G n_drops_fit
    g_form_of := PySem.W.mg_of X G n_form_of
    g_in_order := PySem.W.mg_of X G n_in_order
    g_is_ascending := PySem.W.mg_of X G n_is_ascending
    g_is_integer := PySem.W.mg_of X G n_is_integer
    g_is_name := PySem.W.mg_of X G n_is_name
    g_is_whole := PySem.W.mg_of X G n_is_whole
    g_joined := PySem.W.mg_of X G n_joined
    g_kind_of := PySem.W.mg_of X G n_kind_of
    g_leaf_form := PySem.W.mg_of X G n_leaf_form
    g_leaves_of := PySem.W.mg_of X G n_leaves_of
    g_name_of := PySem.W.mg_of X G n_name_of
    g_number_rows := PySem.W.mg_of X G n_number_rows
    g_pair_fits := PySem.W.mg_of X G n_pair_fits
    g_recipe_fits := PySem.W.mg_of X G n_recipe_fits
    g_rule_fits := PySem.W.mg_of X G n_rule_fits
    g_usable_names := PySem.W.mg_of X G n_usable_names
    g_wrong_part := PySem.W.mg_of X G n_wrong_part
    i_Key_contains := i_Key_contains
    i_Key_eq := i_Key_eq
    i_Key_le := i_Key_le
    i_Key_len := i_Key_len
    i_Key_or := i_Key_or
    i_Key_sub := i_Key_sub
    i_Plan_eq := i_Plan_eq
    i_Plan_getitem := i_Plan_getitem
    i_Plan_len := i_Plan_len
    i_Recipe_add := i_Recipe_add
    i_Recipe_contains := i_Recipe_contains
    i_Recipe_eq := i_Recipe_eq
    i_Recipe_len := i_Recipe_len
    i_Recipe_mul := i_Recipe_mul
    i_Recipe_sub := i_Recipe_sub
    ia_all := fun j hj => match j, hj with | 0, _ => ⟨⟨C1_Key, C2_Key, C3_Key, C4_Key⟩, I1_Key, I2_Key, I3_Key, I4_Key⟩ | 1, _ => ⟨⟨C1_Recipe, C2_Recipe, C3_Recipe, C4_Recipe⟩, I1_Recipe, I2_Recipe, I3_Recipe, I4_Recipe⟩ | 2, _ => ⟨⟨C1_Plan, C2_Plan, C3_Plan, C4_Plan⟩, I1_Plan, I2_Plan, I3_Plan, I4_Plan⟩ | _ + 3, h => absurd h (by omega)
    kC_Key := kC_Key
    kC_Plan := kC_Plan
    kC_Recipe := kC_Recipe
    k__law_are_drops := k__law_are_drops
    k__law_drops := k__law_drops
    k__law_drops_right := k__law_drops_right
    k__law_is_number := k__law_is_number
    k__law_is_place := k__law_is_place
    k__law_leaf := k__law_leaf
    k__law_leaves := k__law_leaves
    k__law_made := k__law_made
    k__law_number := k__law_number
    k__law_pick := k__law_pick
    k__law_places := k__law_places
    k__law_plan_right := k__law_plan_right
    k__law_rows_of := k__law_rows_of
    k__law_rule := k__law_rule
    k__law_wrong := k__law_wrong
    k__wall := k__wall
    k_come_to := k_come_to
    k_drops_fit := k_drops_fit
    k_form_of := k_form_of
    k_in_order := k_in_order
    k_is_ascending := k_is_ascending
    k_is_integer := k_is_integer
    k_is_name := k_is_name
    k_is_whole := k_is_whole
    k_joined := k_joined
    k_kind_of := k_kind_of
    k_leaf_form := k_leaf_form
    k_leaves_of := k_leaves_of
    k_name_of := k_name_of
    k_number_rows := k_number_rows
    k_pair_fits := k_pair_fits
    k_recipe_fits := k_recipe_fits
    k_rule_fits := k_rule_fits
    k_usable_names := k_usable_names
    k_wrong_part := k_wrong_part
    kc_Key := ⟨kitC_of k5_Key k4_Key s0_Key (by rfl), kitC_of k5_Key k4_Key s1_Key (by rfl), kitC_of k5_Key k4_Key s2_Key (by rfl), kitC_of k5_Key k4_Key s3_Key (by rfl), kitC_of k5_Key k4_Key s4_Key (by rfl), kitC_of k5_Key k4_Key s5_Key (by rfl), kitC_of k5_Key k4_Key s6_Key (by rfl), fun j hj hn => match j, hj, hn with | 0, _, h => absurd rfl h | 1, _, _ => kitC_of k5_Key k4_Key so_Recipe_Key (ne_ref lo_ne_Recipe_Key) | 2, _, _ => kitC_of k5_Key k4_Key so_Plan_Key (ne_ref lo_ne_Plan_Key) | _ + 3, h, _ => absurd h (by omega)⟩
    kc_Plan := ⟨kitC_of k5_Plan k4_Plan s0_Plan (by rfl), kitC_of k5_Plan k4_Plan s1_Plan (by rfl), kitC_of k5_Plan k4_Plan s2_Plan (by rfl), kitC_of k5_Plan k4_Plan s3_Plan (by rfl), kitC_of k5_Plan k4_Plan s4_Plan (by rfl), kitC_of k5_Plan k4_Plan s5_Plan (by rfl), kitC_of k5_Plan k4_Plan s6_Plan (by rfl), fun j hj hn => match j, hj, hn with | 0, _, _ => kitC_of k5_Plan k4_Plan so_Key_Plan (ne_ref lo_ne_Key_Plan) | 1, _, _ => kitC_of k5_Plan k4_Plan so_Recipe_Plan (ne_ref lo_ne_Recipe_Plan) | 2, _, h => absurd rfl h | _ + 3, h, _ => absurd h (by omega)⟩
    kc_Recipe := ⟨kitC_of k5_Recipe k4_Recipe s0_Recipe (by rfl), kitC_of k5_Recipe k4_Recipe s1_Recipe (by rfl), kitC_of k5_Recipe k4_Recipe s2_Recipe (by rfl), kitC_of k5_Recipe k4_Recipe s3_Recipe (by rfl), kitC_of k5_Recipe k4_Recipe s4_Recipe (by rfl), kitC_of k5_Recipe k4_Recipe s5_Recipe (by rfl), kitC_of k5_Recipe k4_Recipe s6_Recipe (by rfl), fun j hj hn => match j, hj, hn with | 0, _, _ => kitC_of k5_Recipe k4_Recipe so_Key_Recipe (ne_ref lo_ne_Key_Recipe) | 1, _, h => absurd rfl h | 2, _, _ => kitC_of k5_Recipe k4_Recipe so_Plan_Recipe (ne_ref lo_ne_Plan_Recipe) | _ + 3, h, _ => absurd h (by omega)⟩
    kt_dict := fun j hj => match j, hj with | 0, _ => kitT_of (by decide +kernel) sk_Key_dict | 1, _ => kitT_of (by decide +kernel) sk_Recipe_dict | 2, _ => kitT_of (by decide +kernel) sk_Plan_dict | _ + 3, h => absurd h (by omega)
    kt_str := fun j hj => match j, hj with | 0, _ => kitT_of (by decide +kernel) sk_Key_str | 1, _ => kitT_of (by decide +kernel) sk_Recipe_str | 2, _ => kitT_of (by decide +kernel) sk_Plan_str | _ + 3, h => absurd h (by omega)
    kt_tuple := fun j hj => match j, hj with | 0, _ => kitT_of (by decide +kernel) sk_Key_tuple | 1, _ => kitT_of (by decide +kernel) sk_Recipe_tuple | 2, _ => kitT_of (by decide +kernel) sk_Plan_tuple | _ + 3, h => absurd h (by omega)
    mt_Plan_check_place := ⟨d_Plan_check_place, i_Plan_check_place, k_Plan_check_place⟩
    na_Key_held := na_Key_held
    na_Plan_held := na_Plan_held
    na_Recipe_form := na_Recipe_form
    na_Recipe_leaves := na_Recipe_leaves
    ne_Key := ne_Key
    ne_Plan := ne_Plan
    ne_Recipe := ne_Recipe
    pr_Key_names := ⟨p1_Key_names, p2_Key_names, p3_Key_names, ⟨_, p4_Key_names⟩⟩
    pr_Plan_base := ⟨p1_Plan_base, p2_Plan_base, p3_Plan_base, ⟨_, p4_Plan_base⟩⟩
    pr_Plan_cells := ⟨p1_Plan_cells, p2_Plan_cells, p3_Plan_cells, ⟨_, p4_Plan_cells⟩⟩
    pr_Plan_drops := ⟨p1_Plan_drops, p2_Plan_drops, p3_Plan_drops, ⟨_, p4_Plan_drops⟩⟩
    pr_Plan_fields := ⟨p1_Plan_fields, p2_Plan_fields, p3_Plan_fields, ⟨_, p4_Plan_fields⟩⟩
    pr_Plan_places := ⟨p1_Plan_places, p2_Plan_places, p3_Plan_places, ⟨_, p4_Plan_places⟩⟩
    pr_Recipe_names := ⟨p1_Recipe_names, p2_Recipe_names, p3_Recipe_names, ⟨_, p4_Recipe_names⟩⟩
    rn_Key := rn_Key
    rn_Recipe := rn_Recipe
    rs_Key := rs_Key
    rs_Recipe := rs_Recipe
    sf_Key := sf_Key
    sf_Recipe := sf_Recipe
    sn_Key := sn_Key
    sn_Plan := sn_Plan
    sn_Recipe := sn_Recipe
    so_Key_Plan := so_Key_Plan
    so_Key_Recipe := so_Key_Recipe
    so_Plan_Key := so_Plan_Key
    so_Plan_Recipe := so_Plan_Recipe
    so_Recipe_Key := so_Recipe_Key
    so_Recipe_Plan := so_Recipe_Plan
    ss_Key := ss_Key
    ss_Plan := ss_Plan
    ss_Recipe := ss_Recipe
    su_BadPlan := { ex := ⟨_, _, _, _, _, _, _, _, _, _, rfl, l_BadPlan_init, c_BadPlan_init, ⟨_, _, _, lc_BadPlan_init⟩, _, _, _, _, _, _, lo2_BadPlan_init, v2_BadPlan_init, ff_BadPlan_init⟩, top := tp, mgs := PySem.W.mg_none_of X G z_super, oex := ⟨⟨_, _, _, _, _, _, _, _, _, _, _, _, _, _, _, lx_BadPlan_init, rv_BadPlan_init⟩, sa_BadPlan_init, e3_BadPlan, e4_BadPlan, e2_BadPlan⟩, fno := fn_BadPlan_init, cls := ⟨_, cl_BadPlan_init⟩, self := se_BadPlan_init, opq := op, sup := sp_BadPlan_init, ve := ve_BadPlan_init, ini := n2_BadPlan_init, tyf := ty_BadPlan_init }
    xN_BadPlan := rfl
    x_BadName := rfl
    x_BadNumber := rfl
    x_BadPlace := rfl
    x_BadPlan := rfl
    x_BadRecipe := rfl
    xf_BadPlan := ⟨xf1_BadPlan, xf2_BadPlan, e3_BadPlan, xf4_BadPlan⟩
    xm_BadPlan := (by
      intro k r h
      rcases k with _ | _ | _ | _ | _ | k
      · cases h; exact (exm_of e3_BadPlan e5_BadPlan e4_BadPlan xm0_BadPlan)
      · cases h; exact (exm_of e3_BadPlan e5_BadPlan e4_BadPlan xm1_BadPlan)
      · cases h; exact (exm_of e3_BadPlan e5_BadPlan e4_BadPlan xm2_BadPlan)
      · cases h; exact (exm_of e3_BadPlan e5_BadPlan e4_BadPlan xm3_BadPlan)
      · cases h; exact (exm_of e3_BadPlan e5_BadPlan e4_BadPlan xm4_BadPlan)
      · cases h)
  }
  refine ⟨(PySem.W.fnOf "law" "law" (defArgs s_law) (defBody s_law) (defScope s_law) .none kV_law dc_law pm_law an_law cd_law ct_law), fun s v => .of_eq rfl, fun base _ _ => ?_⟩
  have FX_BadPlan := ok_BadPlan_init (P := P) (w := w) (base := base) T
  have F_Key_eq := ok_Key_eq (P := P) (w := w) (base := base) T
  have F_Recipe_eq := ok_Recipe_eq (P := P) (w := w) (base := base) T
  have F_Plan_eq := ok_Plan_eq (P := P) (w := w) (base := base) T F_Key_eq F_Recipe_eq
  have F_Plan_base := ok_Plan_base (P := P) (w := w) (base := base) T
  have F_Plan_cells := ok_Plan_cells (P := P) (w := w) (base := base) T
  have F_Plan_drops := ok_Plan_drops (P := P) (w := w) (base := base) T
  have F_Plan_fields := ok_Plan_fields (P := P) (w := w) (base := base) T
  have F_is_integer := ok_is_integer (P := P) (w := w) (base := base) T
  have F_is_whole := ok_is_whole (P := P) (w := w) (base := base) T F_is_integer
  have F_kind_of := ok_kind_of (P := P) (w := w) (base := base) T F_is_whole
  have F_leaves_of := ok_leaves_of (P := P) (w := w) (base := base) T F_kind_of
  have F_Recipe_init := ok_Recipe_init (P := P) (w := w) (base := base) T F_leaves_of
  have F_form_of := ok_form_of (P := P) (w := w) (base := base) T F_is_whole
  have F_Recipe_add := ok_Recipe_add (P := P) (w := w) (base := base) T F_Recipe_init F_form_of
  have F_in_order := ok_in_order (P := P) (w := w) (base := base) T
  have F_is_name := ok_is_name (P := P) (w := w) (base := base) T
  have F_Key_init := ok_Key_init (P := P) (w := w) (base := base) T F_in_order F_is_name
  have F_Key_len := ok_Key_len (P := P) (w := w) (base := base) T
  have F_Plan_places := ok_Plan_places (P := P) (w := w) (base := base) T
  have F_Plan_len := ok_Plan_len (P := P) (w := w) (base := base) T F_Plan_places
  have F_Recipe_len := ok_Recipe_len (P := P) (w := w) (base := base) T
  have F_is_ascending := ok_is_ascending (P := P) (w := w) (base := base) T F_is_whole
  have F_drops_fit := ok_drops_fit (P := P) (w := w) (base := base) T F_is_ascending
  have F_number_rows := ok_number_rows (P := P) (w := w) (base := base) T
  have F_Key_le := ok_Key_le (P := P) (w := w) (base := base) T
  have F_Key_names := ok_Key_names (P := P) (w := w) (base := base) T
  have F_name_of := ok_name_of (P := P) (w := w) (base := base) T
  have F_Recipe_names := ok_Recipe_names (P := P) (w := w) (base := base) T F_in_order F_name_of
  have F_recipe_fits := ok_recipe_fits (P := P) (w := w) (base := base) T F_Key_init F_Key_le F_Key_names F_Recipe_names
  have F_rule_fits := ok_rule_fits (P := P) (w := w) (base := base) T F_Key_le
  have F_pair_fits := ok_pair_fits (P := P) (w := w) (base := base) T F_Key_len F_Plan_len F_Recipe_len F_recipe_fits F_rule_fits
  have F_usable_names := ok_usable_names (P := P) (w := w) (base := base) T
  have F_wrong_part := ok_wrong_part (P := P) (w := w) (base := base) T F_Key_init F_Key_len F_Plan_len F_Recipe_len F_drops_fit F_is_whole F_number_rows F_pair_fits F_usable_names
  have F1_Plan_init := ok1_Plan_init (P := P) (w := w) (base := base) T F_wrong_part FX_BadPlan
  have F_Plan_init := ok_Plan_init (P := P) (w := w) (base := base) T F1_Plan_init
  have KB_Plan_init := kb_Plan_init (P := P) (w := w) T
  have F__law_made := ok__law_made (P := P) (w := w) (base := base) T F_Plan_init F1_Plan_init KB_Plan_init
  have F__law_drops_right := ok__law_drops_right (P := P) (w := w) (base := base) T F_Key_eq F_Key_init F_Plan_eq F_Plan_init F_Recipe_eq F_Recipe_init F__law_made F1_Plan_init KB_Plan_init
  have F_Plan_check_place := ok_Plan_check_place (P := P) (w := w) (base := base) T F_Plan_places F_is_whole
  have F_Plan_getitem := ok_Plan_getitem (P := P) (w := w) (base := base) T F_Plan_check_place F_Plan_places
  have F__law_is_number := ok__law_is_number (P := P) (w := w) (base := base) T
  have F__law_number := ok__law_number (P := P) (w := w) (base := base) T
  have F__law_pick := ok__law_pick (P := P) (w := w) (base := base) T F__law_number
  have F__law_drops := ok__law_drops (P := P) (w := w) (base := base) T F__law_is_number F__law_number F__law_pick
  have F__law_leaf := ok__law_leaf (P := P) (w := w) (base := base) T F__law_pick
  have F_leaf_form := ok_leaf_form (P := P) (w := w) (base := base) T F_is_whole
  have F_Recipe_field := ok_Recipe_field (P := P) (w := w) (base := base) T F_Recipe_init F_leaf_form
  have F__law_rule := ok__law_rule (P := P) (w := w) (base := base) T F_Key_init F_Recipe_field F__law_number F__law_pick
  have F__law_places := ok__law_places (P := P) (w := w) (base := base) T F__law_leaf F__law_number F__law_pick F__law_rule
  have F__law_rows_of := ok__law_rows_of (P := P) (w := w) (base := base) T F_Key_names F_Plan_places F_Recipe_names
  have F__law_are_drops := ok__law_are_drops (P := P) (w := w) (base := base) T F__law_is_number
  have F_Key_contains := ok_Key_contains (P := P) (w := w) (base := base) T
  have F_Recipe_contains := ok_Recipe_contains (P := P) (w := w) (base := base) T F_Recipe_names
  have F__law_leaves := ok__law_leaves (P := P) (w := w) (base := base) T 40
  have F__law_is_place := ok__law_is_place (P := P) (w := w) (base := base) T F_Key_contains F_Key_eq F_Key_names F_Plan_eq F_Recipe_add F_Recipe_contains F_Recipe_eq F_Recipe_names F__law_leaves
  have F__law_wrong := ok__law_wrong (P := P) (w := w) (base := base) T F__law_are_drops F__law_is_number F__law_is_place
  have F__law_plan_right := ok__law_plan_right (P := P) (w := w) (base := base) T F_Key_eq F_Key_len F_Key_names F_Plan_eq F_Plan_getitem F_Plan_len F_Plan_base F_Plan_cells F_Plan_drops F_Plan_fields F_Recipe_add F_Recipe_eq F_Recipe_init F_Recipe_len F_Recipe_names F__law_drops F__law_made F__law_number F__law_pick F__law_places F__law_rows_of F__law_wrong
  exact ok_law (P := P) (w := w) (base := base) T F_Key_eq F_Plan_eq F_Plan_base F_Plan_cells F_Plan_drops F_Plan_fields F_Recipe_add F_Recipe_eq F__law_drops_right F__law_plan_right F__law_rows_of ht
end Lw
namespace Lw
open PySem Dl
/-! equality of trees, to let the kernel try finite claims -/
mutual
def eqD : D → D → Bool
  | .non, .non => true
  | .bl a, .bl b => a == b
  | .int a, .int b => decide (a = b)
  | .str a, .str b => decide (a = b)
  | .tup xs, .tup ys => eqDs xs ys
  | .lst xs, .lst ys => eqDs xs ys
  | .ins c ns xs, .ins d ms ys => decide (c = d) && decide (ns = ms) && eqDs xs ys
  | _, _ => false
def eqDs : List D → List D → Bool
  | [], [] => true
  | x :: xs, y :: ys => eqD x y && eqDs xs ys
  | _, _ => false
end
mutual
theorem eqD_ok : ∀ {a b : D}, eqD a b = true → a = b
  | .non, b, h => by cases b <;> first | rfl | (unfold eqD at h; cases h)
  | .bl a, b, h => by cases b <;> first | (unfold eqD at h; rw [eq_of_beq h]) | (unfold eqD at h; cases h)
  | .int a, b, h => by cases b <;> first | (unfold eqD at h; rw [of_decide_eq_true h]) | (unfold eqD at h; cases h)
  | .str a, b, h => by cases b <;> first | (unfold eqD at h; rw [of_decide_eq_true h]) | (unfold eqD at h; cases h)
  | .tup xs, b, h => by cases b <;> first | (unfold eqD at h; rw [eqDs_ok h]) | (unfold eqD at h; cases h)
  | .lst xs, b, h => by cases b <;> first | (unfold eqD at h; rw [eqDs_ok h]) | (unfold eqD at h; cases h)
  | .ins c ns xs, b, h => by
    cases b <;> first
    | (unfold eqD at h
       rw [Bool.and_eq_true, Bool.and_eq_true] at h
       rw [of_decide_eq_true h.1.1, of_decide_eq_true h.1.2, eqDs_ok h.2])
    | (unfold eqD at h; cases h)
  | .dic ks xs, b, h => by cases b <;> (unfold eqD at h; cases h)
  | .scr ns, b, h => by cases b <;> (unfold eqD at h; cases h)
  | .cls c, b, h => by cases b <;> (unfold eqD at h; cases h)
theorem eqDs_ok : ∀ {a b : List D}, eqDs a b = true → a = b
  | [], [], _ => rfl
  | x :: xs, y :: ys, h => by
    unfold eqDs at h
    rw [Bool.and_eq_true] at h
    rw [eqD_ok h.1, eqDs_ok h.2]
  | [], _ :: _, h => by unfold eqDs at h; cases h
  | _ :: _, [], h => by unfold eqDs at h; cases h
end
def isR (r : Res D) (d : D) : Bool := match r with
  | .ok e => eqD e d
  | _ => false
theorem isR_ok {r : Res D} {d : D} (h : isR r d = true) : r = .ok d := by
  unfold isR at h
  split at h
  · rw [eqD_ok h]
  · cases h
abbrev Lf := Str × Int
def lfs : List Lf := [(w_field, 0), (w_number, 1), (w_cell, 0), (w_place, 0), (w_field, 2), (w_cell, 1), (w_place, 1), (w_number, 2), (w_field, 1)]
def lD (l : Lf) : D := .tup [.str l.1, .int l.2]
def fD : List Lf → D
  | [a] => lD a
  | [a, b] => .tup [.str w_less, lD a, lD b]
  | [a, b, c] => .tup [.str w_when, lD a, lD b, lD c]
  | _ => .non
def forms : List (List Lf) := lfs.map (fun a => [a]) ++ lfs.flatMap (fun a => lfs.map fun b => [a, b]) ++ lfs.flatMap (fun a => lfs.flatMap fun b => lfs.map fun c => [a, b, c])
def rD (ls : List Lf) : D := .ins 1 [w_form, w_leaves] [fD ls, .tup (ls.map lD)]
end Lw
namespace Lw
open PySem Dl
theorem forms_law : (forms.all fun ls => isR (m__law_leaves 40 [fD ls]) (.lst (ls.map lD))) = true := by decide +kernel
end Lw
namespace Lw
open PySem Dl
theorem forms_R : (forms.all fun ls => isR (insR 1 (i_Recipe [fD ls])) (rD ls)) = true := by decide +kernel
end Lw
namespace Lw
open PySem Dl
def nm7 : List Str := [w_f0, w_f1, w_f2, w_c0, w_c1, w_p0, w_p1]
abbrev ds (xs : List Str) : List D := xs.map D.str
def ord (xs : List Str) : List Str := nm7.filter fun x => decide (x ∈ xs)
def K (xs : List Str) : D := .ins 0 [w_held] [.tup (ds xs)]
theorem lcL_all {α : Type} {h : D → En → Option En} {ft : En → Res Bool} {fe : En → Res D} {env : En} (p : α → Bool) (f g : α → D) : ∀ (xs : List α), (∀ x ∈ xs, ∃ e, h (f x) env = some e ∧ ft e = .ok (p x) ∧ fe e = .ok (g x)) → lcL h ft fe env (xs.map f) = .ok ((xs.filter p).map g)
  | [], _ => rfl
  | x :: xs, H => by
    obtain ⟨e, h1, h2, h3⟩ := H x (List.mem_cons_self ..)
    have ih := lcL_all p f g xs fun y hy => H y (List.mem_cons_of_mem _ hy)
    show (match h (f x) env with | none => Res.bad | some env1 => (noex (ft env1)).bind fun k => if k = true then (noex (fe env1)).bind fun y => (lcL h ft fe env (xs.map f)).bind fun ys => .ok (y :: ys) else lcL h ft fe env (xs.map f)) = _
    rw [h1]
    dsimp only
    rw [h2, h3, ih]
    cases q : p x <;> simp [noex, List.filter, q]
theorem flatDs_ds : ∀ xs : List Str, flatDs (ds xs) = some (xs.map L2.V.str)
  | [] => rfl
  | x :: xs => by
    show ((flatD (.str x)).bind fun v => (flatDs (ds xs)).map fun vs => v :: vs) = _
    rw [flatDs_ds xs]
    rfl
theorem eqV_str (x y : Str) : L2.eqV (.str y) (.str x) = decide (x = y) := by
  show (y == x) = _
  rw [Bool.eq_iff_iff, beq_iff_eq, decide_eq_true_iff]
  exact eq_comm
theorem inV_str (x : Str) : ∀ xs : List Str, L2.inV (.str x) (xs.map L2.V.str) = decide (x ∈ xs)
  | [] => rfl
  | y :: ys => by
    have ih := inV_str x ys
    unfold L2.inV at ih ⊢
    rw [List.map_cons, List.any_cons, ih, eqV_str]
    simp
theorem gIn_t (neg : Bool) (x : Str) (xs : List Str) : gIn neg (.str x) (.tup (ds xs)) = .ok (.bl (if neg then !decide (x ∈ xs) else decide (x ∈ xs))) := by
  unfold gIn
  simp only [flatDs_ds, flatD, inV_str]
theorem gIn_l (neg : Bool) (x : Str) (xs : List Str) : gIn neg (.str x) (.lst (ds xs)) = .ok (.bl (if neg then !decide (x ∈ xs) else decide (x ∈ xs))) := by
  unfold gIn
  simp only [flatDs_ds, flatD, inV_str]
theorem eLc_ok {α : Type} {vs : List Nat} {fi : En → Res (List D)} {h : D → En → Option En} {ft : En → Res Bool} {fe : En → Res D} {env : En} (xs : List α) (p : α → Bool) (f g : α → D) (hf : fi env = .ok (xs.map f)) (hl : xs.length ≤ 100000)
    (H : ∀ x ∈ xs, ∃ e, h (f x) (wipeE env vs) = some e ∧ ft e = .ok (p x) ∧ fe e = .ok (g x)) : eLc vs fi h ft fe env = .ok (.lst ((xs.filter p).map g)) := by
  unfold eLc
  rw [hf]
  show ((lcL h ft fe (wipeE env vs) (xs.map f)).bind fun ys => if ys.length ≤ 100000 then Res.ok (D.lst ys) else .bad) = _
  rw [lcL_all p f g xs H]
  show (if ((xs.filter p).map g).length ≤ 100000 then Res.ok (D.lst ((xs.filter p).map g)) else .bad) = _
  rw [if_pos (by rw [List.length_map]; exact Nat.le_trans (List.length_filter_le ..) hl)]
theorem filt_true {α : Type} (xs : List α) : xs.filter (fun _ => true) = xs := by simp
theorem blsD_map {α : Type} (q : α → Bool) : ∀ xs : List α, blsD (xs.map fun x => D.bl (q x)) = some (xs.map q)
  | [] => rfl
  | x :: xs => by
    have ih := blsD_map q xs
    rw [List.map_cons, List.map_cons]
    unfold blsD
    rw [ih]
    rfl
theorem fAll_ok {α : Type} (q : α → Bool) (xs : List α) : fAll [.lst (xs.map fun x => D.bl (q x))] = .ok (.bl (xs.all q)) := by
  show (match blsD (xs.map fun x => D.bl (q x)) with | some ns => Res.ok (D.bl (ns.all id)) | none => .bad) = _
  rw [blsD_map]
  show Res.ok (D.bl ((xs.map q).all id)) = _
  rw [List.all_map]
  rfl
theorem eCall1 {F : List D → Res D} {fe : En → Res D} {env : En} {d : D} (h : fe env = .ok d) : eCall F (aCons fe aNil) env = F [d] := by
  unfold eCall aCons
  rw [h]
  rfl
theorem eCall2 {F : List D → Res D} {fe fe' : En → Res D} {env : En} {d d' : D} (h : fe env = .ok d) (h' : fe' env = .ok d') : eCall F (aCons fe (aCons fe' aNil)) env = F [d, d'] := by
  unfold eCall aCons
  rw [h, h']
  rfl
theorem bin_ok {g : D → D → Res D} {fa fb : En → Res D} {env : En} {x y : D} (h : fa env = .ok x) (h' : fb env = .ok y) : eBin g fa fb env = g x y := by
  unfold eBin; rw [h, h']; rfl
theorem at_ok {g : D → Res D} {fa : En → Res D} {env : En} {x : D} (h : fa env = .ok x) : eAt g fa env = g x := by
  unfold eAt; rw [h]; rfl
theorem eB_ok {fa : En → Res D} {env : En} {b : Bool} (h : fa env = .ok (.bl b)) : eB fa env = .ok b := by
  unfold eB; rw [h]; rfl
theorem bOr_ok {f g : En → Res Bool} {env : En} (h : f env = .ok false) (h' : g env = .ok false) : bOr f g env = .ok false := by
  unfold bOr; rw [h]; exact h'
theorem bNot_ok {f : En → Res Bool} {env : En} {b : Bool} (h : f env = .ok b) : bNot f env = .ok (!b) := by
  unfold bNot; rw [h]; rfl
theorem step_if {ft : En → Res Bool} {f g : En → Out} {env : En} (h : ft env = .ok false) : sSeq (sIf ft f sNext) g env = g env := by
  unfold sSeq sIf; rw [h]; rfl
theorem step_asg {fe : En → Res D} {hh : D → En → Option En} {g : En → Out} {env env' : En} {d : D} (h : fe env = .ok d) (h2 : hh d env = some env') : sSeq (sAsg fe hh) g env = g env' := by
  unfold sSeq sAsg; rw [h]
  show (match (match hh d env with | some e => Out.nx e | none => .bad) with | .nx e => g e | r => r) = _
  rw [h2]
theorem ret_ok {fe : En → Res D} {env : En} {d : D} (h : fe env = .ok d) : outR (sRet fe env) = .ok d := by
  unfold sRet; rw [h]; rfl
theorem if_ok {ft : En → Res Bool} {f g : En → Res D} {env : En} {b : Bool} (h : ft env = .ok b) : eIf ft f g env = if b = true then f env else g env := by
  unfold eIf; rw [h]; rfl
theorem step_ret {ft : En → Res Bool} {fe : En → Res D} {g : En → Out} {env : En} {d : D} (h : ft env = .ok true) (h2 : fe env = .ok d) : outR (sSeq (sIf ft (sRet fe) sNext) g env) = .ok d := by
  unfold sSeq sIf sRet
  rw [h, h2]
  rfl
theorem tup2_ok {fa fb : En → Res D} {env : En} {x y : D} (h : fa env = .ok x) (h' : fb env = .ok y) : eTup (aCons fa (aCons fb aNil)) env = .ok (.tup [x, y]) := by
  unfold eTup aCons
  rw [h, h']
  rfl
theorem cut2 (xs : List Str) (k : Nat) : cutD (ds xs) none (some (k : Int)) = ds (xs.take k) := by
  unfold cutD
  rw [HT.sIx_none, HT.sIx_nat, List.drop_zero, Nat.sub_zero]
  show List.take (min k (List.map D.str xs).length) (List.map D.str xs) = List.map D.str (xs.take k)
  rw [List.map_take, List.length_map]
  rcases Nat.le_total k xs.length with h | h
  · rw [Nat.min_eq_left h]
  · rw [Nat.min_eq_right h, List.take_of_length_le (by rw [List.length_map]; exact Nat.le_refl _), List.take_of_length_le (by rw [List.length_map]; exact h)]
theorem atI_some {α : Type} (xs : List α) (k : Nat) (h : k < xs.length) : ∃ x, x ∈ xs ∧ L2.atI xs (k : Int) = some x := by
  refine ⟨xs[k], List.getElem_mem h, ?_⟩
  unfold L2.atI L2.ixN
  simp [h]
theorem log_small (a : Int) (h : a.natAbs < 2 ^ 64) : a.natAbs.log2 < 64 := by
  by_cases z : a.natAbs = 0
  · rw [z]; decide
  · exact (Nat.log2_lt z).mpr h
theorem mul_ok (a b : Int) (ha : a.natAbs < 2 ^ 64) (hb : b.natAbs < 2 ^ 64) : gMulI (.int a) (.int b) = .ok (.int (a * b)) := by
  show (if a.natAbs.log2 + b.natAbs.log2 < 1000000 then Res.ok (D.int (a * b)) else .bad) = _
  have := log_small a ha
  have := log_small b hb
  exact if_pos (by omega)
theorem div_ok (a b : Int) (h0 : 0 < b) (hb : b.natAbs < 2 ^ 64) : gDivI (.int a) (.int b) = .ok (.int (a / b)) := by
  show (if 0 < b ∧ b.natAbs.log2 < 9000 then Res.ok (D.int (a / b)) else .bad) = _
  have := log_small b hb
  exact if_pos ⟨h0, by omega⟩
theorem mod_ok (a b : Int) (h0 : 0 < b) : gModI (.int a) (.int b) = .ok (.int (a % b)) := by
  show (if 0 < b then Res.ok (D.int (a % b)) else .bad) = _
  exact if_pos h0
theorem add_ok (a b : Int) : gAddW (.int a) (.int b) = .ok (.int (a + b)) := rfl
theorem int_ok {fe : En → Res D} {env : En} {i : Int} (h : fe env = .ok (.int i)) : eCall fInt (aCons fe aNil) env = .ok (.int i) := by
  rw [eCall1 h]; rfl
theorem par2_ok {fa fb : En → Res D} {g : En → Out} {env : En} {x y : D} {i j : Nat} (h : fa env = .ok x) (h' : fb env = .ok y) (hi : i < env.length ∧ j < env.length) : sSeq (sPar2 i j (aCons fa (aCons fb aNil))) g env = g ((env.set i (.sh x)).set j (.sh y)) := by
  have e : aCons fa (aCons fb aNil) env = .ok [x, y] := by
    unfold aCons; rw [h, h']; rfl
  unfold sSeq sPar2
  rw [e]
  show (match (if i < env.length ∧ j < env.length then Out.nx ((env.set i (.sh x)).set j (.sh y)) else Out.bad) with | .nx env' => g env' | r => r) = _
  rw [if_pos hi]
theorem forL_cons {h : D → En → Option En} {body : En → Out} {d : D} {dl : List D} {env e1 e2 : En} (h1 : h d env = some e1) (h2 : body e1 = .nx e2) : forL h body (d :: dl) env = forL h body dl e2 := by
  rw [forL, h1]
  dsimp only
  rw [h2]
theorem catT_ok (xs ys : List D) (h : xs.length + ys.length ≤ 100000) : gAddW (.tup xs) (.tup ys) = .ok (.tup (xs ++ ys)) := by
  show (if xs.length + ys.length ≤ 100000 then Res.ok (D.tup (xs ++ ys)) else Res.bad).alt _ = _
  rw [if_pos h]
  rfl
theorem newL_ok {i : Nat} {fs : En → Res (List D)} {g : En → Out} {env : En} {dl : List D} (h : fs env = .ok dl) (h2 : dl.length ≤ 100000) (hi : i < env.length) : sSeq (sNewL i fs) g env = g (env.set i (.ow (.lst dl))) := by
  unfold sSeq sNewL
  rw [h]
  show (match (if dl.length ≤ 100000 ∧ i < env.length then Out.nx (env.set i (.ow (.lst dl))) else .bad) with | .nx e => g e | r => r) = _
  rw [if_pos ⟨h2, hi⟩]
theorem app_ok {i : Nat} {fe : En → Res D} {env : En} {xs : List D} {d : D} (he : env[i]? = some (.ow (.lst xs))) (h : fe env = .ok d) (hl : xs.length < 100000) : sApp i fe env = .nx (env.set i (.ow (.lst (xs ++ [d])))) := by
  unfold sApp
  rw [he]
  dsimp only
  rw [h]
  show (if xs.length < 100000 then Out.nx (env.set i (.ow (.lst (xs ++ [d])))) else .bad) = _
  rw [if_pos hl]
theorem cut_one (x : D) (r : List D) : cutD (x :: r) none (some 1) = [x] := by
  unfold cutD
  rw [HT.sIx_none, show (some (1 : Int)) = some ((1 : Nat) : Int) from rfl, HT.sIx_nat]
  have h : min 1 (x :: r).length = 1 := by simp only [List.length_cons]; omega
  rw [h]
  rfl
theorem modI {fe : En → Res D} {env : En} {v j : Int} (h : fe env = .ok (.int v)) (hj : 0 < j) {fj : En → Res D} (h2 : fj env = .ok (.int j)) : eBin (gModI) (eCall fInt (aCons fe (aNil))) fj env = .ok (.int (v % j)) := by
  rw [bin_ok (x := .int v) (y := .int j) (int_ok h) h2, mod_ok _ _ hj]
theorem divI {fe : En → Res D} {env : En} {v : Int} (h : fe env = .ok (.int v)) (j : Int) (hj : 0 < j) (hb : j.natAbs < 2 ^ 64) : eBin (gDivI) fe (eC (.int j)) env = .ok (.int (v / j)) := by
  rw [bin_ok (x := .int v) (y := .int j) h rfl, div_ok _ _ hj hb]
theorem mulI {fe fj : En → Res D} {env : En} {a b : Int} (h : fe env = .ok (.int a)) (h2 : fj env = .ok (.int b)) (ha : a.natAbs < 2 ^ 64) (hb : b.natAbs < 2 ^ 64) : eBin (gMulI) fe fj env = .ok (.int (a * b)) := by
  rw [bin_ok h h2, mul_ok _ _ ha hb]
theorem ix0 (x : D) (r : List D) : gIx (.tup (x :: r)) (.int 0) = .ok x := by
  have e : L2.atI (x :: r) 0 = some x := by
    unfold L2.atI L2.ixN
    simp
  show atD (x :: r) 0 = _
  unfold atD
  rw [e]
theorem ix1 (x y : D) (r : List D) : gIx (.tup (x :: y :: r)) (.int 1) = .ok y := by
  have e : L2.atI (x :: y :: r) 1 = some y := by
    unfold L2.atI L2.ixN
    rw [if_pos (by decide), if_pos (by simp only [List.length_cons]; omega)]
    rfl
  show atD (x :: y :: r) 1 = _
  unfold atD
  rw [e]
theorem cat_ok (xs ys : List D) (h : xs.length + ys.length ≤ 100000) : gAddW (.lst xs) (.lst ys) = .ok (.lst (xs ++ ys)) := by
  show (if xs.length + ys.length ≤ 100000 then Res.ok (D.lst (xs ++ ys)) else Res.bad).alt _ = _
  rw [if_pos h]
  rfl
theorem ixl0 (x : D) (r : List D) : gIx (.lst (x :: r)) (.int 0) = .ok x := by
  have e : L2.atI (x :: r) 0 = some x := by
    unfold L2.atI L2.ixN
    simp
  show atD (x :: r) 0 = _
  unfold atD
  rw [e]
theorem canI : ∀ xs : List Int, PyData.canLayAll0 (xs.map PyData.int) = true ∧ PyData.depthAll (xs.map PyData.int) = 0
  | [] => ⟨by simp [PyData.canLayAll0], by simp [PyData.depthAll]⟩
  | x :: xs => by
    have ih := canI xs
    simp [PyData.canLayAll0, PyData.depthAll, PyData.canLay0, PyData.depth, ih.1, ih.2]
theorem ne_scr (ns : List Int) : gEq true (.scr ns) (.lst []) = .ok (.bl (!ns.isEmpty)) := by
  show (if SeqAt.shaped (.list (ns.map PyData.int)) = true ∧ SeqAt.shaped (.list []) = true then Res.ok (D.bl (if true then !PyData.eqv (.list (ns.map PyData.int)) (.list []) else PyData.eqv (.list (ns.map PyData.int)) (.list []))) else .bad) = _
  have h := canI ns
  have s1 : SeqAt.shaped (.list (ns.map PyData.int)) = true := by simp [SeqAt.shaped, PyData.canLay0, PyData.depth, h.1, h.2]
  rw [if_pos ⟨s1, by simp [SeqAt.shaped, PyData.canLay0, PyData.depth, PyData.canLayAll0, PyData.depthAll]⟩]
  cases ns with
  | nil => simp [PyData.eqv, PyData.eqvAll]
  | cons n l => simp [PyData.eqv, PyData.eqvAll]
theorem cut63 (ns : List Int) (hl : ns.length ≤ 63) : cutD ns none (some ((63 : Nat) : Int)) = ns := by
  unfold cutD
  rw [HT.sIx_none, HT.sIx_nat, List.drop_zero, Nat.sub_zero]
  exact List.take_of_length_le (by omega)
abbrev di (xs : List Int) : List D := xs.map D.int
theorem intsD_di : ∀ xs : List Int, intsD (di xs) = some xs
  | [] => rfl
  | x :: xs => by
    show (intsD (di xs)).map (fun ns => x :: ns) = _
    rw [intsD_di xs]; rfl
theorem number_ok (ns : List Int) (hl : ns.length ≤ 63) (k : Nat) (hk : k < 100000) : ∃ v, m__law_number [.scr ns, .int k] = .ok (.int v) := by
  obtain ⟨cs, c0, c63, hc⟩ : ∃ cs : List Int, 0 < cs.length ∧ cs.length ≤ 63 ∧ cs = if ns.isEmpty then [5] else ns := by
    cases ns with
    | nil => exact ⟨[5], by decide, by decide, rfl⟩
    | cons n l => exact ⟨n :: l, by simp, hl, rfl⟩
  have hm : (k : Int) % (cs.length : Int) = ((k % cs.length : Nat) : Int) := by omega
  have d1 : (k : Int) / (cs.length : Int) = ((k / cs.length : Nat) : Int) := by omega
  have d2 : k / cs.length ≤ k := Nat.div_le_self ..
  obtain ⟨x, hx, ex⟩ := at_any (di cs) ((k : Int) % (cs.length : Int)) (by rw [List.length_map]; omega) (by rw [List.length_map]; have := Nat.mod_lt k c0; omega)
  obtain ⟨c, _, rfl⟩ := List.mem_map.mp hx
  have il : ∀ {fe : En → Res D} {env : En}, fe env = .ok (.lst (di cs)) → eCall fLen (aCons fe aNil) env = .ok (.int cs.length) := fun h => by
    rw [eCall1 h]
    show Res.ok (D.int (di cs).length) = _
    rw [List.length_map]
  show ∃ v, outR (b__law_number [.sh (.scr ns), .sh (.int k), .no, .no, .no, .no, .no, .no]) = .ok (.int v)
  unfold b__law_number
  generalize hlow : (c + 13 * ((k : Int) / cs.length)) % 1000003 = low
  generalize hhigh : (c + 13 * ((k : Int) / cs.length)) / 1000003 % 999983 = high
  have bl : 0 ≤ low ∧ low < 1000003 := by omega
  have bh : 0 ≤ high ∧ high < 999983 := by omega
  generalize htot : cs.sum % 65521 = total
  have bt : 0 ≤ total ∧ total < 65521 := by omega
  generalize hble : ((low + 977 * (k : Int)) * 48271 + 31 * high + total) % 2147483647 = blend
  have bb : 0 ≤ blend ∧ blend < 2147483647 := by omega
  refine ⟨(blend * (blend + 31 * (k : Int) + 7)) % 2147483629 * 65537 + high, ?_⟩
  refine (congrArg outR (step_asg (d := .lst (di cs)) (env' := [.sh (.scr ns), .sh (.int k), .sh (.lst (di cs)), .no, .no, .no, .no, .no]) ?_ rfl)).trans ?_
  · rw [if_ok (b := !ns.isEmpty) (eB_ok (by rw [bin_ok (x := .scr ns) (y := .lst []) rfl rfl]; exact ne_scr ns))]
    cases ns with
    | nil => subst hc; rfl
    | cons n l =>
      subst hc
      show Res.ok (D.lst ((cutD (n :: l) none (some ((63 : Nat) : Int))).map D.int)) = _
      rw [cut63 _ hl]
      rfl
  refine (congrArg outR (step_asg (d := .int (c + 13 * ((k : Int) / cs.length))) (env' := [.sh (.scr ns), .sh (.int k), .sh (.lst (di cs)), .sh (.int (c + 13 * ((k : Int) / cs.length))), .no, .no, .no, .no]) ?_ rfl)).trans ?_
  · rw [bin_ok (x := .int c) (y := .int (13 * ((k : Int) / cs.length))) (by
      rw [bin_ok (x := .lst (di cs)) (y := .int ((k : Int) % (cs.length : Int))) rfl (by rw [bin_ok (x := .int k) (y := .int cs.length) (int_ok rfl) (il rfl), mod_ok _ _ (by omega)])]
      show atD (di cs) _ = _
      unfold atD
      rw [ex]) (by
      rw [bin_ok (x := .int 13) (y := .int ((k : Int) / (cs.length : Int))) rfl (by rw [bin_ok (x := .int k) (y := .int cs.length) rfl (il rfl), div_ok _ _ (by omega) (by rw [Int.natAbs_natCast]; exact Nat.lt_of_le_of_lt c63 (by decide))])]
      exact mul_ok _ _ (by decide) (by rw [d1, Int.natAbs_natCast]; exact Nat.lt_of_le_of_lt (Nat.le_trans d2 (Nat.le_of_lt hk)) (by decide)))]
    rfl
  generalize c + 13 * ((k : Int) / cs.length) = cell at hlow hhigh
  refine (congrArg outR (par2_ok (x := .int low) (y := .int high) ?_ ?_ ⟨(show 6 < 8 by decide), (show 7 < 8 by decide)⟩)).trans ?_
  · rw [bin_ok (x := .int cell) (y := .int 1000003) (int_ok rfl) rfl, mod_ok _ _ (by decide), hlow]
  · rw [bin_ok (x := .int (cell / 1000003)) (y := .int 999983) (int_ok (by rw [bin_ok (x := .int cell) (y := .int 1000003) rfl rfl, div_ok _ _ (by decide) (by decide)])) rfl, mod_ok _ _ (by decide), hhigh]
  refine (congrArg outR (step_asg (d := .int total) (env' := [.sh (.scr ns), .sh (.int k), .sh (.lst (di cs)), .sh (.int cell), .sh (.int total), .no, .sh (.int low), .sh (.int high)]) ?_ rfl)).trans ?_
  · rw [bin_ok (x := .int cs.sum) (y := .int 65521) (int_ok (by
      rw [eCall1 (d := .lst (di cs)) rfl]
      show (match intsD (di cs) with | some ns => Res.ok (D.int ns.sum) | none => .bad) = _
      rw [intsD_di])) rfl, mod_ok _ _ (by decide), htot]
  refine (congrArg outR (step_asg (d := .int blend) (env' := [.sh (.scr ns), .sh (.int k), .sh (.lst (di cs)), .sh (.int cell), .sh (.int total), .sh (.int blend), .sh (.int low), .sh (.int high)]) ?_ rfl)).trans ?_
  · rw [bin_ok (x := .int ((low + 977 * (k : Int)) * 48271 + 31 * high + total)) (y := .int 2147483647) (int_ok (by
      rw [bin_ok (x := .int ((low + 977 * (k : Int)) * 48271 + 31 * high)) (y := .int total) (by
        rw [bin_ok (x := .int ((low + 977 * (k : Int)) * 48271)) (y := .int (31 * high)) (by
          rw [bin_ok (x := .int (low + 977 * (k : Int))) (y := .int 48271) (by
            rw [bin_ok (x := .int low) (y := .int (977 * (k : Int))) rfl (by
              rw [bin_ok (x := .int 977) (y := .int k) rfl rfl]; exact mul_ok _ _ (by decide) (by omega))]; rfl) rfl]; exact mul_ok _ _ (by omega) (by decide)) (by
          rw [bin_ok (x := .int 31) (y := .int high) rfl rfl]; exact mul_ok _ _ (by decide) (by omega))]; rfl) rfl]; rfl)) rfl, mod_ok _ _ (by decide), hble]
  refine ret_ok ?_
  rw [bin_ok (x := .int ((blend * (blend + 31 * (k : Int) + 7)) % 2147483629 * 65537)) (y := .int high) (by
    rw [bin_ok (x := .int ((blend * (blend + 31 * (k : Int) + 7)) % 2147483629)) (y := .int 65537) (by
      rw [bin_ok (x := .int (blend * (blend + 31 * (k : Int) + 7))) (y := .int 2147483629) (int_ok (by
        rw [bin_ok (x := .int blend) (y := .int (blend + 31 * (k : Int) + 7)) rfl (by
          rw [bin_ok (x := .int (blend + 31 * (k : Int))) (y := .int 7) (by
            rw [bin_ok (x := .int blend) (y := .int (31 * (k : Int))) rfl (by
              rw [bin_ok (x := .int 31) (y := .int k) rfl rfl]; exact mul_ok _ _ (by decide) (by omega))]; rfl) rfl]; rfl)]; exact mul_ok _ _ (by omega) (by omega))) rfl, mod_ok _ _ (by decide)]) rfl]; exact mul_ok _ _ (by omega) (by decide)) rfl]
  rfl
end Lw
namespace Lw
open PySem Dl
theorem is_name_ok (x : Str) : m_is_name [.str x] = .ok (.bl (decide (x ∈ nm7))) := by
  have e := gIn_t false x nm7
  unfold m_is_name b_is_name
  show outR (sRet (eAnd (eAt (gIsi isiT_str) (eVar 0)) (eBin (gIn false) (eVar 0) (eC (.tup (ds nm7))))) [.sh (.str x)]) = _
  simp only [sRet, eAnd, eAt, eVar, eBin, eC, gIsi, List.getElem?_cons_zero, Res.bind_ok, e]
  rfl
theorem gIn_any (x : Str) (xs : List Str) (d : D) (hd : d = .lst (ds xs) ∨ d = .tup (ds xs)) : gIn false (.str x) d = .ok (.bl (decide (x ∈ xs))) := by
  rcases hd with rfl | rfl
  · rw [gIn_l]; rfl
  · rw [gIn_t]; rfl
theorem in_order_ok (xs : List Str) (d : D) (hd : d = .lst (ds xs) ∨ d = .tup (ds xs)) : m_in_order [d] = .ok (.tup (ds (ord xs))) := by
  have z := eLc_ok (vs := [1]) (fi := eIt (eC (.tup (ds nm7)))) (h := gV 1) (ft := eB (eBin (gIn false) (eVar 1) (eVar 0))) (fe := eVar 1) (env := [.sh d, .no]) nm7 (fun x => decide (x ∈ xs)) D.str D.str rfl (by decide) (fun x _ => ⟨[.sh d, .sh (.str x)], rfl, eB_ok (by rw [bin_ok (x := .str x) (y := d) rfl rfl]; exact gIn_any x xs d hd), rfl⟩)
  show outR (sRet (eCall fTup (aCons (eLc [1] (eIt (eC (.tup (ds nm7)))) (gV 1) (eB (eBin (gIn false) (eVar 1) (eVar 0))) (eVar 1)) aNil)) [.sh d, .no]) = _
  refine ret_ok ?_
  rw [eCall1 z]
  rfl
structure G (xs : List Str) : Prop where
  mem : ∀ x ∈ xs, x ∈ nm7
  len : xs.length ≤ 1000
theorem G.l {xs : List Str} (h : G xs) : xs.length ≤ 100000 := Nat.le_trans h.len (by decide)
theorem itD_l (xs : List Str) (d : D) (hd : d = .lst (ds xs) ∨ d = .tup (ds xs)) : itD d = .ok (ds xs) := by rcases hd with rfl | rfl <;> rfl
theorem key_ok (xs : List Str) (d : D) (hd : d = .lst (ds xs) ∨ d = .tup (ds xs)) (g : G xs) : i_Key [d] = .ok ([w_held], [.tup (ds (ord xs))]) := by
  have e1 : (bOr (bNot (eB (eAt (gIsi isiT_lt) (eVar 1)))) (bNot (eB (eCall fAll (aCons (eLc [2] (eIt (eVar 1)) (gV 2) (bYes) (eCall m_is_name (aCons (eVar 2) (aNil)))) (aNil)))))) [.ow (.ins 0 [] []), .sh d, .no] = .ok false := by
    have a1 : eAt (gIsi isiT_lt) (eVar 1) [.ow (.ins 0 [] []), .sh d, .no] = .ok (.bl true) := by rcases hd with rfl | rfl <;> rfl
    have a2 : eLc [2] (eIt (eVar 1)) (gV 2) (bYes) (eCall m_is_name (aCons (eVar 2) (aNil))) [.ow (.ins 0 [] []), .sh d, .no] = .ok (.lst (xs.map fun x => D.bl (decide (x ∈ nm7)))) := by
      have := eLc_ok (vs := [2]) (fi := eIt (eVar 1)) (h := gV 2) (ft := bYes) (fe := eCall m_is_name (aCons (eVar 2) aNil)) (env := [.ow (.ins 0 [] []), .sh d, .no]) xs (fun _ => true) D.str (fun x => D.bl (decide (x ∈ nm7))) (itD_l xs d hd) g.l fun x _ => ⟨[.ow (.ins 0 [] []), .sh d, .sh (.str x)], rfl, rfl, is_name_ok x⟩
      rw [this, filt_true]
    have a3 : eCall fAll (aCons (eLc [2] (eIt (eVar 1)) (gV 2) (bYes) (eCall m_is_name (aCons (eVar 2) (aNil)))) (aNil)) [.ow (.ins 0 [] []), .sh d, .no] = .ok (.bl (xs.all fun x => decide (x ∈ nm7))) := by
      rw [eCall1 a2, fAll_ok]
    have a4 : (xs.all fun x => decide (x ∈ nm7)) = true := by rw [List.all_eq_true]; exact fun x hx => decide_eq_true (g.mem x hx)
    unfold bOr bNot eB
    rw [a1, a3, a4]
    rfl
  have e2 : eCall m_in_order (aCons (eVar 1) (aNil)) [.ow (.ins 0 [] []), .sh d, .no] = .ok (.tup (ds (ord xs))) := in_order_ok xs d hd
  show outI 0 (b_Key_init [.ow (.ins 0 [] []), .sh d, .no]) = _
  unfold b_Key_init sSeq sIf
  rw [e1]
  show outI 0 (sSetFk 0 0 w_held (eCall m_in_order (aCons (eVar 1) (aNil))) [.ow (.ins 0 [] []), .sh d, .no]) = _
  show outI 0 (sSetF 0 w_held (eCall m_in_order (aCons (eVar 1) (aNil))) [.ow (.ins 0 [] []), .sh d, .no]) = _
  unfold sSetF
  rw [e2]
  rfl
theorem mk_ok (xs : List Str) (d : D) (hd : d = .lst (ds xs) ∨ d = .tup (ds xs)) (g : G xs) : insR 0 (i_Key [d]) = .ok (K (ord xs)) := by
  rw [key_ok xs d hd g]; rfl
theorem mk0_ok : insR 0 (i_Key []) = .ok (K []) := by
  have : i_Key [] = i_Key [.tup (ds [])] := rfl
  rw [this, mk_ok [] _ (.inr rfl) ⟨fun _ h => (nomatch h), by decide⟩]
  rfl
theorem le_ok {xs ys : List Str} (g : G xs) : m_Key_le [K xs, K ys] = .ok (.bl (xs.all fun x => decide (x ∈ ys))) := by
  have e := eLc_ok (vs := [2]) (fi := eIt (eAt (gFld 0 w_held) (eVar 0))) (h := gV 2) (ft := bYes) (fe := eBin (gIn false) (eVar 2) (eAt (gFld 0 w_held) (eVar 1))) (env := [.sh (K xs), .sh (K ys), .no]) xs (fun x => true) D.str (fun x => .bl (decide (x ∈ ys))) rfl g.l fun x _ => ⟨[.sh (K xs), .sh (K ys), .sh (.str x)], rfl, rfl, by
    show gIn false (.str x) (.tup (ds ys)) = _
    rw [gIn_t]; rfl⟩
  rw [filt_true] at e
  show outR (b_Key_le [.sh (K xs), .sh (K ys), .no]) = _
  unfold b_Key_le sSeq
  show outR (sRet (eCall fAll (aCons (eLc [2] (eIt (eAt (gFld 0 w_held) (eVar 0))) (gV 2) (bYes) (eBin (gIn false) (eVar 2) (eAt (gFld 0 w_held) (eVar 1)))) (aNil))) [.sh (K xs), .sh (K ys), .no]) = _
  unfold sRet eCall aCons
  rw [e]
  show outR (lift (fAll [.lst (xs.map fun x => D.bl (decide (x ∈ ys)))]) _ _) = _
  rw [fAll_ok]
  rfl
theorem nm7_G : G nm7 := ⟨fun _ h => h, by decide⟩
theorem G.filter {xs : List Str} (g : G xs) (p : Str → Bool) : G (xs.filter p) := ⟨fun x h => g.mem x ((List.mem_filter.mp h).1), Nat.le_trans (List.length_filter_le ..) g.len⟩
theorem ord_G (xs : List Str) : G (ord xs) := nm7_G.filter _
theorem ord_mem {xs : List Str} (g : G xs) (x : Str) : x ∈ ord xs ↔ x ∈ xs := by
  unfold ord
  rw [List.mem_filter, decide_eq_true_iff]
  exact ⟨fun h => h.2, fun h => ⟨g.mem x h, h⟩⟩
theorem ord_all {xs : List Str} (g : G xs) (q : Str → Bool) : (ord xs).all q = xs.all q := by
  rw [Bool.eq_iff_iff, List.all_eq_true, List.all_eq_true]
  exact ⟨fun h x hx => h x ((ord_mem g x).mpr hx), fun h x hx => h x ((ord_mem g x).mp hx)⟩
end Lw
namespace Lw
open PySem Dl
theorem lcL_if {α : Type} {h : D → En → Option En} {ft : En → Res Bool} {fe : En → Res D} {env : En} (p : α → Bool) (f g : α → D) : ∀ (xs : List α), (∀ x ∈ xs, ∃ e, h (f x) env = some e ∧ ft e = .ok (p x) ∧ (p x = true → fe e = .ok (g x))) → lcL h ft fe env (xs.map f) = .ok ((xs.filter p).map g)
  | [], _ => rfl
  | x :: xs, H => by
    obtain ⟨e, h1, h2, h3⟩ := H x (List.mem_cons_self ..)
    have ih := lcL_if p f g xs fun y hy => H y (List.mem_cons_of_mem _ hy)
    show (match h (f x) env with | none => Res.bad | some env1 => (noex (ft env1)).bind fun k => if k = true then (noex (fe env1)).bind fun y => (lcL h ft fe env (xs.map f)).bind fun ys => .ok (y :: ys) else lcL h ft fe env (xs.map f)) = _
    rw [h1]
    dsimp only
    rw [h2, ih]
    cases q : p x
    · simp [noex, List.filter, q]
    · rw [h3 q]; simp [noex, List.filter, q]
theorem eLc_if {α : Type} {vs : List Nat} {fi : En → Res (List D)} {h : D → En → Option En} {ft : En → Res Bool} {fe : En → Res D} {env : En} (xs : List α) (p : α → Bool) (f g : α → D) (hf : fi env = .ok (xs.map f)) (hl : xs.length ≤ 100000)
    (H : ∀ x ∈ xs, ∃ e, h (f x) (wipeE env vs) = some e ∧ ft e = .ok (p x) ∧ (p x = true → fe e = .ok (g x))) : eLc vs fi h ft fe env = .ok (.lst ((xs.filter p).map g)) := by
  unfold eLc
  rw [hf]
  show ((lcL h ft fe (wipeE env vs) (xs.map f)).bind fun ys => if ys.length ≤ 100000 then Res.ok (D.lst ys) else .bad) = _
  rw [lcL_if p f g xs H]
  show (if ((xs.filter p).map g).length ≤ 100000 then Res.ok (D.lst ((xs.filter p).map g)) else .bad) = _
  rw [if_pos (by rw [List.length_map]; exact Nat.le_trans (List.length_filter_le ..) hl)]
theorem eAnd_ok {fa fb : En → Res D} {env : En} {a b : Bool} (h : fa env = .ok (.bl a)) (h' : a = true → fb env = .ok (.bl b)) : eAnd fa fb env = .ok (.bl (a && b)) := by
  unfold eAnd; rw [h]
  cases a
  · rfl
  · exact h' rfl
theorem eOr_ok {fa fb : En → Res D} {env : En} {a b : Bool} (h : fa env = .ok (.bl a)) (h' : a = false → fb env = .ok (.bl b)) : eOr fa fb env = .ok (.bl (a || b)) := by
  unfold eOr; rw [h]
  cases a
  · exact h' rfl
  · rfl
theorem eAlt_no {f1 f2 : En → Res D} {env : En} (h : f1 env = .bad) : eAlt f1 f2 env = f2 env := by unfold eAlt; rw [h]; rfl
theorem eCall3 {F : List D → Res D} {f1 f2 f3 : En → Res D} {env : En} {a b c : D} (h1 : f1 env = .ok a) (h2 : f2 env = .ok b) (h3 : f3 env = .ok c) : eCall F (aCons f1 (aCons f2 (aCons f3 aNil))) env = F [a, b, c] := by
  unfold eCall aCons; rw [h1, h2, h3]; rfl
theorem bOr_any {ft fu : En → Res Bool} {env : En} {a b : Bool} (h : ft env = .ok a) (h' : a = false → fu env = .ok b) : bOr ft fu env = .ok (a || b) := by
  unfold bOr; rw [h]
  cases a
  · exact h' rfl
  · rfl
theorem bAnd_any {ft fu : En → Res Bool} {env : En} {a b : Bool} (h : ft env = .ok a) (h' : a = true → fu env = .ok b) : bAnd ft fu env = .ok (a && b) := by
  unfold bAnd; rw [h]
  cases a
  · rfl
  · exact h' rfl
/-! leaves -/
def nmOf (l : Lf) : Str := match m_name_of [lD l] with | .ok (.str s) => s | _ => w_
def isN (l : Lf) : Bool := decide (l.1 = w_number)
theorem leaf_facts : (lfs.all fun l => isR (gTopIn tab_LETTERS false (.str l.1)) (.bl (!isN l)) && (isN l || (isR (m_name_of [lD l]) (.str (nmOf l)) && decide (nmOf l ∈ nm7))) && isR (gEq false (.str l.1) (.str w_number)) (.bl (isN l)) && isR (gEq true (.str l.1) (.str w_number)) (.bl (!isN l))
    && (isN l || isR (((gIx (.str l.1) (.int 0)).bind fun x => (fStrI [.int l.2]).bind fun y => gAlt (gOwn 1 m_Recipe_add) gAddW x y)) (.str (nmOf l)))) = true := by decide +kernel
structure LfOk (l : Lf) : Prop where
  letter : gTopIn tab_LETTERS false (.str l.1) = .ok (.bl (!isN l))
  name : isN l = false → m_name_of [lD l] = .ok (.str (nmOf l)) ∧ nmOf l ∈ nm7
  eqn : gEq false (.str l.1) (.str w_number) = .ok (.bl (isN l))
  nen : gEq true (.str l.1) (.str w_number) = .ok (.bl (!isN l))
  cat : isN l = false → ((gIx (.str l.1) (.int 0)).bind fun x => (fStrI [.int l.2]).bind fun y => gAlt (gOwn 1 m_Recipe_add) gAddW x y) = .ok (.str (nmOf l))
theorem lf_ok {l : Lf} (h : l ∈ lfs) : LfOk l := by
  have f := (List.all_eq_true.mp leaf_facts) l h
  simp only [Bool.and_eq_true, Bool.or_eq_true, decide_eq_true_iff] at f
  obtain ⟨⟨⟨⟨f1, f2⟩, f3⟩, f4⟩, f5⟩ := f
  refine ⟨isR_ok f1, fun z => ?_, isR_ok f3, isR_ok f4, fun z => ?_⟩
  · rcases f2 with f2 | f2
    · rw [z] at f2; cases f2
    · exact ⟨isR_ok f2.1, f2.2⟩
  · rcases f5 with f5 | f5
    · rw [z] at f5; cases f5
    · exact isR_ok f5
structure Ls (ls : List Lf) : Prop where
  mem : ∀ l ∈ ls, l ∈ lfs
  form : ls ∈ forms
theorem forms_small : (forms.all fun ls => decide (ls.length ≤ 3) && ls.all fun l => decide (l ∈ lfs)) = true := by decide +kernel
theorem Ls.len {ls : List Lf} (h : Ls ls) : ls.length ≤ 3 := by
  have f := (List.all_eq_true.mp forms_small) ls h.form
  rw [Bool.and_eq_true, decide_eq_true_iff] at f
  exact f.1
theorem ls_of {ls : List Lf} (h : ls ∈ forms) : Ls ls := ⟨fun l hl => by
  have f := (List.all_eq_true.mp forms_small) ls h
  rw [Bool.and_eq_true] at f
  exact of_decide_eq_true ((List.all_eq_true.mp f.2) l hl), h⟩
theorem ls_law {ls : List Lf} (h : Ls ls) : m__law_leaves 40 [fD ls] = .ok (.lst (ls.map lD)) := isR_ok ((List.all_eq_true.mp forms_law) ls h.form)
theorem ls_R {ls : List Lf} (h : Ls ls) : insR 1 (i_Recipe [fD ls]) = .ok (rD ls) := isR_ok ((List.all_eq_true.mp forms_R) ls h.form)
/-- the names of a recipe -/
def nms (ls : List Lf) : List Str := (ls.filter fun l => !isN l).map nmOf
theorem nms_G {ls : List Lf} (h : Ls ls) : G (nms ls) := ⟨fun x hx => by
  obtain ⟨l, hl, rfl⟩ := List.mem_map.mp hx
  obtain ⟨h1, h2⟩ := List.mem_filter.mp hl
  exact ((lf_ok (h.mem l h1)).name (by cases q : isN l <;> simp_all)).2, by
  unfold nms
  rw [List.length_map]
  exact Nat.le_trans (List.length_filter_le ..) (Nat.le_trans h.len (by decide))⟩
theorem leavesF (ls : List Lf) : gFld 1 w_leaves (rD ls) = .ok (.tup (ls.map lD)) := by rfl
theorem lv0 (l : Lf) : gIx (lD l) (.int 0) = .ok (.str l.1) := ix0 _ _
theorem lv1 (l : Lf) : gIx (lD l) (.int 1) = .ok (.int l.2) := ix1 _ _ _
theorem names_ok {ls : List Lf} (h : Ls ls) : m_Recipe_names [rD ls] = .ok (.tup (ds (ord (nms ls)))) := by
  have z := eLc_if (vs := [1]) (fi := eIt (eAt (gFld 1 w_leaves) (eVar 0))) (h := gV 1) (ft := eB (eAt (gTopIn tab_LETTERS false) (eBin gIx (eVar 1) (eC (.int 0))))) (fe := eCall m_name_of (aCons (eVar 1) (aNil))) (env := [.sh (rD ls), .no]) ls (fun l => !isN l) lD (fun l => .str (nmOf l)) rfl (Nat.le_trans h.len (by decide)) fun l hl => ⟨[.sh (rD ls), .sh (lD l)], rfl, eB_ok (by
      rw [at_ok (x := .str l.1) (by rw [bin_ok (x := lD l) (y := .int 0) rfl rfl, lv0])]
      exact (lf_ok (h.mem l hl)).letter), fun q => by
      rw [eCall1 (d := lD l) rfl]
      exact ((lf_ok (h.mem l hl)).name (by cases q' : isN l <;> simp_all)).1⟩
  show outR (sRet (eCall m_in_order (aCons (eLc [1] (eIt (eAt (gFld 1 w_leaves) (eVar 0))) (gV 1) (eB (eAt (gTopIn tab_LETTERS false) (eBin gIx (eVar 1) (eC (.int 0))))) (eCall m_name_of (aCons (eVar 1) (aNil)))) (aNil))) [.sh (rD ls), .no]) = _
  refine ret_ok ?_
  rw [eCall1 z]
  have e : ((ls.filter fun l => !isN l).map fun l => D.str (nmOf l)) = ds (nms ls) := by unfold nms ds; rw [List.map_map]; rfl
  rw [e]
  exact in_order_ok _ _ (.inl rfl)
/-- may this leaf stand there? -/
def lok (b : Int) (us : List Str) (l : Lf) : Bool := if isN l then decide (l.2 < b) else decide (nmOf l ∈ us)
theorem vLe {xs ys : List Str} (g : G xs) : gAlt (gOwn 0 m_Key_le) gLeI (K xs) (K ys) = .ok (.bl (xs.all fun x => decide (x ∈ ys))) := by
  have : gOwn 0 m_Key_le (K xs) (K ys) = m_Key_le [K xs, K ys] := rfl
  unfold gAlt
  rw [this, le_ok g]
  rfl
theorem recipe_fits_ok {ls : List Lf} (h : Ls ls) (b : Int) (us : List Str) : m_recipe_fits [rD ls, .int b, K us] = .ok (.bl (ls.all (lok b us))) := by
  show outR (b_recipe_fits [.sh (rD ls), .sh (.int b), .sh (K us), .no, .no, .no]) = _
  unfold b_recipe_fits
  refine (congrArg outR (step_if rfl)).trans ?_
  have z := eLc_if (vs := [4]) (fi := eIt (eAt (gFld 1 w_leaves) (eVar 0))) (h := gV 4) (ft := eB (eBin (gEq false) (eBin gIx (eVar 4) (eC (.int 0))) (eC (.str w_number)))) (fe := eBin gIx (eVar 4) (eC (.int 1))) (env := [.sh (rD ls), .sh (.int b), .sh (K us), .no, .no, .no]) ls isN lD (fun l => .int l.2) rfl (Nat.le_trans h.len (by decide)) fun l hl => ⟨[.sh (rD ls), .sh (.int b), .sh (K us), .no, .sh (lD l), .no], rfl, eB_ok (by
      rw [bin_ok (x := .str l.1) (y := .str w_number) (by rw [bin_ok (x := lD l) (y := .int 0) rfl rfl, lv0]) rfl]
      exact (lf_ok (h.mem l hl)).eqn), fun q => by
      rw [bin_ok (x := lD l) (y := .int 1) rfl rfl, lv1]⟩
  refine (congrArg outR (step_asg z rfl)).trans ?_
  generalize hns : (ls.filter isN).map (fun l => D.int l.2) = ns
  have hl : (ls.filter isN).length ≤ 100000 := Nat.le_trans (List.length_filter_le ..) (Nat.le_trans h.len (by decide))
  have y := eLc_if (vs := [5]) (fi := eIt (eVar 3)) (h := gV 5) (ft := bYes) (fe := eBin (gLtI) (eVar 5) (eVar 1)) (env := [.sh (rD ls), .sh (.int b), .sh (K us), .sh (.lst ns), .no, .no]) (ls.filter isN) (fun _ => true) (fun l => .int l.2) (fun l => .bl (decide (l.2 < b))) (by rw [hns]; rfl) hl fun l _ => ⟨[.sh (rD ls), .sh (.int b), .sh (K us), .sh (.lst ns), .no, .sh (.int l.2)], rfl, rfl, fun _ => rfl⟩
  rw [filt_true] at y
  have a : eBin (gAlt (gOwn 0 m_Key_le) (gLeI)) (eCall (fun ds => insR 0 (i_Key ds)) (aCons (eAlt (eAt (gProp 0 m_Key_names) (eVar 0)) (eAt (gProp 1 m_Recipe_names) (eVar 0))) (aNil))) (eVar 2) [.sh (rD ls), .sh (.int b), .sh (K us), .sh (.lst ns), .no, .no] = .ok (.bl ((nms ls).all fun x => decide (x ∈ us))) := by
    have e1 : eAlt (eAt (gProp 0 m_Key_names) (eVar 0)) (eAt (gProp 1 m_Recipe_names) (eVar 0)) [.sh (rD ls), .sh (.int b), .sh (K us), .sh (.lst ns), .no, .no] = .ok (.tup (ds (ord (nms ls)))) := by
      rw [eAlt_no rfl, at_ok (x := rD ls) rfl]
      rw [show gProp 1 m_Recipe_names (rD ls) = noex (m_Recipe_names [rD ls]) from rfl, names_ok h]; rfl
    rw [bin_ok (x := K (ord (ord (nms ls)))) (y := K us) (by rw [eCall1 e1]; exact mk_ok _ _ (.inr rfl) (ord_G _)) rfl, vLe (ord_G _), ord_all (ord_G _), ord_all (nms_G h)]
  refine ret_ok ?_
  refine (eAnd_ok a fun _ => by rw [eCall1 y, fAll_ok]).trans ?_
  congr 2
  rw [Bool.eq_iff_iff, Bool.and_eq_true, List.all_eq_true, List.all_eq_true, List.all_eq_true]
  constructor
  · rintro ⟨h1, h2⟩ l hl
    unfold lok
    cases q : isN l
    · exact h1 _ (List.mem_map.mpr ⟨l, List.mem_filter.mpr ⟨hl, by rw [q]; rfl⟩, rfl⟩)
    · exact h2 _ (List.mem_filter.mpr ⟨hl, q⟩)
  · intro H
    constructor
    · intro x hx
      obtain ⟨l, hl, rfl⟩ := List.mem_map.mp hx
      obtain ⟨h1, h2⟩ := List.mem_filter.mp hl
      have := H l h1
      unfold lok at this
      cases q : isN l
      · rw [q] at this; exact this
      · rw [q] at h2; cases h2
    · intro l hl
      obtain ⟨h1, h2⟩ := List.mem_filter.mp hl
      have := H l h1
      unfold lok at this
      rw [h2] at this
      exact this
end Lw
namespace Lw
open PySem Dl
inductive Ru where
  | non | reads | shown | key (xs : List Str) | keep | five | empt | tru | fld | tupl (xs : List Str)
deriving DecidableEq
def ruD : Ru → D
  | .non => .non
  | .reads => .str w_reads
  | .shown => .str w_shown
  | .key xs => K xs
  | .keep => .str w_keep
  | .five => .int 5
  | .empt => .str w_
  | .tru => .bl true
  | .fld => rD [(w_field, 0)]
  | .tupl xs => .tup (ds xs)
def ruOk (us : List Str) : Ru → Bool
  | .non => true
  | .reads => true
  | .shown => true
  | .key xs => xs.all fun x => decide (x ∈ us)
  | _ => false
def RuG : Ru → Prop
  | .key xs => G xs
  | _ => True
theorem rule_fits_ok {r : Ru} (h : RuG r) (us : List Str) : m_rule_fits [ruD r, K us] = .ok (.bl (ruOk us r)) := by
  cases r with
  | key xs =>
    show outR (b_rule_fits [.sh (K xs), .sh (K us)]) = _
    unfold b_rule_fits
    have e : eBin (gAlt (gOwn 0 m_Key_le) (gLeI)) (eVar 0) (eVar 1) [.sh (K xs), .sh (K us)] = .ok (.bl (ruOk us (.key xs))) := by
      rw [bin_ok (x := K xs) (y := K us) rfl rfl, vLe h]; rfl
    exact step_ret rfl e
  | _ => rfl
theorem pair_no1 (b : Int) (us : List Str) : m_pair_fits [.int 5, .int b, K us] = .ok (.bl false) := rfl
theorem pair_no2 (b : Int) (us : List Str) : m_pair_fits [.tup [.non, .non], .int b, K us] = .ok (.bl false) := rfl
def pok (b : Int) (us : List Str) (ls : List Lf) (r : Ru) : Bool := ls.all (lok b us) && ruOk us r
theorem pair_fits_ok {ls : List Lf} {r : Ru} (h : Ls ls) (hr : RuG r) (b : Int) (us : List Str) : m_pair_fits [.tup [rD ls, ruD r], .int b, K us] = .ok (.bl (pok b us ls r)) := by
  show outR (b_pair_fits [.sh (.tup [rD ls, ruD r]), .sh (.int b), .sh (K us)]) = _
  unfold b_pair_fits
  refine (congrArg outR (step_if rfl)).trans ?_
  refine ret_ok ?_
  refine eAnd_ok (a := ls.all (lok b us)) ?_ fun _ => ?_
  · rw [eCall3 (a := rD ls) (b := .int b) (c := K us) (by rw [bin_ok (x := .tup [rD ls, ruD r]) (y := .int 0) rfl rfl, ix0]) rfl rfl]
    exact recipe_fits_ok h b us
  · rw [eCall2 (d := ruD r) (d' := K us) (by rw [bin_ok (x := .tup [rD ls, ruD r]) (y := .int 1) rfl rfl, ix1]) rfl]
    exact rule_fits_ok hr us
def us (f c at_ : Nat) : List Str := [w_f0, w_f1, w_f2].take f ++ [w_c0, w_c1].take c ++ [w_p0, w_p1].take at_
abbrev placeT : En → Res Bool := bOr (bAnd (eB (eBin (gAlt (gOwnX 0 (fun j => [1, 2].contains j) m_Key_eq) (gAlt (gOwnX 1 (fun j => [0, 2].contains j) m_Recipe_eq) (gAlt (gOwnX 2 (fun j => [0, 1].contains j) m_Plan_eq) (gEq false)))) (eVar 4) (eC (.str w_number)))) (eB (eBin (gGeI) (eVar 5) (eVar 6)))) (bAnd (eB (eBin (gAlt (gNe 0 m_Key_eq) (gAlt (gNe 1 m_Recipe_eq) (gAlt (gNe 2 m_Plan_eq) (gEq true)))) (eVar 4) (eC (.str w_number)))) (eB (eBin (gAlt (gInOwn 0 true m_Key_contains) (gAlt (gInOwn 1 true m_Recipe_contains) (gIn true))) (eBin (gAlt (gOwn 1 m_Recipe_add) (gAddW)) (eBin gIx (eVar 4) (eC (.int 0))) (eCall fStrI (aCons (eVar 5) (aNil)))) (eVar 3))))
abbrev placeB : En → Out := sIf placeT (sRet (eC (.bl false))) (sNext)
abbrev pEnv (sz row : D) (at_ : Int) (nm : List Str) (a4 a5 : Sl) (b f c : Int) (fm ru : D) : En := [.sh sz, .sh (.int at_), .sh row, .sh (.lst (ds nm)), a4, a5, .sh (.int b), .sh (.int f), .sh (.int c), .sh fm, .sh ru, .no]
theorem place_test {l : Lf} (h : LfOk l) (sz row : D) (at_ : Int) (nm : List Str) (b f c : Int) (fm ru : D) : placeT (pEnv sz row at_ nm (.sh (.str l.1)) (.sh (.int l.2)) b f c fm ru) = .ok (!lok b nm l) := by
  have e1 : eB (eBin (gAlt (gOwnX 0 (fun j => [1, 2].contains j) m_Key_eq) (gAlt (gOwnX 1 (fun j => [0, 2].contains j) m_Recipe_eq) (gAlt (gOwnX 2 (fun j => [0, 1].contains j) m_Plan_eq) (gEq false)))) (eVar 4) (eC (.str w_number))) (pEnv sz row at_ nm (.sh (.str l.1)) (.sh (.int l.2)) b f c fm ru) = .ok (isN l) := eB_ok (by
    rw [bin_ok (x := .str l.1) (y := .str w_number) rfl rfl]; exact h.eqn)
  have e2 : eB (eBin (gAlt (gNe 0 m_Key_eq) (gAlt (gNe 1 m_Recipe_eq) (gAlt (gNe 2 m_Plan_eq) (gEq true)))) (eVar 4) (eC (.str w_number))) (pEnv sz row at_ nm (.sh (.str l.1)) (.sh (.int l.2)) b f c fm ru) = .ok (!isN l) := eB_ok (by
    rw [bin_ok (x := .str l.1) (y := .str w_number) rfl rfl]; exact h.nen)
  have e3 : eB (eBin (gGeI) (eVar 5) (eVar 6)) (pEnv sz row at_ nm (.sh (.str l.1)) (.sh (.int l.2)) b f c fm ru) = .ok (decide (b ≤ l.2)) := rfl
  cases q : isN l with
  | true =>
    rw [q] at e1 e2
    refine (bOr_any (a := decide (b ≤ l.2)) (b := false) (bAnd_yes e1 e3) fun _ => bAnd_no e2).trans ?_
    congr 1
    unfold lok
    rw [q, Bool.or_false]
    by_cases z : b ≤ l.2
    · simp [z, Int.not_lt.mpr z]
    · simp [z, Int.not_le.mp z]
  | false =>
    rw [q] at e1 e2
    have e4 : eB (eBin (gAlt (gInOwn 0 true m_Key_contains) (gAlt (gInOwn 1 true m_Recipe_contains) (gIn true))) (eBin (gAlt (gOwn 1 m_Recipe_add) (gAddW)) (eBin gIx (eVar 4) (eC (.int 0))) (eCall fStrI (aCons (eVar 5) (aNil)))) (eVar 3)) (pEnv sz row at_ nm (.sh (.str l.1)) (.sh (.int l.2)) b f c fm ru) = .ok (!decide (nmOf l ∈ nm)) := eB_ok (by
      rw [bin_ok (x := .str (nmOf l)) (y := .lst (ds nm)) (h.cat q) rfl]
      exact gIn_l true _ _)
    refine (bOr_any (a := false) (b := !decide (nmOf l ∈ nm)) (bAnd_no e1) fun _ => bAnd_yes e2 e4).trans ?_
    unfold lok
    rw [q]
    rfl
theorem place_loop (sz row : D) (at_ : Int) (nm : List Str) (b f c : Int) (fm ru : D) : ∀ (ls : List Lf) (a4 a5 : Sl), (∀ l ∈ ls, LfOk l) →
    (ls.all (lok b nm) = true → ∃ x y, forL (gT 2 (gsCons (gV 4) (gsCons (gV 5) (gsNil)))) placeB (ls.map lD) (pEnv sz row at_ nm a4 a5 b f c fm ru) = .nx (pEnv sz row at_ nm x y b f c fm ru)) ∧
    (ls.all (lok b nm) = false → forL (gT 2 (gsCons (gV 4) (gsCons (gV 5) (gsNil)))) placeB (ls.map lD) (pEnv sz row at_ nm a4 a5 b f c fm ru) = .rt (.bl false))
  | [], a4, a5, _ => ⟨fun _ => ⟨a4, a5, rfl⟩, fun h => by cases h⟩
  | l :: ls, a4, a5, H => by
    have ih := place_loop sz row at_ nm b f c fm ru ls (.sh (.str l.1)) (.sh (.int l.2)) fun x hx => H x (List.mem_cons_of_mem _ hx)
    have t := place_test (H l (List.mem_cons_self ..)) sz row at_ nm b f c fm ru
    have g : gT 2 (gsCons (gV 4) (gsCons (gV 5) (gsNil))) (lD l) (pEnv sz row at_ nm a4 a5 b f c fm ru) = some (pEnv sz row at_ nm (.sh (.str l.1)) (.sh (.int l.2)) b f c fm ru) := rfl
    rw [List.all_cons]
    cases q : lok b nm l with
    | true =>
      rw [q] at t
      have e : placeB (pEnv sz row at_ nm (.sh (.str l.1)) (.sh (.int l.2)) b f c fm ru) = .nx (pEnv sz row at_ nm (.sh (.str l.1)) (.sh (.int l.2)) b f c fm ru) := sif_no t
      rw [Bool.true_and]
      have s := forL_cons (dl := ls.map lD) g e
      exact ⟨fun h => by obtain ⟨x, y, z⟩ := ih.1 h; exact ⟨x, y, s.trans z⟩, fun h => s.trans (ih.2 h)⟩
    | false =>
      rw [q] at t
      refine ⟨fun h => (nomatch h), fun _ => ?_⟩
      have e : placeB (pEnv sz row at_ nm (.sh (.str l.1)) (.sh (.int l.2)) b f c fm ru) = .rt (.bl false) := sif_yes t
      show forL (gT 2 (gsCons (gV 4) (gsCons (gV 5) (gsNil)))) placeB (lD l :: ls.map lD) _ = _
      unfold forL
      rw [g]
      dsimp only
      rw [e]
theorem cutL (xs : List Str) (k : Nat) {fe : En → Res D} {fk : En → Res D} {env : En} (h : fe env = .ok (.lst (ds xs))) (hk : fk env = .ok (.int k)) : eSl fe oNo (oSome fk) env = .ok (.lst (ds (xs.take k))) := by
  unfold eSl oNo oSome
  rw [h, hk]
  show Res.ok (D.lst (cutD (ds xs) none (some (k : Int)))) = _
  rw [cut2]
theorem cutT (xs : List Str) (k : Nat) {fe : En → Res D} {fk : En → Res D} {env : En} (h : fe env = .ok (.tup (ds xs))) (hk : fk env = .ok (.int k)) : eSl fe oNo (oSome fk) env = .ok (.tup (ds (xs.take k))) := by
  unfold eSl oNo oSome
  rw [h, hk]
  show Res.ok (D.tup (cutD (ds xs) none (some (k : Int)))) = _
  rw [cut2]
theorem take_small {α : Type} (xs : List α) (k n : Nat) (h : xs.length ≤ n) : (xs.take k).length ≤ n := Nat.le_trans (by rw [List.length_take]; omega) h
theorem place_ok {ls : List Lf} {r : Ru} (h : Ls ls) (hr : RuG r) (b : Int) (f c at_ : Nat) : m__law_is_place [.tup [.int b, .int f, .int c], .int at_, .tup [fD ls, ruD r]] = .ok (.bl (pok b (us f c at_) ls r)) := by
  show outR (b__law_is_place [.sh (.tup [.int b, .int f, .int c]), .sh (.int at_), .sh (.tup [fD ls, ruD r]), .no, .no, .no, .no, .no, .no, .no, .no, .no]) = _
  unfold b__law_is_place
  refine (congrArg outR (step_asg (d := .tup [.tup [.int b, .int f, .int c], .tup [fD ls, ruD r]]) (env' := [.sh (.tup [.int b, .int f, .int c]), .sh (.int at_), .sh (.tup [fD ls, ruD r]), .no, .no, .no, .sh (.int b), .sh (.int f), .sh (.int c), .sh (fD ls), .sh (ruD r), .no]) rfl rfl)).trans ?_
  refine (congrArg outR (step_asg (d := .lst (ds (us f c at_))) (env' := pEnv (.tup [.int b, .int f, .int c]) (.tup [fD ls, ruD r]) at_ (us f c at_) .no .no b f c (fD ls) (ruD r)) ?_ rfl)).trans ?_
  · rw [bin_ok (x := .lst (ds ([w_f0, w_f1, w_f2].take f ++ [w_c0, w_c1].take c))) (y := .lst (ds ([w_p0, w_p1].take at_))) (by
      rw [bin_ok (x := .lst (ds ([w_f0, w_f1, w_f2].take f))) (y := .lst (ds ([w_c0, w_c1].take c))) (cutL _ f rfl rfl) (cutL _ c rfl rfl), cat_ok _ _ (by
        have := take_small [w_f0, w_f1, w_f2] f 3 (by decide); have := take_small [w_c0, w_c1] c 2 (by decide)
        rw [List.length_map, List.length_map]; omega), ← List.map_append]) (cutL _ at_ rfl rfl), cat_ok _ _ (by
        have := take_small [w_f0, w_f1, w_f2] f 3 (by decide); have := take_small [w_c0, w_c1] c 2 (by decide); have := take_small [w_p0, w_p1] at_ 2 (by decide)
        rw [List.length_map, List.length_map, List.length_append]; omega), ← List.map_append]
    rfl
  obtain ⟨l1, l2⟩ := place_loop (.tup [.int b, .int f, .int c]) (.tup [fD ls, ruD r]) at_ (us f c at_) b f c (fD ls) (ruD r) ls .no .no fun l hl => lf_ok (h.mem l hl)
  have src : eIt (eCall (m__law_leaves 40) (aCons (eVar 9) (aNil))) (pEnv (.tup [.int b, .int f, .int c]) (.tup [fD ls, ruD r]) at_ (us f c at_) .no .no b f c (fD ls) (ruD r)) = .ok (ls.map lD) := by
    unfold eIt
    rw [eCall1 (d := fD ls) rfl, ls_law h]
    rfl
  unfold pok
  cases q : ls.all (lok b (us f c at_)) with
  | false =>
    have e : sFor (eIt (eCall (m__law_leaves 40) (aCons (eVar 9) (aNil)))) (gT 2 (gsCons (gV 4) (gsCons (gV 5) (gsNil)))) placeB (pEnv (.tup [.int b, .int f, .int c]) (.tup [fD ls, ruD r]) at_ (us f c at_) .no .no b f c (fD ls) (ruD r)) = .rt (.bl false) := by
      unfold sFor; rw [src]; exact l2 q
    exact congrArg outR (seq_rt e)
  | true =>
    obtain ⟨x, y, e⟩ := l1 q
    refine (congrArg outR (for_ok src e)).trans ?_
    rw [Bool.true_and]
    cases r with
    | key xs =>
      refine step_ret rfl ?_
      have z := eLc_ok (vs := [11]) (fi := eIt (eAlt (eAt (gProp 0 m_Key_names) (eVar 10)) (eAt (gProp 1 m_Recipe_names) (eVar 10)))) (h := gV 11) (ft := bYes) (fe := eBin (gAlt (gInOwn 0 false m_Key_contains) (gAlt (gInOwn 1 false m_Recipe_contains) (gIn false))) (eVar 11) (eVar 3)) (env := pEnv (.tup [.int b, .int f, .int c]) (.tup [fD ls, ruD (.key xs)]) at_ (us f c at_) x y b f c (fD ls) (ruD (.key xs))) xs (fun _ => true) D.str (fun x => .bl (decide (x ∈ us f c at_))) rfl (G.l hr) fun s _ => ⟨_, rfl, rfl, gIn_l false s _⟩
      rw [filt_true] at z
      rw [eCall1 z, fAll_ok]
      rfl
    | _ => rfl
end Lw
namespace Lw
open PySem Dl
def baseVs : List D := [.int 2, .int 3, .int 1, .int 4, .bl true, .non, .str w_2, .tup [.int 2], .int 0]
def fieldVs : List D := [.int 1, .int 2, .int 3, .int 0, .int 4, .bl true, .non, .str w_1, .int (-1)]
def cellVs : List D := [.int 1, .int 0, .int 2, .int (-1), .int 3, .bl true, .non, .str w_0, .int (10 ^ 20)]
def inb (lo hi : Int) : D → Bool
  | .int i => decide (lo ≤ i ∧ i ≤ hi)
  | _ => false
structure VOk (lo hi : Int) (d : D) : Prop where
  whole : m_is_whole [d, .int lo, .int hi] = .ok (.bl (inb lo hi d))
  num : m__law_is_number [d, .int lo, .int hi] = .ok (.bl (inb lo hi d))
def vok (lo hi : Int) (d : D) : Bool := isR (m_is_whole [d, .int lo, .int hi]) (.bl (inb lo hi d)) && isR (m__law_is_number [d, .int lo, .int hi]) (.bl (inb lo hi d))
theorem vok_ok {lo hi : Int} {d : D} (h : vok lo hi d = true) : VOk lo hi d := by
  unfold vok at h
  rw [Bool.and_eq_true] at h
  exact ⟨isR_ok h.1, isR_ok h.2⟩
theorem base_all : (baseVs.all (vok 2 3)) = true := by decide +kernel
theorem field_all : (fieldVs.all (vok 1 3)) = true := by decide +kernel
theorem cell_all : (cellVs.all (vok 0 2)) = true := by decide +kernel
theorem inb_int {lo hi : Int} {d : D} (h : inb lo hi d = true) : ∃ i : Int, d = .int i ∧ lo ≤ i ∧ i ≤ hi := by
  cases d <;> first | (cases h; done) | skip
  exact ⟨_, rfl, (of_decide_eq_true h).1, (of_decide_eq_true h).2⟩
def rowsLen (b n : Int) : Bool := match m_number_rows [.int b, .int n] with
  | .ok (.lst xs) => decide (xs.length ≤ 1000) && (decide (81 < xs.length) == decide (b = 3 ∧ 4 < n))
  | _ => false
theorem rows_all : (([2, 3] : List Int).all fun b => ([1, 2, 3, 4, 5] : List Int).all fun n => rowsLen b n) = true := by decide +kernel
theorem rows_ok {b n : Int} (hb : 2 ≤ b ∧ b ≤ 3) (hn : 1 ≤ n ∧ n ≤ 5) : ∃ xs : List D, m_number_rows [.int b, .int n] = .ok (.lst xs) ∧ decide (81 < xs.length) = decide (b = 3 ∧ 4 < n) := by
  have b2 : b ∈ ([2, 3] : List Int) := by simp only [List.mem_cons, List.not_mem_nil, or_false]; omega
  have n2 : n ∈ ([1, 2, 3, 4, 5] : List Int) := by simp only [List.mem_cons, List.not_mem_nil, or_false]; omega
  have h := (List.all_eq_true.mp ((List.all_eq_true.mp rows_all) b b2)) n n2
  unfold rowsLen at h
  split at h
  · rename_i xs e
    rw [Bool.and_eq_true] at h
    exact ⟨xs, e, eq_of_beq h.2⟩
  · cases h
def big (b f c : Int) : Bool := decide (b = 3 ∧ 4 < f + c)
abbrev wpTail : En → Out := sSeq (sIf (bOr (bNot (eB (eAt (gIsi isiT_tuple) (eVar 3)))) (bNot (eB (eChain cLe cLe (eC (.int 1)) (eCall fLen (aCons (eVar 3) (aNil))) (eC (.int 3)))))) (sRet (eC (.str w_PLACES))) (sNext)) (sSeq (sFor (eEnT (aCons (eVar 3) (aNil))) (gT 2 (gsCons (gV 5) (gsCons (gV 6) (gsNil)))) (sIf (bNot (eB (eCall m_pair_fits (aCons (eVar 6) (aCons (eVar 0) (aCons (eCall (fun ds => insR 0 (i_Key ds)) (aCons (eCall m_usable_names (aCons (eVar 1) (aCons (eVar 2) (aCons (eVar 5) (aNil))))) (aNil))) (aNil))))))) (sRet (eC (.str w_PLACES))) (sNext))) (sSeq (sIf (bAnd (eB (eBin (gNotN) (eVar 4) (eC .non))) (bNot (eB (eCall m_drops_fit (aCons (eVar 4) (aCons (eVar 2) (aCons (eCall fLen (aCons (eVar 3) (aNil))) (aNil)))))))) (sRet (eC (.str w_DROPS))) (sNext)) (sRet (eC .non))))
abbrev lwTail : En → Out := sSeq (sIf (bOr (eB (eBin (gEq true) (eVar 4) (eC (.int 0)))) (bNot (eB (eChain cLe cLe (eC (.int 1)) (eCall fLen (aCons (eVar 3) (aNil))) (eC (.int 3)))))) (sRet (eC (.str w_PLACES))) (sNext)) (sSeq (sIf (bNot (eB (eCall fAll (aCons (eLc [6, 7] (eEnT (aCons (eVar 3) (aNil))) (gT 2 (gsCons (gV 6) (gsCons (gV 7) (gsNil)))) (bYes) (eCall m__law_is_place (aCons (eTup (aCons (eVar 0) (aCons (eVar 1) (aCons (eVar 2) (aNil))))) (aCons (eVar 6) (aCons (eVar 7) (aNil)))))) (aNil))))) (sRet (eC (.str w_PLACES))) (sNext)) (sRet (eIf (eB (eCall m__law_are_drops (aCons (eVar 2) (aCons (eCall fLen (aCons (eVar 3) (aNil))) (aCons (eVar 5) (aNil)))))) (eC .non) (eC (.str w_DROPS)))))
abbrev wpBody : En → Out := sIf (bNot (eB (eCall m_pair_fits (aCons (eVar 6) (aCons (eVar 0) (aCons (eCall (fun ds => insR 0 (i_Key ds)) (aCons (eCall m_usable_names (aCons (eVar 1) (aCons (eVar 2) (aCons (eVar 5) (aNil))))) (aNil))) (aNil))))))) (sRet (eC (.str w_PLACES))) (sNext)
theorem head_ok {b f c : D} (hb : b ∈ baseVs) (hf : f ∈ fieldVs) (hc : c ∈ cellVs) :
    (∃ x, (x = w_BASE ∨ x = w_FIELDS ∨ x = w_CELLS) ∧ (∀ pl dr, m_wrong_part [b, f, c, pl, dr] = .ok (.str x)) ∧ ∀ rows kind gone, m__law_wrong [b, f, c, rows, kind, gone] = .ok (.str x)) ∨
    (∃ (bi : Int) (fi ci : Nat), b = .int bi ∧ f = .int fi ∧ c = .int ci ∧ 2 ≤ bi ∧ bi ≤ 3 ∧ 1 ≤ fi ∧ fi ≤ 3 ∧ ci ≤ 2 ∧ (∀ pl dr, m_wrong_part [b, f, c, pl, dr] = outR (wpTail [.sh b, .sh f, .sh c, .sh pl, .sh dr, .no, .no])) ∧
      ∀ rows kind gone, m__law_wrong [b, f, c, rows, kind, gone] = outR (lwTail [.sh b, .sh f, .sh c, .sh rows, .sh kind, .sh gone, .no, .no])) := by
  have vb := vok_ok ((List.all_eq_true.mp base_all) b hb)
  have vf := vok_ok ((List.all_eq_true.mp field_all) f hf)
  have vc := vok_ok ((List.all_eq_true.mp cell_all) c hc)
  have p0 : ∀ pl dr, m_wrong_part [b, f, c, pl, dr] = outR (b_wrong_part [.sh b, .sh f, .sh c, .sh pl, .sh dr, .no, .no]) := fun _ _ => rfl
  have l0 : ∀ rows kind gone, m__law_wrong [b, f, c, rows, kind, gone] = outR (b__law_wrong [.sh b, .sh f, .sh c, .sh rows, .sh kind, .sh gone, .no, .no]) := fun _ _ _ => rfl
  have pb : ∀ pl dr, bNot (eB (eCall m_is_whole (aCons (eVar 0) (aCons (eC (.int 2)) (aCons (eC (.int 3)) (aNil)))))) [.sh b, .sh f, .sh c, .sh pl, .sh dr, .no, .no] = .ok (!inb 2 3 b) := fun pl dr => bNot_ok (eB_ok (by rw [eCall3 (a := b) rfl rfl rfl, vb.whole]))
  have lb : ∀ rows kind gone, bNot (eB (eCall m__law_is_number (aCons (eVar 0) (aCons (eC (.int 2)) (aCons (eC (.int 3)) (aNil)))))) [.sh b, .sh f, .sh c, .sh rows, .sh kind, .sh gone, .no, .no] = .ok (!inb 2 3 b) := fun pl dr _ => bNot_ok (eB_ok (by rw [eCall3 (a := b) rfl rfl rfl, vb.num]))
  have pf : ∀ pl dr, bNot (eB (eCall m_is_whole (aCons (eVar 1) (aCons (eC (.int 1)) (aCons (eC (.int 3)) (aNil)))))) [.sh b, .sh f, .sh c, .sh pl, .sh dr, .no, .no] = .ok (!inb 1 3 f) := fun pl dr => bNot_ok (eB_ok (by rw [eCall3 (a := f) rfl rfl rfl, vf.whole]))
  have lf : ∀ rows kind gone, bNot (eB (eCall m__law_is_number (aCons (eVar 1) (aCons (eC (.int 1)) (aCons (eC (.int 3)) (aNil)))))) [.sh b, .sh f, .sh c, .sh rows, .sh kind, .sh gone, .no, .no] = .ok (!inb 1 3 f) := fun pl dr _ => bNot_ok (eB_ok (by rw [eCall3 (a := f) rfl rfl rfl, vf.num]))
  have pc : ∀ pl dr, bNot (eB (eCall m_is_whole (aCons (eVar 2) (aCons (eC (.int 0)) (aCons (eC (.int 2)) (aNil)))))) [.sh b, .sh f, .sh c, .sh pl, .sh dr, .no, .no] = .ok (!inb 0 2 c) := fun pl dr => bNot_ok (eB_ok (by rw [eCall3 (a := c) rfl rfl rfl, vc.whole]))
  have lc : ∀ rows kind gone, bNot (eB (eCall m__law_is_number (aCons (eVar 2) (aCons (eC (.int 0)) (aCons (eC (.int 2)) (aNil)))))) [.sh b, .sh f, .sh c, .sh rows, .sh kind, .sh gone, .no, .no] = .ok (!inb 0 2 c) := fun pl dr _ => bNot_ok (eB_ok (by rw [eCall3 (a := c) rfl rfl rfl, vc.num]))
  cases qb : inb 2 3 b with
  | false =>
    rw [qb] at pb lb
    refine .inl ⟨w_BASE, .inl rfl, fun pl dr => ?_, fun rows kind gone => ?_⟩
    · rw [p0]; exact step_ret (pb pl dr) rfl
    · rw [l0]; exact step_ret (lb rows kind gone) rfl
  | true =>
  cases qf : inb 1 3 f with
  | false =>
    rw [qb] at pb lb
    rw [qf] at pf lf
    refine .inl ⟨w_FIELDS, .inr (.inl rfl), fun pl dr => ?_, fun rows kind gone => ?_⟩
    · rw [p0]; exact (congrArg outR (step_if (pb pl dr))).trans (step_ret (pf pl dr) rfl)
    · rw [l0]; exact (congrArg outR (step_if (lb rows kind gone))).trans (step_ret (lf rows kind gone) rfl)
  | true =>
  rw [qb] at pb lb
  rw [qf] at pf lf
  obtain ⟨bi, rfl, b1, b2⟩ := inb_int qb
  obtain ⟨fj, rfl, f1, f2⟩ := inb_int qf
  obtain ⟨fi, rfl⟩ := Int.eq_ofNat_of_zero_le (show 0 ≤ fj by omega)
  cases qc : inb 0 2 c with
  | false =>
    rw [qc] at pc lc
    refine .inl ⟨w_CELLS, .inr (.inr rfl), fun pl dr => ?_, fun rows kind gone => ?_⟩
    · rw [p0]; exact (congrArg outR (step_if (pb pl dr))).trans ((congrArg outR (step_if (pf pl dr))).trans (step_ret (bOr_yes (pc pl dr)) rfl))
    · rw [l0]; exact (congrArg outR (step_if (lb rows kind gone))).trans ((congrArg outR (step_if (lf rows kind gone))).trans (step_ret (bOr_yes (lc rows kind gone)) rfl))
  | true =>
  rw [qc] at pc lc
  obtain ⟨cj, rfl, c1, c2⟩ := inb_int qc
  obtain ⟨ci, rfl⟩ := Int.eq_ofNat_of_zero_le c1
  obtain ⟨xs, hx, hl⟩ := rows_ok (b := bi) (n := (fi : Int) + ci) ⟨b1, b2⟩ ⟨by omega, by omega⟩
  have pg : ∀ pl dr, eB (eBin (gGtI) (eCall (fAlt (fLenOwn 0 m_Key_len) (fAlt (fLenOwn 1 m_Recipe_len) (fAlt (fLenOwn 2 m_Plan_len) (fLen)))) (aCons (eCall m_number_rows (aCons (eVar 0) (aCons (eBin (gAddW) (eVar 1) (eVar 2)) (aNil)))) (aNil))) (eC (.int 81))) [.sh (.int bi), .sh (.int fi), .sh (.int ci), .sh pl, .sh dr, .no, .no] = .ok (big bi fi ci) := fun pl dr => eB_ok (by
    rw [bin_ok (x := .int xs.length) (y := .int 81) (by rw [eCall1 (d := .lst xs) (by rw [eCall2 (d := .int bi) (d' := .int ((fi : Int) + ci)) rfl rfl, hx])]; rfl) rfl]
    show Res.ok (D.bl (decide ((81 : Int) < xs.length))) = _
    have : decide ((81 : Int) < xs.length) = decide (81 < xs.length) := by
      rw [Bool.eq_iff_iff, decide_eq_true_iff, decide_eq_true_iff]; omega
    rw [this, hl]; rfl)
  have lg : ∀ rows kind gone, bAnd (eB (eBin (gEq false) (eVar 0) (eC (.int 3)))) (eB (eBin (gGtI) (eBin (gAddW) (eVar 1) (eVar 2)) (eC (.int 4)))) [.sh (.int bi), .sh (.int fi), .sh (.int ci), .sh rows, .sh kind, .sh gone, .no, .no] = .ok (big bi fi ci) := fun rows kind gone => by
    refine (bAnd_any (a := bi == 3) (b := decide (4 < (fi : Int) + ci)) (eB_ok (by rw [bin_ok (x := .int bi) (y := .int 3) rfl rfl, eq_int]; rfl)) fun _ => rfl).trans ?_
    refine congrArg Res.ok ?_
    unfold big
    rw [Bool.eq_iff_iff, Bool.and_eq_true, beq_iff_eq, decide_eq_true_iff, decide_eq_true_iff]
  cases qg : big bi fi ci with
  | true =>
    rw [qg] at pg lg
    refine .inl ⟨w_CELLS, .inr (.inr rfl), fun pl dr => ?_, fun rows kind gone => ?_⟩
    · rw [p0]; exact (congrArg outR (step_if (pb pl dr))).trans ((congrArg outR (step_if (pf pl dr))).trans (step_ret (bOr_no (pc pl dr) (pg pl dr)) rfl))
    · rw [l0]; exact (congrArg outR (step_if (lb rows kind gone))).trans ((congrArg outR (step_if (lf rows kind gone))).trans (step_ret (bOr_no (lc rows kind gone) (lg rows kind gone)) rfl))
  | false =>
    rw [qg] at pg lg
    refine .inr ⟨bi, fi, ci, rfl, rfl, rfl, b1, b2, by omega, by omega, by omega, fun pl dr => ?_, fun rows kind gone => ?_⟩
    · rw [p0]; exact (congrArg outR (step_if (pb pl dr))).trans ((congrArg outR (step_if (pf pl dr))).trans (congrArg outR (step_if (bOr_no (pc pl dr) (pg pl dr)))))
    · rw [l0]; exact (congrArg outR (step_if (lb rows kind gone))).trans ((congrArg outR (step_if (lf rows kind gone))).trans (congrArg outR (step_if (bOr_no (lc rows kind gone) (lg rows kind gone)))))
end Lw
namespace Lw
open PySem Dl
abbrev Row := List Lf × Ru
def gv (p : Row) : D := .tup [rD p.1, ruD p.2]
def lw (p : Row) : D := .tup [fD p.1, ruD p.2]
def RowOk (p : Row) : Prop := Ls p.1 ∧ RuG p.2
def okP (b : Int) (f c : Nat) (i : Nat) : List Row → Bool
  | [] => true
  | p :: ps => pok b (us f c i) p.1 p.2 && okP b f c (i + 1) ps
theorem us_all0 : ((List.range 4).all fun f => (List.range 3).all fun c => (List.range 3).all fun a => decide (ord (us f c a) = us f c a) && (us f c a).all fun x => decide (x ∈ nm7)) = true := by decide +kernel
theorem us_all (f : Nat) (hf : f < 4) (c : Nat) (hc : c < 3) (a : Nat) (ha : a < 3) : ord (us f c a) = us f c a ∧ ∀ x ∈ us f c a, x ∈ nm7 := by
  have h := (List.all_eq_true.mp ((List.all_eq_true.mp ((List.all_eq_true.mp us_all0) f (List.mem_range.mpr hf))) c (List.mem_range.mpr hc))) a (List.mem_range.mpr ha)
  rw [Bool.and_eq_true, decide_eq_true_iff, List.all_eq_true] at h
  exact ⟨h.1, fun x hx => of_decide_eq_true (h.2 x hx)⟩
theorem us_len (f c a : Nat) : (us f c a).length ≤ 7 := by
  have := take_small [w_f0, w_f1, w_f2] f 3 (by decide); have := take_small [w_c0, w_c1] c 2 (by decide); have := take_small [w_p0, w_p1] a 2 (by decide)
  unfold us
  rw [List.length_append, List.length_append]; omega
theorem usable_ok (f c a : Nat) : m_usable_names [.int f, .int c, .int a] = .ok (.tup (ds (us f c a))) := by
  show outR (b_usable_names [.sh (.int f), .sh (.int c), .sh (.int a)]) = _
  unfold b_usable_names
  refine ret_ok ?_
  rw [bin_ok (x := .tup (ds ([w_f0, w_f1, w_f2].take f ++ [w_c0, w_c1].take c))) (y := .tup (ds ([w_p0, w_p1].take a))) (by
    rw [bin_ok (x := .tup (ds ([w_f0, w_f1, w_f2].take f))) (y := .tup (ds ([w_c0, w_c1].take c))) (cutT [w_f0, w_f1, w_f2] f rfl rfl) (cutT [w_c0, w_c1] c rfl rfl), catT_ok _ _ (by
      have := take_small [w_f0, w_f1, w_f2] f 3 (by decide); have := take_small [w_c0, w_c1] c 2 (by decide)
      rw [List.length_map, List.length_map]; omega), ← List.map_append]) (cutT [w_p0, w_p1] a rfl rfl), catT_ok _ _ (by
      have := take_small [w_f0, w_f1, w_f2] f 3 (by decide); have := take_small [w_c0, w_c1] c 2 (by decide); have := take_small [w_p0, w_p1] a 2 (by decide)
      rw [List.length_map, List.length_map, List.length_append]; omega), ← List.map_append]
  rfl
inductive PF (b : Int) (f c : Nat) : Nat → List D → Bool → Prop
  | nil (i) : PF b f c i [] true
  | cons {i x xs p q} : m_pair_fits [x, .int b, K (us f c i)] = .ok (.bl p) → PF b f c (i + 1) xs q → PF b f c i (x :: xs) (p && q)
theorem pf_rows {b : Int} {f c : Nat} : ∀ {i : Nat} {ps : List Row}, (∀ p ∈ ps, RowOk p) → PF b f c i (ps.map gv) (okP b f c i ps)
  | i, [], _ => .nil i
  | i, p :: ps, h => .cons (pair_fits_ok (h p (List.mem_cons_self ..)).1 (h p (List.mem_cons_self ..)).2 b _) (pf_rows fun x hx => h x (List.mem_cons_of_mem _ hx))
theorem PF.app {b : Int} {f c : Nat} {x : D} (hx : ∀ i, m_pair_fits [x, .int b, K (us f c i)] = .ok (.bl false)) : ∀ {i : Nat} {xs : List D} {p : Bool}, PF b f c i xs p → PF b f c i (xs ++ [x]) false
  | _, _, _, .nil i => by
    have := PF.cons (p := false) (hx i) (PF.nil (i + 1))
    exact this
  | _, _, _, .cons (p := p) h t => by
    have := PF.cons h (PF.app hx t)
    rw [Bool.and_false] at this
    exact this
abbrev wEnv (b : Int) (f c : Nat) (pl dr : D) (a5 a6 : Sl) : En := [.sh (.int b), .sh (.int f), .sh (.int c), .sh pl, .sh dr, a5, a6]
theorem wp_loop {b : Int} {f c : Nat} (hf : f < 4) (hc : c < 3) (pl dr : D) : ∀ {i : Nat} {xs : List D} {ok : Bool} (a5 a6 : Sl), PF b f c i xs ok → i + xs.length ≤ 3 →
    (ok = true → ∃ x y, forL (gT 2 (gsCons (gV 5) (gsCons (gV 6) (gsNil)))) wpBody (enD i xs) (wEnv b f c pl dr a5 a6) = .nx (wEnv b f c pl dr x y)) ∧
    (ok = false → forL (gT 2 (gsCons (gV 5) (gsCons (gV 6) (gsNil)))) wpBody (enD i xs) (wEnv b f c pl dr a5 a6) = .rt (.str w_PLACES))
  | _, _, _, a5, a6, .nil i, _ => ⟨fun _ => ⟨a5, a6, rfl⟩, fun h => (nomatch h)⟩
  | i, _, _, a5, a6, .cons (x := x) (xs := xs) (p := p) (q := q) h t, hl => by
    rw [List.length_cons] at hl
    have ih := wp_loop hf hc pl dr (.sh (.int i)) (.sh x) t (by omega)
    have u := us_all f hf c hc i (by omega)
    have e : bNot (eB (eCall m_pair_fits (aCons (eVar 6) (aCons (eVar 0) (aCons (eCall (fun ds => insR 0 (i_Key ds)) (aCons (eCall m_usable_names (aCons (eVar 1) (aCons (eVar 2) (aCons (eVar 5) (aNil))))) (aNil))) (aNil)))))) (wEnv b f c pl dr (.sh (.int i)) (.sh x)) = .ok (!p) := bNot_ok (eB_ok (by
      rw [eCall3 (a := x) (b := .int b) (c := K (us f c i)) rfl rfl (by
        rw [eCall1 (d := .tup (ds (us f c i))) (by rw [eCall3 (a := .int f) (b := .int c) (c := .int i) rfl rfl rfl, usable_ok])]
        show insR 0 (i_Key [.tup (ds (us f c i))]) = _
        rw [mk_ok (us f c i) _ (.inr rfl) ⟨u.2, Nat.le_trans (us_len f c i) (by decide)⟩, u.1]), h]))
    have g : gT 2 (gsCons (gV 5) (gsCons (gV 6) (gsNil))) (.tup [.int (i : Nat), x]) (wEnv b f c pl dr a5 a6) = some (wEnv b f c pl dr (.sh (.int i)) (.sh x)) := rfl
    cases p with
    | true =>
      have e2 : wpBody (wEnv b f c pl dr (.sh (.int i)) (.sh x)) = .nx (wEnv b f c pl dr (.sh (.int i)) (.sh x)) := sif_no e
      have s := forL_cons (dl := enD (i + 1) xs) g e2
      rw [Bool.true_and]
      exact ⟨fun z => by obtain ⟨y1, y2, z⟩ := ih.1 z; exact ⟨y1, y2, s.trans z⟩, fun z => s.trans (ih.2 z)⟩
    | false =>
      refine ⟨fun z => (nomatch z), fun _ => ?_⟩
      have e2 : wpBody (wEnv b f c pl dr (.sh (.int i)) (.sh x)) = .rt (.str w_PLACES) := sif_yes e
      show forL (gT 2 (gsCons (gV 5) (gsCons (gV 6) (gsNil)))) wpBody (.tup [.int (i : Nat), x] :: enD (i + 1) xs) _ = _
      unfold forL
      rw [g]
      dsimp only
      rw [e2]
/-- what both say of the drops -/
structure DrOk (c n : Nat) (dr : D) (okD : Bool) : Prop where
  prog : bAnd (eB (eBin (gNotN) (eC dr) (eC .non))) (bNot (eB (eCall m_drops_fit (aCons (eC dr) (aCons (eC (.int c)) (aCons (eC (.int n)) (aNil))))))) [] = .ok (!okD)
  law : m__law_are_drops [.int c, .int n, dr] = .ok (.bl okD)
def outW (okp okd : Bool) : D := if okp = true then if okd = true then .non else .str w_DROPS else .str w_PLACES
theorem wp_bad {b : Int} {f c : Nat} {pl dr : D} (h : ∀ a5 a6, bOr (bNot (eB (eAt (gIsi isiT_tuple) (eVar 3)))) (bNot (eB (eChain cLe cLe (eC (.int 1)) (eCall fLen (aCons (eVar 3) (aNil))) (eC (.int 3))))) (wEnv b f c pl dr a5 a6) = .ok true) : outR (wpTail (wEnv b f c pl dr .no .no)) = .ok (.str w_PLACES) := step_ret (h _ _) rfl
theorem len_test (n : Nat) : (if cLe 1 n = true then Res.ok (D.bl (cLe n 3)) else .ok (.bl false)) = .ok (.bl (decide (1 ≤ n ∧ n ≤ 3))) := by
  unfold cLe
  by_cases h : (1 : Int) ≤ n
  · rw [if_pos (decide_eq_true h)]
    refine congrArg (fun x => Res.ok (D.bl x)) ?_
    rw [Bool.eq_iff_iff, decide_eq_true_iff, decide_eq_true_iff]; omega
  · rw [if_neg (by rw [decide_eq_true_iff]; exact h)]
    refine congrArg (fun x => Res.ok (D.bl x)) ?_
    rw [Bool.eq_iff_iff, decide_eq_true_iff]
    constructor
    · intro z; cases z
    · intro z; omega
theorem len_chain (i : Nat) (xs : List D) (env : En) (h : eVar i env = .ok (.tup xs)) : eB (eChain cLe cLe (eC (.int 1)) (eCall fLen (aCons (eVar i) (aNil))) (eC (.int 3))) env = .ok (decide (1 ≤ xs.length ∧ xs.length ≤ 3)) := eB_ok (by
  have e : eCall fLen (aCons (eVar i) (aNil)) env = .ok (.int xs.length) := by rw [eCall1 h]; rfl
  unfold eChain
  rw [e]
  exact len_test xs.length)
theorem wp_tail {b : Int} {f c : Nat} (hf : f < 4) (hc : c < 3) {xs : List D} {dr : D} {okp okd : Bool} (hp : PF b f c 0 xs okp) (hd : 1 ≤ xs.length ∧ xs.length ≤ 3 → okp = true → DrOk c xs.length dr okd) :
    outR (wpTail (wEnv b f c (.tup xs) dr .no .no)) = .ok (outW (decide (1 ≤ xs.length ∧ xs.length ≤ 3) && okp) okd) := by
  have t : ∀ a5 a6, bOr (bNot (eB (eAt (gIsi isiT_tuple) (eVar 3)))) (bNot (eB (eChain cLe cLe (eC (.int 1)) (eCall fLen (aCons (eVar 3) (aNil))) (eC (.int 3))))) (wEnv b f c (.tup xs) dr a5 a6) = .ok (!decide (1 ≤ xs.length ∧ xs.length ≤ 3)) := fun a5 a6 => (bOr_any (a := false) rfl fun _ => bNot_ok (len_chain 3 xs _ rfl)).trans (by rw [Bool.false_or])
  cases q : decide (1 ≤ xs.length ∧ xs.length ≤ 3) with
  | false =>
    rw [q] at t
    rw [wp_bad t]; rfl
  | true =>
    rw [q] at t
    have hl := of_decide_eq_true q
    refine (congrArg outR (step_if (t .no .no))).trans ?_
    obtain ⟨l1, l2⟩ := wp_loop hf hc (.tup xs) dr .no .no hp (by omega)
    have src : eEnT (aCons (eVar 3) (aNil)) (wEnv b f c (.tup xs) dr .no .no) = .ok (enD 0 xs) := rfl
    cases okp with
    | false =>
      have e : sFor (eEnT (aCons (eVar 3) (aNil))) (gT 2 (gsCons (gV 5) (gsCons (gV 6) (gsNil)))) wpBody (wEnv b f c (.tup xs) dr .no .no) = .rt (.str w_PLACES) := by
        unfold sFor; rw [src]; exact l2 rfl
      exact congrArg outR (seq_rt e)
    | true =>
      obtain ⟨x, y, e⟩ := l1 rfl
      refine (congrArg outR (for_ok src e)).trans ?_
      have d : bAnd (eB (eBin (gNotN) (eVar 4) (eC .non))) (bNot (eB (eCall m_drops_fit (aCons (eVar 4) (aCons (eVar 2) (aCons (eCall fLen (aCons (eVar 3) (aNil))) (aNil))))))) (wEnv b f c (.tup xs) dr x y) = .ok (!okd) := (hd hl rfl).prog
      cases okd with
      | false => exact step_ret d rfl
      | true => exact (congrArg outR (step_if d)).trans rfl
theorem enD_map (g : Row → D) : ∀ (i : Nat) (ps : List Row), enD i (ps.map g) = (ps.zipIdx i).map fun p => D.tup [.int (p.2 : Nat), g p.1]
  | _, [] => rfl
  | i, p :: ps => by
    show D.tup [.int i, g p] :: enD (i + 1) (ps.map g) = _
    rw [enD_map g (i + 1) ps]
    rfl
theorem okP_zip (b : Int) (f c : Nat) : ∀ (i : Nat) (ps : List Row), ((ps.zipIdx i).all fun p => pok b (us f c p.2) p.1.1 p.1.2) = okP b f c i ps
  | _, [] => rfl
  | i, p :: ps => by
    rw [List.zipIdx_cons, List.all_cons, okP_zip b f c (i + 1) ps]
    rfl
abbrev lEnv (b : Int) (f c : Nat) (rows kind gone : D) : En := [.sh (.int b), .sh (.int f), .sh (.int c), .sh rows, .sh kind, .sh gone, .no, .no]
theorem lw_tail {b : Int} {f c : Nat} {ps : List Row} (h : ∀ p ∈ ps, RowOk p) {k : Int} {dr : D} {okd : Bool} (hd : k = 0 → 1 ≤ ps.length ∧ ps.length ≤ 3 → okP b f c 0 ps = true → DrOk c ps.length dr okd) :
    outR (lwTail (lEnv b f c (.tup (ps.map lw)) (.int k) dr)) = .ok (outW (decide (k = 0) && (decide (1 ≤ ps.length ∧ ps.length ≤ 3) && okP b f c 0 ps)) okd) := by
  have hm : (ps.map lw).length = ps.length := List.length_map ..
  have t : bOr (eB (eBin (gEq true) (eVar 4) (eC (.int 0)))) (bNot (eB (eChain cLe cLe (eC (.int 1)) (eCall fLen (aCons (eVar 3) (aNil))) (eC (.int 3))))) (lEnv b f c (.tup (ps.map lw)) (.int k) dr) = .ok (!(decide (k = 0) && decide (1 ≤ ps.length ∧ ps.length ≤ 3))) := by
    refine (bOr_any (a := !decide (k = 0)) (b := !decide (1 ≤ ps.length ∧ ps.length ≤ 3)) (eB_ok (by
      rw [bin_ok (x := .int k) (y := .int 0) rfl rfl, eq_int]
      refine congrArg (fun x => Res.ok (D.bl x)) ?_
      show (!(k == 0)) = _
      by_cases z : k = 0 <;> simp [z])) fun _ => by
        have := bNot_ok (len_chain 3 (ps.map lw) (lEnv b f c (.tup (ps.map lw)) (.int k) dr) rfl)
        rw [hm] at this
        exact this).trans ?_
    rw [Bool.not_and]
  cases q : decide (k = 0) && decide (1 ≤ ps.length ∧ ps.length ≤ 3) with
  | false =>
    rw [q] at t
    rw [← Bool.and_assoc, q]
    exact step_ret t rfl
  | true =>
    rw [q] at t
    rw [← Bool.and_assoc, q, Bool.true_and]
    rw [Bool.and_eq_true, decide_eq_true_iff, decide_eq_true_iff] at q
    refine (congrArg outR (step_if t)).trans ?_
    have z := eLc_ok (vs := [6, 7]) (fi := eEnT (aCons (eVar 3) (aNil))) (h := gT 2 (gsCons (gV 6) (gsCons (gV 7) (gsNil)))) (ft := bYes) (fe := eCall m__law_is_place (aCons (eTup (aCons (eVar 0) (aCons (eVar 1) (aCons (eVar 2) (aNil))))) (aCons (eVar 6) (aCons (eVar 7) (aNil))))) (env := lEnv b f c (.tup (ps.map lw)) (.int k) dr) (ps.zipIdx 0) (fun _ => true) (fun p => D.tup [.int (p.2 : Nat), lw p.1]) (fun p => .bl (pok b (us f c p.2) p.1.1 p.1.2)) (by rw [← enD_map]; rfl) (by rw [List.length_zipIdx]; omega) fun p hp => ⟨[.sh (.int b), .sh (.int f), .sh (.int c), .sh (.tup (ps.map lw)), .sh (.int k), .sh dr, .sh (.int (p.2 : Nat)), .sh (lw p.1)], rfl, rfl, by
        have hr := h p.1 (by have := List.mem_zipIdx hp; exact this.2.2 ▸ List.getElem_mem _)
        rw [eCall3 (a := .tup [.int b, .int f, .int c]) (b := .int (p.2 : Nat)) (c := lw p.1) rfl rfl rfl]
        exact place_ok hr.1 hr.2 b f c p.2⟩
    rw [filt_true] at z
    have a : bNot (eB (eCall fAll (aCons (eLc [6, 7] (eEnT (aCons (eVar 3) (aNil))) (gT 2 (gsCons (gV 6) (gsCons (gV 7) (gsNil)))) (bYes) (eCall m__law_is_place (aCons (eTup (aCons (eVar 0) (aCons (eVar 1) (aCons (eVar 2) (aNil))))) (aCons (eVar 6) (aCons (eVar 7) (aNil)))))) (aNil)))) (lEnv b f c (.tup (ps.map lw)) (.int k) dr) = .ok (!okP b f c 0 ps) := bNot_ok (eB_ok (by rw [eCall1 z, fAll_ok, okP_zip]))
    cases q2 : okP b f c 0 ps with
    | false => rw [q2] at a; exact step_ret a rfl
    | true =>
      rw [q2] at a
      refine (congrArg outR (step_if a)).trans ?_
      refine ret_ok ?_
      rw [if_ok (b := okd) (eB_ok (by
        rw [eCall3 (a := .int c) (b := .int ps.length) (c := dr) rfl (by rw [eCall1 (d := .tup (ps.map lw)) rfl]; show Res.ok (D.int ((ps.map lw).length : Nat)) = _; rw [hm]) rfl]
        exact (hd q.1 q.2 q2).law))]
      cases okd <;> rfl
end Lw
namespace Lw
open PySem Dl
def pw : List Nat → List (List Nat)
  | [] => [[]]
  | x :: xs => pw xs ++ (pw xs).map (x :: ·)
theorem pw_filter (p : Nat → Bool) : ∀ xs : List Nat, xs.filter p ∈ pw xs
  | [] => List.mem_singleton.mpr rfl
  | x :: xs => by
    have ih := pw_filter p xs
    unfold pw
    rw [List.filter_cons]
    split
    · exact List.mem_append_right _ (List.mem_map.mpr ⟨_, ih, rfl⟩)
    · exact List.mem_append_left _ ih
def rI (row : List Nat) : List D := row.map fun (k : Nat) => D.int (k : Int)
def odd (n : Nat) (row : List Nat) : List D := [.tup [.int n], .tup [.int (-1)], .tup (rI row ++ (rI row).take 1), .tup (rI row).reverse, .tup [.bl true], .lst (rI row), .non, .int 0, .tup [.str w_0]]
def itemsOf (n : Nat) (row : List Nat) : List D := .tup (rI row) :: odd n row
def items (n : Nat) : List D := (pw (List.range n)).flatMap (itemsOf n)
def asc (n : Nat) (d : D) : Bool := match m_is_ascending [d, .int n] with
  | .ok (.bl b) => b
  | _ => false
abbrev adT1 : En → Res Bool := bOr (bNot (eB (eAt (gIsi isiT_tuple) (eVar 3)))) (bNot (eB (eCall fAll (aCons (eLc [4] (eIt (eVar 3)) (gV 4) (bYes) (eCall m__law_is_number (aCons (eVar 4) (aCons (eC (.int 0)) (aCons (eBin (gSubI) (eVar 1) (eC (.int 1))) (aNil)))))) (aNil)))))
abbrev adT2 : En → Res Bool := eB (eBin (gEq true) (eCall fLst (aCons (eVar 3) (aNil))) (eAt sset (eLc [4] (eIt (eVar 3)) (gV 4) (bYes) (eCall fInt (aCons (eVar 4) (aNil))))))
abbrev adB : En → Out := sSeq (sIf (bOr (bNot (eB (eAt (gIsi isiT_tuple) (eVar 3)))) (bNot (eB (eCall fAll (aCons (eLc [4] (eIt (eVar 3)) (gV 4) (bYes) (eCall m__law_is_number (aCons (eVar 4) (aCons (eC (.int 0)) (aCons (eBin (gSubI) (eVar 1) (eC (.int 1))) (aNil)))))) (aNil)))))) (sRet (eC (.bl false))) (sNext)) (sIf (eB (eBin (gEq true) (eCall fLst (aCons (eVar 3) (aNil))) (eAt sset (eLc [4] (eIt (eVar 3)) (gV 4) (bYes) (eCall fInt (aCons (eVar 4) (aNil))))))) (sRet (eC (.bl false))) (sNext))
abbrev adEnv (c : Int) (n : Nat) (gone : D) (s : Sl) : En := [.sh (.int c), .sh (.int n), .sh gone, s, .no]
def isB (r : Res Bool) (b : Bool) : Bool := match r with
  | .ok a => a == b
  | _ => false
theorem isB_ok {r : Res Bool} {b : Bool} (h : isB r b = true) : r = .ok b := by
  unfold isB at h
  split at h
  · rw [eq_of_beq h]
  · cases h
def chk (c : Int) (gone : D) (n : Nat) (d : D) : Bool := isR (m_is_ascending [d, .int n]) (.bl (asc n d)) && ((isB (adT1 (adEnv c n gone (.sh d))) true && !asc n d) || (isB (adT1 (adEnv c n gone (.sh d))) false && isB (adT2 (adEnv c n gone (.sh d))) (!asc n d)))
theorem items_all (c : Int) (gone : D) : (((items 1).all (chk c gone 1) && (items 2).all (chk c gone 2)) && (items 3).all (chk c gone 3)) = true := by kernel_rfl
structure ItOk (c : Int) (gone : D) (n : Nat) (d : D) : Prop where
  prog : m_is_ascending [d, .int n] = .ok (.bl (asc n d))
  law : (adT1 (adEnv c n gone (.sh d)) = .ok true ∧ asc n d = false) ∨ (adT1 (adEnv c n gone (.sh d)) = .ok false ∧ adT2 (adEnv c n gone (.sh d)) = .ok (!asc n d))
theorem it_ok {c : Int} {gone : D} {n : Nat} {d : D} (hn : 1 ≤ n ∧ n ≤ 3) (h : d ∈ items n) : ItOk c gone n d := by
  have a := items_all c gone
  rw [Bool.and_eq_true, Bool.and_eq_true, List.all_eq_true, List.all_eq_true, List.all_eq_true] at a
  have k : chk c gone n d = true := by
    have : n = 1 ∨ n = 2 ∨ n = 3 := by omega
    rcases this with rfl | rfl | rfl
    · exact a.1.1 d h
    · exact a.1.2 d h
    · exact a.2 d h
  unfold chk at k
  rw [Bool.and_eq_true, Bool.or_eq_true, Bool.and_eq_true, Bool.and_eq_true] at k
  refine ⟨isR_ok k.1, ?_⟩
  rcases k.2 with k | k
  · exact .inl ⟨isB_ok k.1, by cases q : asc n d <;> simp_all⟩
  · exact .inr ⟨isB_ok k.1, isB_ok k.2⟩
theorem ad_loop {c : Int} {gone : D} {n : Nat} (hn : 1 ≤ n ∧ n ≤ 3) : ∀ (xs : List D) (s : Sl), (∀ x ∈ xs, x ∈ items n) →
    (xs.all (asc n) = true → ∃ t, forL (gV 3) adB xs (adEnv c n gone s) = .nx (adEnv c n gone t)) ∧ (xs.all (asc n) = false → forL (gV 3) adB xs (adEnv c n gone s) = .rt (.bl false))
  | [], s, _ => ⟨fun _ => ⟨s, rfl⟩, fun h => (nomatch h)⟩
  | x :: xs, s, H => by
    have ih := ad_loop (c := c) (gone := gone) hn xs (.sh x) fun y hy => H y (List.mem_cons_of_mem _ hy)
    have i := it_ok (c := c) (gone := gone) hn (H x (List.mem_cons_self ..))
    have g : gV 3 x (adEnv c n gone s) = some (adEnv c n gone (.sh x)) := rfl
    rw [List.all_cons]
    have no : adB (adEnv c n gone (.sh x)) = .rt (.bl false) → forL (gV 3) adB (x :: xs) (adEnv c n gone s) = .rt (.bl false) := fun e => by
      unfold forL
      rw [g]
      dsimp only
      rw [e]
    rcases i.law with ⟨h1, h2⟩ | ⟨h1, h2⟩
    · rw [h2]
      exact ⟨fun h => (nomatch h), fun _ => no (Dl.step_ret h1 rfl)⟩
    · cases q : asc n x with
      | false =>
        rw [q] at h2
        exact ⟨fun h => (nomatch h), fun _ => no ((Dl.step_if h1).trans (sif_yes h2))⟩
      | true =>
        rw [q] at h2
        have e : adB (adEnv c n gone (.sh x)) = .nx (adEnv c n gone (.sh x)) := (Dl.step_if h1).trans (sif_no h2)
        have s := forL_cons (dl := xs) g e
        rw [Bool.true_and]
        exact ⟨fun z => by obtain ⟨t, z⟩ := ih.1 z; exact ⟨t, s.trans z⟩, fun z => s.trans (ih.2 z)⟩
/-- what may be handed in as drops -/
inductive GoneOk (n : Nat) : D → Prop
  | non : GoneOk n .non
  | tup {xs} : (∀ x ∈ xs, x ∈ items n) → xs.length ≤ 1000 → GoneOk n (.tup xs)
  | lst {xs} : GoneOk n (.lst xs)
  | five : GoneOk n (.int 5)
  | zero : GoneOk n (.str w_0)
def okD (c n : Nat) : D → Bool
  | .non => true
  | .tup xs => decide (xs.length = c) && xs.all (asc n)
  | _ => false
theorem ne_len (xs : List D) (c : Nat) : (ng true ((xs.length : Int) == (c : Int))) = !decide (xs.length = c) := by
  show (!((xs.length : Int) == (c : Int))) = _
  by_cases z : xs.length = c
  · subst z; simp
  · have : ¬ ((xs.length : Int) = (c : Int)) := by omega
    simp [z, this]
theorem dr_ok {c n : Nat} (hn : 1 ≤ n ∧ n ≤ 3) {d : D} (h : GoneOk n d) : DrOk c n d (okD c n d) := by
  cases h with
  | non => exact ⟨rfl, rfl⟩
  | lst => exact ⟨rfl, rfl⟩
  | five => exact ⟨rfl, rfl⟩
  | zero => exact ⟨rfl, rfl⟩
  | tup hx hl =>
    rename_i xs
    constructor
    · refine bAnd_yes rfl (bNot_ok (eB_ok ?_))
      rw [eCall3 (a := .tup xs) (b := .int c) (c := .int n) rfl rfl rfl]
      show outR (b_drops_fit [.sh (.tup xs), .sh (.int c), .sh (.int n), .no]) = _
      unfold b_drops_fit
      have t : bOr (bNot (eB (eAt (gIsi isiT_tuple) (eVar 0)))) (eB (eBin (gEq true) (eCall fLen (aCons (eVar 0) (aNil))) (eVar 1))) [.sh (.tup xs), .sh (.int c), .sh (.int n), .no] = .ok (!decide (xs.length = c)) := bOr_no rfl (eB_ok (by
        rw [bin_ok (x := .int xs.length) (y := .int c) (by rw [eCall1 (d := .tup xs) rfl]; rfl) rfl, eq_int, ne_len]))
      show _ = Res.ok (D.bl (decide (xs.length = c) && xs.all (asc n)))
      cases q : decide (xs.length = c) with
      | false => rw [q] at t; exact step_ret t rfl
      | true =>
        rw [q] at t
        refine (congrArg outR (step_if t)).trans ?_
        refine ret_ok ?_
        have z := eLc_ok (vs := [3]) (fi := eIt (eVar 0)) (h := gV 3) (ft := bYes) (fe := eCall m_is_ascending (aCons (eVar 3) (aCons (eVar 2) (aNil)))) (env := [.sh (.tup xs), .sh (.int c), .sh (.int n), .no]) xs (fun _ => true) id (fun d => .bl (asc n d)) (by rw [List.map_id]; rfl) (Nat.le_trans hl (by decide)) fun d hd => ⟨[.sh (.tup xs), .sh (.int c), .sh (.int n), .sh d], rfl, rfl, by
          rw [eCall2 (d := d) (d' := .int n) rfl rfl]
          exact (it_ok (c := 0) (gone := .non) hn (hx d hd)).prog⟩
        rw [filt_true] at z
        rw [eCall1 z, fAll_ok, Bool.true_and]
    · show outR (b__law_are_drops [.sh (.int c), .sh (.int n), .sh (.tup xs), .no, .no]) = _
      unfold b__law_are_drops
      refine (congrArg outR (step_if rfl)).trans ?_
      have t : bOr (bNot (eB (eAt (gIsi isiT_tuple) (eVar 2)))) (eB (eBin (gEq true) (eCall fLen (aCons (eVar 2) (aNil))) (eVar 0))) [.sh (.int c), .sh (.int n), .sh (.tup xs), .no, .no] = .ok (!decide (xs.length = c)) := bOr_no rfl (eB_ok (by
        rw [bin_ok (x := .int xs.length) (y := .int c) (by rw [eCall1 (d := .tup xs) rfl]; rfl) rfl, eq_int, ne_len]))
      show _ = Res.ok (D.bl (decide (xs.length = c) && xs.all (asc n)))
      cases q : decide (xs.length = c) with
      | false => rw [q] at t; exact step_ret t rfl
      | true =>
        rw [q] at t
        refine (congrArg outR (step_if t)).trans ?_
        obtain ⟨l1, l2⟩ := ad_loop (c := c) (gone := .tup xs) hn xs .no hx
        rw [Bool.true_and]
        cases q2 : xs.all (asc n) with
        | false =>
          have e : sFor (eIt (eVar 2)) (gV 3) adB [.sh (.int c), .sh (.int n), .sh (.tup xs), .no, .no] = .rt (.bl false) := l2 q2
          exact congrArg outR (seq_rt e)
        | true =>
          obtain ⟨t2, e⟩ := l1 q2
          exact (congrArg outR (for_ok (dl := xs) rfl e)).trans rfl
end Lw
namespace Lw
open PySem Dl
theorem numberI (ns : List Int) (hl : ns.length ≤ 63) (i : Int) (h0 : 0 ≤ i) (h : i < 100000) : ∃ v, m__law_number [.scr ns, .int i] = .ok (.int v) := by
  obtain ⟨k, rfl⟩ := Int.eq_ofNat_of_zero_le h0
  exact number_ok ns hl k (by omega)
theorem lenT {fe : En → Res D} {env : En} {xs : List D} (h : fe env = .ok (.tup xs)) : eCall fLen (aCons fe aNil) env = .ok (.int xs.length) := by
  rw [eCall1 h]; rfl
theorem pick_ok (ns : List Int) (hl : ns.length ≤ 63) (i : Int) (h0 : 0 ≤ i) (h : i < 100000) (good bad : List D) (g0 : 0 < good.length) (b0 : 0 < bad.length) :
    ∃ x, x ∈ good ++ bad ∧ m__law_pick [.scr ns, .int i, .tup good, .tup bad] = .ok x := by
  obtain ⟨v, hv⟩ := numberI ns hl i h0 h
  have step : m__law_pick [.scr ns, .int i, .tup good, .tup bad] = outR (b__law_pick [.sh (.scr ns), .sh (.int i), .sh (.tup good), .sh (.tup bad), .no]) := rfl
  rw [step]
  unfold b__law_pick
  have e0 := Int.emod_nonneg (v / 16) (b := (bad.length : Int)) (by omega)
  have e1 := Int.emod_lt_of_pos (v / 16) (b := (bad.length : Int)) (by omega)
  have e2 := Int.emod_nonneg (v / 16) (b := (good.length : Int)) (by omega)
  have e3 := Int.emod_lt_of_pos (v / 16) (b := (good.length : Int)) (by omega)
  obtain ⟨x, hx, ex⟩ := ix_tup bad (v / 16 % bad.length) e0 e1
  obtain ⟨y, hy, ey⟩ := ix_tup good (v / 16 % good.length) e2 e3
  have dv : ∀ env : En, eVar 4 env = .ok (.int v) → eCall fInt (aCons (eBin (gDivI) (eVar 4) (eC (.int 16))) (aNil)) env = .ok (.int (v / 16)) := fun env a => int_ok (divI a 16 (by decide) (by decide))
  refine ⟨if (v % 16 == 0) = true then x else y, ?_, ?_⟩
  · split
    · exact List.mem_append_right _ hx
    · exact List.mem_append_left _ hy
  refine (congrArg outR (step_asg (d := .int v) (env' := [.sh (.scr ns), .sh (.int i), .sh (.tup good), .sh (.tup bad), .sh (.int v)]) (int_ok (by rw [eCall2 (d := .scr ns) (d' := .int i) rfl rfl]; exact hv)) rfl)).trans ?_
  refine ret_ok ?_
  rw [if_ok (b := v % 16 == 0) (eB_ok (by
    rw [bin_ok (x := .int (v % 16)) (y := .int 0) (by rw [bin_ok (x := .int v) (y := .int 16) (int_ok rfl) rfl, mod_ok _ _ (by decide)]) rfl, eq_int]
    rfl))]
  by_cases q : (v % 16 == 0) = true
  · rw [if_pos q, if_pos q, bin_ok (x := .tup bad) (y := .int (v / 16 % bad.length)) rfl (by rw [bin_ok (x := .int (v / 16)) (y := .int bad.length) (dv _ rfl) (lenT rfl), mod_ok _ _ (by omega)]), ex]
  · rw [if_neg q, if_neg q, bin_ok (x := .tup good) (y := .int (v / 16 % good.length)) rfl (by rw [bin_ok (x := .int (v / 16)) (y := .int good.length) (dv _ rfl) (lenT rfl), mod_ok _ _ (by omega)]), ey]
theorem call4 {F : List D → Res D} {f1 f2 f3 f4 : En → Res D} {env : En} {a b c d : D} (h1 : f1 env = .ok a) (h2 : f2 env = .ok b) (h3 : f3 env = .ok c) (h4 : f4 env = .ok d) : eCall F (aCons f1 (aCons f2 (aCons f3 (aCons f4 aNil)))) env = F [a, b, c, d] := by
  unfold eCall aCons; rw [h1, h2, h3, h4]; rfl
def goodL : List D := [lD (w_field, 0), lD (w_number, 1), lD (w_field, 0), lD (w_cell, 0), lD (w_place, 0)]
def badL : List D := [lD (w_field, 2), lD (w_cell, 1), lD (w_place, 1), lD (w_number, 2), lD (w_field, 1)]
theorem leaf_ok (ns : List Int) (hl : ns.length ≤ 63) (i : Int) (h0 : 0 ≤ i) (h : i < 100000) : ∃ l, l ∈ lfs ∧ m__law_leaf [.scr ns, .int i] = .ok (lD l) := by
  obtain ⟨x, hx, e⟩ := pick_ok ns hl i h0 h goodL badL (by decide) (by decide)
  have k : ∃ l, l ∈ lfs ∧ x = lD l := by
    unfold goodL badL at hx
    simp only [List.cons_append, List.nil_append, List.mem_cons, List.not_mem_nil, or_false] at hx
    rcases hx with rfl | rfl | rfl | rfl | rfl | rfl | rfl | rfl | rfl | rfl
    all_goals exact ⟨_, by decide, rfl⟩
  obtain ⟨l, hl2, rfl⟩ := k
  refine ⟨l, hl2, ?_⟩
  show outR (b__law_leaf [.sh (.scr ns), .sh (.int i)]) = _
  unfold b__law_leaf
  refine ret_ok ?_
  rw [call4 (a := .scr ns) (b := .int i) (c := .tup goodL) (d := .tup badL) rfl rfl rfl rfl, e]
theorem itR1_eq (j : Int) (h1 : -(2 ^ 62) ≤ j) (h2 : j < 2 ^ 62) : itR1 [.int j] = .ok (rgD 0 j.toNat) := by
  unfold itR1
  exact if_pos ⟨h1, h2⟩
theorem r1_ok {fs : En → Res (List D)} {env : En} (n : Nat) (hn : n ≤ 1000) (h : fs env = .ok [.int n]) : eR1 fs env = .ok ((List.range n).map fun k : Nat => D.int k) := by
  unfold eR1
  rw [h]
  rw [Res.bind_ok, itR1_eq n (by omega) (by omega)]
  unfold rgD
  rw [Int.toNat_natCast]
  refine congrArg Res.ok (List.map_congr_left fun k _ => ?_)
  rw [Int.zero_add]
def nm10 : List D := [.str w_f0, .str w_c0, .str w_f0, .str w_p0]
def nm20 : List D := [.str w_f1, .str w_f2, .str w_c1, .str w_p1]
theorem name_pick (ns : List Int) (hl : ns.length ≤ 63) (i : Int) (h0 : 0 ≤ i) (h : i < 100000) : ∃ s, s ∈ nm7 ∧ m__law_pick [.scr ns, .int i, .tup nm10, .tup nm20] = .ok (.str s) := by
  obtain ⟨x, hx, e⟩ := pick_ok ns hl i h0 h nm10 nm20 (by decide) (by decide)
  have k : ∃ l, l ∈ nm7 ∧ x = .str l := by
    unfold nm10 nm20 at hx
    simp only [List.cons_append, List.nil_append, List.mem_cons, List.not_mem_nil, or_false] at hx
    rcases hx with rfl | rfl | rfl | rfl | rfl | rfl | rfl | rfl
    all_goals exact ⟨_, by decide, rfl⟩
  obtain ⟨s, hs, rfl⟩ := k
  exact ⟨s, hs, e⟩
def nameAt (ns : List Int) (i : Int) : Str := match m__law_pick [.scr ns, .int i, .tup nm10, .tup nm20] with
  | .ok (.str s) => s
  | _ => w_
theorem nameAt_ok (ns : List Int) (hl : ns.length ≤ 63) (i : Int) (h0 : 0 ≤ i) (h : i < 100000) : nameAt ns i ∈ nm7 ∧ m__law_pick [.scr ns, .int i, .tup nm10, .tup nm20] = .ok (.str (nameAt ns i)) := by
  obtain ⟨s, hs, e⟩ := name_pick ns hl i h0 h
  unfold nameAt
  rw [e]
  exact ⟨hs, rfl⟩
theorem fld0_ok : eCm 1 m_Recipe_field (aCons (eC (.int 0)) (aNil)) = fun _ => .ok (ruD .fld) := by
  funext env
  show m_Recipe_field [.cls 1, .int 0] = _
  exact isR_ok (by decide +kernel)
def someD (xs : List Str) : List D := [.non, .str w_reads, .str w_shown, K xs, K xs, K []]
def oddR (xs : List Str) : List D := [.str w_keep, .int 5, .tup (ds xs), .str w_, .bl true, ruD .fld]
theorem rule_ok (ns : List Int) (hl : ns.length ≤ 63) (i : Int) (h0 : 0 ≤ i) (h : i < 90000) : ∃ r, RuG r ∧ m__law_rule [.scr ns, .int i] = .ok (ruD r) := by
  obtain ⟨v, hv⟩ := numberI ns hl (i + 5) (by omega) (by omega)
  obtain ⟨n, hn⟩ := Int.eq_ofNat_of_zero_le (Int.emod_nonneg v (b := 3) (by decide))
  have hn3 : n < 3 := by have := Int.emod_lt_of_pos v (b := 3) (by decide); omega
  show ∃ r, RuG r ∧ outR (b__law_rule [.sh (.scr ns), .sh (.int i), .no, .no, .no]) = .ok (ruD r)
  unfold b__law_rule
  have z := eLc_ok (vs := [4]) (fi := eR1 (aCons (eBin (gModI) (eCall fInt (aCons (eCall m__law_number (aCons (eVar 0) (aCons (eBin (gAddW) (eVar 1) (eC (.int 5))) (aNil)))) (aNil))) (eC (.int 3))) (aNil))) (h := gV 4) (ft := bYes) (fe := eCall m__law_pick (aCons (eVar 0) (aCons (eBin (gAddW) (eBin (gAddW) (eVar 1) (eC (.int 1))) (eVar 4)) (aCons (eTup (aCons (eC (.str w_f0)) (aCons (eC (.str w_c0)) (aCons (eC (.str w_f0)) (aCons (eC (.str w_p0)) (aNil)))))) (aCons (eTup (aCons (eC (.str w_f1)) (aCons (eC (.str w_f2)) (aCons (eC (.str w_c1)) (aCons (eC (.str w_p1)) (aNil)))))) (aNil)))))) (env := [.sh (.scr ns), .sh (.int i), .no, .no, .no]) (List.range n) (fun _ => true) (fun k : Nat => D.int k) (fun k : Nat => .str (nameAt ns (i + 1 + k))) (r1_ok n (by omega) (by
      refine aCons_ok (d := .int n) (dl := []) ?_ rfl
      rw [← hn]
      exact modI (by rw [eCall2 (d := .scr ns) (d' := .int (i + 5)) rfl rfl]; exact hv) (by decide) rfl)) (by rw [List.length_range]; omega) fun k hk => ⟨[.sh (.scr ns), .sh (.int i), .no, .no, .sh (.int k)], rfl, rfl, by
        have := List.mem_range.mp hk
        rw [call4 (a := .scr ns) (b := .int (i + 1 + k)) (c := .tup nm10) (d := .tup nm20) rfl rfl rfl rfl]
        exact (nameAt_ok ns hl _ (by omega) (by omega)).2⟩
  rw [filt_true] at z
  generalize hx : (List.range n).map (fun k : Nat => nameAt ns (i + 1 + k)) = xs
  have hm : ((List.range n).map fun k : Nat => D.str (nameAt ns (i + 1 + k))) = ds xs := by rw [← hx]; unfold ds; rw [List.map_map]; rfl
  rw [hm] at z
  have g : G xs := ⟨fun x h => by
    rw [← hx] at h
    obtain ⟨k, hk, rfl⟩ := List.mem_map.mp h
    have := List.mem_range.mp hk
    exact (nameAt_ok ns hl _ (by omega) (by omega)).1, by rw [← hx, List.length_map, List.length_range]; omega⟩
  obtain ⟨x, hxm, ex⟩ := pick_ok ns hl i h0 (by omega) (someD (ord xs)) (oddR xs) (by show 0 < 6; decide) (by show 0 < 6; decide)
  have k : ∃ r, RuG r ∧ x = ruD r := by
    unfold someD oddR at hxm
    simp only [List.cons_append, List.nil_append, List.mem_cons, List.not_mem_nil, or_false] at hxm
    rcases hxm with rfl | rfl | rfl | rfl | rfl | rfl | rfl | rfl | rfl | rfl | rfl | rfl
    · exact ⟨.non, trivial, rfl⟩
    · exact ⟨.reads, trivial, rfl⟩
    · exact ⟨.shown, trivial, rfl⟩
    · exact ⟨.key (ord xs), ord_G xs, rfl⟩
    · exact ⟨.key (ord xs), ord_G xs, rfl⟩
    · exact ⟨.key [], ⟨fun _ h => (nomatch h), by decide⟩, rfl⟩
    · exact ⟨.keep, trivial, rfl⟩
    · exact ⟨.five, trivial, rfl⟩
    · exact ⟨.tupl xs, trivial, rfl⟩
    · exact ⟨.empt, trivial, rfl⟩
    · exact ⟨.tru, trivial, rfl⟩
    · exact ⟨.fld, trivial, rfl⟩
  obtain ⟨r, hr, rfl⟩ := k
  refine ⟨r, hr, ?_⟩
  refine (congrArg outR (step_asg z (env' := [.sh (.scr ns), .sh (.int i), .sh (.lst (ds xs)), .no, .no]) rfl)).trans ?_
  refine (congrArg outR (step_asg (env' := [.sh (.scr ns), .sh (.int i), .sh (.lst (ds xs)), .sh (.tup (someD (ord xs))), .no]) (d := .tup (someD (ord xs))) (by
    have kk : eCall (fun ds => insR 0 (i_Key ds)) (aCons (eVar 2) (aNil)) [.sh (.scr ns), .sh (.int i), .sh (.lst (ds xs)), .no, .no] = .ok (K (ord xs)) := by
      rw [eCall1 (d := .lst (ds xs)) rfl]; exact mk_ok xs _ (.inl rfl) g
    exact tup_ok (aCons_ok rfl (aCons_ok rfl (aCons_ok rfl (aCons_ok kk (aCons_ok kk (aCons_ok mk0_ok rfl)))))) (by show (6 : Nat) ≤ 100000; decide)) rfl)).trans ?_
  refine ret_ok ?_
  rw [call4 (a := .scr ns) (b := .int i) (c := .tup (someD (ord xs))) (d := .tup (oddR xs)) rfl rfl rfl (tup_ok (aCons_ok rfl (aCons_ok rfl (aCons_ok rfl (aCons_ok rfl (aCons_ok rfl (aCons_ok (congrFun fld0_ok _) rfl)))))) (by show (6 : Nat) ≤ 100000; decide)), ex]
end Lw
namespace Lw
open PySem Dl
theorem form1 {a : Lf} (h : a ∈ lfs) : Ls [a] := ls_of (by
  unfold forms
  exact List.mem_append_left _ (List.mem_append_left _ (List.mem_map.mpr ⟨a, h, rfl⟩)))
theorem form2 {a b : Lf} (h : a ∈ lfs) (h2 : b ∈ lfs) : Ls [a, b] := ls_of (by
  unfold forms
  exact List.mem_append_left _ (List.mem_append_right _ (List.mem_flatMap.mpr ⟨a, h, List.mem_map.mpr ⟨b, h2, rfl⟩⟩)))
theorem form3 {a b c : Lf} (h : a ∈ lfs) (h2 : b ∈ lfs) (h3 : c ∈ lfs) : Ls [a, b, c] := ls_of (by
  unfold forms
  exact List.mem_append_right _ (List.mem_flatMap.mpr ⟨a, h, List.mem_flatMap.mpr ⟨b, h2, List.mem_map.mpr ⟨c, h3, rfl⟩⟩⟩))
abbrev plB : En → Out := sSeq (sPar2 5 6 (aCons (eBin (gAddW) (eBin (gAddW) (eVar 1) (eC (.int 1))) (eBin (gMulI) (eC (.int 20)) (eVar 3))) (aCons (eBin (gModI) (eCall fInt (aCons (eCall m__law_number (aCons (eVar 0) (aCons (eBin (gAddW) (eBin (gAddW) (eVar 1) (eC (.int 15))) (eBin (gMulI) (eC (.int 20)) (eVar 3))) (aNil)))) (aNil))) (eC (.int 3))) (aNil)))) (sSeq (sAsg (eCall m__law_leaf (aCons (eVar 0) (aCons (eVar 5) (aNil)))) (gV 4)) (sSeq (sIf (eB (eBin (gEq false) (eVar 6) (eC (.int 1)))) (sAsg (eTup (aCons (eC (.str w_less)) (aCons (eVar 4) (aCons (eCall m__law_leaf (aCons (eVar 0) (aCons (eBin (gAddW) (eVar 5) (eC (.int 1))) (aNil)))) (aNil))))) (gV 4)) (sIf (eB (eBin (gEq false) (eVar 6) (eC (.int 2)))) (sAsg (eTup (aCons (eC (.str w_when)) (aCons (eCall m__law_leaf (aCons (eVar 0) (aCons (eBin (gAddW) (eVar 5) (eC (.int 1))) (aNil)))) (aCons (eCall m__law_leaf (aCons (eVar 0) (aCons (eBin (gAddW) (eVar 5) (eC (.int 2))) (aNil)))) (aCons (eVar 4) (aNil)))))) (gV 4)) (sNext))) (sApp 2 (eTup (aCons (eVar 4) (aCons (eCall m__law_rule (aCons (eVar 0) (aCons (eBin (gAddW) (eVar 5) (eC (.int 4))) (aNil)))) (aNil)))))))
abbrev plEnv (ns : List Int) (i : Int) (acc : List D) (a3 a4 a5 a6 : Sl) : En := [.sh (.scr ns), .sh (.int i), .ow (.lst acc), a3, a4, a5, a6]
theorem addI {fe fj : En → Res D} {env : En} {a b : Int} (h : fe env = .ok (.int a)) (h2 : fj env = .ok (.int b)) : eBin gAddW fe fj env = .ok (.int (a + b)) := by
  rw [bin_ok h h2]; rfl
theorem eqI {fe : En → Res D} {env : En} {a : Int} (b : Int) (h : fe env = .ok (.int a)) : eB (eBin (gEq false) fe (eC (.int b))) env = .ok (a == b) := eB_ok (by
  rw [bin_ok (x := .int a) (y := .int b) h rfl, eq_int]; rfl)
theorem plB_ok (ns : List Int) (hl : ns.length ≤ 63) (i : Int) (h0 : 0 ≤ i) (h : i < 50000) (acc : List D) (ha : acc.length ≤ 100) (k : Nat) (hk : k ≤ 10) (a4 a5 a6 : Sl) :
    ∃ p, RowOk p ∧ ∃ b4 b5 b6, plB (plEnv ns i acc (.sh (.int k)) a4 a5 a6) = .nx (plEnv ns i (acc ++ [lw p]) (.sh (.int k)) b4 b5 b6) := by
  obtain ⟨v, hv⟩ := numberI ns hl (i + 15 + 20 * k) (by omega) (by omega)
  generalize hw : v % 3 = w
  have hw0 : 0 ≤ w ∧ w < 3 := by omega
  generalize hs : i + 1 + 20 * (k : Int) = sp
  have hsp : 0 ≤ sp ∧ sp < 60000 := by omega
  obtain ⟨l0, m0, e0⟩ := leaf_ok ns hl sp hsp.1 (by omega)
  obtain ⟨l1, m1, e1⟩ := leaf_ok ns hl (sp + 1) (by omega) (by omega)
  obtain ⟨l2, m2, e2⟩ := leaf_ok ns hl (sp + 2) (by omega) (by omega)
  obtain ⟨r, hr, er⟩ := rule_ok ns hl (sp + 4) (by omega) (by omega)
  have mul : ∀ env : En, eVar 3 env = .ok (.int k) → eBin (gMulI) (eC (.int 20)) (eVar 3) env = .ok (.int (20 * k)) := fun env z => mulI rfl z (by decide) (by omega)
  have s1 : ∀ g, sSeq (sPar2 5 6 (aCons (eBin (gAddW) (eBin (gAddW) (eVar 1) (eC (.int 1))) (eBin (gMulI) (eC (.int 20)) (eVar 3))) (aCons (eBin (gModI) (eCall fInt (aCons (eCall m__law_number (aCons (eVar 0) (aCons (eBin (gAddW) (eBin (gAddW) (eVar 1) (eC (.int 15))) (eBin (gMulI) (eC (.int 20)) (eVar 3))) (aNil)))) (aNil))) (eC (.int 3))) (aNil)))) g (plEnv ns i acc (.sh (.int k)) a4 a5 a6) = g (plEnv ns i acc (.sh (.int k)) a4 (.sh (.int sp)) (.sh (.int w))) := fun g => par2_ok (x := .int sp) (y := .int w) (by
      rw [← hs]; exact addI (addI rfl rfl) (mul _ rfl)) (by
      rw [← hw]
      exact modI (by rw [eCall2 (d := .scr ns) (d' := .int (i + 15 + 20 * k)) rfl (addI (addI rfl rfl) (mul _ rfl))]; exact hv) (by decide) rfl) ⟨(show 5 < 7 by decide), (show 6 < 7 by decide)⟩
  have lf : ∀ (env : En) (j x : Int) (l : Lf) (fj : En → Res D), eVar 0 env = .ok (.scr ns) → fj env = .ok (.int x) → m__law_leaf [.scr ns, .int x] = .ok (lD l) → eCall m__law_leaf (aCons (eVar 0) (aCons fj (aNil))) env = .ok (lD l) := fun env j x l fj z1 z2 z3 => by
    rw [eCall2 z1 z2]; exact z3
  unfold plB
  rw [s1]
  have s2 : ∀ g, sSeq (sAsg (eCall m__law_leaf (aCons (eVar 0) (aCons (eVar 5) (aNil)))) (gV 4)) g (plEnv ns i acc (.sh (.int k)) a4 (.sh (.int sp)) (.sh (.int w))) = g (plEnv ns i acc (.sh (.int k)) (.sh (lD l0)) (.sh (.int sp)) (.sh (.int w))) := fun g => step_asg (lf _ 0 sp l0 _ rfl rfl e0) rfl
  rw [s2]
  have fin : ∀ ls, Ls ls → sApp 2 (eTup (aCons (eVar 4) (aCons (eCall m__law_rule (aCons (eVar 0) (aCons (eBin (gAddW) (eVar 5) (eC (.int 4))) (aNil)))) (aNil)))) (plEnv ns i acc (.sh (.int k)) (.sh (fD ls)) (.sh (.int sp)) (.sh (.int w))) = .nx (plEnv ns i (acc ++ [lw (ls, r)]) (.sh (.int k)) (.sh (fD ls)) (.sh (.int sp)) (.sh (.int w))) := fun ls _ => app_ok rfl (tup2_ok rfl (by rw [eCall2 (d := .scr ns) (d' := .int (sp + 4)) rfl (addI rfl rfl)]; exact er)) (by omega)
  have t1 : ∀ f4, eB (eBin (gEq false) (eVar 6) (eC (.int 1))) (plEnv ns i acc (.sh (.int k)) f4 (.sh (.int sp)) (.sh (.int w))) = .ok (w == 1) := fun _ => eqI 1 rfl
  have t2 : ∀ f4, eB (eBin (gEq false) (eVar 6) (eC (.int 2))) (plEnv ns i acc (.sh (.int k)) f4 (.sh (.int sp)) (.sh (.int w))) = .ok (w == 2) := fun _ => eqI 2 rfl
  have w3 : w = 0 ∨ w = 1 ∨ w = 2 := by omega
  rcases w3 with rfl | rfl | rfl
  · refine ⟨([l0], r), ⟨form1 m0, hr⟩, .sh (fD [l0]), .sh (.int sp), .sh (.int 0), ?_⟩
    exact (step_else (t1 _) ((sif_no (t2 _)).trans rfl)).trans (fin [l0] (form1 m0))
  · refine ⟨([l0, l1], r), ⟨form2 m0 m1, hr⟩, .sh (fD [l0, l1]), .sh (.int sp), .sh (.int 1), ?_⟩
    exact (step_then (t1 _) (asg_ok (d := fD [l0, l1]) (tup_ok (aCons_ok rfl (aCons_ok rfl (aCons_ok (lf _ 0 (sp + 1) l1 _ rfl (addI rfl rfl) e1) rfl))) (by show (3 : Nat) ≤ 100000; decide)) rfl)).trans (fin [l0, l1] (form2 m0 m1))
  · refine ⟨([l1, l2, l0], r), ⟨form3 m1 m2 m0, hr⟩, .sh (fD [l1, l2, l0]), .sh (.int sp), .sh (.int 2), ?_⟩
    exact (step_else (t1 _) ((sif_yes (t2 _)).trans (asg_ok (d := fD [l1, l2, l0]) (tup_ok (aCons_ok rfl (aCons_ok (lf _ 0 (sp + 1) l1 _ rfl (addI rfl rfl) e1) (aCons_ok (lf _ 0 (sp + 2) l2 _ rfl (addI rfl rfl) e2) (aCons_ok rfl rfl)))) (by show (4 : Nat) ≤ 100000; decide)) rfl))).trans (fin [l1, l2, l0] (form3 m1 m2 m0))
theorem pl_loop (ns : List Int) (hl : ns.length ≤ 63) (i : Int) (h0 : 0 ≤ i) (h : i < 50000) : ∀ (ks : List Nat) (acc : List D) (a3 a4 a5 a6 : Sl), (∀ k ∈ ks, k ≤ 10) → acc.length + ks.length ≤ 100 →
    ∃ ps : List Row, (∀ p ∈ ps, RowOk p) ∧ ps.length = ks.length ∧ ∃ b3 b4 b5 b6, forL (gV 3) plB (ks.map fun k : Nat => D.int k) (plEnv ns i acc a3 a4 a5 a6) = .nx (plEnv ns i (acc ++ ps.map lw) b3 b4 b5 b6)
  | [], acc, a3, a4, a5, a6, _, _ => ⟨[], fun _ h => (nomatch h), rfl, a3, a4, a5, a6, by show Out.nx (plEnv ns i acc a3 a4 a5 a6) = _; rw [show acc ++ List.map lw [] = acc from List.append_nil acc]⟩
  | k :: ks, acc, a3, a4, a5, a6, hk, ha => by
    rw [List.length_cons] at ha
    obtain ⟨p, hp, b4, b5, b6, e⟩ := plB_ok ns hl i h0 h acc (by omega) k (hk k (List.mem_cons_self ..)) a4 a5 a6
    obtain ⟨ps, h1, h2, c3, c4, c5, c6, e2⟩ := pl_loop ns hl i h0 h ks (acc ++ [lw p]) (.sh (.int k)) b4 b5 b6 (fun x hx => hk x (List.mem_cons_of_mem _ hx)) (by rw [List.length_append, List.length_singleton]; omega)
    refine ⟨p :: ps, fun x hx => ?_, by rw [List.length_cons, List.length_cons, h2], c3, c4, c5, c6, ?_⟩
    · rcases List.mem_cons.mp hx with rfl | hx
      · exact hp
      · exact h1 x hx
    · refine (forL_cons (dl := ks.map fun k : Nat => D.int k) (e1 := plEnv ns i acc (.sh (.int k)) a4 a5 a6) rfl e).trans (e2.trans ?_)
      rw [List.append_assoc]
      rfl
theorem places_ok (ns : List Int) (hl : ns.length ≤ 63) (i : Int) (h0 : 0 ≤ i) (h : i < 50000) : ∃ ps : List Row, (∀ p ∈ ps, RowOk p) ∧ ps.length ≤ 4 ∧ m__law_places [.scr ns, .int i] = .ok (.tup (ps.map lw)) := by
  obtain ⟨x, hx, ex⟩ := pick_ok ns hl i h0 (by omega) [.int 1, .int 2, .int 2, .int 3] [.int 0, .int 4] (by decide) (by decide)
  have k : ∃ m : Nat, m ≤ 4 ∧ x = .int m := by
    simp only [List.cons_append, List.nil_append, List.mem_cons, List.not_mem_nil, or_false] at hx
    rcases hx with rfl | rfl | rfl | rfl | rfl | rfl
    · exact ⟨1, by decide, rfl⟩
    · exact ⟨2, by decide, rfl⟩
    · exact ⟨2, by decide, rfl⟩
    · exact ⟨3, by decide, rfl⟩
    · exact ⟨0, by decide, rfl⟩
    · exact ⟨4, by decide, rfl⟩
  obtain ⟨m, hm, rfl⟩ := k
  obtain ⟨ps, h1, h2, b3, b4, b5, b6, e⟩ := pl_loop ns hl i h0 h (List.range m) [] .no .no .no .no (fun k hk => by have := List.mem_range.mp hk; omega) (by rw [List.length_range]; show 0 + m ≤ 100; omega)
  rw [List.length_range] at h2
  refine ⟨ps, h1, by omega, ?_⟩
  show outR (b__law_places [.sh (.scr ns), .sh (.int i), .no, .no, .no, .no, .no]) = _
  unfold b__law_places
  refine (congrArg outR (newL_ok (dl := []) rfl (by decide) (show 2 < 7 by decide))).trans ?_
  refine (congrArg outR (for_ok (dl := (List.range m).map fun k : Nat => D.int k) (r1_ok m (by omega) (aCons_ok (int_ok (by rw [call4 (a := .scr ns) (b := .int i) (c := .tup [.int 1, .int 2, .int 2, .int 3]) (d := .tup [.int 0, .int 4]) rfl rfl rfl rfl, ex])) rfl)) e)).trans ?_
  refine ret_ok ?_
  rw [eCall1 (d := .lst ([] ++ ps.map lw)) rfl]
  rfl
abbrev drB : En → Out := sSeq (sAsg (eCall fInt (aCons (eCall m__law_number (aCons (eVar 0) (aCons (eBin (gAddW) (eBin (gAddW) (eVar 1) (eC (.int 1))) (eVar 4)) (aNil)))) (aNil))) (gV 7)) (sSeq (sAsg (eCall fTup (aCons (eLc [10] (eR1 (aCons (eVar 3) (aNil))) (gV 10) (eB (eBin (gEq false) (eBin (gModI) (eCall fInt (aCons (eBin (gDivI) (eVar 7) (eBin (gAddW) (eC (.int 5)) (eVar 10))) (aNil))) (eC (.int 2))) (eC (.int 0)))) (eVar 10)) (aNil))) (gV 8)) (sSeq (sAsg (eTup (aCons (eTup (aCons (eVar 3) (aNil))) (aCons (eTup (aCons (eNeg (eC (.int 1))) (aNil))) (aCons (eBin (gAddW) (eVar 8) (eSl (eVar 8) (oNo) (oSome (eC (.int 1))))) (aCons (eAlt (eRevT (eVar 8)) (eRev (eVar 8))) (aCons (eTup (aCons (eC (.bl true)) (aNil))) (aCons (eCall fLst (aCons (eVar 8) (aNil))) (aCons (eC .non) (aCons (eC (.int 0)) (aCons (eTup (aCons (eC (.str w_0)) (aNil))) (aNil))))))))))) (gV 9)) (sApp 6 (eIf (eB (eBin (gEq false) (eBin (gModI) (eCall fInt (aCons (eVar 7) (aNil))) (eC (.int 12))) (eC (.int 0)))) (eBin gIx (eVar 9) (eBin (gModI) (eCall fInt (aCons (eBin (gDivI) (eVar 7) (eC (.int 99))) (aNil))) (eC (.int 9)))) (eVar 8)))))
abbrev drEnv (ns : List Int) (i : Int) (cl : D) (n : Nat) (a4 a5 : Sl) (acc : List D) (a7 a8 a9 : Sl) : En := [.sh (.scr ns), .sh (.int i), .sh cl, .sh (.int n), a4, a5, .ow (.lst acc), a7, a8, a9, .no]
theorem take1 (xs : List D) {fe : En → Res D} {env : En} (h : fe env = .ok (.tup xs)) : eSl fe oNo (oSome (eC (.int 1))) env = .ok (.tup (xs.take 1)) := by
  unfold eSl oNo oSome
  rw [h]
  show Res.ok (D.tup (cutD xs none (some ((1 : Nat) : Int)))) = _
  unfold cutD
  rw [HT.sIx_none, HT.sIx_nat, List.drop_zero, Nat.sub_zero]
  refine congrArg (fun x => Res.ok (D.tup x)) ?_
  cases xs with
  | nil => rfl
  | cons x xs => rw [List.length_cons, show min 1 (xs.length + 1) = 1 by omega]
theorem drB_ok (ns : List Int) (hl : ns.length ≤ 63) (i : Int) (h0 : 0 ≤ i) (h : i < 50000) (cl : D) (n : Nat) (hn : n ≤ 10) (acc : List D) (ha : acc.length ≤ 100) (k : Nat) (hk : k ≤ 10) (a5 a7 a8 a9 : Sl) :
    ∃ d, d ∈ items n ∧ ∃ b7 b8 b9, drB (drEnv ns i cl n (.sh (.int k)) a5 acc a7 a8 a9) = .nx (drEnv ns i cl n (.sh (.int k)) a5 (acc ++ [d]) b7 b8 b9) := by
  obtain ⟨v, hv⟩ := numberI ns hl (i + 1 + k) (by omega) (by omega)
  generalize hr : (List.range n).filter (fun p : Nat => (v / (5 + (p : Int)) % 2 == 0)) = row
  have hrow : row ∈ pw (List.range n) := by rw [← hr]; exact pw_filter _ _
  have hrl : row.length ≤ 10 := by rw [← hr]; exact Nat.le_trans (List.length_filter_le ..) (by rw [List.length_range]; exact hn)
  have hil : (rI row).length = row.length := by unfold rI; rw [List.length_map]
  have s1 : ∀ g, sSeq (sAsg (eCall fInt (aCons (eCall m__law_number (aCons (eVar 0) (aCons (eBin (gAddW) (eBin (gAddW) (eVar 1) (eC (.int 1))) (eVar 4)) (aNil)))) (aNil))) (gV 7)) g (drEnv ns i cl n (.sh (.int k)) a5 acc a7 a8 a9) = g (drEnv ns i cl n (.sh (.int k)) a5 acc (.sh (.int v)) a8 a9) := fun g => step_asg (int_ok (by rw [eCall2 (d := .scr ns) (d' := .int (i + 1 + k)) rfl (addI (addI rfl rfl) rfl)]; exact hv)) rfl
  have z := eLc_ok (vs := [10]) (fi := eR1 (aCons (eVar 3) (aNil))) (h := gV 10) (ft := eB (eBin (gEq false) (eBin (gModI) (eCall fInt (aCons (eBin (gDivI) (eVar 7) (eBin (gAddW) (eC (.int 5)) (eVar 10))) (aNil))) (eC (.int 2))) (eC (.int 0)))) (fe := eVar 10) (env := drEnv ns i cl n (.sh (.int k)) a5 acc (.sh (.int v)) a8 a9) (List.range n) (fun p : Nat => (v / (5 + (p : Int)) % 2 == 0)) (fun p : Nat => D.int p) (fun p : Nat => D.int p) (r1_ok n (by omega) rfl) (by rw [List.length_range]; omega) fun p hp => ⟨[.sh (.scr ns), .sh (.int i), .sh cl, .sh (.int n), .sh (.int k), a5, .ow (.lst acc), .sh (.int v), a8, a9, .sh (.int p)], rfl, eqI 0 (modI (by
      have := List.mem_range.mp hp
      rw [bin_ok (x := .int v) (y := .int (5 + (p : Int))) rfl (addI rfl rfl), div_ok _ _ (by omega) (by omega)]) (by decide) rfl), rfl⟩
  rw [hr] at z
  have s2 : ∀ g, sSeq (sAsg (eCall fTup (aCons (eLc [10] (eR1 (aCons (eVar 3) (aNil))) (gV 10) (eB (eBin (gEq false) (eBin (gModI) (eCall fInt (aCons (eBin (gDivI) (eVar 7) (eBin (gAddW) (eC (.int 5)) (eVar 10))) (aNil))) (eC (.int 2))) (eC (.int 0)))) (eVar 10)) (aNil))) (gV 8)) g (drEnv ns i cl n (.sh (.int k)) a5 acc (.sh (.int v)) a8 a9) = g (drEnv ns i cl n (.sh (.int k)) a5 acc (.sh (.int v)) (.sh (.tup (rI row))) a9) := fun g => step_asg (d := .tup (rI row)) (by rw [eCall1 z]; rfl) rfl
  unfold drB
  rw [s1, s2]
  have e9 : eTup (aCons (eTup (aCons (eVar 3) (aNil))) (aCons (eTup (aCons (eNeg (eC (.int 1))) (aNil))) (aCons (eBin (gAddW) (eVar 8) (eSl (eVar 8) (oNo) (oSome (eC (.int 1))))) (aCons (eAlt (eRevT (eVar 8)) (eRev (eVar 8))) (aCons (eTup (aCons (eC (.bl true)) (aNil))) (aCons (eCall fLst (aCons (eVar 8) (aNil))) (aCons (eC .non) (aCons (eC (.int 0)) (aCons (eTup (aCons (eC (.str w_0)) (aNil))) (aNil)))))))))) (drEnv ns i cl n (.sh (.int k)) a5 acc (.sh (.int v)) (.sh (.tup (rI row))) a9) = .ok (.tup (odd n row)) := tup_ok (aCons_ok rfl (aCons_ok rfl (aCons_ok (by
      rw [bin_ok (x := .tup (rI row)) (y := .tup ((rI row).take 1)) rfl (take1 _ rfl), catT_ok _ _ (by have := take_small (rI row) 1 10 (by omega); omega)]) (aCons_ok rfl (aCons_ok rfl (aCons_ok rfl (aCons_ok rfl (aCons_ok rfl (aCons_ok rfl rfl))))))))) (by show (9 : Nat) ≤ 100000; decide)
  have s3 := fun g => step_asg (g := g) e9 (hh := gV 9) (env' := drEnv ns i cl n (.sh (.int k)) a5 acc (.sh (.int v)) (.sh (.tup (rI row))) (.sh (.tup (odd n row)))) rfl
  rw [s3]
  obtain ⟨x, hx, ex⟩ := ix_tup (odd n row) (v / 99 % 9) (by omega) (by show v / 99 % 9 < 9; omega)
  have pk : eIf (eB (eBin (gEq false) (eBin (gModI) (eCall fInt (aCons (eVar 7) (aNil))) (eC (.int 12))) (eC (.int 0)))) (eBin gIx (eVar 9) (eBin (gModI) (eCall fInt (aCons (eBin (gDivI) (eVar 7) (eC (.int 99))) (aNil))) (eC (.int 9)))) (eVar 8) (drEnv ns i cl n (.sh (.int k)) a5 acc (.sh (.int v)) (.sh (.tup (rI row))) (.sh (.tup (odd n row)))) = .ok (if (v % 12 == 0) = true then x else .tup (rI row)) := by
    rw [if_ok (eqI 0 (modI rfl (by decide) rfl))]
    split
    · rw [bin_ok (x := .tup (odd n row)) (y := .int (v / 99 % 9)) rfl (modI (divI rfl 99 (by decide) (by decide)) (by decide) rfl), ex]
    · rfl
  refine ⟨if (v % 12 == 0) = true then x else .tup (rI row), ?_, _, _, _, app_ok rfl pk (by omega)⟩
  unfold items
  refine List.mem_flatMap.mpr ⟨row, hrow, ?_⟩
  unfold itemsOf
  split
  · exact List.mem_cons_of_mem _ hx
  · exact List.mem_cons_self ..
theorem dr_loop (ns : List Int) (hl : ns.length ≤ 63) (i : Int) (h0 : 0 ≤ i) (h : i < 50000) (cl : D) (n : Nat) (hn : n ≤ 10) (a5 : Sl) : ∀ (ks : List Nat) (acc : List D) (a4 a7 a8 a9 : Sl), (∀ k ∈ ks, k ≤ 10) → acc.length + ks.length ≤ 100 → (∀ d ∈ acc, d ∈ items n) →
    ∃ xs : List D, (∀ d ∈ xs, d ∈ items n) ∧ xs.length = acc.length + ks.length ∧ ∃ b4 b7 b8 b9, forL (gV 4) drB (ks.map fun k : Nat => D.int k) (drEnv ns i cl n a4 a5 acc a7 a8 a9) = .nx (drEnv ns i cl n b4 a5 xs b7 b8 b9)
  | [], acc, a4, a7, a8, a9, _, _, hi => ⟨acc, hi, rfl, a4, a7, a8, a9, rfl⟩
  | k :: ks, acc, a4, a7, a8, a9, hk, ha, hi => by
    rw [List.length_cons] at ha
    obtain ⟨d, hd, b7, b8, b9, e⟩ := drB_ok ns hl i h0 h cl n hn acc (by omega) k (hk k (List.mem_cons_self ..)) a5 a7 a8 a9
    obtain ⟨xs, h1, h2, c4, c7, c8, c9, e2⟩ := dr_loop ns hl i h0 h cl n hn a5 ks (acc ++ [d]) (.sh (.int k)) b7 b8 b9 (fun x hx => hk x (List.mem_cons_of_mem _ hx)) (by rw [List.length_append, List.length_singleton]; omega) (fun x hx => by
      rcases List.mem_append.mp hx with hx | hx
      · exact hi x hx
      · rw [List.mem_singleton] at hx; subst hx; exact hd)
    rw [List.length_append, List.length_singleton] at h2
    exact ⟨xs, h1, by rw [List.length_cons]; omega, c4, c7, c8, c9, (forL_cons (dl := ks.map fun k : Nat => D.int k) (e1 := drEnv ns i cl n (.sh (.int k)) a5 acc a7 a8 a9) rfl e).trans e2⟩
theorem nil_item (n : Nat) : D.tup [] ∈ items n := by
  unfold items
  refine List.mem_flatMap.mpr ⟨[], ?_, List.mem_cons_self ..⟩
  have := pw_filter (fun _ => false) (List.range n)
  rw [show (List.range n).filter (fun _ => false) = [] from List.filter_eq_nil_iff.mpr fun _ _ h => Bool.false_ne_true h] at this
  exact this
theorem drops_ok (ns : List Int) (hl : ns.length ≤ 63) (i : Int) (h0 : 0 ≤ i) (h : i < 50000) {cl : D} (hc : cl ∈ cellVs) (n : Nat) (hn : n ≤ 10) : ∃ g, GoneOk n g ∧ m__law_drops [.scr ns, .int i, cl, .int n] = .ok g := by
  obtain ⟨v, hv⟩ := numberI ns hl i h0 (by omega)
  have vc := vok_ok ((List.all_eq_true.mp cell_all) cl hc)
  show ∃ g, GoneOk n g ∧ outR (b__law_drops [.sh (.scr ns), .sh (.int i), .sh cl, .sh (.int n), .no, .no, .no, .no, .no, .no, .no]) = .ok g
  unfold b__law_drops
  have t : eB (eBin (gEq false) (eBin (gModI) (eCall fInt (aCons (eCall m__law_number (aCons (eVar 0) (aCons (eVar 1) (aNil)))) (aNil))) (eC (.int 4))) (eC (.int 0))) [.sh (.scr ns), .sh (.int i), .sh cl, .sh (.int n), .no, .no, .no, .no, .no, .no, .no] = .ok (v % 4 == 0) := eqI 0 (modI (by rw [eCall2 (d := .scr ns) (d' := .int i) rfl rfl]; exact hv) (by decide) rfl)
  cases q : (v % 4 == 0) with
  | true => rw [q] at t; exact ⟨.non, .non, step_ret t rfl⟩
  | false =>
    rw [q] at t
    obtain ⟨m, hm, em⟩ : ∃ m : Nat, m ≤ 2 ∧ eIf (eB (eCall m__law_is_number (aCons (eVar 2) (aCons (eC (.int 0)) (aCons (eC (.int 2)) (aNil)))))) (eVar 2) (eC (.int 1)) [.sh (.scr ns), .sh (.int i), .sh cl, .sh (.int n), .no, .no, .no, .no, .no, .no, .no] = .ok (.int m) := by
      have e : eB (eCall m__law_is_number (aCons (eVar 2) (aCons (eC (.int 0)) (aCons (eC (.int 2)) (aNil))))) [.sh (.scr ns), .sh (.int i), .sh cl, .sh (.int n), .no, .no, .no, .no, .no, .no, .no] = .ok (inb 0 2 cl) := eB_ok (by rw [eCall3 (a := cl) rfl rfl rfl, vc.num])
      rw [if_ok e]
      cases q2 : inb 0 2 cl with
      | true =>
        obtain ⟨j, rfl, j0, j1⟩ := inb_int q2
        obtain ⟨m, rfl⟩ := Int.eq_ofNat_of_zero_le j0
        exact ⟨m, by omega, rfl⟩
      | false => exact ⟨1, by decide, rfl⟩
    obtain ⟨xs, h1, h2, b4, b7, b8, b9, e⟩ := dr_loop ns hl i h0 h cl n hn (.sh (.int m)) (List.range m) [] .no .no .no .no (fun k hk => by have := List.mem_range.mp hk; omega) (by rw [List.length_range]; show 0 + m ≤ 100; omega) (fun _ h => (nomatch h))
    rw [List.length_range, List.length_nil] at h2
    obtain ⟨g, hg, eg⟩ := pick_ok ns hl (i + 4) (by omega) (by omega) [.tup xs] [.tup (xs ++ [.tup []]), .lst xs, .tup [], .int 5, .str w_0] (by show 0 < 1; decide) (by show 0 < 5; decide)
    refine ⟨g, ?_, ?_⟩
    · simp only [List.cons_append, List.nil_append, List.mem_cons, List.not_mem_nil, or_false] at hg
      rcases hg with rfl | rfl | rfl | rfl | rfl | rfl
      · exact .tup h1 (by omega)
      · refine .tup (fun x hx => ?_) (by rw [List.length_append, List.length_singleton]; omega)
        rcases List.mem_append.mp hx with hx | hx
        · exact h1 x hx
        · rw [List.mem_singleton] at hx; subst hx; exact nil_item n
      · exact .lst
      · exact .tup (fun _ h => (nomatch h)) (by decide)
      · exact .five
      · exact .zero
    · refine (congrArg outR (step_if t)).trans ?_
      have sp : ∀ g, sSeq (sParL 5 6 (eIf (eB (eCall m__law_is_number (aCons (eVar 2) (aCons (eC (.int 0)) (aCons (eC (.int 2)) (aNil)))))) (eVar 2) (eC (.int 1)))) g [.sh (.scr ns), .sh (.int i), .sh cl, .sh (.int n), .no, .no, .no, .no, .no, .no, .no] = g (drEnv ns i cl n .no (.sh (.int m)) [] .no .no .no) := fun g => by
        unfold sSeq sParL
        rw [em]
        rfl
      rw [sp]
      refine (congrArg outR (for_ok (dl := (List.range m).map fun k : Nat => D.int k) (r1_ok m (by omega) rfl) e)).trans ?_
      show outR (sRet _ (([.sh (.scr ns), .sh (.int i), .sh cl, .sh (.int n), b4, .sh (.int m), .sh (.lst xs), b7, b8, b9, .no] : En))) = _
      refine ret_ok ?_
      rw [call4 (a := .scr ns) (b := .int (i + 4)) (c := .tup [.tup xs]) (d := .tup [.tup (xs ++ [.tup []]), .lst xs, .tup [], .int 5, .str w_0]) rfl (addI rfl rfl) rfl (tup_ok (aCons_ok (by rw [bin_ok (x := .tup xs) (y := .tup [.tup []]) rfl rfl, catT_ok _ _ (by show xs.length + 1 ≤ 100000; omega)]) (aCons_ok rfl (aCons_ok rfl (aCons_ok rfl (aCons_ok rfl rfl))))) (by show (5 : Nat) ≤ 100000; decide)), eg]
end Lw
namespace Lw
open PySem Dl
/-! == of plain trees is equality -/
def words : List Str := [w_number, w_field, w_cell, w_place, w_less, w_when, w_reads, w_shown] ++ nm7
inductive Pl : Nat → D → Prop
  | non (n : Nat) : Pl n .non
  | int (n : Nat) (i : Int) : Pl n (.int i)
  | str (n : Nat) (x : Str) (h : x ∈ words) : Pl n (.str x)
  | tup (n : Nat) (xs : List D) (h : ∀ x ∈ xs, Pl n x) : Pl (n + 1) (.tup xs)
  | lst (n : Nat) (xs : List D) (h : ∀ x ∈ xs, Pl n x) : Pl (n + 1) (.lst xs)
theorem words_ok : ∀ x ∈ words, (PyData.str x).canLay0 = true ∧ (PyData.str x).depth = 0 := by decide +kernel
theorem pls_py {n : Nat} : ∀ (xs : List D), (∀ x ∈ xs, ∃ p, toPy x = some p ∧ p.canLay0 = true ∧ p.depth ≤ n) → ∃ ps, toPys xs = some ps ∧ PyData.canLayAll0 ps = true ∧ PyData.depthAll ps ≤ n ∧ ps.length = xs.length
  | [], _ => ⟨[], rfl, by simp [PyData.canLayAll0], by simp [PyData.depthAll], rfl⟩
  | x :: xs, h => by
    obtain ⟨p, h1, h2, h3⟩ := h x (List.mem_cons_self ..)
    obtain ⟨ps, g1, g2, g3, g4⟩ := pls_py xs fun y hy => h y (List.mem_cons_of_mem _ hy)
    refine ⟨p :: ps, ?_, by simp [PyData.canLayAll0, h2, g2], by simp only [PyData.depthAll]; omega, by simp [g4]⟩
    unfold toPys
    rw [h1, g1]
    rfl
theorem pl_py {n : Nat} {d : D} (h : Pl n d) : ∃ p, toPy d = some p ∧ p.canLay0 = true ∧ p.depth ≤ n := by
  induction h with
  | non n => exact ⟨_, rfl, by simp [PyData.canLay0], by simp [PyData.depth]⟩
  | int n i => exact ⟨_, rfl, by simp [PyData.canLay0], by simp [PyData.depth]⟩
  | str n x h => exact ⟨_, rfl, (words_ok x h).1, by rw [(words_ok x h).2]; omega⟩
  | tup n xs h ih =>
    obtain ⟨ps, g1, g2, g3, g4⟩ := pls_py xs ih
    refine ⟨.tuple ps, ?_, by simpa only [PyData.canLay0] using g2, by simp only [PyData.depth]; omega⟩
    unfold toPy
    rw [g1]
    rfl
  | lst n xs h ih =>
    obtain ⟨ps, g1, g2, g3, g4⟩ := pls_py xs ih
    refine ⟨.list ps, ?_, by simpa only [PyData.canLay0] using g2, by simp only [PyData.depth]; omega⟩
    unfold toPy
    rw [g1]
    rfl
theorem pl_shaped {n : Nat} {d : D} (h : Pl n d) (hn : n ≤ 64) : ∃ p, toPy d = some p ∧ SeqAt.shaped p = true ∧ p.canLay0 = true := by
  obtain ⟨p, h1, h2, h3⟩ := pl_py h
  refine ⟨p, h1, ?_, h2⟩
  unfold SeqAt.shaped
  rw [h2, decide_eq_true (by omega)]
  rfl
theorem eqvs_iff {n : Nat} {xs ys : List D} (H : ∀ x ∈ xs, ∀ y ∈ ys, ∀ p q, toPy x = some p → toPy y = some q → (PyData.eqv p q = true ↔ x = y)) : ∀ {ps qs : List PyData}, toPys xs = some ps → toPys ys = some qs → (PyData.eqvAll ps qs = true ↔ xs = ys) := by
  induction xs generalizing ys with
  | nil =>
    intro ps qs h1 h2
    cases h1
    cases ys with
    | nil => cases h2; simp [PyData.eqvAll]
    | cons y ys =>
      unfold toPys at h2
      cases q1 : toPy y with
      | none => rw [q1] at h2; cases h2
      | some b =>
        cases q2 : toPys ys with
        | none => rw [q1, q2] at h2; cases h2
        | some bs => rw [q1, q2] at h2; cases h2; simp [PyData.eqvAll]
  | cons x xs ih =>
    intro ps qs h1 h2
    unfold toPys at h1
    cases p1 : toPy x with
    | none => rw [p1] at h1; cases h1
    | some a =>
      cases p2 : toPys xs with
      | none => rw [p1, p2] at h1; cases h1
      | some as =>
        rw [p1, p2] at h1
        cases h1
        cases ys with
        | nil => cases h2; simp [PyData.eqvAll]
        | cons y ys =>
          unfold toPys at h2
          cases q1 : toPy y with
          | none => rw [q1] at h2; cases h2
          | some b =>
            cases q2 : toPys ys with
            | none => rw [q1, q2] at h2; cases h2
            | some bs =>
              rw [q1, q2] at h2
              cases h2
              have e := H x (List.mem_cons_self ..) y (List.mem_cons_self ..) a b p1 q1
              have r := ih (fun x hx y hy => H x (List.mem_cons_of_mem _ hx) y (List.mem_cons_of_mem _ hy)) p2 q2
              show (PyData.eqvAll (a :: as) (b :: bs) = true ↔ _)
              simp only [PyData.eqvAll, Bool.and_eq_true, List.cons.injEq, e, r]
theorem toPy_tup {xs : List D} {p : PyData} (h : toPy (.tup xs) = some p) : ∃ ps, toPys xs = some ps ∧ p = .tuple ps := by
  unfold toPy at h
  cases q : toPys xs with
  | none => rw [q] at h; cases h
  | some ps => rw [q] at h; cases h; exact ⟨ps, rfl, rfl⟩
theorem toPy_lst {xs : List D} {p : PyData} (h : toPy (.lst xs) = some p) : ∃ ps, toPys xs = some ps ∧ p = .list ps := by
  unfold toPy at h
  cases q : toPys xs with
  | none => rw [q] at h; cases h
  | some ps => rw [q] at h; cases h; exact ⟨ps, rfl, rfl⟩
theorem eqv_iff {n : Nat} {x : D} (h : Pl n x) : ∀ {m : Nat} {y : D}, Pl m y → ∀ {p q : PyData}, toPy x = some p → toPy y = some q → (PyData.eqv p q = true ↔ x = y) := by
  induction h with
  | non n =>
    intro m y hy p q h1 h2
    cases h1
    cases hy <;> first
      | (cases h2; simp [PyData.eqv]; done)
      | (obtain ⟨ps, _, rfl⟩ := toPy_tup h2; simp [PyData.eqv]; done)
      | (obtain ⟨ps, _, rfl⟩ := toPy_lst h2; simp [PyData.eqv]; done)
  | int n i =>
    intro m y hy p q h1 h2
    cases h1
    cases hy <;> first
      | (cases h2; simp [PyData.eqv]; done)
      | (obtain ⟨ps, _, rfl⟩ := toPy_tup h2; simp [PyData.eqv]; done)
      | (obtain ⟨ps, _, rfl⟩ := toPy_lst h2; simp [PyData.eqv]; done)
  | str n x h =>
    intro m y hy p q h1 h2
    cases h1
    cases hy <;> first
      | (cases h2; simp [PyData.eqv]; done)
      | (obtain ⟨ps, _, rfl⟩ := toPy_tup h2; simp [PyData.eqv]; done)
      | (obtain ⟨ps, _, rfl⟩ := toPy_lst h2; simp [PyData.eqv]; done)
  | tup n xs h ih =>
    intro m y hy p q h1 h2
    obtain ⟨ps, e1, rfl⟩ := toPy_tup h1
    cases hy with
    | tup m ys hy =>
      obtain ⟨qs, e2, rfl⟩ := toPy_tup h2
      have := eqvs_iff (n := n) (fun x hx y hy' p q => ih x hx (hy y hy')) e1 e2
      simp only [PyData.eqv, this, D.tup.injEq]
    | lst m ys hy => obtain ⟨qs, e2, rfl⟩ := toPy_lst h2; simp [PyData.eqv]
    | _ => cases h2; simp [PyData.eqv]
  | lst n xs h ih =>
    intro m y hy p q h1 h2
    obtain ⟨ps, e1, rfl⟩ := toPy_lst h1
    cases hy with
    | lst m ys hy =>
      obtain ⟨qs, e2, rfl⟩ := toPy_lst h2
      have := eqvs_iff (n := n) (fun x hx y hy' p q => ih x hx (hy y hy')) e1 e2
      simp only [PyData.eqv, this, D.lst.injEq]
    | tup m ys hy => obtain ⟨qs, e2, rfl⟩ := toPy_tup h2; simp [PyData.eqv]
    | _ => cases h2; simp [PyData.eqv]
theorem gEq_pl (neg : Bool) {n m : Nat} {x y : D} (hx : Pl n x) (hy : Pl m y) (hn : n ≤ 64) (hm : m ≤ 64) {b : Bool} (h : x = y ↔ b = true) : gEq neg x y = .ok (.bl (ng neg b)) := by
  obtain ⟨p, h1, h2, _⟩ := pl_shaped hx hn
  obtain ⟨q, g1, g2, _⟩ := pl_shaped hy hm
  unfold gEq
  rw [h1, g1]
  dsimp only
  rw [if_pos ⟨h2, g2⟩]
  have e : PyData.eqv p q = b := by rw [Bool.eq_iff_iff, ← h]; exact eqv_iff hx hy h1 g1
  rw [e]
  rfl
/-! the trees of plans -/
theorem lD_inj {a b : Lf} (h : lD a = lD b) : a = b := by
  unfold lD at h
  injection h with h
  injection h with h1 h2
  injection h2 with h2 _
  injection h1 with h1
  injection h2 with h2
  exact Prod.ext h1 h2
theorem forms_len : (forms.all fun ls => decide (1 ≤ ls.length)) = true := by decide +kernel
theorem fD_inj {a b : List Lf} (ha : Ls a) (hb : Ls b) (h : fD a = fD b) : a = b := by
  have a1 := of_decide_eq_true ((List.all_eq_true.mp forms_len) a ha.form)
  have b1 := of_decide_eq_true ((List.all_eq_true.mp forms_len) b hb.form)
  have a3 := ha.len
  have b3 := hb.len
  match a, b, a1, b1, a3, b3, h with
  | [x], [y], _, _, _, _, h => rw [lD_inj h]
  | [x, x2], [y, y2], _, _, _, _, h =>
    unfold fD at h
    injection h with h; injection h with _ h; injection h with h1 h; injection h with h2 _
    rw [lD_inj h1, lD_inj h2]
  | [x, x2, x3], [y, y2, y3], _, _, _, _, h =>
    unfold fD at h
    injection h with h; injection h with _ h; injection h with h1 h; injection h with h2 h; injection h with h3 _
    rw [lD_inj h1, lD_inj h2, lD_inj h3]
  | [x], [y, y2], _, _, _, _, h => exact absurd h (by unfold fD lD; simp)
  | [x], [y, y2, y3], _, _, _, _, h => exact absurd h (by unfold fD lD; simp)
  | [x, x2], [y], _, _, _, _, h => exact absurd h (by unfold fD lD; simp)
  | [x, x2], [y, y2, y3], _, _, _, _, h => exact absurd h (by unfold fD lD; simp)
  | [x, x2, x3], [y], _, _, _, _, h => exact absurd h (by unfold fD lD; simp)
  | [x, x2, x3], [y, y2], _, _, _, _, h => exact absurd h (by unfold fD lD; simp)
theorem lf_words : (lfs.all fun l => decide (l.1 ∈ words)) = true := by decide +kernel
theorem lD_pl {l : Lf} (h : l ∈ lfs) : Pl 1 (lD l) := .tup 0 _ fun x hx => by
  simp only [List.mem_cons, List.not_mem_nil, or_false] at hx
  rcases hx with rfl | rfl
  · exact .str _ _ (of_decide_eq_true ((List.all_eq_true.mp lf_words) l h))
  · exact .int _ _
theorem Pl.up {n : Nat} {d : D} (h : Pl n d) : Pl (n + 1) d := by
  induction h with
  | non n => exact .non _
  | int n i => exact .int _ i
  | str n x h => exact .str _ x h
  | tup n xs h ih => exact .tup _ _ ih
  | lst n xs h ih => exact .lst _ _ ih
theorem fD_pl {ls : List Lf} (h : Ls ls) : Pl 2 (fD ls) := by
  have a3 := h.len
  match ls, a3, h with
  | [], _, _ => exact .non _
  | [a], _, h => exact (lD_pl (h.mem a (by simp))).up
  | [a, b], _, h =>
    exact .tup 1 _ fun x hx => by
      simp only [List.mem_cons, List.not_mem_nil, or_false] at hx
      rcases hx with rfl | rfl | rfl
      · exact .str _ _ (by decide +kernel)
      · exact lD_pl (h.mem _ (by simp))
      · exact lD_pl (h.mem _ (by simp))
  | [a, b, c], _, h =>
    exact .tup 1 _ fun x hx => by
      simp only [List.mem_cons, List.not_mem_nil, or_false] at hx
      rcases hx with rfl | rfl | rfl | rfl
      · exact .str _ _ (by decide +kernel)
      · exact lD_pl (h.mem _ (by simp))
      · exact lD_pl (h.mem _ (by simp))
      · exact lD_pl (h.mem _ (by simp))
theorem ds_pl {xs : List Str} (g : G xs) : Pl 1 (.tup (ds xs)) := .tup 0 _ fun x hx => by
  obtain ⟨s, hs, rfl⟩ := List.mem_map.mp hx
  exact .str _ _ (List.mem_append_right _ (g.mem s hs))
theorem ds_inj {xs ys : List Str} (h : ds xs = ds ys) : xs = ys := (List.map_inj_right (f := D.str) fun _ _ h => by injection h).mp h
/-- a rule that may stand -/
def RuV : Ru → Prop
  | .non | .reads | .shown => True
  | .key xs => G xs
  | _ => False
def ruN : Ru → D
  | .key xs => .tup (ds xs)
  | r => ruD r
theorem ruN_pl {r : Ru} (h : RuV r) : Pl 1 (ruN r) := by
  cases r with
  | key xs => exact ds_pl h
  | non => exact .non _
  | reads => exact .str _ _ (by decide +kernel)
  | shown => exact .str _ _ (by decide +kernel)
  | _ => exact h.elim
theorem ne_rs : D.str w_reads ≠ D.str w_shown := fun h => absurd (D.str.inj h) (by decide +kernel)
theorem ruN_inj {r s : Ru} (hr : RuV r) (hs : RuV s) (h : ruN r = ruN s) : r = s := by
  cases r <;> first | exact hr.elim | skip
  all_goals cases s <;> first | exact hs.elim | rfl | (rw [ds_inj (D.tup.inj h)]; done) | (cases h; done) | exact absurd h ne_rs | exact absurd h.symm ne_rs
theorem K_inj {xs ys : List Str} (h : K xs = K ys) : xs = ys := by
  unfold K at h
  injection h with _ _ h
  injection h with h _
  exact ds_inj (D.tup.inj h)
theorem ruD_inj {r s : Ru} (hr : RuV r) (hs : RuV s) (h : ruD r = ruD s) : r = s := by
  cases r <;> first | exact hr.elim | skip
  all_goals cases s <;> first | exact hs.elim | rfl | (rw [K_inj h]; done) | (cases h; done) | exact absurd h ne_rs | exact absurd h.symm ne_rs
def RowV (p : Row) : Prop := Ls p.1 ∧ RuV p.2
def plain (p : Row) : D := .tup [fD p.1, ruN p.2]
theorem plain_pl {p : Row} (h : RowV p) : Pl 3 (plain p) := .tup 2 _ fun x hx => by
  simp only [List.mem_cons, List.not_mem_nil, or_false] at hx
  rcases hx with rfl | rfl
  · exact fD_pl h.1
  · exact (ruN_pl h.2).up
theorem plain_inj {p q : Row} (hp : RowV p) (hq : RowV q) (h : plain p = plain q) : p = q := by
  unfold plain at h
  injection h with h; injection h with h1 h; injection h with h2 _
  exact Prod.ext (fD_inj hp.1 hq.1 h1) (ruN_inj hp.2 hq.2 h2)
theorem gv_inj {p q : Row} (hp : RowV p) (hq : RowV q) (h : gv p = gv q) : p = q := by
  unfold gv rD at h
  injection h with h; injection h with h1 h; injection h with h2 _
  injection h1 with _ _ h1; injection h1 with h1 _
  exact Prod.ext (fD_inj hp.1 hq.1 h1) (ruD_inj hp.2 hq.2 h2)
theorem map_inj {α : Type} {f : α → D} {P : α → Prop} (hf : ∀ {a b}, P a → P b → f a = f b → a = b) : ∀ {as bs : List α}, (∀ a ∈ as, P a) → (∀ b ∈ bs, P b) → as.map f = bs.map f → as = bs
  | [], [], _, _, _ => rfl
  | [], _ :: _, _, _, h => by cases h
  | _ :: _, [], _, _, h => by cases h
  | a :: as, b :: bs, h1, h2, h => by
    rw [List.map_cons, List.map_cons] at h
    injection h with e1 e2
    rw [hf (h1 a (List.mem_cons_self ..)) (h2 b (List.mem_cons_self ..)) e1, map_inj hf (fun x hx => h1 x (List.mem_cons_of_mem _ hx)) (fun x hx => h2 x (List.mem_cons_of_mem _ hx)) e2]
theorem rows_eq (neg : Bool) {ps qs : List Row} (hp : ∀ p ∈ ps, RowV p) (hq : ∀ p ∈ qs, RowV p) : gEq neg (.lst (ps.map plain)) (.lst (qs.map plain)) = .ok (.bl (ng neg (decide (ps = qs)))) :=
  gEq_pl neg (n := 4) (m := 4) (.lst 3 _ fun x hx => by obtain ⟨p, h, rfl⟩ := List.mem_map.mp hx; exact plain_pl (hp p h)) (.lst 3 _ fun x hx => by obtain ⟨p, h, rfl⟩ := List.mem_map.mp hx; exact plain_pl (hq p h)) (by decide) (by decide) (by
    rw [decide_eq_true_iff]
    exact ⟨fun h => map_inj plain_inj hp hq (D.lst.inj h), fun h => by rw [h]⟩)
abbrev di2 (xs : List Int) : D := .tup (di xs)
def drD (dl : List (List Int)) : D := .tup (dl.map di2)
theorem di_inj {xs ys : List Int} (h : di2 xs = di2 ys) : xs = ys := (List.map_inj_right (f := D.int) fun _ _ h => by injection h).mp (D.tup.inj h)
theorem drD_inj {a b : List (List Int)} (h : drD a = drD b) : a = b := (List.map_inj_right (f := di2) fun _ _ h => di_inj h).mp (D.tup.inj h)
theorem drD_pl (a : List (List Int)) : Pl 2 (drD a) := .tup 1 _ fun x hx => by
  obtain ⟨l, _, rfl⟩ := List.mem_map.mp hx
  exact .tup 0 _ fun y hy => by obtain ⟨i, _, rfl⟩ := List.mem_map.mp hy; exact .int _ _
structure Pn where
  b : Int
  f : Nat
  c : Nat
  ps : List Row
  dl : List (List Int)
deriving DecidableEq
def four (p : Pn) : D := .tup [.int p.b, .int p.f, .int p.c, drD p.dl]
theorem four_eq (neg : Bool) (p q : Pn) : gEq neg (four p) (four q) = .ok (.bl (ng neg (decide (p.b = q.b ∧ p.f = q.f ∧ p.c = q.c ∧ p.dl = q.dl)))) := by
  have hpl : ∀ p, Pl 3 (four p) := fun p => .tup 2 _ fun x hx => by
    simp only [List.mem_cons, List.not_mem_nil, or_false] at hx
    rcases hx with rfl | rfl | rfl | rfl
    · exact .int _ _
    · exact .int _ _
    · exact .int _ _
    · exact drD_pl _
  refine gEq_pl neg (hpl p) (hpl q) (by decide) (by decide) ?_
  rw [decide_eq_true_iff]
  constructor
  · intro h
    unfold four at h
    injection h with h; injection h with h1 h; injection h with h2 h; injection h with h3 h; injection h with h4 _
    injection h1 with h1; injection h2 with h2; injection h3 with h3
    exact ⟨h1, by omega, by omega, drD_inj h4⟩
  · rintro ⟨h1, h2, h3, h4⟩
    unfold four
    rw [h1, h2, h3, h4]
end Lw
namespace Lw
open PySem Dl
/-! == of plans -/
abbrev ow : Nat → Option (List D → Res D) := fun k => if k = 1 then some m_Recipe_eq else if k = 0 then some m_Key_eq else none
theorem eqO_of {n : Nat} {x y : D} {A : Prop} [Decidable A] (h : eqO1 ow (eqO ow n) x y = .ok (decide A)) (m : mayD x y = true → A) : eqO ow (n + 1) x y = .ok (decide A) := by
  unfold eqO
  rw [h]
  show (if mayD x y = true ∧ decide A = false then (.bad : Res Bool) else .ok (decide A)) = _
  rw [if_neg fun z => absurd (m z.1) (of_decide_eq_false z.2)]
theorem eqOs_map {α : Type} [DecidableEq α] {rec : D → D → Res Bool} {f : α → D} {P : α → Prop} (H : ∀ a b, P a → P b → rec (f a) (f b) = .ok (decide (a = b))) : ∀ {as bs : List α}, (∀ a ∈ as, P a) → (∀ b ∈ bs, P b) → eqOs rec (as.map f) (bs.map f) = .ok (decide (as = bs))
  | [], [], _, _ => rfl
  | [], _ :: _, _, _ => rfl
  | _ :: _, [], _, _ => rfl
  | a :: as, b :: bs, h1, h2 => by
    have ih := eqOs_map H (fun x hx => h1 x (List.mem_cons_of_mem _ hx)) (fun x hx => h2 x (List.mem_cons_of_mem _ hx)) (as := as) (bs := bs)
    rw [List.map_cons, List.map_cons]
    unfold eqOs
    rw [H a b (h1 a (List.mem_cons_self ..)) (h2 b (List.mem_cons_self ..)), ih]
    show (if decide (a = b) = true then Res.ok (decide (as = bs)) else .ok false) = _
    by_cases z : a = b
    · subst z
      rw [if_pos (decide_eq_true rfl)]
      refine congrArg Res.ok ?_
      simp
    · rw [if_neg (by rw [decide_eq_true_iff]; exact z)]
      refine congrArg Res.ok ?_
      simp [z]
theorem eqOs_cons {rec : D → D → Res Bool} {x y : D} {xs ys : List D} {A B : Prop} [Decidable A] [Decidable B] (h : rec x y = .ok (decide A)) (h2 : eqOs rec xs ys = .ok (decide B)) : eqOs rec (x :: xs) (y :: ys) = .ok (decide (A ∧ B)) := by
  unfold eqOs
  rw [h, h2]
  show (if decide A = true then Res.ok (decide B) else .ok false) = _
  by_cases z : A
  · rw [if_pos (decide_eq_true z)]
    refine congrArg Res.ok ?_
    simp [z]
  · rw [if_neg (by rw [decide_eq_true_iff]; exact z)]
    refine congrArg Res.ok ?_
    simp [z]
theorem eqOs_nil {rec : D → D → Res Bool} : eqOs rec [] [] = .ok (decide True) := rfl
theorem may_int {a b : Int} (h : mayD (.int a) (.int b) = true) : a = b := by unfold mayD at h; exact eq_of_beq h
theorem may_str {a b : Str} (h : mayD (.str a) (.str b) = true) : a = b := by unfold mayD at h; exact of_decide_eq_true h
theorem may_tup {xs ys : List D} (h : mayD (.tup xs) (.tup ys) = true) : mayDs xs ys = true := by unfold mayD at h; exact h
theorem mays_cons {x y : D} {xs ys : List D} (h : mayDs (x :: xs) (y :: ys) = true) : mayD x y = true ∧ mayDs xs ys = true := by
  unfold mayDs at h
  have h : (mayD x y && mayDs xs ys) = true := h
  rwa [Bool.and_eq_true] at h
theorem may_lD {a b : Lf} (h : mayD (lD a) (lD b) = true) : a = b := by
  obtain ⟨h1, h2⟩ := mays_cons (may_tup h)
  obtain ⟨h2, _⟩ := mays_cons h2
  exact Prod.ext (may_str h1) (may_int h2)
theorem may_map {α : Type} {f : α → D} {P : α → Prop} (H : ∀ a b, P a → P b → mayD (f a) (f b) = true → a = b) : ∀ {as bs : List α}, (∀ a ∈ as, P a) → (∀ b ∈ bs, P b) → mayDs (as.map f) (bs.map f) = true → as = bs
  | [], [], _, _, _ => rfl
  | [], _ :: _, _, _, h => by unfold mayDs at h; cases h
  | _ :: _, [], _, _, h => by unfold mayDs at h; cases h
  | a :: as, b :: bs, h1, h2, h => by
    rw [List.map_cons, List.map_cons] at h
    obtain ⟨e1, e2⟩ := mays_cons h
    rw [H a b (h1 a (List.mem_cons_self ..)) (h2 b (List.mem_cons_self ..)) e1, may_map H (fun x hx => h1 x (List.mem_cons_of_mem _ hx)) (fun x hx => h2 x (List.mem_cons_of_mem _ hx)) e2]
theorem may_fD {a b : List Lf} (ha : Ls a) (hb : Ls b) (h : mayD (fD a) (fD b) = true) : a = b := by
  have a1 := of_decide_eq_true ((List.all_eq_true.mp forms_len) a ha.form)
  have b1 := of_decide_eq_true ((List.all_eq_true.mp forms_len) b hb.form)
  have a3 := ha.len
  have b3 := hb.len
  match a, b, a1, b1, a3, b3, h with
  | [x], [y], _, _, _, _, h => rw [may_lD h]
  | [x, x2], [y, y2], _, _, _, _, h =>
    obtain ⟨_, h⟩ := mays_cons (may_tup h)
    obtain ⟨h1, h⟩ := mays_cons h
    obtain ⟨h2, h⟩ := mays_cons h
    rw [may_lD h1, may_lD h2]
  | [x, x2, x3], [y, y2, y3], _, _, _, _, h =>
    obtain ⟨_, h⟩ := mays_cons (may_tup h)
    obtain ⟨h1, h⟩ := mays_cons h
    obtain ⟨h2, h⟩ := mays_cons h
    obtain ⟨h3, h⟩ := mays_cons h
    rw [may_lD h1, may_lD h2, may_lD h3]
  | [x], [y, y2], _, _, _, _, h => exact absurd h (by unfold fD lD; simp [mayD, mayDs])
  | [x], [y, y2, y3], _, _, _, _, h => exact absurd h (by unfold fD lD; simp [mayD, mayDs])
  | [x, x2], [y], _, _, _, _, h => exact absurd h (by unfold fD lD; simp [mayD, mayDs])
  | [x, x2], [y, y2, y3], _, _, _, _, h => exact absurd h (by unfold fD lD; simp [mayD, mayDs])
  | [x, x2, x3], [y], _, _, _, _, h => exact absurd h (by unfold fD lD; simp [mayD, mayDs])
  | [x, x2, x3], [y, y2], _, _, _, _, h => exact absurd h (by unfold fD lD; simp [mayD, mayDs])
theorem may_ins {k j : Nat} {ns ms : List Str} {xs ys : List D} (h : mayD (.ins k ns xs) (.ins j ms ys) = true) : mayDs xs ys = true := by
  unfold mayD at h
  have h : (decide (ns = ms) && mayDs xs ys) = true := h
  rw [Bool.and_eq_true] at h
  exact h.2
theorem may_rD {a b : List Lf} (ha : Ls a) (hb : Ls b) (h : mayD (rD a) (rD b) = true) : a = b := may_fD ha hb (mays_cons (may_ins h)).1
theorem may_K {xs ys : List Str} (h : mayD (K xs) (K ys) = true) : xs = ys := may_map (P := fun _ => True) (fun _ _ _ _ h => may_str h) (fun _ _ => trivial) (fun _ _ => trivial) (may_tup (mays_cons (may_ins h)).1)
theorem may_rs : mayD (.str w_reads) (.str w_shown) = false := by decide +kernel
theorem may_sr : mayD (.str w_shown) (.str w_reads) = false := by decide +kernel
theorem may_ruD {r s : Ru} (hr : RuV r) (hs : RuV s) (h : mayD (ruD r) (ruD s) = true) : r = s := by
  cases r <;> first | exact hr.elim | skip
  all_goals cases s <;> first | exact hs.elim | rfl | (rw [may_K h]; done) | (exact absurd (may_rs.symm.trans h) (by decide)) | (exact absurd (may_sr.symm.trans h) (by decide)) | (unfold ruD K mayD at h; cases h; done) | skip
theorem may_gv {p q : Row} (hp : RowV p) (hq : RowV q) (h : mayD (gv p) (gv q) = true) : p = q := by
  obtain ⟨h1, h2⟩ := mays_cons (may_tup h)
  obtain ⟨h2, _⟩ := mays_cons h2
  exact Prod.ext (may_rD hp.1 hq.1 h1) (may_ruD hp.2 hq.2 h2)
theorem may_di {a b : List Int} (h : mayD (di2 a) (di2 b) = true) : a = b := may_map (P := fun _ => True) (fun _ _ _ _ h => may_int h) (fun _ _ => trivial) (fun _ _ => trivial) (may_tup h)
/-! the own == -/
theorem req_ok {a b : List Lf} (ha : Ls a) (hb : Ls b) : m_Recipe_eq [rD a, rD b] = .ok (.bl (decide (a = b))) := by
  show outR (b_Recipe_eq [.sh (rD a), .sh (rD b)]) = _
  unfold b_Recipe_eq
  refine ret_ok ?_
  refine (eAnd_ok (a := true) (b := decide (a = b)) rfl fun _ => ?_).trans (by rw [Bool.true_and])
  rw [bin_ok (x := fD a) (y := fD b) rfl rfl]
  exact gEq_pl false (b := decide (a = b)) (fD_pl ha) (fD_pl hb) (by decide) (by decide) (by rw [decide_eq_true_iff]; exact ⟨fD_inj ha hb, fun h => by rw [h]⟩)
theorem keq_ok {a b : List Str} (ha : G a) (hb : G b) : m_Key_eq [K a, K b] = .ok (.bl (decide (a = b))) := by
  show outR (b_Key_eq [.sh (K a), .sh (K b)]) = _
  unfold b_Key_eq
  refine ret_ok ?_
  refine (eAnd_ok (a := true) (b := decide (a = b)) rfl fun _ => ?_).trans (by rw [Bool.true_and])
  rw [bin_ok (x := .tup (ds a)) (y := .tup (ds b)) rfl rfl]
  exact gEq_pl false (b := decide (a = b)) (ds_pl ha) (ds_pl hb) (by decide) (by decide) (by rw [decide_eq_true_iff]; exact ⟨fun h => ds_inj (D.tup.inj h), fun h => by rw [h]⟩)
theorem o_int (n : Nat) (a b : Int) : eqO ow (n + 1) (.int a) (.int b) = .ok (decide (a = b)) := eqO_of (by
  show Res.ok (L2.eqV (.int a) (.int b)) = _
  refine congrArg Res.ok ?_
  rw [Bool.eq_iff_iff, decide_eq_true_iff]
  show (a == b) = true ↔ _
  rw [beq_iff_eq]) may_int
theorem o_rD (n : Nat) {a b : List Lf} (ha : Ls a) (hb : Ls b) : eqO ow (n + 1) (rD a) (rD b) = .ok (decide (a = b)) := eqO_of (by
  show eqBl (m_Recipe_eq [rD a, rD b]) = _
  rw [req_ok ha hb]; rfl) (may_rD ha hb)
theorem o_ruD (n : Nat) {r s : Ru} (hr : RuV r) (hs : RuV s) : eqO ow (n + 1) (ruD r) (ruD s) = .ok (decide (r = s)) := eqO_of (by
  cases r <;> first | exact hr.elim | skip
  all_goals cases s <;> first | exact hs.elim | skip
  case key.key a b =>
    show eqBl (m_Key_eq [K a, K b]) = _
    rw [keq_ok hr hs]
    show Res.ok (decide (a = b)) = _
    refine congrArg Res.ok ?_
    simp
  all_goals rfl) (may_ruD hr hs)
theorem o_gv (n : Nat) {p q : Row} (hp : RowV p) (hq : RowV q) : eqO ow (n + 2) (gv p) (gv q) = .ok (decide (p = q)) := eqO_of (by
  show eqOs (eqO ow (n + 1)) [rD p.1, ruD p.2] [rD q.1, ruD q.2] = _
  rw [eqOs_cons (o_rD n hp.1 hq.1) (eqOs_cons (o_ruD n hp.2 hq.2) eqOs_nil)]
  refine congrArg Res.ok ?_
  rw [Bool.eq_iff_iff, decide_eq_true_iff, decide_eq_true_iff]
  exact ⟨fun h => Prod.ext h.1 h.2.1, fun h => by rw [h]; exact ⟨rfl, rfl, trivial⟩⟩) (may_gv hp hq)
theorem o_rows (n : Nat) {ps qs : List Row} (hp : ∀ p ∈ ps, RowV p) (hq : ∀ p ∈ qs, RowV p) : eqO ow (n + 3) (.tup (ps.map gv)) (.tup (qs.map gv)) = .ok (decide (ps = qs)) := eqO_of (by
  show eqOs (eqO ow (n + 2)) (ps.map gv) (qs.map gv) = _
  exact eqOs_map (fun a b ha hb => o_gv n ha hb) hp hq) fun h => may_map (fun a b ha hb => may_gv ha hb) hp hq (may_tup h)
theorem o_di (n : Nat) (a b : List Int) : eqO ow (n + 2) (di2 a) (di2 b) = .ok (decide (a = b)) := eqO_of (by
  show eqOs (eqO ow (n + 1)) (di a) (di b) = _
  exact eqOs_map (P := fun _ => True) (fun a b _ _ => o_int n a b) (fun _ _ => trivial) (fun _ _ => trivial)) may_di
theorem o_dr (n : Nat) (a b : List (List Int)) : eqO ow (n + 3) (drD a) (drD b) = .ok (decide (a = b)) := eqO_of (by
  show eqOs (eqO ow (n + 2)) (a.map di2) (b.map di2) = _
  exact eqOs_map (P := fun _ => True) (fun a b _ _ => o_di n a b) (fun _ _ => trivial) (fun _ _ => trivial)) fun h => may_map (P := fun _ => True) (fun a b _ _ => may_di) (fun _ _ => trivial) (fun _ _ => trivial) (may_tup h)
def held (p : Pn) : List D := [.int p.b, .int p.f, .int p.c, .tup (p.ps.map gv), drD p.dl]
def planD (p : Pn) : D := .ins 2 [w_held] [.tup (held p)]
structure PnV (p : Pn) : Prop where
  rows : ∀ x ∈ p.ps, RowV x
  some : p.ps ≠ []
theorem held_no {p : Pn} (h : PnV p) : toPy (.tup (held p)) = none := by
  obtain ⟨b, f, c, ps, dl⟩ := p
  cases ps with
  | nil => exact absurd rfl h.some
  | cons x xs => rfl
theorem plan_eq {p q : Pn} (hp : PnV p) (hq : PnV q) : m_Plan_eq [planD p, planD q] = .ok (.bl (decide (p = q))) := by
  show outR (b_Plan_eq [.sh (planD p), .sh (planD q)]) = _
  unfold b_Plan_eq
  refine ret_ok ?_
  refine (eAnd_ok (a := true) (b := decide (p = q)) rfl fun _ => ?_).trans (by rw [Bool.true_and])
  rw [bin_ok (x := .tup (held p)) (y := .tup (held q)) rfl rfl]
  have e1 : gEq false (.tup (held p)) (.tup (held q)) = .bad := by
    unfold gEq
    rw [held_no hp]
  unfold gAlt
  rw [e1]
  show (eqOs (eqO ow 5) (held p) (held q)).bind (fun b => Res.ok (D.bl b)) = _
  unfold held
  rw [eqOs_cons (o_int 4 _ _) (eqOs_cons (o_int 4 _ _) (eqOs_cons (o_int 4 _ _) (eqOs_cons (o_rows 2 hp.rows hq.rows) (eqOs_cons (o_dr 2 _ _) eqOs_nil))))]
  refine congrArg (fun x => Res.ok (D.bl x)) ?_
  rw [Bool.eq_iff_iff, decide_eq_true_iff, decide_eq_true_iff]
  obtain ⟨b, f, c, ps, dl⟩ := p
  obtain ⟨b', f', c', ps', dl'⟩ := q
  constructor
  · rintro ⟨h1, h2, h3, h4, h5, _⟩
    have h1 : b = b' := h1
    have h2 : (f : Int) = f' := h2
    have h3 : (c : Int) = c' := h3
    have h4 : ps = ps' := h4
    have h5 : dl = dl' := h5
    rw [h1, show f = f' by omega, show c = c' by omega, h4, h5]
  · intro h
    cases h
    exact ⟨rfl, rfl, rfl, rfl, rfl, trivial⟩
abbrev roB : En → Out := sApp 1 (eTup (aCons (eAt (gFld 1 w_form) (eVar 2)) (aCons (eIf (eB (eAt (gIsi (isiCX 0 3)) (eVar 3))) (eAlt (eAt (gProp 0 m_Key_names) (eVar 3)) (eAt (gProp 1 m_Recipe_names) (eVar 3))) (eVar 3)) (aNil))))
theorem ro_loop (pl : D) : ∀ (ps : List Row) (acc : List D) (a2 a3 : Sl), (∀ p ∈ ps, RowV p) → acc.length + ps.length ≤ 1000 → ∃ b2 b3, forL (gT 2 (gsCons (gV 2) (gsCons (gV 3) (gsNil)))) roB (ps.map gv) [.sh pl, .ow (.lst acc), a2, a3] = .nx [.sh pl, .ow (.lst (acc ++ ps.map plain)), b2, b3]
  | [], acc, a2, a3, _, _ => ⟨a2, a3, by show Out.nx [.sh pl, .ow (.lst acc), a2, a3] = _; rw [show acc ++ List.map plain [] = acc from List.append_nil acc]⟩
  | p :: ps, acc, a2, a3, h, hl => by
    rw [List.length_cons] at hl
    have hp := h p (List.mem_cons_self ..)
    obtain ⟨b2, b3, e⟩ := ro_loop pl ps (acc ++ [plain p]) (.sh (rD p.1)) (.sh (ruD p.2)) (fun x hx => h x (List.mem_cons_of_mem _ hx)) (by rw [List.length_append, List.length_singleton]; omega)
    refine ⟨b2, b3, ?_⟩
    have ru : eIf (eB (eAt (gIsi (isiCX 0 3)) (eVar 3))) (eAlt (eAt (gProp 0 m_Key_names) (eVar 3)) (eAt (gProp 1 m_Recipe_names) (eVar 3))) (eVar 3) [.sh pl, .ow (.lst acc), .sh (rD p.1), .sh (ruD p.2)] = .ok (ruN p.2) := by
      obtain ⟨ls, r⟩ := p
      cases r <;> first | exact hp.2.elim | rfl
    have b : roB [.sh pl, .ow (.lst acc), .sh (rD p.1), .sh (ruD p.2)] = .nx [.sh pl, .ow (.lst (acc ++ [plain p])), .sh (rD p.1), .sh (ruD p.2)] := app_ok rfl (tup2_ok rfl ru) (by omega)
    refine (forL_cons (dl := ps.map gv) (e1 := [.sh pl, .ow (.lst acc), .sh (rD p.1), .sh (ruD p.2)]) rfl b).trans (e.trans ?_)
    rw [List.append_assoc]
    rfl
theorem rows_of_ok {p : Pn} (h : PnV p) (hl : p.ps.length ≤ 10) : m__law_rows_of [planD p] = .ok (.lst (p.ps.map plain)) := by
  obtain ⟨b2, b3, e⟩ := ro_loop (planD p) p.ps [] .no .no h.rows (by rw [List.length_nil]; omega)
  show outR (b__law_rows_of [.sh (planD p), .no, .no, .no]) = _
  unfold b__law_rows_of
  refine (congrArg outR (newL_ok (dl := []) rfl (by decide) (show 1 < 4 by decide))).trans ?_
  refine (congrArg outR (for_ok (dl := p.ps.map gv) rfl e)).trans ?_
  rfl
end Lw
namespace Lw
open PySem Dl
theorem eCall5 {F : List D → Res D} {f1 f2 f3 f4 f5 : En → Res D} {env : En} {a b c d e : D} (h1 : f1 env = .ok a) (h2 : f2 env = .ok b) (h3 : f3 env = .ok c) (h4 : f4 env = .ok d) (h5 : f5 env = .ok e) : eCall F (aCons f1 (aCons f2 (aCons f3 (aCons f4 (aCons f5 aNil))))) env = F [a, b, c, d, e] := by
  unfold eCall aCons; rw [h1, h2, h3, h4, h5]; rfl
theorem eCall6 {F : List D → Res D} {f1 f2 f3 f4 f5 f6 : En → Res D} {env : En} {a b c d e g : D} (h1 : f1 env = .ok a) (h2 : f2 env = .ok b) (h3 : f3 env = .ok c) (h4 : f4 env = .ok d) (h5 : f5 env = .ok e) (h6 : f6 env = .ok g) : eCall F (aCons f1 (aCons f2 (aCons f3 (aCons f4 (aCons f5 (aCons f6 aNil)))))) env = F [a, b, c, d, e, g] := by
  unfold eCall aCons; rw [h1, h2, h3, h4, h5, h6]; rfl
/-- the answers of the wrong parts -/
def parts : List Str := [w_BASE, w_FIELDS, w_CELLS, w_PLACES, w_DROPS]
theorem init_bad {b f c g d : D} {x : Str} (hx : x ∈ parts) (h : m_wrong_part [b, f, c, g, d] = .ok (.str x)) : i1_Plan [b, f, c, g, d] = .ex 3 [.str x] := by
  have ok : okFD (.str x) = true := by
    have : (parts.all fun x => okFD (.str x)) = true := by decide +kernel
    exact (List.all_eq_true.mp this) x hx
  show outI 2 (b_Plan_init [.ow (.ins 2 [] []), .sh b, .sh f, .sh c, .sh g, .sh d, .no]) = _
  unfold b_Plan_init
  refine (congrArg (outI 2) (step_asg (d := .str x) (env' := [.ow (.ins 2 [] []), .sh b, .sh f, .sh c, .sh g, .sh d, .sh (.str x)]) (by rw [eCall5 (a := b) (b := f) (c := c) (d := g) (e := d) rfl rfl rfl rfl rfl]; exact h) rfl)).trans ?_
  have e : sIf (eB (eBin (gNotN) (eVar 6) (eC .non))) (sRaiseX 3 (eVar 6)) (sNext) [.ow (.ins 2 [] []), .sh b, .sh f, .sh c, .sh g, .sh d, .sh (.str x)] = .xx 3 [.str x] [.ow (.ins 2 [] []), .sh b, .sh f, .sh c, .sh g, .sh d, .sh (.str x)] := by
    rw [sif_yes rfl]
    show (if okFD (.str x) = true then Out.xx 3 [.str x] [.ow (.ins 2 [] []), .sh b, .sh f, .sh c, .sh g, .sh d, .sh (.str x)] else .bad) = _
    rw [if_pos ok]
  unfold sSeq
  rw [e]
  rfl
def fill (c : Nat) : D → D
  | .non => .tup (List.replicate c (.tup []))
  | d => d
theorem init_ok {b f g d : D} {c : Nat} (hc : c ≤ 2) (h : m_wrong_part [b, f, .int c, g, d] = .ok .non) (hd : ∀ x, d = x → ∃ k, gIsN d .non = .ok (.bl k) ∧ (k = true → d = .non)) : i1_Plan [b, f, .int c, g, d] = .ok ([w_held], [.tup [b, f, .int c, g, fill c d]]) := by
  show outI 2 (b_Plan_init [.ow (.ins 2 [] []), .sh b, .sh f, .sh (.int c), .sh g, .sh d, .no]) = _
  unfold b_Plan_init
  refine (congrArg (outI 2) (step_asg (d := .non) (env' := [.ow (.ins 2 [] []), .sh b, .sh f, .sh (.int c), .sh g, .sh d, .sh .non]) (by rw [eCall5 (a := b) (b := f) (c := .int c) (d := g) (e := d) rfl rfl rfl rfl rfl]; exact h) rfl)).trans ?_
  refine (congrArg (outI 2) (step_if rfl)).trans ?_
  cases d with
  | non =>
    have : c = 0 ∨ c = 1 ∨ c = 2 := by omega
    rcases this with rfl | rfl | rfl <;> rfl
  | _ => rfl
theorem made_bad {b f c g d : D} {x : Str} {sh : Bool} (hx : x ∈ parts) (h : m_wrong_part [b, f, c, g, d] = .ok (.str x)) (hs : sh = true → d = .non) : m__law_made [b, f, c, g, d, .bl sh] = .ok (.str x) := by
  show outR (b__law_made [.sh b, .sh f, .sh c, .sh g, .sh d, .sh (.bl sh), .no]) = _
  unfold b__law_made sTryAs
  have e : ∃ env', env'.length = 7 ∧ (sSeq (sIf (eTru (eVar 5)) (sRet (eCall (fun ds => insR 2 (i_Plan ds)) (aCons (eVar 0) (aCons (eVar 1) (aCons (eVar 2) (aCons (eVar 3) (aNil))))))) (sNext)) (sRet (eMakeK 2 4 i1_Plan (aCons (eVar 0) (aCons (eVar 1) (aCons (eVar 2) (aCons (eVar 3) (aNil))))) (eVar 4)))) [.sh b, .sh f, .sh c, .sh g, .sh d, .sh (.bl sh), .no] = .xx 3 [.str x] env' := by
    refine ⟨[.sh b, .sh f, .sh c, .sh g, .sh d, .sh (.bl sh), .no], rfl, ?_⟩
    cases sh with
    | true =>
      have hd := hs rfl
      subst hd
      have e1 : eCall (fun ds => insR 2 (i_Plan ds)) (aCons (eVar 0) (aCons (eVar 1) (aCons (eVar 2) (aCons (eVar 3) (aNil))))) [.sh b, .sh f, .sh c, .sh g, .sh .non, .sh (.bl true), .no] = .ex 3 [.str x] := by
        rw [call4 (a := b) (b := f) (c := c) (d := g) rfl rfl rfl rfl]
        show insR 2 (i1_Plan [b, f, c, g, .non]) = _
        rw [init_bad hx h]; rfl
      unfold sSeq
      rw [sif_yes rfl]
      unfold sRet
      rw [e1]
      rfl
    | false =>
      rw [Dl.step_if rfl]
      unfold sRet eMakeK
      show lift (insR 2 (i1_Plan [b, f, c, g, d])) _ _ = _
      rw [init_bad hx h]; rfl
  obtain ⟨env', hl, e⟩ := e
  rw [e]
  show outR (if (3 : Nat) = 3 ∧ 6 < env'.length then Out.rt (.str x) else .bad) = _
  rw [hl, if_pos ⟨rfl, by decide⟩]
  rfl
theorem made_ok {b f g d : D} {c : Nat} {sh : Bool} (hc : c ≤ 2) (h : m_wrong_part [b, f, .int c, g, d] = .ok .non) (hs : sh = true → d = .non) : m__law_made [b, f, .int c, g, d, .bl sh] = .ok (.ins 2 [w_held] [.tup [b, f, .int c, g, fill c d]]) := by
  show outR (b__law_made [.sh b, .sh f, .sh (.int c), .sh g, .sh d, .sh (.bl sh), .no]) = _
  unfold b__law_made sTryAs
  have i := init_ok hc h (fun x _ => by
    cases d <;> exact ⟨_, rfl, fun z => by first | rfl | cases z⟩)
  have e : (sSeq (sIf (eTru (eVar 5)) (sRet (eCall (fun ds => insR 2 (i_Plan ds)) (aCons (eVar 0) (aCons (eVar 1) (aCons (eVar 2) (aCons (eVar 3) (aNil))))))) (sNext)) (sRet (eMakeK 2 4 i1_Plan (aCons (eVar 0) (aCons (eVar 1) (aCons (eVar 2) (aCons (eVar 3) (aNil))))) (eVar 4)))) [.sh b, .sh f, .sh (.int c), .sh g, .sh d, .sh (.bl sh), .no] = .rt (.ins 2 [w_held] [.tup [b, f, .int c, g, fill c d]]) := by
    cases sh with
    | true =>
      have hd := hs rfl
      subst hd
      exact Dl.step_ret rfl (by
        rw [call4 (a := b) (b := f) (c := .int c) (d := g) rfl rfl rfl rfl]
        show insR 2 (i1_Plan [b, f, .int c, g, .non]) = _
        rw [i]; rfl)
    | false =>
      rw [Dl.step_if rfl]
      unfold sRet eMakeK
      show lift (insR 2 (i1_Plan [b, f, .int c, g, d])) _ _ = _
      rw [i]; rfl
  rw [e]
  rfl
/-! drops that may stand are tuples of tuples of numbers -/
def isI : D → Bool
  | .int _ => true
  | _ => false
def isIT : D → Bool
  | .tup xs => xs.all isI
  | _ => false
theorem isIT_ok {d : D} (h : isIT d = true) : ∃ l, d = di2 l := by
  cases d with
  | tup xs =>
    replace h : xs.all isI = true := h
    have : ∃ l : List Int, xs = di l := by
      induction xs with
      | nil => exact ⟨[], rfl⟩
      | cons x xs ih =>
        rw [List.all_cons, Bool.and_eq_true] at h
        obtain ⟨l, e⟩ := ih h.2
        cases x with
        | int i => exact ⟨i :: l, by rw [e]; rfl⟩
        | _ => cases h.1
    obtain ⟨l, e⟩ := this
    exact ⟨l, by rw [e]⟩
  | _ => cases h
theorem asc_all : (((items 1).all fun d => !asc 1 d || isIT d) && ((items 2).all fun d => !asc 2 d || isIT d) && ((items 3).all fun d => !asc 3 d || isIT d)) = true := by decide +kernel
theorem asc_it {n : Nat} (hn : 1 ≤ n ∧ n ≤ 3) {d : D} (h : d ∈ items n) (ha : asc n d = true) : ∃ l, d = di2 l := by
  have a := asc_all
  rw [Bool.and_eq_true, Bool.and_eq_true, List.all_eq_true, List.all_eq_true, List.all_eq_true] at a
  have k : (!asc n d || isIT d) = true := by
    have : n = 1 ∨ n = 2 ∨ n = 3 := by omega
    rcases this with rfl | rfl | rfl
    · exact a.1.1 d h
    · exact a.1.2 d h
    · exact a.2 d h
  rw [ha] at k
  exact isIT_ok k
theorem its_map {n : Nat} (hn : 1 ≤ n ∧ n ≤ 3) : ∀ {xs : List D}, (∀ x ∈ xs, x ∈ items n) → xs.all (asc n) = true → ∃ dl : List (List Int), xs = dl.map di2
  | [], _, _ => ⟨[], rfl⟩
  | x :: xs, h, ha => by
    rw [List.all_cons, Bool.and_eq_true] at ha
    obtain ⟨l, e⟩ := asc_it hn (h x (List.mem_cons_self ..)) ha.1
    obtain ⟨dl, e2⟩ := its_map hn (fun y hy => h y (List.mem_cons_of_mem _ hy)) ha.2
    exact ⟨l :: dl, by rw [e, e2]; rfl⟩
theorem fill_dr {c n : Nat} (hn : 1 ≤ n ∧ n ≤ 3) {d : D} (h : GoneOk n d) (ok : okD c n d = true) : ∃ dl, fill c d = drD dl := by
  cases h with
  | non => exact ⟨List.replicate c [], by show D.tup (List.replicate c (.tup [])) = D.tup ((List.replicate c []).map di2); rw [List.map_replicate]; rfl⟩
  | tup hx hl =>
    rename_i xs
    have ok : (decide (xs.length = c) && xs.all (asc n)) = true := ok
    rw [Bool.and_eq_true] at ok
    obtain ⟨dl, e⟩ := its_map hn hx ok.2
    exact ⟨dl, by show D.tup xs = _; rw [e]; rfl⟩
  | lst => cases ok
  | five => cases ok
  | zero => cases ok
theorem lenOwn_ins (k : Nat) (F : List D → Res D) (nn : List Str) (xs : List D) : fLenOwn k F [.ins k nn xs] = (lenI (F [.ins k nn xs])).bind fun n => .ok (.int n) := by
  unfold fLenOwn
  simp only [if_true]
theorem lenI_ok {i : Int} (h : 0 ≤ i ∧ i < 2 ^ 63) : lenI (.ok (.int i)) = .ok i := by
  unfold lenI
  rw [Res.bind_ok]
  exact if_pos h
abbrev fLenA : List D → Res D := fAlt (fLenOwn 0 m_Key_len) (fAlt (fLenOwn 1 m_Recipe_len) (fAlt (fLenOwn 2 m_Plan_len) (fLen)))
theorem pl_len (p : Pn) (hl : p.ps.length ≤ 3) : fLenA [planD p] = .ok (.int p.ps.length) := by
  have e : m_Plan_len [planD p] = .ok (.int (p.ps.map gv).length) := rfl
  rw [List.length_map] at e
  have e2 : fLenOwn 2 m_Plan_len [planD p] = .ok (.int p.ps.length) := by
    unfold planD at e ⊢
    rw [lenOwn_ins, e, lenI_ok ⟨by omega, by omega⟩]
    rfl
  show ((fLenOwn 0 m_Key_len [planD p]).alt ((fLenOwn 1 m_Recipe_len [planD p]).alt ((fLenOwn 2 m_Plan_len [planD p]).alt (fLen [planD p])))) = _
  rw [e2]
  rfl
theorem getitem_ok (p : Pn) (hl : p.ps.length ≤ 3) (k : Nat) (x : Row) (h : p.ps[k]? = some x) : m_Plan_getitem [planD p, .int k] = .ok (gv x) := by
  obtain ⟨b, f, c, ps, dl⟩ := p
  match ps, k, hl, h with
  | [a], 0, _, h => cases h; rfl
  | [a, _], 0, _, h => cases h; rfl
  | [_, a], 1, _, h => cases h; rfl
  | [a, _, _], 0, _, h => cases h; rfl
  | [_, a, _], 1, _, h => cases h; rfl
  | [_, _, a], 2, _, h => cases h; rfl
  | [], _, _, h => cases h
  | [_], k + 1, _, h => cases h
  | [_, _], k + 2, _, h => cases h
  | [_, _, _], k + 3, _, h => cases h
  | _ :: _ :: _ :: _ :: _, _, hl, _ => exact absurd hl (by simp only [List.length_cons]; omega)
end Lw
namespace Lw
open PySem Dl
theorem okP_all {b : Int} {f c : Nat} : ∀ {i : Nat} {ps : List Row}, okP b f c i ps = true → ∀ p ∈ ps, ∃ us, ruOk us p.2 = true
  | i, p :: ps, h, x, hx => by
    have h : (pok b (us f c i) p.1 p.2 && okP b f c (i + 1) ps) = true := h
    rw [Bool.and_eq_true] at h
    rcases List.mem_cons.mp hx with rfl | hx
    · have h1 := h.1
      unfold pok at h1
      rw [Bool.and_eq_true] at h1
      exact ⟨_, h1.2⟩
    · exact okP_all h.2 x hx
theorem ruV_of {us : List Str} {r : Ru} (h : ruOk us r = true) (g : RuG r) : RuV r := by
  cases r <;> first | trivial | exact g | (cases h; done)
def handL (ps : List Row) : List D := [.tup (ps.map gv), .lst (ps.map gv), .tup (ps.map gv ++ [.int 5]), .non, .tup ((ps.map gv).take 1 ++ [.tup [.non, .non]])]
theorem core {b f c g : D} (hb : b ∈ baseVs) (hf : f ∈ fieldVs) (hc : c ∈ cellVs) {ps : List Row} (hps : ∀ p ∈ ps, RowOk p) (hg : GoneOk ps.length g) (k : Nat) (hk : k ≤ 4) :
    ∃ due, m__law_wrong [b, f, c, .tup (ps.map lw), .int k, g] = .ok due ∧ ((∃ x, x ∈ parts ∧ due = .str x ∧ m_wrong_part [b, f, c, (handL ps).getD k .non, g] = .ok (.str x)) ∨
      (due = .non ∧ k = 0 ∧ ∃ (bi : Int) (fi ci : Nat) (dl : List (List Int)), b = .int bi ∧ f = .int fi ∧ c = .int ci ∧ ci ≤ 2 ∧ (1 ≤ ps.length ∧ ps.length ≤ 3) ∧ (∀ p ∈ ps, RowV p) ∧ m_wrong_part [b, f, c, .tup (ps.map gv), g] = .ok .non ∧ fill ci g = drD dl)) := by
  rcases head_ok hb hf hc with ⟨x, hx, h1, h2⟩ | ⟨bi, fi, ci, rfl, rfl, rfl, b1, b2, f1, f2, c2, h1, h2⟩
  · exact ⟨_, h2 _ _ _, .inl ⟨x, by rcases hx with rfl | rfl | rfl <;> decide, rfl, h1 _ _⟩⟩
  · have L := lw_tail (b := bi) (f := fi) (c := ci) hps (k := k) (dr := g) (okd := okD ci ps.length g) fun _ hl _ => dr_ok hl hg
    rw [h2, L]
    have hm : (ps.map gv).length = ps.length := List.length_map ..
    have no : k ≠ 0 → m_wrong_part [.int bi, .int fi, .int ci, (handL ps).getD k .non, g] = .ok (.str w_PLACES) := fun hk0 => by
      rw [h1]
      have : k = 1 ∨ k = 2 ∨ k = 3 ∨ k = 4 := by omega
      rcases this with rfl | rfl | rfl | rfl
      · exact wp_bad fun _ _ => rfl
      · have := wp_tail (dr := g) (okd := true) (show fi < 4 by omega) (show ci < 3 by omega) (PF.app (x := .int 5) (fun i => pair_no1 bi _) (pf_rows (b := bi) (f := fi) (c := ci) (i := 0) hps)) fun _ z => (nomatch z)
        rw [Bool.and_false] at this
        exact this
      · exact wp_bad fun _ _ => rfl
      · have := wp_tail (dr := g) (okd := true) (show fi < 4 by omega) (show ci < 3 by omega) (PF.app (x := .tup [.non, .non]) (fun i => pair_no2 bi _) (pf_rows (b := bi) (f := fi) (c := ci) (i := 0) (ps := ps.take 1) fun p hp => hps p (List.mem_of_mem_take hp))) fun _ z => (nomatch z)
        rw [Bool.and_false, List.map_take] at this
        exact this
    by_cases hk0 : k = 0
    · subst hk0
      have W := wp_tail (dr := g) (okd := okD ci ps.length g) (show fi < 4 by omega) (show ci < 3 by omega) (pf_rows (b := bi) (f := fi) (c := ci) (i := 0) hps) (fun hl _ => by rw [hm] at hl ⊢; exact dr_ok hl hg)
      rw [hm] at W
      refine ⟨_, rfl, ?_⟩
      have z : decide (((0 : Nat) : Int) = 0) = true := rfl
      rw [z, Bool.true_and]
      cases q : decide (1 ≤ ps.length ∧ ps.length ≤ 3) && okP bi fi ci 0 ps with
      | false =>
        rw [q] at W
        exact .inl ⟨w_PLACES, by decide, rfl, by rw [h1]; exact W⟩
      | true =>
        rw [q] at W
        cases q2 : okD ci ps.length g with
        | false =>
          rw [q2] at W
          exact .inl ⟨w_DROPS, by decide, rfl, by rw [h1]; exact W⟩
        | true =>
          rw [q2] at W
          rw [Bool.and_eq_true, decide_eq_true_iff] at q
          obtain ⟨dl, ed⟩ := fill_dr q.1 hg q2
          refine .inr ⟨rfl, rfl, bi, fi, ci, dl, rfl, rfl, rfl, c2, q.1, fun p hp => ?_, by rw [h1]; exact W, ed⟩
          obtain ⟨us, hu⟩ := okP_all q.2 p hp
          exact ⟨(hps p hp).1, ruV_of hu (hps p hp).2⟩
    · have z : decide ((k : Int) = 0) = false := decide_eq_false (by omega)
      rw [z, Bool.false_and]
      exact ⟨_, rfl, .inl ⟨w_PLACES, by decide, rfl, no hk0⟩⟩
abbrev qE (ns : List Int) (i : Int) (s2 s3 s4 s5 s6 s7 s8 s9 s10 s11 s12 s13 : Sl) : En := [.sh (.scr ns), .sh (.int i), s2, s3, s4, s5, s6, s7, s8, s9, s10, s11, s12, s13, .no, .no, .no]
theorem pick_in (ns : List Int) (hl : ns.length ≤ 63) (i : Int) (h0 : 0 ≤ i) (h : i < 100000) (good bad all : List D) (g0 : 0 < good.length) (b0 : 0 < bad.length) (hs : ∀ x ∈ good ++ bad, x ∈ all) :
    ∃ x, x ∈ all ∧ m__law_pick [.scr ns, .int i, .tup good, .tup bad] = .ok x := by
  obtain ⟨x, hx, e⟩ := pick_ok ns hl i h0 h good bad g0 b0
  exact ⟨x, hs x hx, e⟩
theorem parts_eq : (parts.all fun x => isR (gEq false (.str x) (.str x)) (.bl true)) = true := by decide +kernel
theorem plan_right_ok (ns : List Int) (hl : ns.length ≤ 63) (i : Int) (h0 : 0 ≤ i) (h : i ≤ 2000) :
    ∃ r, m__law_plan_right [.scr ns, .int i] = .ok (.tup [.bl true, r]) ∧ (r = .non ∨ ∃ p, r = planD p ∧ PnV p ∧ p.ps.length ≤ 3) := by
  obtain ⟨b, hb, eb⟩ := pick_in ns hl i h0 (by omega) [.int 2, .int 3, .int 2, .int 3] [.int 1, .int 4, .bl true, .non, .str w_2, .tup [.int 2], .int 0] baseVs (by decide) (by decide) (fun x hx => by
    simp only [List.cons_append, List.nil_append, List.mem_cons, List.not_mem_nil, or_false] at hx
    rcases hx with rfl | rfl | rfl | rfl | rfl | rfl | rfl | rfl | rfl | rfl | rfl <;> simp [baseVs])
  obtain ⟨f, hf, ef⟩ := pick_in ns hl (i + 1) (by omega) (by omega) [.int 1, .int 2, .int 1, .int 3] [.int 0, .int 4, .bl true, .non, .str w_1, .int (-1)] fieldVs (by decide) (by decide) (fun x hx => by
    simp only [List.cons_append, List.nil_append, List.mem_cons, List.not_mem_nil, or_false] at hx
    rcases hx with rfl | rfl | rfl | rfl | rfl | rfl | rfl | rfl | rfl | rfl <;> simp [fieldVs])
  obtain ⟨c, hc, ec⟩ := pick_in ns hl (i + 2) (by omega) (by omega) [.int 1, .int 0, .int 2, .int 1] [.int (-1), .int 3, .bl true, .non, .str w_0, .int (10 ^ 20)] cellVs (by decide) (by decide) (fun x hx => by
    simp only [List.cons_append, List.nil_append, List.mem_cons, List.not_mem_nil, or_false] at hx
    rcases hx with rfl | rfl | rfl | rfl | rfl | rfl | rfl | rfl | rfl | rfl <;> simp [cellVs])
  obtain ⟨ps, hps, hpl, ep⟩ := places_ok ns hl (i + 10) (by omega) (by omega)
  obtain ⟨kD, hk, ek⟩ := pick_ok ns hl (i + 3) (by omega) (by omega) [.int 0] [.int 1, .int 2, .int 3, .int 4] (by decide) (by decide)
  have hk : ∃ k : Nat, k ≤ 4 ∧ kD = .int k := by
    simp only [List.cons_append, List.nil_append, List.mem_cons, List.not_mem_nil, or_false] at hk
    rcases hk with rfl | rfl | rfl | rfl | rfl
    · exact ⟨0, by decide, rfl⟩
    · exact ⟨1, by decide, rfl⟩
    · exact ⟨2, by decide, rfl⟩
    · exact ⟨3, by decide, rfl⟩
    · exact ⟨4, by decide, rfl⟩
  obtain ⟨k, hk4, rfl⟩ := hk
  obtain ⟨g, hg, eg⟩ := drops_ok ns hl (i + 90) (by omega) (by omega) hc ps.length (by omega)
  obtain ⟨v, hv⟩ := numberI ns hl (i + 99) (by omega) (by omega)
  obtain ⟨due, ed, hcase⟩ := core hb hf hc hps hg k hk4
  have hm : (ps.map gv).length = ps.length := List.length_map ..
  have hm2 : (ps.map lw).length = ps.length := List.length_map ..
  generalize hgs : ps.map gv = gs at *
  generalize hhd : (handL ps).getD k .non = hd at *
  have add : ∀ (env : En) (j : Int), eVar 1 env = .ok (.int i) → eBin (gAlt (gOwn 1 m_Recipe_add) (gAddW)) (eVar 1) (eC (.int j)) env = .ok (.int (i + j)) := fun env j z => by
    rw [bin_ok (x := .int i) (y := .int j) z rfl]; rfl
  have s0 : ∀ G, sSeq (sAsg (eCall m__law_pick (aCons (eVar 0) (aCons (eVar 1) (aCons (eTup (aCons (eC (.int 2)) (aCons (eC (.int 3)) (aCons (eC (.int 2)) (aCons (eC (.int 3)) (aNil)))))) (aCons (eTup (aCons (eC (.int 1)) (aCons (eC (.int 4)) (aCons (eC (.bl true)) (aCons (eC .non) (aCons (eC (.str w_2)) (aCons (eTup (aCons (eC (.int 2)) (aNil))) (aCons (eC (.int 0)) (aNil))))))))) (aNil)))))) (gV 2)) G (qE ns i .no .no .no .no .no .no .no .no .no .no .no .no) = G (qE ns i (.sh b) .no .no .no .no .no .no .no .no .no .no .no) := fun G => step_asg (by
    rw [call4 (a := .scr ns) (b := .int i) (c := .tup [.int 2, .int 3, .int 2, .int 3]) (d := .tup [.int 1, .int 4, .bl true, .non, .str w_2, .tup [.int 2], .int 0]) rfl rfl rfl rfl]; exact eb) rfl
  have s1 : ∀ G, sSeq (sAsg (eCall m__law_pick (aCons (eVar 0) (aCons (eBin (gAlt (gOwn 1 m_Recipe_add) (gAddW)) (eVar 1) (eC (.int 1))) (aCons (eTup (aCons (eC (.int 1)) (aCons (eC (.int 2)) (aCons (eC (.int 1)) (aCons (eC (.int 3)) (aNil)))))) (aCons (eTup (aCons (eC (.int 0)) (aCons (eC (.int 4)) (aCons (eC (.bl true)) (aCons (eC .non) (aCons (eC (.str w_1)) (aCons (eNeg (eC (.int 1))) (aNil)))))))) (aNil)))))) (gV 3)) G (qE ns i (.sh b) .no .no .no .no .no .no .no .no .no .no .no) = G (qE ns i (.sh b) (.sh f) .no .no .no .no .no .no .no .no .no .no) := fun G => step_asg (by
    rw [call4 (a := .scr ns) (b := .int (i + 1)) (c := .tup [.int 1, .int 2, .int 1, .int 3]) (d := .tup [.int 0, .int 4, .bl true, .non, .str w_1, .int (-1)]) rfl (add _ 1 rfl) rfl rfl]; exact ef) rfl
  have s2 : ∀ G, sSeq (sAsg (eCall m__law_pick (aCons (eVar 0) (aCons (eBin (gAlt (gOwn 1 m_Recipe_add) (gAddW)) (eVar 1) (eC (.int 2))) (aCons (eTup (aCons (eC (.int 1)) (aCons (eC (.int 0)) (aCons (eC (.int 2)) (aCons (eC (.int 1)) (aNil)))))) (aCons (eTup (aCons (eNeg (eC (.int 1))) (aCons (eC (.int 3)) (aCons (eC (.bl true)) (aCons (eC .non) (aCons (eC (.str w_0)) (aCons (eBin (gPowI) (eC (.int 10)) (eC (.int 20))) (aNil)))))))) (aNil)))))) (gV 4)) G (qE ns i (.sh b) (.sh f) .no .no .no .no .no .no .no .no .no .no) = G (qE ns i (.sh b) (.sh f) (.sh c) .no .no .no .no .no .no .no .no .no) := fun G => step_asg (by
    rw [call4 (a := .scr ns) (b := .int (i + 2)) (c := .tup [.int 1, .int 0, .int 2, .int 1]) (d := .tup [.int (-1), .int 3, .bl true, .non, .str w_0, .int (10 ^ 20)]) rfl (add _ 2 rfl) rfl rfl]; exact ec) rfl
  have s3 : ∀ G, sSeq (sPar2 12 13 (aCons (eCall m__law_places (aCons (eVar 0) (aCons (eBin (gAlt (gOwn 1 m_Recipe_add) (gAddW)) (eVar 1) (eC (.int 10))) (aNil)))) (aCons (eCall m__law_pick (aCons (eVar 0) (aCons (eBin (gAlt (gOwn 1 m_Recipe_add) (gAddW)) (eVar 1) (eC (.int 3))) (aCons (eTup (aCons (eC (.int 0)) (aNil))) (aCons (eTup (aCons (eC (.int 1)) (aCons (eC (.int 2)) (aCons (eC (.int 3)) (aCons (eC (.int 4)) (aNil)))))) (aNil)))))) (aNil)))) G (qE ns i (.sh b) (.sh f) (.sh c) .no .no .no .no .no .no .no .no .no) = G (qE ns i (.sh b) (.sh f) (.sh c) .no .no .no .no .no .no .no (.sh (.tup (ps.map lw))) (.sh (.int k))) := fun G => par2_ok (x := .tup (ps.map lw)) (y := .int k) (by
      rw [eCall2 (d := .scr ns) (d' := .int (i + 10)) rfl (add _ 10 rfl)]; exact ep) (by
      rw [call4 (a := .scr ns) (b := .int (i + 3)) (c := .tup [.int 0]) (d := .tup [.int 1, .int 2, .int 3, .int 4]) rfl (add _ 3 rfl) rfl rfl]; exact ek) ⟨(show 12 < 17 by decide), (show 13 < 17 by decide)⟩
  have z4 := eLc_ok (vs := [14, 15]) (fi := eIt (eVar 12)) (h := gT 2 (gsCons (gV 14) (gsCons (gV 15) (gsNil)))) (ft := bYes) (fe := eTup (aCons (eCall (fun ds => insR 1 (i_Recipe ds)) (aCons (eVar 14) (aNil))) (aCons (eVar 15) (aNil)))) (env := qE ns i (.sh b) (.sh f) (.sh c) .no .no .no .no .no .no .no (.sh (.tup (ps.map lw))) (.sh (.int k))) ps (fun _ => true) lw gv rfl (by omega) fun p hp => ⟨[.sh (.scr ns), .sh (.int i), .sh b, .sh f, .sh c, .no, .no, .no, .no, .no, .no, .no, .sh (.tup (ps.map lw)), .sh (.int k), .sh (fD p.1), .sh (ruD p.2), .no], rfl, rfl, tup2_ok (by rw [eCall1 (d := fD p.1) rfl]; exact ls_R (hps p hp).1) rfl⟩
  rw [filt_true, hgs] at z4
  have s4 : ∀ G, sSeq (sAsg (eCall fTup (aCons (eLc [14, 15] (eIt (eVar 12)) (gT 2 (gsCons (gV 14) (gsCons (gV 15) (gsNil)))) (bYes) (eTup (aCons (eCall (fun ds => insR 1 (i_Recipe ds)) (aCons (eVar 14) (aNil))) (aCons (eVar 15) (aNil))))) (aNil))) (gV 5)) G (qE ns i (.sh b) (.sh f) (.sh c) .no .no .no .no .no .no .no (.sh (.tup (ps.map lw))) (.sh (.int k))) = G (qE ns i (.sh b) (.sh f) (.sh c) (.sh (.tup gs)) .no .no .no .no .no .no (.sh (.tup (ps.map lw))) (.sh (.int k))) := fun G => step_asg (d := .tup gs) (by rw [eCall1 z4]; rfl) rfl
  have t5 : eTup (aCons (eVar 5) (aCons (eCall fLst (aCons (eVar 5) (aNil))) (aCons (eBin (gAlt (gOwn 1 m_Recipe_add) (gAddW)) (eVar 5) (eTup (aCons (eC (.int 5)) (aNil)))) (aCons (eC .non) (aCons (eBin (gAlt (gOwn 1 m_Recipe_add) (gAddW)) (eSl (eVar 5) (oNo) (oSome (eC (.int 1)))) (eTup (aCons (eTup (aCons (eC .non) (aCons (eC .non) (aNil)))) (aNil)))) (aNil)))))) (qE ns i (.sh b) (.sh f) (.sh c) (.sh (.tup gs)) .no .no .no .no .no .no (.sh (.tup (ps.map lw))) (.sh (.int k))) = .ok (.tup (handL ps)) := by
    unfold handL
    rw [hgs]
    refine tup_ok (aCons_ok rfl (aCons_ok rfl (aCons_ok ?_ (aCons_ok rfl (aCons_ok ?_ rfl))))) (by show (5 : Nat) ≤ 100000; decide)
    · rw [bin_ok (x := .tup gs) (y := .tup [.int 5]) rfl rfl]
      exact catT_ok gs [.int 5] (by show gs.length + 1 ≤ 100000; omega)
    · rw [bin_ok (x := .tup (gs.take 1)) (y := .tup [.tup [.non, .non]]) (take1 gs rfl) rfl]
      exact catT_ok (gs.take 1) [.tup [.non, .non]] (by have := take_small gs 1 10 (by omega); show (gs.take 1).length + 1 ≤ 100000; omega)
  have s5 : ∀ G, sSeq (sAsg (eBin gIx (eTup (aCons (eVar 5) (aCons (eCall fLst (aCons (eVar 5) (aNil))) (aCons (eBin (gAlt (gOwn 1 m_Recipe_add) (gAddW)) (eVar 5) (eTup (aCons (eC (.int 5)) (aNil)))) (aCons (eC .non) (aCons (eBin (gAlt (gOwn 1 m_Recipe_add) (gAddW)) (eSl (eVar 5) (oNo) (oSome (eC (.int 1)))) (eTup (aCons (eTup (aCons (eC .non) (aCons (eC .non) (aNil)))) (aNil)))) (aNil))))))) (eVar 13)) (gV 6)) G (qE ns i (.sh b) (.sh f) (.sh c) (.sh (.tup gs)) .no .no .no .no .no .no (.sh (.tup (ps.map lw))) (.sh (.int k))) = G (qE ns i (.sh b) (.sh f) (.sh c) (.sh (.tup gs)) (.sh hd) .no .no .no .no .no (.sh (.tup (ps.map lw))) (.sh (.int k))) := fun G => step_asg (by
    rw [bin_ok (x := .tup (handL ps)) (y := .int k) t5 rfl, ← hhd]
    have : k = 0 ∨ k = 1 ∨ k = 2 ∨ k = 3 ∨ k = 4 := by omega
    rcases this with rfl | rfl | rfl | rfl | rfl <;> rfl) rfl
  have s6 : ∀ G, sSeq (sAsg (eCall m__law_drops (aCons (eVar 0) (aCons (eBin (gAlt (gOwn 1 m_Recipe_add) (gAddW)) (eVar 1) (eC (.int 90))) (aCons (eVar 4) (aCons (eCall (fAlt (fLenOwn 0 m_Key_len) (fAlt (fLenOwn 1 m_Recipe_len) (fAlt (fLenOwn 2 m_Plan_len) (fLen)))) (aCons (eVar 12) (aNil))) (aNil)))))) (gV 7)) G (qE ns i (.sh b) (.sh f) (.sh c) (.sh (.tup gs)) (.sh hd) .no .no .no .no .no (.sh (.tup (ps.map lw))) (.sh (.int k))) = G (qE ns i (.sh b) (.sh f) (.sh c) (.sh (.tup gs)) (.sh hd) (.sh g) .no .no .no .no (.sh (.tup (ps.map lw))) (.sh (.int k))) := fun G => step_asg (by
    rw [call4 (a := .scr ns) (b := .int (i + 90)) (c := c) (d := .int ps.length) rfl (add _ 90 rfl) rfl (by rw [eCall1 (d := .tup (ps.map lw)) rfl]; show Res.ok (D.int ((ps.map lw).length : Nat)) = _; rw [hm2])]; exact eg) rfl
  have s7 : ∀ G, sSeq (sAsg (eCall m__law_wrong (aCons (eVar 2) (aCons (eVar 3) (aCons (eVar 4) (aCons (eVar 12) (aCons (eVar 13) (aCons (eVar 7) (aNil)))))))) (gV 8)) G (qE ns i (.sh b) (.sh f) (.sh c) (.sh (.tup gs)) (.sh hd) (.sh g) .no .no .no .no (.sh (.tup (ps.map lw))) (.sh (.int k))) = G (qE ns i (.sh b) (.sh f) (.sh c) (.sh (.tup gs)) (.sh hd) (.sh g) (.sh due) .no .no .no (.sh (.tup (ps.map lw))) (.sh (.int k))) := fun G => step_asg (by
    rw [eCall6 (a := b) (b := f) (c := c) (d := .tup (ps.map lw)) (e := .int k) (g := g) rfl rfl rfl rfl rfl rfl]; exact ed) rfl
  obtain ⟨sh, hsh, esh⟩ : ∃ sh : Bool, (sh = true → g = .non) ∧ eAnd (eBin (gIsN) (eVar 7) (eC .non)) (eBin (gEq false) (eBin (gModI) (eCall fInt (aCons (eCall m__law_number (aCons (eVar 0) (aCons (eBin (gAlt (gOwn 1 m_Recipe_add) (gAddW)) (eVar 1) (eC (.int 99))) (aNil)))) (aNil))) (eC (.int 2))) (eC (.int 0))) (qE ns i (.sh b) (.sh f) (.sh c) (.sh (.tup gs)) (.sh hd) (.sh g) (.sh due) .no .no .no (.sh (.tup (ps.map lw))) (.sh (.int k))) = .ok (.bl sh) := by
    obtain ⟨n, hn, en⟩ : ∃ n : Bool, (n = true → g = .non) ∧ gIsN g .non = .ok (.bl n) := by
      cases hg
      · exact ⟨true, fun _ => rfl, rfl⟩
      all_goals exact ⟨false, fun z => (nomatch z), rfl⟩
    refine ⟨n && (v % 2 == 0), fun z => hn (by rw [Bool.and_eq_true] at z; exact z.1), eAnd_ok (by rw [bin_ok (x := g) (y := .non) rfl rfl]; exact en) fun _ => ?_⟩
    rw [bin_ok (x := .int (v % 2)) (y := .int 0) (modI (by rw [eCall2 (d := .scr ns) (d' := .int (i + 99)) rfl (add _ 99 rfl)]; exact hv) (by decide) rfl) rfl, eq_int]
    rfl
  have s8 : ∀ found, m__law_made [b, f, c, hd, g, .bl sh] = .ok found → ∀ G, sSeq (sAsg (eCall m__law_made (aCons (eVar 2) (aCons (eVar 3) (aCons (eVar 4) (aCons (eVar 6) (aCons (eVar 7) (aCons (eAnd (eBin (gIsN) (eVar 7) (eC .non)) (eBin (gEq false) (eBin (gModI) (eCall fInt (aCons (eCall m__law_number (aCons (eVar 0) (aCons (eBin (gAlt (gOwn 1 m_Recipe_add) (gAddW)) (eVar 1) (eC (.int 99))) (aNil)))) (aNil))) (eC (.int 2))) (eC (.int 0)))) (aNil)))))))) (gV 9)) G (qE ns i (.sh b) (.sh f) (.sh c) (.sh (.tup gs)) (.sh hd) (.sh g) (.sh due) .no .no .no (.sh (.tup (ps.map lw))) (.sh (.int k))) = G (qE ns i (.sh b) (.sh f) (.sh c) (.sh (.tup gs)) (.sh hd) (.sh g) (.sh due) (.sh found) .no .no (.sh (.tup (ps.map lw))) (.sh (.int k))) := fun found e G => step_asg (by
    rw [eCall6 (a := b) (b := f) (c := c) (d := hd) (e := g) (g := .bl sh) rfl rfl rfl rfl rfl esh]; exact e) rfl
  have start : m__law_plan_right [.scr ns, .int i] = outR (b__law_plan_right (qE ns i .no .no .no .no .no .no .no .no .no .no .no .no)) := rfl
  rw [start]
  unfold b__law_plan_right
  rw [s0, s1, s2, s3, s4, s5, s6, s7]
  rcases hcase with ⟨x, hx, rfl, hw⟩ | ⟨rfl, rfl, bi, fi, ci, dl, rfl, rfl, rfl, c2, hlen, hv2, hw, hfill⟩
  · rw [s8 (.str x) (made_bad hx hw hsh)]
    refine ⟨.non, ?_, .inl rfl⟩
    refine step_ret rfl ?_
    refine tup2_ok ?_ rfl
    rw [bin_ok (x := .str x) (y := .str x) rfl rfl]
    exact isR_ok ((List.all_eq_true.mp parts_eq) x hx)
  · have ehd : hd = .tup gs := by rw [← hhd, ← hgs]; rfl
    subst ehd
    have hP : planD ⟨bi, fi, ci, ps, dl⟩ = .ins 2 [w_held] [.tup [.int bi, .int fi, .int ci, .tup gs, fill ci g]] := by
      rw [hfill, ← hgs]; rfl
    generalize hp : (⟨bi, fi, ci, ps, dl⟩ : Pn) = p at hP
    have pv : PnV p := ⟨by rw [← hp]; exact hv2, by rw [← hp]; intro z; have z : ps = [] := z; rw [z] at hlen; exact absurd hlen.1 (by decide)⟩
    have pps : p.ps = ps := by rw [← hp]
    have pl3 : p.ps.length ≤ 3 := by rw [pps]; exact hlen.2
    have made := made_ok c2 hw hsh
    rw [← hP] at made
    rw [s8 (planD p) made]
    refine ⟨planD p, ?_, .inr ⟨p, rfl, pv, pl3⟩⟩
    refine (congrArg outR (step_if rfl)).trans ?_
    refine (congrArg outR (step_if (bOr_no rfl (eB_ok (b := false) (by
      rw [bin_ok (x := .int ps.length) (y := .int ps.length) (by rw [eCall1 (d := planD p) rfl]; exact (pl_len p pl3).trans (by rw [pps])) (by rw [eCall1 (d := .tup (ps.map lw)) rfl]; show Res.ok (D.int ((ps.map lw).length : Nat)) = _; rw [hm2]), eq_int]
      show Res.ok (D.bl (!((ps.length : Int) == ps.length))) = _
      rw [beq_self_eq_true]; rfl))))).trans ?_
    have z11 := eLc_ok (vs := [14, 15]) (fi := eIt (eVar 12)) (h := gT 2 (gsCons (gV 14) (gsCons (gV 15) (gsNil)))) (ft := bYes) (fe := eTup (aCons (eVar 14) (aCons (eIf (eB (eAt (gIsi (isiCX 0 3)) (eVar 15))) (eAlt (eAt (gProp 0 m_Key_names) (eVar 15)) (eAt (gProp 1 m_Recipe_names) (eVar 15))) (eVar 15)) (aNil)))) (env := qE ns i (.sh (.int bi)) (.sh (.int fi)) (.sh (.int ci)) (.sh (.tup gs)) (.sh (.tup gs)) (.sh g) (.sh .non) (.sh (planD p)) .no .no (.sh (.tup (ps.map lw))) (.sh (.int (0 : Nat)))) ps (fun _ => true) lw plain rfl (by omega) fun x hx => ⟨[.sh (.scr ns), .sh (.int i), .sh (.int bi), .sh (.int fi), .sh (.int ci), .sh (.tup gs), .sh (.tup gs), .sh g, .sh .non, .sh (planD p), .no, .no, .sh (.tup (ps.map lw)), .sh (.int (0 : Nat)), .sh (fD x.1), .sh (ruD x.2), .no], rfl, rfl, tup2_ok rfl (by
      have hx2 := (hv2 x hx).2
      obtain ⟨ls, r⟩ := x
      cases r <;> first | exact hx2.elim | rfl)⟩
    rw [filt_true] at z11
    refine (congrArg outR (step_asg z11 (env' := qE ns i (.sh (.int bi)) (.sh (.int fi)) (.sh (.int ci)) (.sh (.tup gs)) (.sh (.tup gs)) (.sh g) (.sh .non) (.sh (planD p)) (.sh (.lst (ps.map plain))) .no (.sh (.tup (ps.map lw))) (.sh (.int (0 : Nat)))) rfl)).trans ?_
    refine (congrArg outR (step_if (eB_ok (b := false) (by
      rw [bin_ok (x := .lst (ps.map plain)) (y := .lst (ps.map plain)) (by rw [eCall1 (d := planD p) rfl, rows_of_ok pv (by omega), pps]) rfl]
      refine (rows_eq true hv2 hv2).trans ?_
      show Res.ok (D.bl (!decide (ps = ps))) = _
      rw [decide_eq_true rfl]; rfl)))).trans ?_
    refine (congrArg outR (step_asg (d := drD dl) (env' := qE ns i (.sh (.int bi)) (.sh (.int fi)) (.sh (.int ci)) (.sh (.tup gs)) (.sh (.tup gs)) (.sh g) (.sh (drD dl)) (.sh (planD p)) (.sh (.lst (ps.map plain))) .no (.sh (.tup (ps.map lw))) (.sh (.int (0 : Nat)))) (by
      rw [← hfill]
      have c3 : ci = 0 ∨ ci = 1 ∨ ci = 2 := by omega
      cases hg with
      | non => rcases c3 with rfl | rfl | rfl <;> rfl
      | tup => rfl
      | lst => rfl
      | five => rfl
      | zero => rfl) rfl)).trans ?_
    refine (congrArg outR (step_asg (d := .bl true) (env' := qE ns i (.sh (.int bi)) (.sh (.int fi)) (.sh (.int ci)) (.sh (.tup gs)) (.sh (.tup gs)) (.sh g) (.sh (drD dl)) (.sh (planD p)) (.sh (.lst (ps.map plain))) (.sh (.bl true)) (.sh (.tup (ps.map lw))) (.sh (.int (0 : Nat)))) (by
      rw [bin_ok (x := four p) (y := four p) rfl (by rw [← hp]; rfl)]
      refine (four_eq false p p).trans ?_
      refine congrArg (fun x => Res.ok (D.bl x)) (decide_eq_true ⟨rfl, rfl, rfl, rfl⟩)) rfl)).trans ?_
    have z15 := eLc_ok (vs := [16]) (fi := eR1 (aCons (eCall (fAlt (fLenOwn 0 m_Key_len) (fAlt (fLenOwn 1 m_Recipe_len) (fAlt (fLenOwn 2 m_Plan_len) (fLen)))) (aCons (eVar 12) (aNil))) (aNil))) (h := gV 16) (ft := bYes) (fe := eBin (gAlt (gOwnX 0 (fun j => [1, 2].contains j) m_Key_eq) (gAlt (gOwnX 1 (fun j => [0, 2].contains j) m_Recipe_eq) (gAlt (gOwnX 2 (fun j => [0, 1].contains j) m_Plan_eq) (gEq false)))) (eBin gIx (eAlt (eBin (gSubO 2 m_Plan_getitem) (eVar 9) (eVar 16)) (eBin gIx (eVar 9) (eVar 16))) (eC (.int 0))) (eBin gIx (eBin gIx (eVar 5) (eVar 16)) (eC (.int 0)))) (env := qE ns i (.sh (.int bi)) (.sh (.int fi)) (.sh (.int ci)) (.sh (.tup gs)) (.sh (.tup gs)) (.sh g) (.sh (drD dl)) (.sh (planD p)) (.sh (.lst (ps.map plain))) (.sh (.bl true)) (.sh (.tup (ps.map lw))) (.sh (.int (0 : Nat)))) (List.range ps.length) (fun _ => true) (fun j : Nat => D.int j) (fun j : Nat => .bl true) (r1_ok ps.length (by omega) (aCons_ok (by rw [eCall1 (d := .tup (ps.map lw)) rfl]; show Res.ok (D.int ((ps.map lw).length : Nat)) = _; rw [hm2]) rfl)) (by rw [List.length_range]; omega) fun j hj => ⟨[.sh (.scr ns), .sh (.int i), .sh (.int bi), .sh (.int fi), .sh (.int ci), .sh (.tup gs), .sh (.tup gs), .sh g, .sh (drD dl), .sh (planD p), .sh (.lst (ps.map plain)), .sh (.bl true), .sh (.tup (ps.map lw)), .sh (.int (0 : Nat)), .no, .no, .sh (.int j)], rfl, rfl, by
        have hj := List.mem_range.mp hj
        have ex : p.ps[j]? = some (ps[j]) := by rw [pps]; exact List.getElem?_eq_getElem hj
        have lx := (hv2 _ (List.getElem_mem hj)).1
        generalize ps[j] = x at ex lx
        have g1 := getitem_ok p pl3 j x ex
        have g2 : gIx (.tup gs) (.int j) = .ok (gv x) := by
          have : gs[j]? = some (gv x) := by rw [← hgs, List.getElem?_map, ← pps, ex]; rfl
          have a : L2.atI gs (j : Int) = some (gv x) := by
            unfold L2.atI L2.ixN
            have hj2 : j < gs.length := by omega
            simp [hj2]
            exact (List.getElem?_eq_some_iff.mp this).2
          show atD gs _ = _
          unfold atD
          rw [a]
        rw [bin_ok (x := rD x.1) (y := rD x.1) (by
          rw [bin_ok (x := gv x) (y := .int 0) (by
            unfold eAlt
            rw [bin_ok (x := planD p) (y := .int j) rfl rfl]
            have : gSubO 2 m_Plan_getitem (planD p) (.int j) = m_Plan_getitem [planD p, .int j] := rfl
            rw [this, g1]; rfl) rfl]
          exact ix0 _ _) (by
          rw [bin_ok (x := gv x) (y := .int 0) (by rw [bin_ok (x := .tup gs) (y := .int j) rfl rfl]; exact g2) rfl]
          exact ix0 _ _)]
        show ((Res.bad : Res D).alt ((m_Recipe_eq [rD x.1, rD x.1]).alt _)) = _
        rw [req_ok lx lx, decide_eq_true rfl]
        rfl⟩
    rw [filt_true] at z15
    refine (congrArg outR (step_asg (d := .bl true) (env' := qE ns i (.sh (.int bi)) (.sh (.int fi)) (.sh (.int ci)) (.sh (.tup gs)) (.sh (.tup gs)) (.sh g) (.sh (drD dl)) (.sh (planD p)) (.sh (.lst (ps.map plain))) (.sh (.bl true)) (.sh (.tup (ps.map lw))) (.sh (.int (0 : Nat)))) (eAnd_ok (a := true) (b := true) rfl fun _ => by
      rw [eCall1 z15]
      have := fAll_ok (fun _ => true) (List.range ps.length)
      rw [this]
      refine congrArg (fun x => Res.ok (D.bl x)) ?_
      rw [List.all_eq_true]; exact fun _ _ => rfl) rfl)).trans ?_
    exact ret_ok (tup2_ok rfl rfl)
end Lw
namespace Lw
open PySem Dl
theorem drops_right_ok : m__law_drops_right [] = .ok (.bl true) := isR_ok (by decide +kernel)
structure Pk (p : Pn) : Prop where
  v : PnV p
  l : p.ps.length ≤ 3
def bys : List Int := [0, 100, 200, 300, 400, 500, 600, 700, 800, 900, 1000, 1100]
theorem bys_ok (env : En) : eR3 (aCons (eC (.int 0)) (aCons (eC (.int 1200)) (aCons (eC (.int 100)) (aNil)))) env = .ok (bys.map D.int) := by
  show itR3 [.int 0, .int 1200, .int 100] = _
  kernel_rfl
abbrev b1 : En → Out := sSeq (sAsg (eCall m__law_plan_right (aCons (eVar 0) (aCons (eVar 2) (aNil)))) (gT 2 (gsCons (gV 5) (gsCons (gV 6) (gsNil))))) (sSeq (sIf (bNot (eTru (eVar 5))) (sRet (eC (.bl false))) (sNext)) (sAsg (eBin (gAlt (gOwn 1 m_Recipe_add) (gAddW)) (eVar 1) (eIf (eB (eBin (gNotN) (eVar 6) (eC .non))) (eLst (aCons (eVar 6) (aNil))) (eLst (aNil)))) (gV 1)))
abbrev e1 (ns : List Int) (vs : List Pn) (a2 a5 a6 : Sl) : En := [.sh (.scr ns), .sh (.lst (vs.map planD)), a2, .no, .no, a5, a6, .no]
theorem b1_ok (ns : List Int) (hl : ns.length ≤ 63) (vs : List Pn) (hv : ∀ p ∈ vs, Pk p) (hn : vs.length ≤ 1000) (j : Int) (h0 : 0 ≤ j) (h1 : j ≤ 2000) (a5 a6 : Sl) :
    ∃ ws, (∀ p ∈ ws, Pk p) ∧ ws.length ≤ vs.length + 1 ∧ ∃ c5 c6, b1 (e1 ns vs (.sh (.int j)) a5 a6) = .nx (e1 ns ws (.sh (.int j)) c5 c6) := by
  obtain ⟨r, er, hr⟩ := plan_right_ok ns hl j h0 h1
  have s1 : ∀ G, sSeq (sAsg (eCall m__law_plan_right (aCons (eVar 0) (aCons (eVar 2) (aNil)))) (gT 2 (gsCons (gV 5) (gsCons (gV 6) (gsNil))))) G (e1 ns vs (.sh (.int j)) a5 a6) = G (e1 ns vs (.sh (.int j)) (.sh (.bl true)) (.sh r)) := fun G => step_asg (by rw [eCall2 (d := .scr ns) (d' := .int j) rfl rfl]; exact er) rfl
  have hm : (vs.map planD).length = vs.length := List.length_map ..
  unfold b1
  rw [s1, Dl.step_if rfl]
  rcases hr with rfl | ⟨p, rfl, pv, pl⟩
  · refine ⟨vs, hv, by omega, _, _, asg_ok (d := .lst (vs.map planD)) ?_ rfl⟩
    rw [bin_ok (x := .lst (vs.map planD)) (y := .lst []) rfl rfl]
    refine (cat_ok (vs.map planD) [] (by show (vs.map planD).length + 0 ≤ 100000; omega)).trans ?_
    rw [List.append_nil]
  · refine ⟨vs ++ [p], fun q hq => ?_, by rw [List.length_append, List.length_singleton]; omega, _, _, asg_ok (d := .lst ((vs ++ [p]).map planD)) ?_ rfl⟩
    · rcases List.mem_append.mp hq with hq | hq
      · exact hv q hq
      · rw [List.mem_singleton] at hq; subst hq; exact ⟨pv, pl⟩
    · rw [bin_ok (x := .lst (vs.map planD)) (y := .lst [planD p]) rfl rfl]
      refine (cat_ok (vs.map planD) [planD p] (by show (vs.map planD).length + 1 ≤ 100000; omega)).trans ?_
      rw [List.map_append]
      rfl
theorem l1_ok (ns : List Int) (hl : ns.length ≤ 63) : ∀ (js : List Int) (vs : List Pn) (a2 a5 a6 : Sl), (∀ j ∈ js, 0 ≤ j ∧ j ≤ 2000) → (∀ p ∈ vs, Pk p) → vs.length + js.length ≤ 1000 →
    ∃ ws, (∀ p ∈ ws, Pk p) ∧ ws.length ≤ 1000 ∧ ∃ c2 c5 c6, forL (gV 2) b1 (js.map D.int) (e1 ns vs a2 a5 a6) = .nx (e1 ns ws c2 c5 c6)
  | [], vs, a2, a5, a6, _, hv, hn => ⟨vs, hv, by omega, a2, a5, a6, rfl⟩
  | j :: js, vs, a2, a5, a6, hj, hv, hn => by
    rw [List.length_cons] at hn
    have h := hj j (List.mem_cons_self ..)
    obtain ⟨ws, h1, h2, c5, c6, e⟩ := b1_ok ns hl vs hv (by omega) j h.1 h.2 a5 a6
    obtain ⟨xs, g1, g2, d2, d5, d6, e2⟩ := l1_ok ns hl js ws (.sh (.int j)) c5 c6 (fun x hx => hj x (List.mem_cons_of_mem _ hx)) h1 (by omega)
    exact ⟨xs, g1, g2, d2, d5, d6, (forL_cons (dl := js.map D.int) (e1 := e1 ns vs (.sh (.int j)) a5 a6) rfl e).trans e2⟩
abbrev b3 : En → Out := sSeq (sAsg (eBin (gEq false) (eTup (aCons (eAt (gProp 2 m_Plan_base) (eVar 3)) (aCons (eAt (gProp 2 m_Plan_fields) (eVar 3)) (aCons (eAt (gProp 2 m_Plan_cells) (eVar 3)) (aCons (eAt (gProp 2 m_Plan_drops) (eVar 3)) (aNil)))))) (eTup (aCons (eAt (gProp 2 m_Plan_base) (eVar 4)) (aCons (eAt (gProp 2 m_Plan_fields) (eVar 4)) (aCons (eAt (gProp 2 m_Plan_cells) (eVar 4)) (aCons (eAt (gProp 2 m_Plan_drops) (eVar 4)) (aNil))))))) (gV 7)) (sIf (bOr (eB (eBin (gEq true) (eBin (gAlt (gOwnX 0 (fun j => [1, 2].contains j) m_Key_eq) (gAlt (gOwnX 1 (fun j => [0, 2].contains j) m_Recipe_eq) (gAlt (gOwnX 2 (fun j => [0, 1].contains j) m_Plan_eq) (gEq false)))) (eVar 3) (eVar 4)) (eAnd (eVar 7) (eBin (gAlt (gOwnX 0 (fun j => [1, 2].contains j) m_Key_eq) (gAlt (gOwnX 1 (fun j => [0, 2].contains j) m_Recipe_eq) (gAlt (gOwnX 2 (fun j => [0, 1].contains j) m_Plan_eq) (gEq false)))) (eCall m__law_rows_of (aCons (eVar 3) (aNil))) (eCall m__law_rows_of (aCons (eVar 4) (aNil))))))) (eB (eBin (gEq false) (eBin (gAlt (gNe 0 m_Key_eq) (gAlt (gNe 1 m_Recipe_eq) (gAlt (gNe 2 m_Plan_eq) (gEq true)))) (eVar 3) (eVar 4)) (eBin (gAlt (gOwnX 0 (fun j => [1, 2].contains j) m_Key_eq) (gAlt (gOwnX 1 (fun j => [0, 2].contains j) m_Recipe_eq) (gAlt (gOwnX 2 (fun j => [0, 1].contains j) m_Plan_eq) (gEq false)))) (eVar 3) (eVar 4))))) (sRet (eC (.bl false))) (sNext))
abbrev e2 (ns : List Int) (L : D) (a2 a3 a4 a5 a6 a7 : Sl) : En := [.sh (.scr ns), .sh L, a2, a3, a4, a5, a6, a7]
theorem b3_ok (ns : List Int) (L : D) (a2 a5 a6 a7 : Sl) {p q : Pn} (hp : Pk p) (hq : Pk q) : ∃ c7, b3 (e2 ns L a2 (.sh (planD p)) (.sh (planD q)) a5 a6 a7) = .nx (e2 ns L a2 (.sh (planD p)) (.sh (planD q)) a5 a6 c7) := by
  generalize hd1 : decide (p.b = q.b ∧ p.f = q.f ∧ p.c = q.c ∧ p.dl = q.dl) = d1
  generalize hr : decide (p.ps = q.ps) = r
  have he : decide (p = q) = (d1 && r) := by
    rw [← hd1, ← hr, Bool.eq_iff_iff, Bool.and_eq_true, decide_eq_true_iff, decide_eq_true_iff, decide_eq_true_iff]
    obtain ⟨b, f, c, ps, dl⟩ := p
    obtain ⟨b', f', c', ps', dl'⟩ := q
    constructor
    · intro h; cases h; exact ⟨⟨rfl, rfl, rfl, rfl⟩, rfl⟩
    · rintro ⟨⟨h1, h2, h3, h4⟩, h5⟩
      have h1 : b = b' := h1
      have h2 : f = f' := h2
      have h3 : c = c' := h3
      have h4 : dl = dl' := h4
      have h5 : ps = ps' := h5
      subst h1 h2 h3 h4 h5; rfl
  have pe := plan_eq hp.v hq.v
  rw [he] at pe
  refine ⟨.sh (.bl d1), ?_⟩
  have s1 : ∀ G, sSeq (sAsg (eBin (gEq false) (eTup (aCons (eAt (gProp 2 m_Plan_base) (eVar 3)) (aCons (eAt (gProp 2 m_Plan_fields) (eVar 3)) (aCons (eAt (gProp 2 m_Plan_cells) (eVar 3)) (aCons (eAt (gProp 2 m_Plan_drops) (eVar 3)) (aNil)))))) (eTup (aCons (eAt (gProp 2 m_Plan_base) (eVar 4)) (aCons (eAt (gProp 2 m_Plan_fields) (eVar 4)) (aCons (eAt (gProp 2 m_Plan_cells) (eVar 4)) (aCons (eAt (gProp 2 m_Plan_drops) (eVar 4)) (aNil))))))) (gV 7)) G (e2 ns L a2 (.sh (planD p)) (.sh (planD q)) a5 a6 a7) = G (e2 ns L a2 (.sh (planD p)) (.sh (planD q)) a5 a6 (.sh (.bl d1))) := fun G => step_asg (by
    rw [bin_ok (x := four p) (y := four q) rfl rfl, four_eq false p q, hd1]; rfl) rfl
  unfold b3
  rw [s1]
  have q1 : eBin (gAlt (gOwnX 0 (fun j => [1, 2].contains j) m_Key_eq) (gAlt (gOwnX 1 (fun j => [0, 2].contains j) m_Recipe_eq) (gAlt (gOwnX 2 (fun j => [0, 1].contains j) m_Plan_eq) (gEq false)))) (eVar 3) (eVar 4) (e2 ns L a2 (.sh (planD p)) (.sh (planD q)) a5 a6 (.sh (.bl d1))) = .ok (.bl (d1 && r)) := by
    rw [bin_ok (x := planD p) (y := planD q) rfl rfl]
    show (Res.bad : Res D).alt ((Res.bad : Res D).alt ((m_Plan_eq [planD p, planD q]).alt _)) = _
    rw [pe]; rfl
  have q2 : eBin (gAlt (gNe 0 m_Key_eq) (gAlt (gNe 1 m_Recipe_eq) (gAlt (gNe 2 m_Plan_eq) (gEq true)))) (eVar 3) (eVar 4) (e2 ns L a2 (.sh (planD p)) (.sh (planD q)) a5 a6 (.sh (.bl d1))) = .ok (.bl (!(d1 && r))) := by
    rw [bin_ok (x := planD p) (y := planD q) rfl rfl]
    show (Res.bad : Res D).alt ((Res.bad : Res D).alt (((bOf (m_Plan_eq [planD p, planD q])).bind fun b => Res.ok (D.bl (!b))).alt _)) = _
    rw [pe]; rfl
  have q3 : eBin (gAlt (gOwnX 0 (fun j => [1, 2].contains j) m_Key_eq) (gAlt (gOwnX 1 (fun j => [0, 2].contains j) m_Recipe_eq) (gAlt (gOwnX 2 (fun j => [0, 1].contains j) m_Plan_eq) (gEq false)))) (eCall m__law_rows_of (aCons (eVar 3) (aNil))) (eCall m__law_rows_of (aCons (eVar 4) (aNil))) (e2 ns L a2 (.sh (planD p)) (.sh (planD q)) a5 a6 (.sh (.bl d1))) = .ok (.bl r) := by
    rw [bin_ok (x := .lst (p.ps.map plain)) (y := .lst (q.ps.map plain)) (by rw [eCall1 (d := planD p) rfl]; exact rows_of_ok hp.v (by have := hp.l; omega)) (by rw [eCall1 (d := planD q) rfl]; exact rows_of_ok hq.v (by have := hq.l; omega))]
    refine (rows_eq false hp.v.rows hq.v.rows).trans ?_
    rw [hr]; rfl
  have t : bOr (eB (eBin (gEq true) (eBin (gAlt (gOwnX 0 (fun j => [1, 2].contains j) m_Key_eq) (gAlt (gOwnX 1 (fun j => [0, 2].contains j) m_Recipe_eq) (gAlt (gOwnX 2 (fun j => [0, 1].contains j) m_Plan_eq) (gEq false)))) (eVar 3) (eVar 4)) (eAnd (eVar 7) (eBin (gAlt (gOwnX 0 (fun j => [1, 2].contains j) m_Key_eq) (gAlt (gOwnX 1 (fun j => [0, 2].contains j) m_Recipe_eq) (gAlt (gOwnX 2 (fun j => [0, 1].contains j) m_Plan_eq) (gEq false)))) (eCall m__law_rows_of (aCons (eVar 3) (aNil))) (eCall m__law_rows_of (aCons (eVar 4) (aNil))))))) (eB (eBin (gEq false) (eBin (gAlt (gNe 0 m_Key_eq) (gAlt (gNe 1 m_Recipe_eq) (gAlt (gNe 2 m_Plan_eq) (gEq true)))) (eVar 3) (eVar 4)) (eBin (gAlt (gOwnX 0 (fun j => [1, 2].contains j) m_Key_eq) (gAlt (gOwnX 1 (fun j => [0, 2].contains j) m_Recipe_eq) (gAlt (gOwnX 2 (fun j => [0, 1].contains j) m_Plan_eq) (gEq false)))) (eVar 3) (eVar 4)))) (e2 ns L a2 (.sh (planD p)) (.sh (planD q)) a5 a6 (.sh (.bl d1))) = .ok false := by
    refine bOr_no (eB_ok ?_) (eB_ok ?_)
    · rw [bin_ok (x := .bl (d1 && r)) (y := .bl (d1 && r)) q1 (eAnd_ok rfl fun _ => q3), eq_bl]
      cases d1 <;> cases r <;> rfl
    · rw [bin_ok (x := .bl (!(d1 && r))) (y := .bl (d1 && r)) q2 q1, eq_bl]
      cases d1 <;> cases r <;> rfl
  exact sif_no t
theorem l3_ok (ns : List Int) (L : D) (a2 a5 a6 : Sl) {p : Pn} (hp : Pk p) : ∀ (qs : List Pn) (a4 a7 : Sl), (∀ q ∈ qs, Pk q) → ∃ c4 c7, forL (gV 4) b3 (qs.map planD) (e2 ns L a2 (.sh (planD p)) a4 a5 a6 a7) = .nx (e2 ns L a2 (.sh (planD p)) c4 a5 a6 c7)
  | [], a4, a7, _ => ⟨a4, a7, rfl⟩
  | q :: qs, a4, a7, h => by
    obtain ⟨c7, e⟩ := b3_ok ns L a2 a5 a6 a7 hp (h q (List.mem_cons_self ..))
    obtain ⟨d4, d7, e2'⟩ := l3_ok ns L a2 a5 a6 hp qs (.sh (planD q)) c7 fun x hx => h x (List.mem_cons_of_mem _ hx)
    exact ⟨d4, d7, (forL_cons (dl := qs.map planD) (e1 := e2 ns L a2 (.sh (planD p)) (.sh (planD q)) a5 a6 a7) rfl e).trans e2'⟩
theorem l2_ok (ns : List Int) (vs : List Pn) (hv : ∀ q ∈ vs, Pk q) (a2 a5 a6 : Sl) : ∀ (ps : List Pn) (a3 a4 a7 : Sl), (∀ q ∈ ps, Pk q) → ∃ c3 c4 c7, forL (gV 3) (sFor (eIt (eVar 1)) (gV 4) b3) (ps.map planD) (e2 ns (.lst (vs.map planD)) a2 a3 a4 a5 a6 a7) = .nx (e2 ns (.lst (vs.map planD)) a2 c3 c4 a5 a6 c7)
  | [], a3, a4, a7, _ => ⟨a3, a4, a7, rfl⟩
  | p :: ps, a3, a4, a7, h => by
    obtain ⟨c4, c7, e⟩ := l3_ok ns (.lst (vs.map planD)) a2 a5 a6 (h p (List.mem_cons_self ..)) vs a4 a7 hv
    obtain ⟨d3, d4, d7, e2'⟩ := l2_ok ns vs hv a2 a5 a6 ps (.sh (planD p)) c4 c7 fun x hx => h x (List.mem_cons_of_mem _ hx)
    have ee : sFor (eIt (eVar 1)) (gV 4) b3 (e2 ns (.lst (vs.map planD)) a2 (.sh (planD p)) a4 a5 a6 a7) = .nx (e2 ns (.lst (vs.map planD)) a2 (.sh (planD p)) c4 a5 a6 c7) := e
    exact ⟨d3, d4, d7, (forL_cons (dl := ps.map planD) (e1 := e2 ns (.lst (vs.map planD)) a2 (.sh (planD p)) a4 a5 a6 a7) rfl ee).trans e2'⟩
theorem law_true : ∀ ns : List Int, ns.length ≤ 63 → m_law [.scr ns] = .ok (.bl true) := fun ns hl => by
  show outR (b_law [.sh (.scr ns), .no, .no, .no, .no, .no, .no, .no]) = _
  unfold b_law
  refine (congrArg outR (step_if (bNot_ok (b := true) (eB_ok drops_right_ok)))).trans ?_
  refine (congrArg outR (step_asg (d := .lst []) (env' := e1 ns [] .no .no .no) rfl rfl)).trans ?_
  obtain ⟨ws, h1, h2, c2, c5, c6, e⟩ := l1_ok ns hl bys [] .no .no .no (by decide) (fun _ h => (nomatch h)) (by decide)
  refine (congrArg outR (for_ok (dl := bys.map D.int) (bys_ok _) e)).trans ?_
  obtain ⟨d3, d4, d7, e'⟩ := l2_ok ns ws h1 c2 c5 c6 ws .no .no .no h1
  exact (congrArg outR (for_ok (dl := ws.map planD) (env := e1 ns ws c2 c5 c6) rfl e')).trans rfl
end Lw
open PySem PySem.W PyProof.Rows
set_option maxRecDepth 100000 in
set_option maxHeartbeats 0 in
theorem PySem.Challenge.cw_shortkeys_k18_whole_plan_parts_holds : PySem.Challenge.rw_shortkeys_k18_whole_plan_parts.Holds := by
  w_on; o_law; k_head; (case hw => w_witness2)
  k_fill
  refine' Dl.law_walk (l := PySem.Challenge.rw_shortkeys_k18_whole_plan_parts) (k := 46) (pr := "script") rfl rfl ⟨rfl, by decide, by decide⟩ ?hY ?F
  (case hY => intro w h Y; first | exact PySem.W.kIn_of Y | exact PySem.W.km_in_of Y)
  case F =>
    intro w mg fa h KX G hmg
    refine' Lw.all_mk (kV_Plan_init := .none) KX G hmg ?x_nC_Key ?x_nC_Plan ?x_nC_Recipe ?x_n_law ?x_n_CELL_NAMES ?x_n_FIELD_NAMES ?x_n_HIGHEST ?x_n_LETTERS ?x_n_MOST_LEAVES ?x_n_MOST_SITUATIONS ?x_n_NAMES ?x_n_PLACE_NAMES ?x_n_WIDTHS ?x_n_WORDS ?x_n_BadName ?x_n_BadNumber ?x_n_BadPlace ?x_n_BadPlan ?x_n_BadRecipe ?x_n__law_are_drops ?x_n__law_drops ?x_n__law_drops_right ?x_n__law_is_number ?x_n__law_is_place ?x_n__law_leaf ?x_n__law_leaves ?x_n__law_made ?x_n__law_number ?x_n__law_pick ?x_n__law_places ?x_n__law_plan_right ?x_n__law_rows_of ?x_n__law_rule ?x_n__law_wrong ?x_n__wall ?x_n_come_to ?x_n_drops_fit ?x_n_form_of ?x_n_in_order ?x_n_is_ascending ?x_n_is_integer ?x_n_is_name ?x_n_is_whole ?x_n_joined ?x_n_kind_of ?x_n_leaf_form ?x_n_leaves_of ?x_n_name_of ?x_n_number_rows ?x_n_pair_fits ?x_n_recipe_fits ?x_n_rule_fits ?x_n_usable_names ?x_n_wrong_part ?x_M2_Key ?x_M2_Plan ?x_M2_Recipe ?x_cr0_Recipe ?x_d_Key_contains ?x_d_Key_eq ?x_d_Key_le ?x_d_Key_len ?x_d_Key_or ?x_d_Key_sub ?x_d_Plan_eq ?x_d_Plan_getitem ?x_d_Plan_len ?x_d_Recipe_add ?x_d_Recipe_contains ?x_d_Recipe_eq ?x_d_Recipe_len ?x_d_Recipe_mul ?x_d_Recipe_sub ?x_d_Plan_check_place ?x_p1_Key_names ?x_p1_Plan_base ?x_p1_Plan_cells ?x_p1_Plan_drops ?x_p1_Plan_fields ?x_p1_Plan_places ?x_p1_Recipe_names ?x_cr1_Recipe ?x_p4_Key_names ?x_p4_Plan_base ?x_p4_Plan_cells ?x_p4_Plan_drops ?x_p4_Plan_fields ?x_p4_Plan_places ?x_p4_Recipe_names ?x_cm1_Recipe_field ?x_cm2_Recipe_field ?x_n2_BadPlan_init ?x_l_CELL_NAMES ?x_l_FIELD_NAMES ?x_l_HIGHEST ?x_l_LETTERS ?x_l_NAMES ?x_l_PLACE_NAMES ?x_l_WIDTHS ?x_l_WORDS ?x_l_Key_contains ?x_l_Key_eq ?x_l_Key_init ?x_l_Key_le ?x_l_Key_len ?x_l_Key_names ?x_l_Plan_base ?x_l_Plan_cells ?x_l_Plan_check_place ?x_l_Plan_drops ?x_l_Plan_eq ?x_l_Plan_fields ?x_l_Plan_getitem ?x_l_Plan_init ?x_l_Plan_len ?x_l_Plan_places ?x_l_Recipe_add ?x_l_Recipe_contains ?x_l_Recipe_eq ?x_l_Recipe_field ?x_l_Recipe_init ?x_l_Recipe_len ?x_l_Recipe_names ?x_l__law_are_drops ?x_l__law_drops ?x_l__law_drops_right ?x_l__law_is_number ?x_l__law_is_place ?x_l__law_leaf ?x_l__law_leaves ?x_l__law_made ?x_l__law_number ?x_l__law_pick ?x_l__law_places ?x_l__law_plan_right ?x_l__law_rows_of ?x_l__law_rule ?x_l__law_wrong ?x_l_drops_fit ?x_l_form_of ?x_l_in_order ?x_l_is_ascending ?x_l_is_integer ?x_l_is_name ?x_l_is_whole ?x_l_kind_of ?x_l_law ?x_l_leaf_form ?x_l_leaves_of ?x_l_name_of ?x_l_number_rows ?x_l_pair_fits ?x_l_recipe_fits ?x_l_rule_fits ?x_l_usable_names ?x_l_wrong_part ?x_l_BadPlan_init ?x_lT_Key_init ?x_kw_Plan_init ?x_lc_BadPlan_init ?x_lo2_BadPlan_init ?x_lx_BadPlan_init ?x_cl_BadPlan_init ?x_le_Key_init ?x_v2_BadPlan_init ?x_ff_BadPlan_init ?x_rv_BadPlan_init ?x_C1_Key ?x_C2_Key ?x_C3_Key ?x_C4_Key ?x_C1_Plan ?x_C2_Plan ?x_C3_Plan ?x_C4_Plan ?x_C1_Recipe ?x_C2_Recipe ?x_C3_Recipe ?x_C4_Recipe ?x_I1_Key ?x_I2_Key ?x_I3_Key ?x_I4_Key ?x_I1_Plan ?x_I2_Plan ?x_I3_Plan ?x_I4_Plan ?x_I1_Recipe ?x_I2_Recipe ?x_I3_Recipe ?x_I4_Recipe ?x_M1_Key ?x_M3_Key ?x_kC_Key ?x_M1_Plan ?x_M3_Plan ?x_kC_Plan ?x_M1_Recipe ?x_M3_Recipe ?x_kC_Recipe ?x_z_all ?x_z_bool ?x_z_dict ?x_z_enumerate ?x_z_int ?x_z_isinstance ?x_z_len ?x_z_list ?x_z_range ?x_z_set ?x_z_sorted ?x_z_str ?x_z_sum ?x_z_tuple ?x_lo_HIGHEST ?x_lo_LETTERS ?x_lo_WIDTHS ?x_cm3_Recipe_field ?x_cr2_Recipe ?x_e1_BadName ?x_e2_BadName ?x_e3_BadName ?x_e4_BadName ?x_e1_BadNumber ?x_e2_BadNumber ?x_e3_BadNumber ?x_e4_BadNumber ?x_e1_BadPlace ?x_e2_BadPlace ?x_e3_BadPlace ?x_e4_BadPlace ?x_e1_BadRecipe ?x_e2_BadRecipe ?x_e3_BadRecipe ?x_e4_BadRecipe ?x_c_Key_contains ?x_k_Key_contains ?x_c_Key_eq ?x_k_Key_eq ?x_c_Key_init ?x_k_Key_init ?x_c_Key_le ?x_k_Key_le ?x_c_Key_len ?x_k_Key_len ?x_c_Key_names ?x_k_Key_names ?x_c_Plan_base ?x_k_Plan_base ?x_c_Plan_cells ?x_k_Plan_cells ?x_c_Plan_check_place ?x_k_Plan_check_place ?x_c_Plan_drops ?x_k_Plan_drops ?x_c_Plan_eq ?x_k_Plan_eq ?x_c_Plan_fields ?x_k_Plan_fields ?x_c_Plan_getitem ?x_k_Plan_getitem ?x_c_Plan_init ?x_k_Plan_init ?x_c_Plan_len ?x_k_Plan_len ?x_c_Plan_places ?x_k_Plan_places ?x_c_Recipe_add ?x_k_Recipe_add ?x_c_Recipe_contains ?x_k_Recipe_contains ?x_c_Recipe_eq ?x_k_Recipe_eq ?x_c_Recipe_field ?x_k_Recipe_field ?x_c_Recipe_init ?x_k_Recipe_init ?x_c_Recipe_len ?x_k_Recipe_len ?x_c_Recipe_names ?x_k_Recipe_names ?x_c__law_are_drops ?x_k__law_are_drops ?x_c__law_drops ?x_k__law_drops ?x_c__law_drops_right ?x_k__law_drops_right ?x_c__law_is_number ?x_k__law_is_number ?x_c__law_is_place ?x_k__law_is_place ?x_c__law_leaf ?x_k__law_leaf ?x_c__law_leaves ?x_k__law_leaves ?x_c__law_made ?x_k__law_made ?x_c__law_number ?x_k__law_number ?x_c__law_pick ?x_k__law_pick ?x_c__law_places ?x_k__law_places ?x_c__law_plan_right ?x_k__law_plan_right ?x_c__law_rows_of ?x_k__law_rows_of ?x_c__law_rule ?x_k__law_rule ?x_c__law_wrong ?x_k__law_wrong ?x_c_drops_fit ?x_k_drops_fit ?x_c_form_of ?x_k_form_of ?x_c_in_order ?x_k_in_order ?x_c_is_ascending ?x_k_is_ascending ?x_c_is_integer ?x_k_is_integer ?x_c_is_name ?x_k_is_name ?x_c_is_whole ?x_k_is_whole ?x_c_kind_of ?x_k_kind_of ?x_c_law ?x_k_law ?x_c_leaf_form ?x_k_leaf_form ?x_c_leaves_of ?x_k_leaves_of ?x_c_name_of ?x_k_name_of ?x_c_number_rows ?x_k_number_rows ?x_c_pair_fits ?x_k_pair_fits ?x_c_recipe_fits ?x_k_recipe_fits ?x_c_rule_fits ?x_k_rule_fits ?x_c_usable_names ?x_k_usable_names ?x_c_wrong_part ?x_k_wrong_part ?x_fi_Plan_getitem ?x_i_Key_contains ?x_i_Key_eq ?x_i_Key_le ?x_i_Key_len ?x_i_Key_or ?x_i_Key_sub ?x_i_Plan_eq ?x_i_Plan_getitem ?x_i_Plan_len ?x_i_Recipe_add ?x_i_Recipe_contains ?x_i_Recipe_eq ?x_i_Recipe_len ?x_i_Recipe_mul ?x_i_Recipe_sub ?x_k__wall ?x_k_come_to ?x_k_joined ?x_k5_Key ?x_k4_Key ?x_s0_Key ?x_s1_Key ?x_s2_Key ?x_s3_Key ?x_s4_Key ?x_s5_Key ?x_s6_Key ?x_so_Recipe_Key ?x_lo_ne_Recipe_Key ?x_so_Plan_Key ?x_lo_ne_Plan_Key ?x_k5_Plan ?x_k4_Plan ?x_s0_Plan ?x_s1_Plan ?x_s2_Plan ?x_s3_Plan ?x_s4_Plan ?x_s5_Plan ?x_s6_Plan ?x_so_Key_Plan ?x_lo_ne_Key_Plan ?x_so_Recipe_Plan ?x_lo_ne_Recipe_Plan ?x_k5_Recipe ?x_k4_Recipe ?x_s0_Recipe ?x_s1_Recipe ?x_s2_Recipe ?x_s3_Recipe ?x_s4_Recipe ?x_s5_Recipe ?x_s6_Recipe ?x_so_Key_Recipe ?x_lo_ne_Key_Recipe ?x_so_Plan_Recipe ?x_lo_ne_Plan_Recipe ?x_sk_Key_dict ?x_sk_Recipe_dict ?x_sk_Plan_dict ?x_sk_Key_str ?x_sk_Recipe_str ?x_sk_Plan_str ?x_sk_Key_tuple ?x_sk_Recipe_tuple ?x_sk_Plan_tuple ?x_i_Plan_check_place ?x_na_Key_held ?x_na_Plan_held ?x_na_Recipe_form ?x_na_Recipe_leaves ?x_ne_Key ?x_ne_Plan ?x_ne_Recipe ?x_p2_Key_names ?x_p3_Key_names ?x_p2_Plan_base ?x_p3_Plan_base ?x_p2_Plan_cells ?x_p3_Plan_cells ?x_p2_Plan_drops ?x_p3_Plan_drops ?x_p2_Plan_fields ?x_p3_Plan_fields ?x_p2_Plan_places ?x_p3_Plan_places ?x_p2_Recipe_names ?x_p3_Recipe_names ?x_rn_Key ?x_rn_Recipe ?x_rs_Key ?x_rs_Recipe ?x_sf_Key ?x_sf_Recipe ?x_sn_Key ?x_sn_Plan ?x_sn_Recipe ?x_ss_Key ?x_ss_Plan ?x_ss_Recipe ?x_c_BadPlan_init ?x_sa_BadPlan_init ?x_e3_BadPlan ?x_e4_BadPlan ?x_e2_BadPlan ?x_tp ?x_z_super ?x_fn_BadPlan_init ?x_se_BadPlan_init ?x_op ?x_sp_BadPlan_init ?x_ve_BadPlan_init ?x_ty_BadPlan_init ?x_xf1_BadPlan ?x_xf2_BadPlan ?x_xf4_BadPlan ?x_e5_BadPlan ?x_xm0_BadPlan ?x_xm1_BadPlan ?x_xm2_BadPlan ?x_xm3_BadPlan ?x_xm4_BadPlan Lw.law_true
    (case x_nC_Key => k_is)
    (case x_nC_Plan => k_is)
    (case x_nC_Recipe => k_is)
    (case x_n_law => k_is)
    (case x_n_CELL_NAMES => k_is)
    (case x_n_FIELD_NAMES => k_is)
    (case x_n_HIGHEST => k_is)
    (case x_n_LETTERS => k_is)
    (case x_n_MOST_LEAVES => k_is)
    (case x_n_MOST_SITUATIONS => k_is)
    (case x_n_NAMES => k_is)
    (case x_n_PLACE_NAMES => k_is)
    (case x_n_WIDTHS => k_is)
    (case x_n_WORDS => k_is)
    (case x_n_BadName => k_is)
    (case x_n_BadNumber => k_is)
    (case x_n_BadPlace => k_is)
    (case x_n_BadPlan => k_is)
    (case x_n_BadRecipe => k_is)
    (case x_n__law_are_drops => k_is)
    (case x_n__law_drops => k_is)
    (case x_n__law_drops_right => k_is)
    (case x_n__law_is_number => k_is)
    (case x_n__law_is_place => k_is)
    (case x_n__law_leaf => k_is)
    (case x_n__law_leaves => k_is)
    (case x_n__law_made => k_is)
    (case x_n__law_number => k_is)
    (case x_n__law_pick => k_is)
    (case x_n__law_places => k_is)
    (case x_n__law_plan_right => k_is)
    (case x_n__law_rows_of => k_is)
    (case x_n__law_rule => k_is)
    (case x_n__law_wrong => k_is)
    (case x_n__wall => k_is)
    (case x_n_come_to => k_is)
    (case x_n_drops_fit => k_is)
    (case x_n_form_of => k_is)
    (case x_n_in_order => k_is)
    (case x_n_is_ascending => k_is)
    (case x_n_is_integer => k_is)
    (case x_n_is_name => k_is)
    (case x_n_is_whole => k_is)
    (case x_n_joined => k_is)
    (case x_n_kind_of => k_is)
    (case x_n_leaf_form => k_is)
    (case x_n_leaves_of => k_is)
    (case x_n_name_of => k_is)
    (case x_n_number_rows => k_is)
    (case x_n_pair_fits => k_is)
    (case x_n_recipe_fits => k_is)
    (case x_n_rule_fits => k_is)
    (case x_n_usable_names => k_is)
    (case x_n_wrong_part => k_is)
    (case x_M2_Key => k_is)
    (case x_M2_Plan => k_is)
    (case x_M2_Recipe => k_is)
    (case x_cr0_Recipe => k_is)
    (case x_d_Key_contains => k_is)
    (case x_d_Key_eq => k_is)
    (case x_d_Key_le => k_is)
    (case x_d_Key_len => k_is)
    (case x_d_Key_or => k_is)
    (case x_d_Key_sub => k_is)
    (case x_d_Plan_eq => k_is)
    (case x_d_Plan_getitem => k_is)
    (case x_d_Plan_len => k_is)
    (case x_d_Recipe_add => k_is)
    (case x_d_Recipe_contains => k_is)
    (case x_d_Recipe_eq => k_is)
    (case x_d_Recipe_len => k_is)
    (case x_d_Recipe_mul => k_is)
    (case x_d_Recipe_sub => k_is)
    (case x_d_Plan_check_place => k_is)
    (case x_p1_Key_names => k_is)
    (case x_p1_Plan_base => k_is)
    (case x_p1_Plan_cells => k_is)
    (case x_p1_Plan_drops => k_is)
    (case x_p1_Plan_fields => k_is)
    (case x_p1_Plan_places => k_is)
    (case x_p1_Recipe_names => k_is)
    (case x_cr1_Recipe => k_is)
    (case x_p4_Key_names => k_is)
    (case x_p4_Plan_base => k_is)
    (case x_p4_Plan_cells => k_is)
    (case x_p4_Plan_drops => k_is)
    (case x_p4_Plan_fields => k_is)
    (case x_p4_Plan_places => k_is)
    (case x_p4_Recipe_names => k_is)
    (case x_cm1_Recipe_field => k_is)
    (case x_cm2_Recipe_field => k_is)
    (case x_n2_BadPlan_init => k_is)
    (case x_l_CELL_NAMES => k_is)
    (case x_l_FIELD_NAMES => k_is)
    (case x_l_HIGHEST => k_is)
    (case x_l_LETTERS => k_is)
    (case x_l_NAMES => k_is)
    (case x_l_PLACE_NAMES => k_is)
    (case x_l_WIDTHS => k_is)
    (case x_l_WORDS => k_is)
    (case x_l_Key_contains => k_is)
    (case x_l_Key_eq => k_is)
    (case x_l_Key_init => k_is)
    (case x_l_Key_le => k_is)
    (case x_l_Key_len => k_is)
    (case x_l_Key_names => k_is)
    (case x_l_Plan_base => k_is)
    (case x_l_Plan_cells => k_is)
    (case x_l_Plan_check_place => k_is)
    (case x_l_Plan_drops => k_is)
    (case x_l_Plan_eq => k_is)
    (case x_l_Plan_fields => k_is)
    (case x_l_Plan_getitem => k_is)
    (case x_l_Plan_init => k_is)
    (case x_l_Plan_len => k_is)
    (case x_l_Plan_places => k_is)
    (case x_l_Recipe_add => k_is)
    (case x_l_Recipe_contains => k_is)
    (case x_l_Recipe_eq => k_is)
    (case x_l_Recipe_field => k_is)
    (case x_l_Recipe_init => k_is)
    (case x_l_Recipe_len => k_is)
    (case x_l_Recipe_names => k_is)
    (case x_l__law_are_drops => k_is)
    (case x_l__law_drops => k_is)
    (case x_l__law_drops_right => k_is)
    (case x_l__law_is_number => k_is)
    (case x_l__law_is_place => k_is)
    (case x_l__law_leaf => k_is)
    (case x_l__law_leaves => k_is)
    (case x_l__law_made => k_is)
    (case x_l__law_number => k_is)
    (case x_l__law_pick => k_is)
    (case x_l__law_places => k_is)
    (case x_l__law_plan_right => k_is)
    (case x_l__law_rows_of => k_is)
    (case x_l__law_rule => k_is)
    (case x_l__law_wrong => k_is)
    (case x_l_drops_fit => k_is)
    (case x_l_form_of => k_is)
    (case x_l_in_order => k_is)
    (case x_l_is_ascending => k_is)
    (case x_l_is_integer => k_is)
    (case x_l_is_name => k_is)
    (case x_l_is_whole => k_is)
    (case x_l_kind_of => k_is)
    (case x_l_law => k_is)
    (case x_l_leaf_form => k_is)
    (case x_l_leaves_of => k_is)
    (case x_l_name_of => k_is)
    (case x_l_number_rows => k_is)
    (case x_l_pair_fits => k_is)
    (case x_l_recipe_fits => k_is)
    (case x_l_rule_fits => k_is)
    (case x_l_usable_names => k_is)
    (case x_l_wrong_part => k_is)
    (case x_l_BadPlan_init => k_is)
    (case x_lT_Key_init => k_is)
    (case x_kw_Plan_init => k_is)
    (case x_lc_BadPlan_init => k_is)
    (case x_lo2_BadPlan_init => k_is)
    (case x_lx_BadPlan_init => k_is)
    (case x_cl_BadPlan_init => k_is)
    (case x_le_Key_init => k_is)
    (case x_v2_BadPlan_init => first | rfl | decide +kernel)
    (case x_ff_BadPlan_init => first | rfl | decide +kernel)
    (case x_rv_BadPlan_init => first | rfl | decide +kernel)
    (case x_C1_Key => k_is)
    (case x_C2_Key => k_is)
    (case x_C3_Key => k_is)
    (case x_C4_Key => k_is)
    (case x_C1_Plan => k_is)
    (case x_C2_Plan => k_is)
    (case x_C3_Plan => k_is)
    (case x_C4_Plan => k_is)
    (case x_C1_Recipe => k_is)
    (case x_C2_Recipe => k_is)
    (case x_C3_Recipe => k_is)
    (case x_C4_Recipe => k_is)
    (case x_I1_Key => k_is)
    (case x_I2_Key => k_is)
    (case x_I3_Key => k_is)
    (case x_I4_Key => k_is)
    (case x_I1_Plan => k_is)
    (case x_I2_Plan => k_is)
    (case x_I3_Plan => k_is)
    (case x_I4_Plan => k_is)
    (case x_I1_Recipe => k_is)
    (case x_I2_Recipe => k_is)
    (case x_I3_Recipe => k_is)
    (case x_I4_Recipe => k_is)
    (case x_M1_Key => k_is)
    (case x_M3_Key => k_is)
    (case x_kC_Key => k_is)
    (case x_M1_Plan => k_is)
    (case x_M3_Plan => k_is)
    (case x_kC_Plan => k_is)
    (case x_M1_Recipe => k_is)
    (case x_M3_Recipe => k_is)
    (case x_kC_Recipe => k_is)
    (case x_z_all => k_is)
    (case x_z_bool => k_is)
    (case x_z_dict => k_is)
    (case x_z_enumerate => k_is)
    (case x_z_int => k_is)
    (case x_z_isinstance => k_is)
    (case x_z_len => k_is)
    (case x_z_list => k_is)
    (case x_z_range => k_is)
    (case x_z_set => k_is)
    (case x_z_sorted => k_is)
    (case x_z_str => k_is)
    (case x_z_sum => k_is)
    (case x_z_tuple => k_is)
    (case x_lo_HIGHEST => first | rfl | decide | k_is)
    (case x_lo_LETTERS => first | rfl | decide | k_is)
    (case x_lo_WIDTHS => first | rfl | decide | k_is)
    (case x_cm3_Recipe_field => k_is)
    (case x_cr2_Recipe => k_is)
    (case x_e1_BadName => k_exc)
    (case x_e2_BadName => k_is)
    (case x_e3_BadName => k_is)
    (case x_e4_BadName => k_is)
    (case x_e1_BadNumber => k_exc)
    (case x_e2_BadNumber => k_is)
    (case x_e3_BadNumber => k_is)
    (case x_e4_BadNumber => k_is)
    (case x_e1_BadPlace => k_exc)
    (case x_e2_BadPlace => k_is)
    (case x_e3_BadPlace => k_is)
    (case x_e4_BadPlace => k_is)
    (case x_e1_BadRecipe => k_exc)
    (case x_e2_BadRecipe => k_is)
    (case x_e3_BadRecipe => k_is)
    (case x_e4_BadRecipe => k_is)
    (case x_c_Key_contains => k_is)
    (case x_k_Key_contains => k_is)
    (case x_c_Key_eq => k_is)
    (case x_k_Key_eq => k_is)
    (case x_c_Key_init => k_is)
    (case x_k_Key_init => k_is)
    (case x_c_Key_le => k_is)
    (case x_k_Key_le => k_is)
    (case x_c_Key_len => k_is)
    (case x_k_Key_len => k_is)
    (case x_c_Key_names => k_is)
    (case x_k_Key_names => k_is)
    (case x_c_Plan_base => k_is)
    (case x_k_Plan_base => k_is)
    (case x_c_Plan_cells => k_is)
    (case x_k_Plan_cells => k_is)
    (case x_c_Plan_check_place => k_is)
    (case x_k_Plan_check_place => k_is)
    (case x_c_Plan_drops => k_is)
    (case x_k_Plan_drops => k_is)
    (case x_c_Plan_eq => k_is)
    (case x_k_Plan_eq => k_is)
    (case x_c_Plan_fields => k_is)
    (case x_k_Plan_fields => k_is)
    (case x_c_Plan_getitem => k_is)
    (case x_k_Plan_getitem => k_is)
    (case x_c_Plan_init => k_is)
    (case x_k_Plan_init => k_is)
    (case x_c_Plan_len => k_is)
    (case x_k_Plan_len => k_is)
    (case x_c_Plan_places => k_is)
    (case x_k_Plan_places => k_is)
    (case x_c_Recipe_add => k_is)
    (case x_k_Recipe_add => k_is)
    (case x_c_Recipe_contains => k_is)
    (case x_k_Recipe_contains => k_is)
    (case x_c_Recipe_eq => k_is)
    (case x_k_Recipe_eq => k_is)
    (case x_c_Recipe_field => k_is)
    (case x_k_Recipe_field => k_is)
    (case x_c_Recipe_init => k_is)
    (case x_k_Recipe_init => k_is)
    (case x_c_Recipe_len => k_is)
    (case x_k_Recipe_len => k_is)
    (case x_c_Recipe_names => k_is)
    (case x_k_Recipe_names => k_is)
    (case x_c__law_are_drops => k_is)
    (case x_k__law_are_drops => k_is)
    (case x_c__law_drops => k_is)
    (case x_k__law_drops => k_is)
    (case x_c__law_drops_right => k_is)
    (case x_k__law_drops_right => k_is)
    (case x_c__law_is_number => k_is)
    (case x_k__law_is_number => k_is)
    (case x_c__law_is_place => k_is)
    (case x_k__law_is_place => k_is)
    (case x_c__law_leaf => k_is)
    (case x_k__law_leaf => k_is)
    (case x_c__law_leaves => k_is)
    (case x_k__law_leaves => k_is)
    (case x_c__law_made => k_is)
    (case x_k__law_made => k_is)
    (case x_c__law_number => k_is)
    (case x_k__law_number => k_is)
    (case x_c__law_pick => k_is)
    (case x_k__law_pick => k_is)
    (case x_c__law_places => k_is)
    (case x_k__law_places => k_is)
    (case x_c__law_plan_right => k_is)
    (case x_k__law_plan_right => k_is)
    (case x_c__law_rows_of => k_is)
    (case x_k__law_rows_of => k_is)
    (case x_c__law_rule => k_is)
    (case x_k__law_rule => k_is)
    (case x_c__law_wrong => k_is)
    (case x_k__law_wrong => k_is)
    (case x_c_drops_fit => k_is)
    (case x_k_drops_fit => k_is)
    (case x_c_form_of => k_is)
    (case x_k_form_of => k_is)
    (case x_c_in_order => k_is)
    (case x_k_in_order => k_is)
    (case x_c_is_ascending => k_is)
    (case x_k_is_ascending => k_is)
    (case x_c_is_integer => k_is)
    (case x_k_is_integer => k_is)
    (case x_c_is_name => k_is)
    (case x_k_is_name => k_is)
    (case x_c_is_whole => k_is)
    (case x_k_is_whole => k_is)
    (case x_c_kind_of => k_is)
    (case x_k_kind_of => k_is)
    (case x_c_law => k_is)
    (case x_k_law => k_is)
    (case x_c_leaf_form => k_is)
    (case x_k_leaf_form => k_is)
    (case x_c_leaves_of => k_is)
    (case x_k_leaves_of => k_is)
    (case x_c_name_of => k_is)
    (case x_k_name_of => k_is)
    (case x_c_number_rows => k_is)
    (case x_k_number_rows => k_is)
    (case x_c_pair_fits => k_is)
    (case x_k_pair_fits => k_is)
    (case x_c_recipe_fits => k_is)
    (case x_k_recipe_fits => k_is)
    (case x_c_rule_fits => k_is)
    (case x_k_rule_fits => k_is)
    (case x_c_usable_names => k_is)
    (case x_k_usable_names => k_is)
    (case x_c_wrong_part => k_is)
    (case x_k_wrong_part => k_is)
    (case x_fi_Plan_getitem => k_is)
    (case x_i_Key_contains => k_is)
    (case x_i_Key_eq => k_is)
    (case x_i_Key_le => k_is)
    (case x_i_Key_len => k_is)
    (case x_i_Key_or => k_is)
    (case x_i_Key_sub => k_is)
    (case x_i_Plan_eq => k_is)
    (case x_i_Plan_getitem => k_is)
    (case x_i_Plan_len => k_is)
    (case x_i_Recipe_add => k_is)
    (case x_i_Recipe_contains => k_is)
    (case x_i_Recipe_eq => k_is)
    (case x_i_Recipe_len => k_is)
    (case x_i_Recipe_mul => k_is)
    (case x_i_Recipe_sub => k_is)
    (case x_k__wall => k_is)
    (case x_k_come_to => k_is)
    (case x_k_joined => k_is)
    (case x_k5_Key => k_is)
    (case x_k4_Key => k_is)
    (case x_s0_Key => k_is)
    (case x_s1_Key => k_is)
    (case x_s2_Key => k_is)
    (case x_s3_Key => k_is)
    (case x_s4_Key => k_is)
    (case x_s5_Key => k_is)
    (case x_s6_Key => k_is)
    (case x_so_Recipe_Key => k_is)
    (case x_lo_ne_Recipe_Key => first | rfl | decide | k_is)
    (case x_so_Plan_Key => k_is)
    (case x_lo_ne_Plan_Key => first | rfl | decide | k_is)
    (case x_k5_Plan => k_is)
    (case x_k4_Plan => k_is)
    (case x_s0_Plan => k_is)
    (case x_s1_Plan => k_is)
    (case x_s2_Plan => k_is)
    (case x_s3_Plan => k_is)
    (case x_s4_Plan => k_is)
    (case x_s5_Plan => k_is)
    (case x_s6_Plan => k_is)
    (case x_so_Key_Plan => k_is)
    (case x_lo_ne_Key_Plan => first | rfl | decide | k_is)
    (case x_so_Recipe_Plan => k_is)
    (case x_lo_ne_Recipe_Plan => first | rfl | decide | k_is)
    (case x_k5_Recipe => k_is)
    (case x_k4_Recipe => k_is)
    (case x_s0_Recipe => k_is)
    (case x_s1_Recipe => k_is)
    (case x_s2_Recipe => k_is)
    (case x_s3_Recipe => k_is)
    (case x_s4_Recipe => k_is)
    (case x_s5_Recipe => k_is)
    (case x_s6_Recipe => k_is)
    (case x_so_Key_Recipe => k_is)
    (case x_lo_ne_Key_Recipe => first | rfl | decide | k_is)
    (case x_so_Plan_Recipe => k_is)
    (case x_lo_ne_Plan_Recipe => first | rfl | decide | k_is)
    (case x_sk_Key_dict => k_is)
    (case x_sk_Recipe_dict => k_is)
    (case x_sk_Plan_dict => k_is)
    (case x_sk_Key_str => k_is)
    (case x_sk_Recipe_str => k_is)
    (case x_sk_Plan_str => k_is)
    (case x_sk_Key_tuple => k_is)
    (case x_sk_Recipe_tuple => k_is)
    (case x_sk_Plan_tuple => k_is)
    (case x_i_Plan_check_place => k_is)
    (case x_na_Key_held => k_is)
    (case x_na_Plan_held => k_is)
    (case x_na_Recipe_form => k_is)
    (case x_na_Recipe_leaves => k_is)
    (case x_ne_Key => k_is)
    (case x_ne_Plan => k_is)
    (case x_ne_Recipe => k_is)
    (case x_p2_Key_names => k_is)
    (case x_p3_Key_names => k_is)
    (case x_p2_Plan_base => k_is)
    (case x_p3_Plan_base => k_is)
    (case x_p2_Plan_cells => k_is)
    (case x_p3_Plan_cells => k_is)
    (case x_p2_Plan_drops => k_is)
    (case x_p3_Plan_drops => k_is)
    (case x_p2_Plan_fields => k_is)
    (case x_p3_Plan_fields => k_is)
    (case x_p2_Plan_places => k_is)
    (case x_p3_Plan_places => k_is)
    (case x_p2_Recipe_names => k_is)
    (case x_p3_Recipe_names => k_is)
    (case x_rn_Key => k_is)
    (case x_rn_Recipe => k_is)
    (case x_rs_Key => k_is)
    (case x_rs_Recipe => k_is)
    (case x_sf_Key => k_is)
    (case x_sf_Recipe => k_is)
    (case x_sn_Key => k_is)
    (case x_sn_Plan => k_is)
    (case x_sn_Recipe => k_is)
    (case x_ss_Key => k_is)
    (case x_ss_Plan => k_is)
    (case x_ss_Recipe => k_is)
    (case x_c_BadPlan_init => k_is)
    (case x_sa_BadPlan_init => k_is)
    (case x_e3_BadPlan => k_is)
    (case x_e4_BadPlan => k_is)
    (case x_e2_BadPlan => k_is)
    (case x_tp => first | rfl | decide +kernel)
    (case x_z_super => k_is)
    (case x_fn_BadPlan_init => k_is)
    (case x_se_BadPlan_init => k_is)
    (case x_op => k_is)
    (case x_sp_BadPlan_init => first | ks_is | k_is)
    (case x_ve_BadPlan_init => k_is)
    (case x_ty_BadPlan_init => k_is)
    (case x_xf1_BadPlan => k_is)
    (case x_xf2_BadPlan => k_is)
    (case x_xf4_BadPlan => k_is)
    (case x_e5_BadPlan => k_is)
    (case x_xm0_BadPlan => first | rfl | k_is)
    (case x_xm1_BadPlan => first | rfl | k_is)
    (case x_xm2_BadPlan => first | rfl | k_is)
    (case x_xm3_BadPlan => first | rfl | k_is)
    (case x_xm4_BadPlan => first | rfl | k_is)
#print axioms PySem.Challenge.cw_shortkeys_k18_whole_plan_parts_holds

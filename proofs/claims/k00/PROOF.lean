import PyProof.Rows.All
import Wide.All
import OpenK.AllK
import Wide.FinOn
import HandS.ForMost
import HandS.ForExc
import HandS.TupAny
import HandS.Deep
import HandS.ExcInit
import HandS.CallSlots
import HandS.IsInst
import HandS.FStr
import HandS.ExcIs
import HandS.ExcField
import HandS.StrMore
import HandS.TryMany
import HandS.Text
import PySem.Challenge.RW_nestcall_k00_names_and_numbers
set_option Elab.async false
set_option linter.all false
set_option maxRecDepth 100000
set_option maxHeartbeats 4000000
/-! The plain layer: a program's defs as plain Lean functions on plain data (Va), over a store of the objects that change (Ob).
    A judgement (JE, JT, JA, JS, JSs ..) says that a piece of syntax does what a plain function does. -/
namespace Sh
open PySem PySem.Spec PyProof.Rows L2

/-- plain values: a tuple is data, a list (a dict, an instance) is a place in the store; scr: a list that is only read; ktp: a tuple of the module; cst: a thing of the module -/
inductive Va where
  | non | bl (b : Bool) | int (i : Int) | str (s : Str) | tup (xs : List Va) | scr (xs : List Va) | ktp (xs : List Va) | ref (n : Nat) | cst (v : V) | exn
instance : Inhabited Va := ⟨.non⟩
inductive Ob where
  | lst (xs : List Va) | dct (kvs : List (Key × Va)) | dtp (kvs : List (List Key × Va)) | ins (c : Nat) (fs : List (Str × Va))
abbrev Sto := List Ob
abbrev En := List (Option Va)
inductive Rs (α : Type) where
  | ok (a : α) (st : Sto) | exc (c : Nat) (fs : List (Str × Va)) (st : Sto) | no
abbrev Mo (α : Type) := Sto → Rs α
def bnd {α β : Type} (r : Rs α) (f : α → Mo β) : Rs β :=
  match r with
  | .ok a st => f a st
  | .exc c fs st => .exc c fs st
  | .no => .no

/-- the classes' addresses, the heap at the entry -/
structure Gx where
  cls : Nat → Addr
  H0 : Hp
  xs : List (Addr × List (Str × V)) := []
  es : List (Nat × Addr) := []

mutual
inductive RV (K : PySem.W.Frag) (H0 : Hp) (H : Hp) (ι : List Addr) : Va → V → Prop
  | non : RV K H0 H ι .non .non
  | bl (b : Bool) : RV K H0 H ι (.bl b) (.bl b)
  | int (i : Int) : RV K H0 H ι (.int i) (.int i)
  | str (s : Str) : RV K H0 H ι (.str s) (.str s)
  | tup {a : Addr} {vs : List V} {ws : List Va} : H a = some (.tup vs) → RVs K H0 H ι ws vs → RV K H0 H ι (.tup ws) (.ref a)
  | ktp {a : Addr} {vs : List V} {ws : List Va} : SqT K H0 a vs → RVs K H0 H ι ws vs → RV K H0 H ι (.ktp ws) (.ref a)
  | scr {a : Addr} {vs : List V} {ws : List Va} : SqL K H0 a vs → RVs K H0 H ι ws vs → RV K H0 H ι (.scr ws) (.ref a)
  | ref {n : Nat} {a : Addr} : ι[n]? = some a → RV K H0 H ι (.ref n) (.ref a)
  | cst (v : V) : RV K H0 H ι (.cst v) v
inductive RVs (K : PySem.W.Frag) (H0 : Hp) (H : Hp) (ι : List Addr) : List Va → List V → Prop
  | nil : RVs K H0 H ι [] []
  | cons {w : Va} {v : V} {ws : List Va} {vs : List V} : RV K H0 H ι w v → RVs K H0 H ι ws vs → RVs K H0 H ι (w :: ws) (v :: vs)
end

structure Ext (K : PySem.W.Frag) (H : Hp) (ι : List Addr) (H' : Hp) (ι' : List Addr) : Prop where
  pre : ∃ r, ι' = ι ++ r
  tup : ∀ a vs, H a = some (.tup vs) → H' a = some (.tup vs)
  xd : ∀ a fs, H a = some (.xd fs) → H' a = some (.xd fs)
theorem Ext.refl {K : PySem.W.Frag} {H : Hp} {ι : List Addr} : Ext K H ι H ι := ⟨⟨[], by simp⟩, fun _ _ h => h, fun _ _ h => h⟩
theorem Ext.trans {K : PySem.W.Frag} {H H1 H2 : Hp} {ι ι1 ι2 : List Addr} (a : Ext K H ι H1 ι1) (b : Ext K H1 ι1 H2 ι2) : Ext K H ι H2 ι2 := by
  obtain ⟨r, e⟩ := a.pre
  obtain ⟨r', e'⟩ := b.pre
  exact ⟨⟨r ++ r', by rw [e', e, List.append_assoc]⟩, fun x vs h => b.tup x vs (a.tup x vs h), fun x fs h => b.xd x fs (a.xd x fs h)⟩
theorem Ext.get {K : PySem.W.Frag} {H H' : Hp} {ι ι' : List Addr} (e : Ext K H ι H' ι') {n : Nat} {a : Addr} (h : ι[n]? = some a) : ι'[n]? = some a := by
  obtain ⟨r, rfl⟩ := e.pre
  rw [List.getElem?_append_left (List.getElem?_eq_some_iff.mp h).1]
  exact h
section
variable {K : PySem.W.Frag} {g : Gx} {H0 H H' : Hp} {ι ι' : List Addr}
mutual
theorem RV.mono (e : Ext K H ι H' ι') : ∀ {w : Va} {v : V}, RV K H0 H ι w v → RV K H0 H' ι' w v
  | _, _, .non => .non
  | _, _, .bl b => .bl b
  | _, _, .int i => .int i
  | _, _, .str s => .str s
  | _, _, .tup h r => .tup (e.tup _ _ h) (RVs.mono e r)
  | _, _, .scr h r => .scr h (RVs.mono e r)
  | _, _, .ktp h r => .ktp h (RVs.mono e r)
  | _, _, .ref h => .ref (e.get h)
  | _, _, .cst v => .cst v
theorem RVs.mono (e : Ext K H ι H' ι') : ∀ {ws : List Va} {vs : List V}, RVs K H0 H ι ws vs → RVs K H0 H' ι' ws vs
  | _, _, .nil => .nil
  | _, _, .cons r t => .cons (RV.mono e r) (RVs.mono e t)
end
theorem RVs.length : ∀ {ws : List Va} {vs : List V}, RVs K H0 H ι ws vs → ws.length = vs.length
  | _, _, .nil => rfl
  | _, _, .cons _ t => by rw [List.length_cons, List.length_cons, RVs.length t]
theorem RVs.get : ∀ {ws : List Va} {vs : List V} {i : Nat} {w : Va}, RVs K H0 H ι ws vs → ws[i]? = some w → ∃ v, vs[i]? = some v ∧ RV K H0 H ι w v
  | _, _, _, _, .nil, e => by simp at e
  | _, _, 0, _, .cons r _, e => by simp at e; subst e; exact ⟨_, rfl, r⟩
  | _, _, i + 1, _, .cons _ t, e => by
    obtain ⟨v, h1, h2⟩ := RVs.get (i := i) t (by simpa using e)
    exact ⟨v, by simpa using h1, h2⟩
theorem RVs.getv : ∀ {ws : List Va} {vs : List V} {i : Nat} {v : V}, RVs K H0 H ι ws vs → vs[i]? = some v → ∃ w, ws[i]? = some w ∧ RV K H0 H ι w v
  | _, _, _, _, .nil, e => by simp at e
  | _, _, 0, _, .cons r _, e => by simp at e; subst e; exact ⟨_, rfl, r⟩
  | _, _, i + 1, _, .cons _ t, e => by
    obtain ⟨v, h1, h2⟩ := RVs.getv (i := i) t (by simpa using e)
    exact ⟨v, by simpa using h1, h2⟩
theorem RVs.append : ∀ {ws zs : List Va} {vs us : List V}, RVs K H0 H ι ws vs → RVs K H0 H ι zs us → RVs K H0 H ι (ws ++ zs) (vs ++ us)
  | _, _, _, _, .nil, h => h
  | _, _, _, _, .cons r t, h => .cons r (RVs.append t h)
theorem RVs.take : ∀ {ws : List Va} {vs : List V} (n : Nat), RVs K H0 H ι ws vs → RVs K H0 H ι (ws.take n) (vs.take n)
  | _, _, 0, _ => by simpa using RVs.nil
  | _, _, _ + 1, .nil => .nil
  | _, _, n + 1, .cons r t => .cons r (RVs.take n t)
theorem RVs.drop : ∀ {ws : List Va} {vs : List V} (n : Nat), RVs K H0 H ι ws vs → RVs K H0 H ι (ws.drop n) (vs.drop n)
  | _, _, 0, h => h
  | _, _, _ + 1, .nil => .nil
  | _, _, n + 1, .cons _ t => RVs.drop n t
theorem RVs.reverse : ∀ {ws : List Va} {vs : List V}, RVs K H0 H ι ws vs → RVs K H0 H ι ws.reverse vs.reverse
  | _, _, .nil => .nil
  | _, _, .cons r t => by
    rw [List.reverse_cons, List.reverse_cons]
    exact (RVs.reverse t).append (.cons r .nil)
theorem RVs.set {w : Va} {v : V} (r : RV K H0 H ι w v) : ∀ {ws : List Va} {vs : List V} (n : Nat), RVs K H0 H ι ws vs → RVs K H0 H ι (ws.set n w) (vs.set n v)
  | _, _, _, .nil => .nil
  | _, _, 0, .cons _ t => .cons r t
  | _, _, n + 1, .cons q t => .cons q (RVs.set r n t)

/-- fields, pairs of a dict -/
abbrev PF (K : PySem.W.Frag) (g : Gx) (H : Hp) (ι : List Addr) {κ : Type} : List (κ × Va) → List (κ × V) → Prop := Paired fun (p : κ × Va) (q : κ × V) => p.1 = q.1 ∧ RV K g.H0 H ι p.2 q.2
theorem PF.mono {κ : Type} (e : Ext K H ι H' ι') {fs : List (κ × Va)} {fs' : List (κ × V)} (h : PF K g H ι fs fs') : PF K g H' ι' fs fs' := Paired.mapP h fun _ _ q => ⟨q.1, q.2.mono e⟩
def RO (K : PySem.W.Frag) (g : Gx) (H : Hp) (ι : List Addr) : Ob → Addr → Prop
  | .lst ws, a => ∃ vs, H a = some (.lst vs) ∧ RVs K g.H0 H ι ws vs
  | .dct kvs, a => ∃ kvs', H a = some (.dK kvs') ∧ PF K g H ι kvs kvs'
  | .dtp kvs, a => ∃ kvs', H a = some (.dT kvs') ∧ PF K g H ι kvs kvs'
  | .ins c fs, a => ∃ dx fs', H a = some (.ins (g.cls c) dx fs') ∧ PF K g H ι fs fs'
/-- the kinds that stand in the store -/
def Own : HO → Bool
  | .lst _ => true
  | .dK _ => true
  | .dT _ => true
  | .ins _ _ _ => true
  | _ => false
theorem RO.own {o : Ob} {a : Addr} (h : RO K g H ι o a) : ∃ u, H a = some u ∧ Own u = true := by
  cases o with
  | lst ws => obtain ⟨vs, e, _⟩ := h; exact ⟨_, e, rfl⟩
  | dct ws => obtain ⟨vs, e, _⟩ := h; exact ⟨_, e, rfl⟩
  | dtp ws => obtain ⟨vs, e, _⟩ := h; exact ⟨_, e, rfl⟩
  | ins c fs => obtain ⟨dx, vs, e, _⟩ := h; exact ⟨_, e, rfl⟩
/-- an object elsewhere stays -/
theorem RO.keep {o : Ob} {a : Addr} (e : Ext K H ι H' ι') (ha : H' a = H a) (h : RO K g H ι o a) : RO K g H' ι' o a := by
  cases o with
  | lst ws => obtain ⟨vs, q, r⟩ := h; exact ⟨vs, ha.trans q, r.mono e⟩
  | dct ws => obtain ⟨vs, q, r⟩ := h; exact ⟨vs, ha.trans q, PF.mono e r⟩
  | dtp ws => obtain ⟨vs, q, r⟩ := h; exact ⟨vs, ha.trans q, PF.mono e r⟩
  | ins c fs => obtain ⟨dx, vs, q, r⟩ := h; exact ⟨dx, vs, ha.trans q, PF.mono e r⟩

structure RS (K : PySem.W.Frag) (g : Gx) (st : Sto) (H : Hp) (ι : List Addr) : Prop where
  len : ι.length = st.length
  nd : ι.Nodup
  old : ∀ b o, g.H0 b = some o → H b = some o
  new : ∀ a ∈ ι, g.H0 a = none
  obj : ∀ (n : Nat) o a, st[n]? = some o → ι[n]? = some a → RO K g H ι o a
  xds : ∀ p ∈ g.xs, H p.1 = some (.xd p.2)
theorem RS.at {st : Sto} (s : RS K g st H ι) {n : Nat} {o : Ob} (h : st[n]? = some o) : ∃ a, ι[n]? = some a ∧ RO K g H ι o a := by
  have hl : n < ι.length := by rw [s.len]; exact (List.getElem?_eq_some_iff.mp h).1
  exact ⟨ι[n], List.getElem?_eq_getElem hl, s.obj n o _ h (List.getElem?_eq_getElem hl)⟩
theorem RS.mem {st : Sto} (s : RS K g st H ι) {a : Addr} (h : a ∈ ι) : ∃ u, H a = some u ∧ Own u = true := by
  obtain ⟨n, hn, e⟩ := List.mem_iff_getElem.mp h
  have hs : n < st.length := by rw [← s.len]; exact hn
  exact (s.obj n _ a (List.getElem?_eq_getElem hs) (by rw [List.getElem?_eq_getElem hn, e])).own
theorem RS.fresh {st : Sto} (s : RS K g st H ι) {p : Addr} (h : H p = none) : p ∉ ι ∧ g.H0 p = none := by
  refine ⟨fun hm => ?_, ?_⟩
  · obtain ⟨u, e, _⟩ := s.mem hm
    rw [h] at e; cases e
  · cases q : g.H0 p with
    | none => rfl
    | some o =>
      have := s.old p o q
      rw [h] at this; cases this
theorem ext_new {p : Addr} {o : HO} (h : H p = none) (r : List Addr) : Ext K H ι (upd H p o) (ι ++ r) := ⟨⟨r, rfl⟩, fun a vs q => by rw [upd_ne (ne_of_none q h)]; exact q, fun a fs q => by rw [upd_ne (ne_of_none q h)]; exact q⟩
/-- something else is laid -/
theorem RS.other {st : Sto} (s : RS K g st H ι) {p : Addr} {o : HO} (h : H p = none) : RS K g st (upd H p o) ι := by
  obtain ⟨h1, h2⟩ := s.fresh h
  have e : Ext K H ι (upd H p o) ι := by simpa using ext_new (K := K) (ι := ι) (o := o) h []
  refine ⟨s.len, s.nd, fun b u q => ?_, s.new, fun n u a q1 q2 => ?_, ?_⟩
  · rw [upd_ne (fun z => by rw [z, h2] at q; cases q)]
    exact s.old b u q
  · have ha : a ∈ ι := List.mem_of_getElem? q2
    exact (s.obj n u a q1 q2).keep e (upd_ne fun z => h1 (z ▸ ha))
  · exact fun p hp => e.xd _ _ (s.xds p hp)
/-- a new object of the store -/
theorem RS.push {st : Sto} (s : RS K g st H ι) {p : Addr} {o : HO} {ob : Ob} (h : H p = none) (r : RO K g (upd H p o) (ι ++ [p]) ob p) : RS K g (st ++ [ob]) (upd H p o) (ι ++ [p]) := by
  obtain ⟨h1, h2⟩ := s.fresh h
  have e : Ext K H ι (upd H p o) (ι ++ [p]) := ext_new h [p]
  refine ⟨by simp [s.len], ?_, fun b u q => ?_, fun a ha => ?_, fun n u a q1 q2 => ?_, fun p hp => e.xd _ _ (s.xds p hp)⟩
  · rw [List.nodup_append]
    refine ⟨s.nd, List.nodup_cons.mpr ⟨by simp, List.nodup_nil⟩, fun a ha b hb => ?_⟩
    have : b = p := by simpa using hb
    subst this
    exact fun z => h1 (z ▸ ha)
  · rw [upd_ne (fun z => by rw [z, h2] at q; cases q)]
    exact s.old b u q
  · rcases List.mem_append.mp ha with ha | ha
    · exact s.new a ha
    · have : a = p := by simpa using ha
      subst this
      exact h2
  · by_cases hn : n < st.length
    · rw [List.getElem?_append_left hn] at q1
      rw [List.getElem?_append_left (by rw [s.len]; exact hn)] at q2
      have ha : a ∈ ι := List.mem_of_getElem? q2
      exact (s.obj n u a q1 q2).keep e (upd_ne fun z => h1 (z ▸ ha))
    · have hn' : n = st.length := by
        have := (List.getElem?_eq_some_iff.mp q1).1
        simp at this
        omega
      subst hn'
      have e1 : u = ob := by simpa using q1.symm
      have e2 : a = p := by rw [← s.len] at q2; simpa using q2.symm
      subst e1 e2
      exact r
theorem ext_own {n : Nat} {a : Addr} {u o : HO} {st : Sto} (s : RS K g st H ι) (hu : H a = some u) (ow : Own u = true) : Ext K H ι (upd H a o) ι := by
  have ne : ∀ (b : Addr) (z : HO), H b = some z → Own z = false → b ≠ a := fun b z hz hf e => by
    rw [e, hu] at hz
    cases hz
    rw [ow] at hf
    cases hf
  exact ⟨⟨[], by simp⟩, fun b vs q => (upd_ne (ne b _ q rfl)).trans q, fun b fs q => (upd_ne (ne b _ q rfl)).trans q⟩
/-- an object of the store is changed -/
theorem RS.put {st : Sto} (s : RS K g st H ι) {n : Nat} {a : Addr} {o : HO} {ob : Ob} (ha : ι[n]? = some a) (r : RO K g (upd H a o) ι ob a) : RS K g (st.set n ob) (upd H a o) ι := by
  have hm : a ∈ ι := List.mem_of_getElem? ha
  obtain ⟨u, hu, ow⟩ := s.mem hm
  have e : Ext K H ι (upd H a o) ι := ext_own (n := n) s hu ow
  refine ⟨by simp [s.len], s.nd, fun b u q => ?_, s.new, fun m u b q1 q2 => ?_, fun p hp => e.xd _ _ (s.xds p hp)⟩
  · rw [upd_ne (fun z => by rw [z, s.new a hm] at q; cases q)]
    exact s.old b u q
  · by_cases hmn : m = n
    · subst hmn
      rw [ha] at q2
      cases q2
      have hl : m < st.length := by rw [← s.len]; exact (List.getElem?_eq_some_iff.mp ha).1
      rw [List.getElem?_set_self hl] at q1
      cases q1
      exact r
    · rw [List.getElem?_set_ne (Ne.symm hmn)] at q1
      refine (s.obj m u b q1 q2).keep e (upd_ne fun z => hmn ?_)
      subst z
      obtain ⟨l1, e1⟩ := List.getElem?_eq_some_iff.mp ha
      obtain ⟨l2, e2⟩ := List.getElem?_eq_some_iff.mp q2
      exact (List.getElem_inj s.nd).mp (e2.trans e1.symm)

/-- the slots; .exn stands where the error is that a suite holds -/
def RE (K : PySem.W.Frag) (g : Gx) (H : Hp) (ι : List Addr) (env : En) (σ : L2.St) : Prop := env.length = σ.length ∧ (∀ (i : Nat) w, env[i]? = some (some w) → w ≠ .exn → ∃ v, σ[i]? = some (some v) ∧ RV K g.H0 H ι w v) ∧ ∀ (i : Nat) a, (i, a) ∈ g.es → env[i]? = some (some .exn) → σ[i]? = some (some (.ref a))
theorem RE.mono {env : En} {σ : L2.St} (h : RE K g H ι env σ) (e : Ext K H ι H' ι') : RE K g H' ι' env σ := ⟨h.1, fun i w q n => by
  obtain ⟨v, q1, q2⟩ := h.2.1 i w q n
  exact ⟨v, q1, q2.mono e⟩, h.2.2⟩
theorem RV.noExn {H0 : Hp} {v : V} {w : Va} (r : RV K H0 H ι w v) : w ≠ .exn := fun z => by subst z; cases r
theorem RE.set {env : En} {σ : L2.St} (h : RE K g H ι env σ) {w : Va} {v : V} (i : Nat) (r : RV K g.H0 H ι w v) : RE K g H ι (env.set i (some w)) (σ.set i (some v)) := by
  have self : ∀ {u : Va}, (env.set i (some w))[i]? = some (some u) → u = w ∧ i < env.length := fun {u} q => by
    have hl : i < env.length := by
      have := (List.getElem?_eq_some_iff.mp q).1
      simpa using this
    rw [List.getElem?_set_self hl] at q
    cases q
    exact ⟨rfl, hl⟩
  refine ⟨by simp [h.1], fun j u q n => ?_, fun j a m q => ?_⟩
  · by_cases hj : j = i
    · subst hj
      obtain ⟨rfl, hl⟩ := self q
      exact ⟨v, by rw [List.getElem?_set_self (by rw [← h.1]; exact hl)], r⟩
    · rw [List.getElem?_set_ne (Ne.symm hj)] at q
      obtain ⟨v', q1, q2⟩ := h.2.1 j u q n
      exact ⟨v', by rw [List.getElem?_set_ne (Ne.symm hj)]; exact q1, q2⟩
  · by_cases hj : j = i
    · subst hj
      obtain ⟨z, _⟩ := self q
      exact absurd z.symm r.noExn
    · rw [List.getElem?_set_ne (Ne.symm hj)] at q
      rw [List.getElem?_set_ne (Ne.symm hj)]
      exact h.2.2 j a m q
theorem RE.clear {env : En} {σ : L2.St} (h : RE K g H ι env σ) (i : Nat) {x : Option V} : RE K g H ι (env.set i none) (σ.set i x) := by
  have self : ∀ {u : Va}, (env.set i none)[i]? = some (some u) → False := fun {u} q => by
    have hl : i < env.length := by
      have := (List.getElem?_eq_some_iff.mp q).1
      simpa using this
    rw [List.getElem?_set_self hl] at q
    cases q
  refine ⟨by simp [h.1], fun j u q n => ?_, fun j a m q => ?_⟩
  · by_cases hj : j = i
    · subst hj
      exact (self q).elim
    · rw [List.getElem?_set_ne (Ne.symm hj)] at q
      obtain ⟨v', q1, q2⟩ := h.2.1 j u q n
      exact ⟨v', by rw [List.getElem?_set_ne (Ne.symm hj)]; exact q1, q2⟩
  · by_cases hj : j = i
    · subst hj
      exact (self q).elim
    · rw [List.getElem?_set_ne (Ne.symm hj)] at q
      rw [List.getElem?_set_ne (Ne.symm hj)]
      exact h.2.2 j a m q
end

/-! ### what is wanted of a result -/
section
variable {K : PySem.W.Frag} {g : Gx}
abbrev Rel (α β : Type) := Hp → List Addr → α → β → Prop
def Pst {α β : Type} (K : PySem.W.Frag) (g : Gx) (rel : Rel α β) (r : Rs α) (H : Hp) (ι : List Addr) (Q : β → Hp → Prop) (E : XK) : Prop :=
  match r with
  | .ok a st => ∀ H' ι' b, Ext K H ι H' ι' → RS K g st H' ι' → rel H' ι' a b → Q b H'
  | .exc c fs st => ∀ H' ι' d fs', Ext K H ι H' ι' → RS K g st H' ι' → H' d = some (.xd fs') → PF K g H' ι' fs fs' → E (.ref (g.cls c)) (some d) H'
  | .no => False
theorem Pst.shift {α β : Type} {rel : Rel α β} {r : Rs α} {H H1 : Hp} {ι ι1 : List Addr} {Q : β → Hp → Prop} {E : XK} (h : Pst K g rel r H ι Q E) (e : Ext K H ι H1 ι1) : Pst K g rel r H1 ι1 Q E := by
  cases r with
  | ok a st => exact fun H' ι' b e' => h H' ι' b (e.trans e')
  | exc c fs st => exact fun H' ι' d fs' e' => h H' ι' d fs' (e.trans e')
  | no => exact h
theorem Pst.bind {α β α' β' : Type} {rel : Rel α β} {rel' : Rel α' β'} {r : Rs α} {f : α → Mo α'} {H : Hp} {ι : List Addr} {Q : β' → Hp → Prop} {E : XK} (h : Pst K g rel' (bnd r f) H ι Q E) :
    Pst K g rel r H ι (fun b H1 => ∃ a st1 ι1, Ext K H ι H1 ι1 ∧ RS K g st1 H1 ι1 ∧ rel H1 ι1 a b ∧ Pst K g rel' (f a st1) H1 ι1 Q E) E := by
  cases r with
  | ok a st => exact fun H' ι' b e rs rv => ⟨a, st, ι', e, rs, rv, Pst.shift (show Pst K g rel' (f a st) H ι Q E from h) e⟩
  | exc c fs st => exact h
  | no => exact h
theorem Pst.imp {α β : Type} {rel : Rel α β} {r : Rs α} {H : Hp} {ι : List Addr} {Q Q' : β → Hp → Prop} {E E' : XK} (h : Pst K g rel r H ι Q E) (hQ : ∀ b H', Q b H' → Q' b H') (hE : ∀ c d H', E c d H' → E' c d H') : Pst K g rel r H ι Q' E' := by
  cases r with
  | ok a st => exact fun H' ι' b e rs rv => hQ _ _ (h H' ι' b e rs rv)
  | exc c fs st => exact fun H' ι' d fs' e rs hd pf => hE _ _ _ (h H' ι' d fs' e rs hd pf)
  | no => exact h

/-! ### the judgements -/
def tG {α β : Type} (K : PySem.W.Frag) (g : Gx) (W : WX) (rel : Rel α β) (m : En → Mo α) : L2.St → Hp → (β → Hp → Prop) → Prop := fun σ H Q =>
  ∃ env st ι, RS K g st H ι ∧ RE K g H ι env σ ∧ Pst K g rel (m env st) H ι Q (fun c d H' => W c d σ H')
abbrev rV (K : PySem.W.Frag) (g : Gx) : Rel Va V := fun H ι w v => RV K g.H0 H ι w v
abbrev rVs (K : PySem.W.Frag) (g : Gx) : Rel (List Va) (List V) := fun H ι w v => RVs K g.H0 H ι w v
abbrev rB : Rel Bool Bool := fun _ _ a b => a = b
structure JE (X : Cx) (g : Gx) (W : WX) (e : Expr) (m : En → Mo Va) : Prop where
  pe : PE X e (tG X.K g W (rV X.K g) m)
structure JT (X : Cx) (g : Gx) (W : WX) (e : Expr) (m : En → Mo Bool) : Prop where
  pt : PT X e (tG X.K g W rB m)
structure JW (X : Cx) (g : Gx) (W : WX) (e : Expr) (m : En → Mo Bool) : Prop where
  pw : PW X e (tG X.K g W rB m)
structure JA (X : Cx) (g : Gx) (W : WX) (es : List Expr) (m : En → Mo (List Va)) : Prop where
  pa : PA X es (tG X.K g W (rVs X.K g) m)
theorem PE.imp {X : Cx} {e : Expr} {t t' : TE} (h : PE X e t) (i : ∀ σ H Q, t' σ H Q → t σ H Q) : PE X e t' := ⟨fun pins s σ H Q I q => h.run pins s σ H Q I (i σ H Q q)⟩
theorem PT.imp {X : Cx} {e : Expr} {t t' : TT} (h : PT X e t) (i : ∀ σ H Q, t' σ H Q → t σ H Q) : PT X e t' := ⟨fun pins s σ H Q I q => h.run pins s σ H Q I (i σ H Q q)⟩
theorem PW.imp {X : Cx} {e : Expr} {t t' : TT} (h : PW X e t) (i : ∀ σ H Q, t' σ H Q → t σ H Q) : PW X e t' := ⟨fun wh pins s σ H Q I q => h.run wh pins s σ H Q I (i σ H Q q)⟩
theorem PA.imp {X : Cx} {e : List Expr} {t t' : TA} (h : PA X e t) (i : ∀ σ H Q, t' σ H Q → t σ H Q) : PA X e t' := ⟨fun pos pins s σ H Q I q => h.run pos pins s σ H Q I (i σ H Q q)⟩
theorem PS.imp {X : Cx} {e : Stmt} {t t' : TS} (h : PS X e t) (i : ∀ D σ H, t' D σ H → t D σ H) : PS X e t' := ⟨fun pins s σ H D I q => h.run pins s σ H D I (i D σ H q)⟩
theorem PSs.imp {X : Cx} {e : List Stmt} {t t' : TS} (h : PSs X e t) (i : ∀ D σ H, t' D σ H → t D σ H) : PSs X e t' := ⟨fun pins s σ H D I q => h.run pins s σ H D I (i D σ H q)⟩

section
variable {X : Cx} {W : WX} {σ : L2.St} {H : Hp}
/-- a value that needs no heap -/
theorem tG_ok {α β : Type} {rel : Rel α β} {m : En → Mo α} {Q : β → Hp → Prop} {f : En → α} {b : β} (h : tG K g W rel m σ H Q) (hm : ∀ env st, m env st = .ok (f env) st)
    (hr : ∀ env st ι, RS K g st H ι → RE K g H ι env σ → rel H ι (f env) b) : Q b H := by
  obtain ⟨env, st, ι, rs, re, p⟩ := h
  rw [hm] at p
  exact p H ι b Ext.refl rs (hr env st ι rs re)
/-- the general step: first m1, then what follows -/
theorem tG_bind {α β α' β' : Type} {rel : Rel α β} {rel' : Rel α' β'} {m1 : En → Mo α} {f : En → α → Mo α'} {Q : β' → Hp → Prop} (h : tG K g W rel' (fun env st => bnd (m1 env st) (f env)) σ H Q) :
    tG K g W rel m1 σ H (fun b H1 => ∃ env a st1 ι1, RS K g st1 H1 ι1 ∧ RE K g H1 ι1 env σ ∧ rel H1 ι1 a b ∧ Pst K g rel' (f env a st1) H1 ι1 Q (fun c d H' => W c d σ H')) := by
  obtain ⟨env, st, ι, rs, re, p⟩ := h
  refine ⟨env, st, ι, rs, re, ?_⟩
  refine (Pst.bind (rel := rel) p).imp (fun b H1 q => ?_) fun _ _ _ q => q
  obtain ⟨a, st1, ι1, e, rs1, r1, p1⟩ := q
  exact ⟨env, a, st1, ι1, rs1, re.mono e, r1, p1⟩
end
end
end Sh

set_option Elab.async false
set_option linter.all false
set_option maxRecDepth 100000
set_option maxHeartbeats 4000000
namespace Sh
open PySem PySem.Spec PyProof.Rows L2

/-! ### names, constants -/
def eVar (i : Nat) : En → Mo Va := fun env st => match env[i]? with
  | some (some .exn) => .no
  | some (some w) => .ok w st
  | _ => .no
def eC (w : Va) : En → Mo Va := fun _ st => .ok w st
/-- two in a row -/
def e2 {α : Type} (op : Va → Va → Mo α) (a b : En → Mo Va) : En → Mo α := fun env st => bnd (a env st) fun x st1 => bnd (b env st1) fun y st2 => op x y st2
def e1 {α : Type} (op : Va → Mo α) (a : En → Mo Va) : En → Mo α := fun env st => bnd (a env st) op
def aNil : En → Mo (List Va) := fun _ st => .ok [] st
def aCons (a : En → Mo Va) (r : En → Mo (List Va)) : En → Mo (List Va) := fun env st => bnd (a env st) fun x st1 => bnd (r env st1) fun xs st2 => .ok (x :: xs) st2
def eA {α : Type} (op : List Va → Mo α) (a : En → Mo (List Va)) : En → Mo α := fun env st => bnd (a env st) op

def OpS (X : Cx) (g : Gx) (f : Value → Value → Sem Value) (op : Va → Va → Mo Va) : Prop :=
  OpR X f fun x y H Q => ∃ st ι w1 w2, RS X.K g st H ι ∧ RV X.K g.H0 H ι w1 x ∧ RV X.K g.H0 H ι w2 y ∧ Pst X.K g (rV X.K g) (op w1 w2 st) H ι Q (fun _ _ _ => False)
def CallS (X : Cx) (g : Gx) (f : Value) (op : List Va → Mo Va) : Prop :=
  CallR X f fun xs H Q => ∃ st ι ws, RS X.K g st H ι ∧ RVs X.K g.H0 H ι ws xs ∧ Pst X.K g (rV X.K g) (op ws st) H ι Q (fun _ _ _ => False)
/-- no error is made -/
def NoX {α : Type} (r : Rs α) : Prop := ∀ c fs st, r ≠ .exc c fs st
theorem Pst.nox {α β : Type} {K : PySem.W.Frag} {g : Gx} {rel : Rel α β} {r : Rs α} {H : Hp} {ι : List Addr} {Q : β → Hp → Prop} {E E' : XK} (n : NoX r) (h : Pst K g rel r H ι Q E) : Pst K g rel r H ι Q E' := by
  cases r with
  | ok a st => exact h
  | exc c fs st => exact absurd rfl (n c fs st)
  | no => exact h

section
variable {X : Cx} {g : Gx} {W : WX} {a b c : Expr} {ma mb mc : En → Mo Va} {pos : Pos}

theorem j_var (i : Nat) {x : Str} (hN : X.N[i]? = some x := by rfl) (hv : Vis X.env.scope x := by first | exact Or.inl rfl | exact Or.inr (Or.inl rfl) | exact Or.inr (Or.inr rfl)) (hd : (x == ("__debug__" : Str)) = false := by decide)
    (hcd : (x == ("__classdict__" : Str)) = false := by decide) : JE X g W (.Name x pos) (eVar i) := ⟨PE.imp (pe_var hN hv hd hcd) fun σ H Q h => by
  obtain ⟨env, st, ι, rs, re, p⟩ := h
  unfold eVar at p
  split at p
  · exact (show False from p).elim
  · rename_i w n e
    obtain ⟨v, q1, q2⟩ := re.2.1 i w e fun z => n z
    exact ⟨v, q1, p H ι v Ext.refl rs q2⟩
  · exact (show False from p).elim⟩
theorem j_c {e : Expr} {v : V} {w : Va} (h : PE X e (tC v)) (r : ∀ H ι, RV X.K g.H0 H ι w v) : JE X g W e (eC w) := ⟨PE.imp h fun σ H Q h => by
  obtain ⟨env, st, ι, rs, re, p⟩ := h
  exact p H ι v Ext.refl rs (r H ι)⟩
theorem j_int {i j} : JE X g W (.Constant (.int i) j pos) (eC (.int i)) := j_c pe_int fun _ _ => .int i
theorem j_bl {i j} : JE X g W (.Constant (.bool i) j pos) (eC (.bl i)) := j_c pe_bl fun _ _ => .bl i
theorem j_non {j} : JE X g W (.Constant .none j pos) (eC .non) := j_c pe_non fun _ _ => .non
theorem j_str {i j} : JE X g W (.Constant (.str i) j pos) (eC (.str i)) := j_c pe_str fun _ _ => .str i
/-- what the module's name holds -/
def GV (K : PySem.W.Frag) (mg : Str → Option Value) (x : Str) (w : Va) : Prop := ∃ u v, mg x = some u ∧ RelV v u ∧ ∀ (g : Gx) H ι, RV K g.H0 H ι w v
theorem j_glob {x : Str} {w : Va} (h : GV X.K X.mg x w) (hg : Gl X x := by rfl) (hd : (x == ("__debug__" : Str)) = false := by decide) : JE X g W (.Name x pos) (eC w) := by
  obtain ⟨u, v, hm, r, rv⟩ := h
  exact j_c (pe_glob hg hm r hd) (rv g)
/-- a built-in type as a value (for isinstance) -/
theorem j_type {x : Str} {T : String} (hm : X.mg x = none) (hv : bootBuiltins x = some (.type T)) (hg : Gl X x := by rfl) (hn : x ≠ "__name__" := by decide) (hd : (x == ("__debug__" : Str)) = false := by decide) : JE X g W (.Name x pos) (eC (.cst (.ty T))) :=
  j_c (pe_bltn (v := .ty T) hg hm hv rfl hn hd) fun _ _ => .cst _

theorem pst_e2 {α β : Type} {rel : Rel α β} {op : Va → Va → Mo α} {σ : L2.St} {H : Hp} {Q : β → Hp → Prop} (h : tG X.K g W rel (e2 op ma mb) σ H Q) :
    tG X.K g W (rV X.K g) ma σ H fun x H1 => tG X.K g W (rV X.K g) mb σ H1 fun y H2 => ∃ st ι w1 w2, RS X.K g st H2 ι ∧ RV X.K g.H0 H2 ι w1 x ∧ RV X.K g.H0 H2 ι w2 y ∧ Pst X.K g rel (op w1 w2 st) H2 ι Q (fun c d H' => W c d σ H') := by
  obtain ⟨env, st, ι, rs, re, p⟩ := h
  refine ⟨env, st, ι, rs, re, ?_⟩
  refine (Pst.bind (rel := rV X.K g) p).imp (fun x H1 q => ?_) fun _ _ _ q => q
  obtain ⟨w1, st1, ι1, ex, rs1, r1, p1⟩ := q
  refine ⟨env, st1, ι1, rs1, re.mono ex, ?_⟩
  refine (Pst.bind (rel := rV X.K g) p1).imp (fun y H2 q => ?_) fun _ _ _ q => q
  obtain ⟨w2, st2, ι2, ex2, rs2, r2, p2⟩ := q
  exact ⟨st2, ι2, w1, w2, rs2, r1.mono ex2, r2, p2⟩
theorem pst_e1 {α β : Type} {rel : Rel α β} {op : Va → Mo α} {σ : L2.St} {H : Hp} {Q : β → Hp → Prop} (h : tG X.K g W rel (e1 op ma) σ H Q) :
    tG X.K g W (rV X.K g) ma σ H fun x H1 => ∃ st ι w1, RS X.K g st H1 ι ∧ RV X.K g.H0 H1 ι w1 x ∧ Pst X.K g rel (op w1 st) H1 ι Q (fun c d H' => W c d σ H') := by
  obtain ⟨env, st, ι, rs, re, p⟩ := h
  refine ⟨env, st, ι, rs, re, ?_⟩
  refine (Pst.bind (rel := rV X.K g) p).imp (fun x H1 q => ?_) fun _ _ _ q => q
  obtain ⟨w1, st1, ι1, ex, rs1, r1, p1⟩ := q
  exact ⟨st1, ι1, w1, rs1, r1, p1⟩
theorem pst_eA {α β : Type} {rel : Rel α β} {op : List Va → Mo α} {mA : En → Mo (List Va)} {σ : L2.St} {H : Hp} {Q : β → Hp → Prop} (h : tG X.K g W rel (eA op mA) σ H Q) :
    tG X.K g W (rVs X.K g) mA σ H fun xs H1 => ∃ st ι ws, RS X.K g st H1 ι ∧ RVs X.K g.H0 H1 ι ws xs ∧ Pst X.K g rel (op ws st) H1 ι Q (fun c d H' => W c d σ H') := by
  obtain ⟨env, st, ι, rs, re, p⟩ := h
  refine ⟨env, st, ι, rs, re, ?_⟩
  refine (Pst.bind (rel := rVs X.K g) p).imp (fun x H1 q => ?_) fun _ _ _ q => q
  obtain ⟨w1, st1, ι1, ex, rs1, r1, p1⟩ := q
  exact ⟨st1, ι1, w1, rs1, r1, p1⟩
/-- the op makes no error -/
def NoX2 (op : Va → Va → Mo Va) : Prop := ∀ a b st, NoX (op a b st)
def NoXA (op : List Va → Mo Va) : Prop := ∀ a st, NoX (op a st)
theorem j_op {o : Operator} {op : Va → Va → Mo Va} (ho : OpS X g (binaryOp o) op) (n : NoX2 op) (ha : JE X g W a ma) (hb : JE X g W b mb) : JE X g W (.BinOp a o b pos) (e2 op ma mb) :=
  ⟨PE.imp (pe_op ho ha.pe hb.pe) fun σ H Q h => by
    obtain ⟨env, st, ι, rs, re, p⟩ := pst_e2 h
    refine ⟨env, st, ι, rs, re, p.imp (fun x H1 q => ?_) fun _ _ _ q => q⟩
    obtain ⟨env1, st1, ι1, rs1, re1, p1⟩ := q
    refine ⟨env1, st1, ι1, rs1, re1, p1.imp (fun y H2 q => ?_) fun _ _ _ q => q⟩
    obtain ⟨st2, ι2, w1, w2, rs2, r1, r2, p2⟩ := q
    exact ⟨st2, ι2, w1, w2, rs2, r1, r2, p2.nox (n _ _ _)⟩⟩
theorem j_cmp {o : CmpOp} {op : Va → Va → Mo Va} (ho : OpS X g (compareOp o) op) (n : NoX2 op) (ha : JE X g W a ma) (hb : JE X g W b mb) (hm : behindInMarks o b = false := by first | exact nomark _ | with_unfolding_all rfl) : JE X g W (.Compare a [o] [b] pos) (e2 op ma mb) :=
  ⟨PE.imp (pe_cmpR ho ha.pe hb.pe hm) fun σ H Q h => by
    obtain ⟨env, st, ι, rs, re, p⟩ := pst_e2 h
    refine ⟨env, st, ι, rs, re, p.imp (fun x H1 q => ?_) fun _ _ _ q => q⟩
    obtain ⟨env1, st1, ι1, rs1, re1, p1⟩ := q
    refine ⟨env1, st1, ι1, rs1, re1, p1.imp (fun y H2 q => ?_) fun _ _ _ q => q⟩
    obtain ⟨st2, ι2, w1, w2, rs2, r1, r2, p2⟩ := q
    exact ⟨st2, ι2, w1, w2, rs2, r1, r2, p2.nox (n _ _ _)⟩⟩

/-! ### tests -/
def tBl (r : Rs Va) : Rs Bool := bnd r fun w st => match w with
  | .bl b => .ok b st
  | _ => .no
/-- a test that is a comparison, and the like: its value is a bool -/
def eT (m : En → Mo Va) : En → Mo Bool := fun env st => tBl (m env st)
theorem tG_T {m : En → Mo Va} {σ : L2.St} {H : Hp} {Q : Bool → Hp → Prop} (h : tG X.K g W rB (eT m) σ H Q) : tG X.K g W (rV X.K g) m σ H fun x H1 => ∃ k, x = .bl k ∧ Q k H1 := by
  obtain ⟨env, st, ι, rs, re, p⟩ := h
  refine ⟨env, st, ι, rs, re, ?_⟩
  refine (Pst.bind (rel := rV X.K g) p).imp (fun x H1 q => ?_) fun _ _ _ q => q
  obtain ⟨w, st1, ι1, ex, rs1, r1, p1⟩ := q
  cases w with
  | bl k =>
    cases r1
    exact ⟨k, rfl, p1 H1 ι1 k Ext.refl rs1 rfl⟩
  | _ => exact (show False from p1).elim
theorem jt_cmp {o : CmpOp} {op : Va → Va → Mo Va} (ho : OpS X g (compareOp o) op) (n : NoX2 op) (ha : JE X g W a ma) (hb : JE X g W b mb) (hm : behindInMarks o b = false := by first | exact nomark _ | with_unfolding_all rfl) : JT X g W (.Compare a [o] [b] pos) (eT (e2 op ma mb)) :=
  ⟨PT.imp (pt_cmpR ho ha.pe hb.pe hm) fun σ H Q h => by
    obtain ⟨env, st, ι, rs, re, p⟩ := pst_e2 (tG_T h)
    refine ⟨env, st, ι, rs, re, p.imp (fun x H1 q => ?_) fun _ _ _ q => q⟩
    obtain ⟨env1, st1, ι1, rs1, re1, p1⟩ := q
    refine ⟨env1, st1, ι1, rs1, re1, p1.imp (fun y H2 q => ?_) fun _ _ _ q => q⟩
    obtain ⟨st2, ι2, w1, w2, rs2, r1, r2, p2⟩ := q
    exact ⟨st2, ι2, w1, w2, rs2, r1, r2, p2.nox (n _ _ _)⟩⟩
theorem jt_val {e : Expr} {m : En → Mo Va} (h : JE X g W e m) (he : ∀ whole, isTrue e X.env whole = (do let v ← whole; standAt e.pos; holding [v] (truthy v)) := by intro _; rfl) : JT X g W e (eT m) :=
  ⟨PT.imp (pt_val h.pe he) fun σ H Q q => tG_T q⟩
def eNot (m : En → Mo Bool) : En → Mo Bool := fun env st => bnd (m env st) fun b st1 => .ok (!b) st1
def eAnd (m n : En → Mo Bool) : En → Mo Bool := fun env st => bnd (m env st) fun b st1 => if b = true then n env st1 else .ok false st1
def eOr (m n : En → Mo Bool) : En → Mo Bool := fun env st => bnd (m env st) fun b st1 => if b = true then .ok true st1 else n env st1
theorem jt_not {m : En → Mo Bool} (h : JT X g W a m) : JT X g W (.UnaryOp .Not a pos) (eNot m) := ⟨PT.imp (pt_not h.pt) fun σ H Q q => by
  obtain ⟨env, st, ι, rs, re, p⟩ := q
  refine ⟨env, st, ι, rs, re, (Pst.bind (rel := rB) p).imp (fun x H1 q => ?_) fun _ _ _ q => q⟩
  obtain ⟨w, st1, ι1, ex, rs1, r1, p1⟩ := q
  obtain rfl : w = x := r1
  exact p1 H1 ι1 _ Ext.refl rs1 rfl⟩
theorem tG_and {m n : En → Mo Bool} {σ : L2.St} {H : Hp} {Q : Bool → Hp → Prop} (h : tG X.K g W rB (eAnd m n) σ H Q) : tG X.K g W rB m σ H fun c H1 => if c = true then tG X.K g W rB n σ H1 Q else Q false H1 := by
  obtain ⟨env, st, ι, rs, re, p⟩ := h
  refine ⟨env, st, ι, rs, re, (Pst.bind (rel := rB) p).imp (fun x H1 q => ?_) fun _ _ _ q => q⟩
  obtain ⟨w, st1, ι1, ex, rs1, r1, p1⟩ := q
  obtain rfl : w = x := r1
  cases w with
  | true =>
    rw [if_pos rfl] at p1 ⊢
    exact ⟨env, st1, ι1, rs1, re.mono ex, p1⟩
  | false =>
    rw [if_neg Bool.false_ne_true] at p1 ⊢
    exact p1 H1 ι1 _ Ext.refl rs1 rfl
theorem tG_or {m n : En → Mo Bool} {σ : L2.St} {H : Hp} {Q : Bool → Hp → Prop} (h : tG X.K g W rB (eOr m n) σ H Q) : tG X.K g W rB m σ H fun c H1 => if c = true then Q true H1 else tG X.K g W rB n σ H1 Q := by
  obtain ⟨env, st, ι, rs, re, p⟩ := h
  refine ⟨env, st, ι, rs, re, (Pst.bind (rel := rB) p).imp (fun x H1 q => ?_) fun _ _ _ q => q⟩
  obtain ⟨w, st1, ι1, ex, rs1, r1, p1⟩ := q
  obtain rfl : w = x := r1
  cases w with
  | false =>
    rw [if_neg Bool.false_ne_true] at p1 ⊢
    exact ⟨env, st1, ι1, rs1, re.mono ex, p1⟩
  | true =>
    rw [if_pos rfl] at p1 ⊢
    exact p1 H1 ι1 _ Ext.refl rs1 rfl
theorem jw_and1 {m : En → Mo Bool} (h : JT X g W a m) : JW X g W (.BoolOp .And [a] pos) m := ⟨pw_and1 h.pt⟩
theorem jw_or1 {m : En → Mo Bool} (h : JT X g W a m) : JW X g W (.BoolOp .Or [a] pos) m := ⟨pw_or1 h.pt⟩
theorem jw_and {m n : En → Mo Bool} {rest : List Expr} (h : JT X g W a m) (h2 : JW X g W (.BoolOp .And (b :: rest) pos) n) : JW X g W (.BoolOp .And (a :: b :: rest) pos) (eAnd m n) :=
  ⟨PW.imp (pw_and h.pt h2.pw) fun σ H Q q => tG_and q⟩
theorem jw_or {m n : En → Mo Bool} {rest : List Expr} (h : JT X g W a m) (h2 : JW X g W (.BoolOp .Or (b :: rest) pos) n) : JW X g W (.BoolOp .Or (a :: b :: rest) pos) (eOr m n) :=
  ⟨PW.imp (pw_or h.pt h2.pw) fun σ H Q q => tG_or q⟩
theorem jt_w {e : Expr} {m : En → Mo Bool} (h : JW X g W e m) : JT X g W e m := ⟨h.pw.pt⟩
/-- and, or, not as values, of bools -/
def eBl (m : En → Mo Bool) : En → Mo Va := fun env st => bnd (m env st) fun b st1 => .ok (.bl b) st1
def vAnd (m n : En → Mo Va) : En → Mo Va := fun env st => bnd (m env st) fun w st1 => match w with
  | .bl true => n env st1
  | .bl false => .ok (.bl false) st1
  | _ => .no
def vOr (m n : En → Mo Va) : En → Mo Va := fun env st => bnd (m env st) fun w st1 => match w with
  | .bl false => n env st1
  | .bl true => .ok (.bl true) st1
  | _ => .no
def vNot (m : En → Mo Va) : En → Mo Va := fun env st => bnd (m env st) fun w st1 => match w with
  | .bl b => .ok (.bl (!b)) st1
  | _ => .no
theorem j_one {o} (h : JE X g W a ma) : JE X g W (.BoolOp o [a] pos) ma := ⟨pe_one h.pe⟩
theorem j_and {rest : List Expr} (h : JE X g W a ma) (h2 : JE X g W (.BoolOp .And (b :: rest) pos) mb) : JE X g W (.BoolOp .And (a :: b :: rest) pos) (vAnd ma mb) :=
  ⟨PE.imp (pe_and h.pe h2.pe) fun σ H Q q => by
    obtain ⟨env, st, ι, rs, re, p⟩ := q
    refine ⟨env, st, ι, rs, re, (Pst.bind (rel := rV X.K g) p).imp (fun x H1 q => ?_) fun _ _ _ q => q⟩
    obtain ⟨w, st1, ι1, ex, rs1, r1, p1⟩ := q
    cases w with
    | bl k =>
      cases r1
      refine ⟨k, rfl, ?_⟩
      cases k with
      | true => exact iteT ⟨env, st1, ι1, rs1, re.mono ex, p1⟩
      | false => exact iteF (p1 H1 ι1 _ Ext.refl rs1 (.bl _))
    | _ => exact (show False from p1).elim⟩
theorem j_or {rest : List Expr} (h : JE X g W a ma) (h2 : JE X g W (.BoolOp .Or (b :: rest) pos) mb) : JE X g W (.BoolOp .Or (a :: b :: rest) pos) (vOr ma mb) :=
  ⟨PE.imp (pe_or h.pe h2.pe) fun σ H Q q => by
    obtain ⟨env, st, ι, rs, re, p⟩ := q
    refine ⟨env, st, ι, rs, re, (Pst.bind (rel := rV X.K g) p).imp (fun x H1 q => ?_) fun _ _ _ q => q⟩
    obtain ⟨w, st1, ι1, ex, rs1, r1, p1⟩ := q
    cases w with
    | bl k =>
      cases r1
      refine ⟨k, rfl, ?_⟩
      cases k with
      | false => exact iteF ⟨env, st1, ι1, rs1, re.mono ex, p1⟩
      | true => exact iteT (p1 H1 ι1 _ Ext.refl rs1 (.bl _))
    | _ => exact (show False from p1).elim⟩
theorem j_not (h : JE X g W a ma) : JE X g W (.UnaryOp .Not a pos) (vNot ma) :=
  ⟨PE.imp (pe_not h.pe) fun σ H Q q => by
    obtain ⟨env, st, ι, rs, re, p⟩ := q
    refine ⟨env, st, ι, rs, re, (Pst.bind (rel := rV X.K g) p).imp (fun x H1 q => ?_) fun _ _ _ q => q⟩
    obtain ⟨w, st1, ι1, ex, rs1, r1, p1⟩ := q
    cases w with
    | bl k =>
      cases r1
      exact ⟨k, rfl, p1 H1 ι1 _ Ext.refl rs1 (.bl _)⟩
    | _ => exact (show False from p1).elim⟩
def eIf (t : En → Mo Bool) (m n : En → Mo Va) : En → Mo Va := fun env st => bnd (t env st) fun b st1 => if b = true then m env st1 else n env st1
theorem j_if {mt : En → Mo Bool} (ht : JT X g W c mt) (ha : JE X g W a ma) (hb : JE X g W b mb) : JE X g W (.IfExp c a b pos) (eIf mt ma mb) :=
  ⟨PE.imp (pe_ifExp ht.pt ha.pe hb.pe) fun σ H Q q => by
    obtain ⟨env, st, ι, rs, re, p⟩ := q
    refine ⟨env, st, ι, rs, re, (Pst.bind (rel := rB) p).imp (fun x H1 q => ?_) fun _ _ _ q => q⟩
    obtain ⟨w, st1, ι1, ex, rs1, r1, p1⟩ := q
    obtain rfl : w = x := r1
    cases w with
    | true => exact iteT ⟨env, st1, ι1, rs1, re.mono ex, p1⟩
    | false => exact iteF ⟨env, st1, ι1, rs1, re.mono ex, p1⟩⟩
/-- a op1 b op2 c -/
def e3 (op op' : Va → Va → Mo Va) (ma mb mc : En → Mo Va) : En → Mo Va := fun env st => bnd (ma env st) fun x st1 => bnd (mb env st1) fun y st2 => bnd (op x y st2) fun z st3 => match z with
  | .bl true => bnd (mc env st3) fun w st4 => op' y w st4
  | .bl false => .ok (.bl false) st3
  | _ => .no
theorem tG_e3 {op op' : Va → Va → Mo Va} (n : NoX2 op) (n' : NoX2 op') {σ : L2.St} {H : Hp} {Q : VK} (h : tG X.K g W (rV X.K g) (e3 op op' ma mb mc) σ H Q) :
    tChain (fun x y H Q => ∃ st ι w1 w2, RS X.K g st H ι ∧ RV X.K g.H0 H ι w1 x ∧ RV X.K g.H0 H ι w2 y ∧ Pst X.K g (rV X.K g) (op w1 w2 st) H ι Q (fun _ _ _ => False))
      (fun x y H Q => ∃ st ι w1 w2, RS X.K g st H ι ∧ RV X.K g.H0 H ι w1 x ∧ RV X.K g.H0 H ι w2 y ∧ Pst X.K g (rV X.K g) (op' w1 w2 st) H ι Q (fun _ _ _ => False))
      (tG X.K g W (rV X.K g) ma) (tG X.K g W (rV X.K g) mb) (tG X.K g W (rV X.K g) mc) σ H Q := by
  obtain ⟨env, st, ι, rs, re, p⟩ := h
  refine ⟨env, st, ι, rs, re, (Pst.bind (rel := rV X.K g) p).imp (fun x H1 q => ?_) fun _ _ _ q => q⟩
  obtain ⟨w1, st1, ι1, ex1, rs1, r1, p1⟩ := q
  refine ⟨env, st1, ι1, rs1, re.mono ex1, (Pst.bind (rel := rV X.K g) p1).imp (fun y H2 q => ?_) fun _ _ _ q => q⟩
  obtain ⟨w2, st2, ι2, ex2, rs2, r2, p2⟩ := q
  refine ⟨st2, ι2, w1, w2, rs2, r1.mono ex2, r2, ?_⟩
  refine ((Pst.bind (rel := rV X.K g) p2).nox (E' := fun _ _ _ => False) (n _ _ _)).imp (fun z H3 q => ?_) fun _ _ _ q => q
  obtain ⟨w3, st3, ι3, ex3, rs3, r3, p3⟩ := q
  cases w3 with
  | bl k =>
    cases r3
    refine ⟨k, rfl, ?_⟩
    cases k with
    | false => exact iteF (p3 H3 ι3 _ Ext.refl rs3 (.bl _))
    | true =>
      refine iteT ⟨env, st3, ι3, rs3, (re.mono (ex1.trans ex2)).mono ex3, (Pst.bind (rel := rV X.K g) p3).imp (fun u H4 q => ?_) fun _ _ _ q => q⟩
      obtain ⟨w4, st4, ι4, ex4, rs4, r4, p4⟩ := q
      exact ⟨st4, ι4, w2, w4, rs4, (r2.mono ex3).mono ex4, r4, p4.nox (n' _ _ _)⟩
  | _ => exact (show False from p3).elim
theorem j_chain {o o' : CmpOp} {op op' : Va → Va → Mo Va} (ho : OpS X g (compareOp o) op) (n : NoX2 op) (ho' : OpS X g (compareOp o') op') (n' : NoX2 op') (ha : JE X g W a ma) (hb : JE X g W b mb) (hc : JE X g W c mc)
    (hm : lastMarks [o, o'] [b, c] = false := by with_unfolding_all rfl) : JE X g W (.Compare a [o, o'] [b, c] pos) (e3 op op' ma mb mc) :=
  ⟨PE.imp (pe_chain ho ho' ha.pe hb.pe hc.pe hm) fun σ H Q q => tG_e3 n n' q⟩
theorem jt_chain {o o' : CmpOp} {op op' : Va → Va → Mo Va} (ho : OpS X g (compareOp o) op) (n : NoX2 op) (ho' : OpS X g (compareOp o') op') (n' : NoX2 op') (ha : JE X g W a ma) (hb : JE X g W b mb) (hc : JE X g W c mc)
    (hm : lastMarks [o, o'] [b, c] = false := by with_unfolding_all rfl) : JT X g W (.Compare a [o, o'] [b, c] pos) (eT (e3 op op' ma mb mc)) :=
  ⟨PT.imp (pt_chain ho ho' ha.pe hb.pe hc.pe hm) fun σ H Q q => tG_e3 n n' (tG_T q)⟩

/-! ### arguments -/
theorem ja_nil : JA X g W [] aNil := ⟨PA.imp pa_nil fun σ H Q q => by
  obtain ⟨env, st, ι, rs, re, p⟩ := q
  exact p H ι _ Ext.refl rs .nil⟩
theorem ja_cons {es : List Expr} {mr : En → Mo (List Va)} (ha : JE X g W a ma) (hr : JA X g W es mr) (hs : starEach (a :: es) X.env = (false, eval a X.env) :: starEach es X.env := by rfl) : JA X g W (a :: es) (aCons ma mr) :=
  ⟨PA.imp (pa_cons ha.pe hr.pa hs) fun σ H Q q => by
    obtain ⟨env, st, ι, rs, re, p⟩ := q
    refine ⟨env, st, ι, rs, re, (Pst.bind (rel := rV X.K g) p).imp (fun x H1 q => ?_) fun _ _ _ q => q⟩
    obtain ⟨w1, st1, ι1, ex1, rs1, r1, p1⟩ := q
    refine ⟨env, st1, ι1, rs1, re.mono ex1, (Pst.bind (rel := rVs X.K g) p1).imp (fun y H2 q => ?_) fun _ _ _ q => q⟩
    obtain ⟨w2, st2, ι2, ex2, rs2, r2, p2⟩ := q
    exact p2 H2 ι2 _ Ext.refl rs2 (.cons (r1.mono ex2) r2)⟩
/-- displays -/
def opTup : List Va → Mo Va := fun ws st => if ws.length ≤ 1000 then .ok (.tup ws) st else .no
def opLst : List Va → Mo Va := fun ws st => if ws.length ≤ 1000 then .ok (.ref st.length) (st ++ [.lst ws]) else .no
theorem line1000 {n : Nat} (h : n ≤ 1000) : n ≤ sizeLine := Nat.le_of_lt (small1000 h)
theorem new_lst {st : Sto} {H : Hp} {ι : List Addr} {ws : List Va} {vs : List V} {p : Addr} (rs : RS X.K g st H ι) (r : RVs X.K g.H0 H ι ws vs) (hp : H p = none) :
    Ext X.K H ι (upd H p (.lst vs)) (ι ++ [p]) ∧ RS X.K g (st ++ [.lst ws]) (upd H p (.lst vs)) (ι ++ [p]) ∧ RV X.K g.H0 (upd H p (.lst vs)) (ι ++ [p]) (.ref st.length) (.ref p) := by
  have e : Ext X.K H ι (upd H p (.lst vs)) (ι ++ [p]) := ext_new hp [p]
  refine ⟨e, rs.push hp ⟨vs, upd_same, r.mono e⟩, .ref ?_⟩
  rw [← rs.len]
  simp
theorem new_tup {st : Sto} {H : Hp} {ι : List Addr} {ws : List Va} {vs : List V} {p : Addr} (rs : RS X.K g st H ι) (r : RVs X.K g.H0 H ι ws vs) (hp : H p = none) :
    Ext X.K H ι (upd H p (.tup vs)) ι ∧ RS X.K g st (upd H p (.tup vs)) ι ∧ RV X.K g.H0 (upd H p (.tup vs)) ι (.tup ws) (.ref p) := by
  have e : Ext X.K H ι (upd H p (.tup vs)) ι := by simpa using ext_new (K := X.K) (ι := ι) (o := .tup vs) hp []
  exact ⟨e, rs.other hp, .tup upd_same (r.mono e)⟩
theorem j_tup {es : List Expr} {m : En → Mo (List Va)} {x1 : Nat} (h : JA X g W es m) : JE X g W (.Tuple es x1 pos) (eA opTup m) := ⟨PE.imp (pe_tup h.pa) fun σ H Q q => by
  obtain ⟨env, st, ι, rs, re, p⟩ := pst_eA q
  refine ⟨env, st, ι, rs, re, p.imp (fun xs H1 q => ?_) fun _ _ _ q => q⟩
  obtain ⟨st1, ι1, ws, rs1, r1, p1⟩ := q
  unfold opTup at p1
  split at p1
  · rename_i hl
    refine ⟨line1000 (by rw [← r1.length]; exact hl), fun p hp => ?_⟩
    obtain ⟨x1, x2, x3⟩ := new_tup rs1 r1 hp
    exact p1 _ _ _ x1 x2 x3
  · exact (show False from p1).elim⟩
theorem j_lst {es : List Expr} {m : En → Mo (List Va)} (h : JA X g W es m) : JE X g W (.List es pos) (eA opLst m) := ⟨PE.imp (pe_lst h.pa) fun σ H Q q => by
  obtain ⟨env, st, ι, rs, re, p⟩ := pst_eA q
  refine ⟨env, st, ι, rs, re, p.imp (fun xs H1 q => ?_) fun _ _ _ q => q⟩
  obtain ⟨st1, ι1, ws, rs1, r1, p1⟩ := q
  unfold opLst at p1
  split at p1
  · rename_i hl
    refine ⟨line1000 (by rw [← r1.length]; exact hl), fun p hp => ?_⟩
    obtain ⟨x1, x2, x3⟩ := new_lst rs1 r1 hp
    exact p1 _ _ _ x1 x2 x3
  · exact (show False from p1).elim⟩
/-- built-ins by name -/
theorem j_callB {x : Str} {id : String} {p : Pos} {e : Expr} {es : List Expr} {op : List Va → Mo Va} {m : En → Mo (List Va)} (hc : CallS X g (.builtin id) op) (n : NoXA op) (hm : X.mg x = none) (hv : bootBuiltins x = some (.builtin id)) (ha : JA X g W (e :: es) m)
    (hg : Gl X x := by rfl) (hn : x ≠ "__name__" := by decide) (hdb : (x == ("__debug__" : Str)) = false := by decide) (hs : starEach (e :: es) X.env = (false, eval e X.env) :: starEach es X.env := by rfl) (hpl : (backTo pos (starEach es X.env)).any (·.1) = false := by rfl) :
    JE X g W (.Call (.Name x p) (e :: es) [] pos) (eA op m) := ⟨PE.imp (pe_callB hc hg hm hv ha.pa hn hdb hs hpl) fun σ H Q q => by
  obtain ⟨env, st, ι, rs, re, p⟩ := pst_eA q
  refine ⟨env, st, ι, rs, re, p.imp (fun xs H1 q => ?_) fun _ _ _ q => q⟩
  obtain ⟨st1, ι1, ws, rs1, r1, p1⟩ := q
  exact ⟨st1, ι1, ws, rs1, r1, p1.nox (n _ _)⟩⟩
theorem j_callTy {x : Str} {T : String} {p : Pos} {e : Expr} {es : List Expr} {op : List Va → Mo Va} {m : En → Mo (List Va)} (hc : CallS X g (.type T) op) (n : NoXA op) (hm : X.mg x = none) (hv : bootBuiltins x = some (.type T)) (ha : JA X g W (e :: es) m)
    (hg : Gl X x := by rfl) (hn : x ≠ "__name__" := by decide) (hdb : (x == ("__debug__" : Str)) = false := by decide) (hs : starEach (e :: es) X.env = (false, eval e X.env) :: starEach es X.env := by rfl) (hpl : (backTo pos (starEach es X.env)).any (·.1) = false := by rfl) :
    JE X g W (.Call (.Name x p) (e :: es) [] pos) (eA op m) := ⟨PE.imp (pe_callTy hc hg hm hv ha.pa hn hdb hs hpl) fun σ H Q q => by
  obtain ⟨env, st, ι, rs, re, p⟩ := pst_eA q
  refine ⟨env, st, ι, rs, re, p.imp (fun xs H1 q => ?_) fun _ _ _ q => q⟩
  obtain ⟨st1, ι1, ws, rs1, r1, p1⟩ := q
  exact ⟨st1, ι1, ws, rs1, r1, p1.nox (n _ _)⟩⟩
end
end Sh

set_option Elab.async false
set_option linter.all false
set_option maxRecDepth 100000
set_option maxHeartbeats 4000000
namespace Sh
open PySem PySem.Spec PyProof.Rows L2

/-! ### operators -/
def catW (a b : Va) (xs ys : List Va) : Va := match xs, ys with
  | [], _ => b
  | _ :: _, [] => a
  | _ :: _, _ :: _ => .tup (xs ++ ys)
def opAdd : Va → Va → Mo Va := fun a b st => match a, b with
  | .int i, .int j => .ok (.int (i + j)) st
  | .str x, .str y => if x.length + y.length ≤ 16777216 then .ok (.str (x ++ y)) st else .no
  | .tup xs, .tup ys => if xs.length + ys.length ≤ 16777216 then .ok (.tup (xs ++ ys)) st else .no
  | .ktp xs, .tup ys => if xs.length + ys.length ≤ 16777216 then .ok (catW (.ktp xs) (.tup ys) xs ys) st else .no
  | .tup xs, .ktp ys => if xs.length + ys.length ≤ 16777216 then .ok (catW (.tup xs) (.ktp ys) xs ys) st else .no
  | .ktp xs, .ktp ys => if xs.length + ys.length ≤ 16777216 then .ok (catW (.ktp xs) (.ktp ys) xs ys) st else .no
  | .ref m, .ref n => match st[m]?, st[n]? with
    | some (.lst xs), some (.lst ys) => if xs.length + ys.length ≤ 16777216 then .ok (.ref st.length) (st ++ [.lst (xs ++ ys)]) else .no
    | _, _ => .no
  | _, _ => .no
def opSub : Va → Va → Mo Va := fun a b st => match a, b with
  | .int i, .int j => .ok (.int (i - j)) st
  | _, _ => .no
def sm64 (i : Int) : Bool := decide (-(2 ^ 64) < i) && decide (i < 2 ^ 64)
def opMul : Va → Va → Mo Va := fun a b st => match a, b with
  | .int i, .int j => if sm64 i || sm64 j then .ok (.int (i * j)) st else .no
  | .ref m, .int k => match st[m]? with
    | some (.lst xs) => if -(2 ^ 63) ≤ k ∧ k < 2 ^ 63 ∧ xs.length * k.toNat ≤ 16777216 then .ok (.ref st.length) (st ++ [.lst (List.replicate k.toNat xs).flatten]) else .no
    | _ => .no
  | _, _ => .no
def opFdiv : Va → Va → Mo Va := fun a b st => match a, b with
  | .int i, .int j => if 0 < j ∧ j < 1073741824 then .ok (.int (i / j)) st else .no
  | _, _ => .no
def opMod : Va → Va → Mo Va := fun a b st => match a, b with
  | .int i, .int j => if 0 < j then .ok (.int (i % j)) st else .no
  | _, _ => .no
def opPow : Va → Va → Mo Va := fun a b st => match a, b with
  | .int i, .int j => if 0 ≤ j ∧ j ≤ 1000000 ∧ i.natAbs < 2 ^ 64 then .ok (.int (i ^ j.toNat)) st else .no
  | _, _ => .no
def opLt : Va → Va → Mo Va := fun a b st => match a, b with
  | .int i, .int j => .ok (.bl (decide (i < j))) st
  | _, _ => .no
def opGt : Va → Va → Mo Va := fun a b st => match a, b with
  | .int i, .int j => .ok (.bl (decide (j < i))) st
  | _, _ => .no
def opGe : Va → Va → Mo Va := fun a b st => match a, b with
  | .int i, .int j => .ok (.bl (decide (j ≤ i))) st
  | _, _ => .no
def opLe : Va → Va → Mo Va := fun a b st => match a, b with
  | .int i, .int j => .ok (.bl (decide (i ≤ j))) st
  | .str x, .str y => .ok (.bl (!decide (y.cps.toList < x.cps.toList))) st
  | _, _ => .no

/-! data -/
def datL (f : Va → Option PyData) : List Va → Option (List PyData)
  | [] => some []
  | w :: r => match f w, datL f r with
    | some d, some ds => some (d :: ds)
    | _, _ => none
def dat (st : Sto) : Nat → Va → Option PyData
  | 0, _ => none
  | n + 1, w => match w with
    | .non => some .none
    | .bl b => some (.bool b)
    | .int i => some (.int i)
    | .str s => some (.str s)
    | .tup ws => (datL (dat st n) ws).map .tuple
    | .scr ws => (datL (dat st n) ws).map .list
    | .ktp ws => (datL (dat st n) ws).map .tuple
    | .ref k => match st[k]? with
      | some (.lst ws) => (datL (dat st n) ws).map .list
      | _ => none
    | .cst _ => none
    | .exn => none
def flatW : Va → Bool
  | .non => true
  | .bl _ => true
  | .int _ => true
  | .str _ => true
  | _ => false
def eqW : Va → Va → Bool
  | .non, .non => true
  | .bl a, .bl b => a == b
  | .bl a, .int b => (if a then 1 else 0) == b
  | .int a, .bl b => a == (if b then 1 else 0)
  | .int a, .int b => a == b
  | .str a, .str b => a == b
  | _, _ => false
def scalW : Va → Va → Bool
  | .non, .non => true | .non, .int _ => true | .int _, .non => true | .non, .bl _ => true | .bl _, .non => true | .non, .str _ => true | .str _, .non => true
  | .int _, .int _ => true | .bl _, .bl _ => true | .str _, .str _ => true
  | .int _, .str _ => true | .str _, .int _ => true | .bl _, .str _ => true | .str _, .bl _ => true
  | _, _ => false
def opEqD (neg : Bool) : Va → Va → Mo Va := fun a b st => match dat st 66 a, dat st 66 b with
  | some d, some e => if SeqAt.shaped d && SeqAt.shaped e then .ok (.bl (xor neg (PyData.eqv d e))) st else .no
  | _, _ => .no
def opEqB (neg : Bool) : Va → Va → Mo Va := fun a b st => if scalW a b = true then .ok (.bl (xor neg (eqW a b))) st else opEqD neg a b st
abbrev opEq := opEqB false
abbrev opNe := opEqB true
def inS (x y : Str) : Bool := !(Builtin.Str.occurrences y x 0 y.length 1).isEmpty
def opInB (neg : Bool) : Va → Va → Mo Va := fun a b st => match a, b with
  | .str x, .str y => .ok (.bl (xor neg (inS x y))) st
  | x, .tup ys => if flatW x && ys.all flatW then .ok (.bl (xor neg (ys.any fun y => eqW y x))) st else .no
  | x, .ktp ys => if flatW x && ys.all flatW then .ok (.bl (xor neg (ys.any fun y => eqW y x))) st else .no
  | x, .ref n => match st[n]? with
    | some (.lst ys) => match dat st 66 x, datL (dat st 65) ys with
      | some d, some ds => if SeqAt.shaped d && SeqAt.shaped (.list ds) then .ok (.bl (xor neg (ds.any fun z => z.eqv d))) st else .no
      | _, _ => .no
    | _ => .no
  | x, .scr ys => match dat st 66 x, datL (dat st 65) ys with
      | some d, some ds => if SeqAt.shaped d && SeqAt.shaped (.list ds) then .ok (.bl (xor neg (ds.any fun z => z.eqv d))) st else .no
      | _, _ => .no
  | _, _ => .no
abbrev opIn := opInB false
abbrev opNotIn := opInB true
def opIsN : Va → Va → Mo Va := fun a b st => match b with
  | .non => match a with
    | .non => .ok (.bl true) st
    | .cst _ => .no
    | _ => .ok (.bl false) st
  | _ => .no
def opNotN : Va → Va → Mo Va := fun a b st => match b with
  | .non => match a with
    | .non => .ok (.bl false) st
    | .cst _ => .no
    | _ => .ok (.bl true) st
  | _ => .no

theorem nox_opAdd : NoX2 opAdd := by intro a b st c fs s h; unfold opAdd at h; split at h <;> (try split at h) <;> (try split at h) <;> cases h
theorem nox_opSub : NoX2 opSub := by intro a b st c fs s h; unfold opSub at h; split at h <;> cases h
theorem nox_opMul : NoX2 opMul := by intro a b st c fs s h; unfold opMul at h; split at h <;> (try split at h) <;> (try split at h) <;> cases h
theorem nox_opFdiv : NoX2 opFdiv := by intro a b st c fs s h; unfold opFdiv at h; split at h <;> (try split at h) <;> cases h
theorem nox_opMod : NoX2 opMod := by intro a b st c fs s h; unfold opMod at h; split at h <;> (try split at h) <;> cases h
theorem nox_opPow : NoX2 opPow := by intro a b st c fs s h; unfold opPow at h; split at h <;> (try split at h) <;> cases h
theorem nox_opLt : NoX2 opLt := by intro a b st c fs s h; unfold opLt at h; split at h <;> cases h
theorem nox_opGt : NoX2 opGt := by intro a b st c fs s h; unfold opGt at h; split at h <;> cases h
theorem nox_opGe : NoX2 opGe := by intro a b st c fs s h; unfold opGe at h; split at h <;> cases h
theorem nox_opLe : NoX2 opLe := by intro a b st c fs s h; unfold opLe at h; split at h <;> cases h
theorem nox_opEqB {n : Bool} : NoX2 (opEqB n) := by intro a b st c fs s h; unfold opEqB opEqD at h; split at h <;> (try split at h) <;> (try split at h) <;> cases h
theorem nox_opInB {n : Bool} : NoX2 (opInB n) := by
  intro a b st c fs s h
  unfold opInB at h
  split at h <;> (try split at h) <;> (try split at h) <;> (try split at h) <;> cases h
theorem nox_opIsN : NoX2 opIsN := by intro a b st c fs s h; unfold opIsN at h; split at h <;> (try split at h) <;> cases h
theorem nox_opNotN : NoX2 opNotN := by intro a b st c fs s h; unfold opNotN at h; split at h <;> (try split at h) <;> cases h

section
variable {X : Cx} {g : Gx}
theorem RS.list {st : Sto} {H : Hp} {ι : List Addr} {n : Nat} {ws : List Va} {v : V} (rs : RS X.K g st H ι) (r : RV X.K g.H0 H ι (.ref n) v) (e : st[n]? = some (.lst ws)) :
    ∃ a vs, v = .ref a ∧ ι[n]? = some a ∧ H a = some (.lst vs) ∧ RVs X.K g.H0 H ι ws vs := by
  cases r with
  | @ref _ a h =>
    obtain ⟨vs, h1, h2⟩ := rs.obj n _ a e h
    exact ⟨a, vs, rfl, h, h1, h2⟩
theorem le_line {n : Nat} (h : n ≤ 16777216) : n ≤ sizeLine := by rw [sizeLine_eq]; exact h
theorem sql_old {st : Sto} {H : Hp} {ι : List Addr} {a : Addr} {vs : List V} (rs : RS X.K g st H ι) (h : SqL X.K g.H0 a vs) : SqL X.K H a vs := by
  rcases h with (h | ⟨o, h⟩) | h
  · exact .inl (.inl (rs.old _ _ h))
  · exact .inl (.inr ⟨o, rs.old _ _ h⟩)
  · exact .inr h

theorem sqt_old {st : Sto} {H : Hp} {ι : List Addr} {a : Addr} {vs : List V} (rs : RS X.K g st H ι) (h : SqT X.K g.H0 a vs) : SqT X.K H a vs := by
  rcases h with (h | ⟨o, h⟩) | h
  · exact .inl (.inl (rs.old _ _ h))
  · exact .inl (.inr ⟨o, rs.old _ _ h⟩)
  · exact .inr h

theorem os_add : OpS X g (binaryOp .Add) opAdd := by
  intro pins s σ H x y v u Q I rx ry h
  obtain ⟨st, ι, w1, w2, rs, r1, r2, p⟩ := h
  unfold opAdd at p
  split at p
  · cases r1; cases r2
    exact op_add pins s σ H _ _ v u Q I rx ry ⟨_, _, rfl, rfl, p H ι _ Ext.refl rs (.int _)⟩
  · split at p
    · rename_i hl
      cases r1; cases r2
      exact op_add_str pins s σ H _ _ v u Q I rx ry ⟨_, _, rfl, rfl, le_line hl, p H ι _ Ext.refl rs (.str _)⟩
    · exact (show False from p).elim
  · split at p
    · rename_i hl
      cases r1 with
      | @tup a vs ws q1 k1 =>
        cases r2 with
        | @tup b us zs q2 k2 =>
          refine op_catA pins s σ H _ _ v u Q I rx ry ⟨a, b, vs, us, rfl, rfl, SqT.of q1, SqT.of q2, le_line (by rw [← k1.length, ← k2.length]; exact hl), fun e => ?_, fun e1 e2 => ?_, fun e1 e2 p' hp => ?_⟩
          · subst e
            cases k1
            exact p H ι _ Ext.refl rs (.tup q2 k2)
          · subst e2
            cases k2
            exact p H ι _ Ext.refl rs (by rw [List.append_nil]; exact .tup q1 k1)
          · obtain ⟨x1, x2, x3⟩ := new_tup rs (k1.append k2) hp
            exact p _ _ _ x1 x2 x3
    · exact (show False from p).elim
  · split at p
    · rename_i hl
      cases r1 with
      | @ktp a vs ws q1 k1 =>
        cases r2 with
        | @tup b us zs q2 k2 =>
          refine op_catA pins s σ H _ _ v u Q I rx ry ⟨a, b, vs, us, rfl, rfl, sqt_old rs q1, SqT.of q2, le_line (by rw [← k1.length, ← k2.length]; exact hl), fun e => ?_, fun e1 e2 => ?_, fun e1 e2 p' hp => ?_⟩
          · subst e
            cases k1
            exact p H ι _ Ext.refl rs (.tup q2 k2)
          · subst e2
            cases k2
            cases k1 with
            | nil => exact absurd rfl e1
            | cons r1' k1' => exact p H ι _ Ext.refl rs (.ktp q1 (.cons r1' k1'))
          · obtain ⟨x1, x2, x3⟩ := new_tup rs (k1.append k2) hp
            cases k1 with
            | nil => exact absurd rfl e1
            | cons r1' k1' =>
              cases k2 with
              | nil => exact absurd rfl e2
              | cons r2' k2' => exact p _ _ _ x1 x2 x3
    · exact (show False from p).elim
  · split at p
    · rename_i hl
      cases r1 with
      | @tup a vs ws q1 k1 =>
        cases r2 with
        | @ktp b us zs q2 k2 =>
          refine op_catA pins s σ H _ _ v u Q I rx ry ⟨a, b, vs, us, rfl, rfl, SqT.of q1, sqt_old rs q2, le_line (by rw [← k1.length, ← k2.length]; exact hl), fun e => ?_, fun e1 e2 => ?_, fun e1 e2 p' hp => ?_⟩
          · subst e
            cases k1
            exact p H ι _ Ext.refl rs (.ktp q2 k2)
          · subst e2
            cases k2
            cases k1 with
            | nil => exact absurd rfl e1
            | cons r1' k1' => exact p H ι _ Ext.refl rs (.tup q1 (.cons r1' k1'))
          · obtain ⟨x1, x2, x3⟩ := new_tup rs (k1.append k2) hp
            cases k1 with
            | nil => exact absurd rfl e1
            | cons r1' k1' =>
              cases k2 with
              | nil => exact absurd rfl e2
              | cons r2' k2' => exact p _ _ _ x1 x2 x3
    · exact (show False from p).elim
  · split at p
    · rename_i hl
      cases r1 with
      | @ktp a vs ws q1 k1 =>
        cases r2 with
        | @ktp b us zs q2 k2 =>
          refine op_catA pins s σ H _ _ v u Q I rx ry ⟨a, b, vs, us, rfl, rfl, sqt_old rs q1, sqt_old rs q2, le_line (by rw [← k1.length, ← k2.length]; exact hl), fun e => ?_, fun e1 e2 => ?_, fun e1 e2 p' hp => ?_⟩
          · subst e
            cases k1
            exact p H ι _ Ext.refl rs (.ktp q2 k2)
          · subst e2
            cases k2
            cases k1 with
            | nil => exact absurd rfl e1
            | cons r1' k1' => exact p H ι _ Ext.refl rs (.ktp q1 (.cons r1' k1'))
          · obtain ⟨x1, x2, x3⟩ := new_tup rs (k1.append k2) hp
            cases k1 with
            | nil => exact absurd rfl e1
            | cons r1' k1' =>
              cases k2 with
              | nil => exact absurd rfl e2
              | cons r2' k2' => exact p _ _ _ x1 x2 x3
    · exact (show False from p).elim
  · split at p
    · rename_i m n xs ys e1 e2
      split at p
      · rename_i hl
        obtain ⟨a, vs, rfl, _, h1, k1⟩ := rs.list r1 e1
        obtain ⟨b, us, rfl, _, h2, k2⟩ := rs.list r2 e2
        refine op_cat pins s σ H _ _ v u Q I rx ry ⟨a, b, vs, us, rfl, rfl, h1, h2, le_line (by rw [← k1.length, ← k2.length]; exact hl), fun p' hp => ?_⟩
        obtain ⟨x1, x2, x3⟩ := new_lst rs (k1.append k2) hp
        exact p _ _ _ x1 x2 x3
      · exact (show False from p).elim
    · exact (show False from p).elim
  · exact (show False from p).elim
theorem os_sub : OpS X g (binaryOp .Sub) opSub := by
  intro pins s σ H x y v u Q I rx ry h
  obtain ⟨st, ι, w1, w2, rs, r1, r2, p⟩ := h
  unfold opSub at p
  split at p
  · cases r1; cases r2
    exact op_sub pins s σ H _ _ v u Q I rx ry ⟨_, _, rfl, rfl, p H ι _ Ext.refl rs (.int _)⟩
  · exact (show False from p).elim
theorem os_mul : OpS X g (binaryOp .Mult) opMul := by
  intro pins s σ H x y v u Q I rx ry h
  obtain ⟨st, ι, w1, w2, rs, r1, r2, p⟩ := h
  unfold opMul at p
  split at p
  · split at p
    · rename_i i j hc
      cases r1; cases r2
      refine op_mul pins s σ H _ _ v u Q I rx ry ⟨_, _, rfl, rfl, ?_, p H ι _ Ext.refl rs (.int _)⟩
      unfold sm64 at hc
      rw [Bool.or_eq_true, Bool.and_eq_true, Bool.and_eq_true, decide_eq_true_eq, decide_eq_true_eq, decide_eq_true_eq, decide_eq_true_eq] at hc
      exact hc
    · exact (show False from p).elim
  · split at p
    · rename_i m k _ xs e1
      split at p
      · rename_i hc
        obtain ⟨a, vs, rfl, _, h1, k1⟩ := rs.list r1 e1
        cases r2
        refine op_rep pins s σ H _ _ v u Q I rx ry ⟨a, k, vs, rfl, rfl, h1, hc.1, hc.2.1, le_line (by rw [← k1.length]; exact hc.2.2), fun p' hp => ?_⟩
        have kk : RVs X.K g.H0 H ι (List.replicate k.toNat xs).flatten (List.replicate k.toNat vs).flatten := by
          clear p hc
          induction k.toNat with
          | zero => exact .nil
          | succ n ih =>
            rw [List.replicate_succ, List.replicate_succ, List.flatten_cons, List.flatten_cons]
            exact k1.append ih
        obtain ⟨x1, x2, x3⟩ := new_lst rs kk hp
        exact p _ _ _ x1 x2 x3
      · exact (show False from p).elim
    · exact (show False from p).elim
  · exact (show False from p).elim
theorem os_fdiv : OpS X g (binaryOp .FloorDiv) opFdiv := by
  intro pins s σ H x y v u Q I rx ry h
  obtain ⟨st, ι, w1, w2, rs, r1, r2, p⟩ := h
  unfold opFdiv at p
  split at p
  · split at p
    · rename_i hc
      cases r1; cases r2
      exact op_fdiv pins s σ H _ _ v u Q I rx ry ⟨_, _, rfl, rfl, hc, p H ι _ Ext.refl rs (.int _)⟩
    · exact (show False from p).elim
  · exact (show False from p).elim
theorem os_mod : OpS X g (binaryOp .Mod) opMod := by
  intro pins s σ H x y v u Q I rx ry h
  obtain ⟨st, ι, w1, w2, rs, r1, r2, p⟩ := h
  unfold opMod at p
  split at p
  · split at p
    · rename_i hc
      cases r1; cases r2
      exact op_mod pins s σ H _ _ v u Q I rx ry ⟨_, _, rfl, rfl, hc, p H ι _ Ext.refl rs (.int _)⟩
    · exact (show False from p).elim
  · exact (show False from p).elim
theorem os_pow : OpS X g (binaryOp .Pow) opPow := by
  intro pins s σ H x y v u Q I rx ry h
  obtain ⟨st, ι, w1, w2, rs, r1, r2, p⟩ := h
  unfold opPow at p
  split at p
  · split at p
    · rename_i hc
      cases r1; cases r2
      exact op_pow pins s σ H _ _ v u Q I rx ry ⟨_, _, rfl, rfl, hc, p H ι _ Ext.refl rs (.int _)⟩
    · exact (show False from p).elim
  · exact (show False from p).elim
theorem os_lt : OpS X g (compareOp .Lt) opLt := by
  intro pins s σ H x y v u Q I rx ry h
  obtain ⟨st, ι, w1, w2, rs, r1, r2, p⟩ := h
  unfold opLt at p
  split at p
  · cases r1; cases r2
    exact op_lt pins s σ H _ _ v u Q I rx ry ⟨_, _, rfl, rfl, p H ι _ Ext.refl rs (.bl _)⟩
  · exact (show False from p).elim
theorem os_gt : OpS X g (compareOp .Gt) opGt := by
  intro pins s σ H x y v u Q I rx ry h
  obtain ⟨st, ι, w1, w2, rs, r1, r2, p⟩ := h
  unfold opGt at p
  split at p
  · cases r1; cases r2
    exact op_gt pins s σ H _ _ v u Q I rx ry ⟨_, _, rfl, rfl, p H ι _ Ext.refl rs (.bl _)⟩
  · exact (show False from p).elim
theorem os_ge : OpS X g (compareOp .GtE) opGe := by
  intro pins s σ H x y v u Q I rx ry h
  obtain ⟨st, ι, w1, w2, rs, r1, r2, p⟩ := h
  unfold opGe at p
  split at p
  · cases r1; cases r2
    exact op_ge pins s σ H _ _ v u Q I rx ry ⟨_, _, rfl, rfl, p H ι _ Ext.refl rs (.bl _)⟩
  · exact (show False from p).elim
theorem os_le : OpS X g (compareOp .LtE) opLe := by
  intro pins s σ H x y v u Q I rx ry h
  obtain ⟨st, ι, w1, w2, rs, r1, r2, p⟩ := h
  unfold opLe at p
  split at p
  · cases r1; cases r2
    exact op_le pins s σ H _ _ v u Q I rx ry ⟨_, _, rfl, rfl, p H ι _ Ext.refl rs (.bl _)⟩
  · cases r1; cases r2
    exact op_le_str pins s σ H _ _ v u Q I rx ry ⟨_, _, rfl, rfl, p H ι _ Ext.refl rs (.bl _)⟩
  · exact (show False from p).elim

/-! data of the heap -/
theorem dp_all {H : Hp} {ι : List Addr} {f : Va → Option PyData} (hf : ∀ w v d, RV X.K g.H0 H ι w v → f w = some d → Dp X.K H v d) : ∀ {ws : List Va} {vs : List V} {ds : List PyData}, RVs X.K g.H0 H ι ws vs → datL f ws = some ds → DpAll X.K H vs ds
  | [], _, _, .nil, e => by cases e; exact .nil
  | w :: ws, _, _, .cons r t, e => by
    unfold datL at e
    split at e
    · rename_i d ds h1 h2
      cases e
      exact .cons (hf _ _ _ r h1) (dp_all hf t h2)
    · cases e
theorem dp_of {st : Sto} {H : Hp} {ι : List Addr} (rs : RS X.K g st H ι) : ∀ (n : Nat) (w : Va) (v : V) (d : PyData), RV X.K g.H0 H ι w v → dat st n w = some d → Dp X.K H v d
  | 0, _, _, _, _, e => by cases e
  | n + 1, w, v, d, r, e => by
    cases r with
    | non => cases e; exact .non
    | bl b => cases e; exact .bl b
    | int i => cases e; exact .int i
    | str x => cases e; exact .str x
    | @tup a vs ws h k =>
      have e' : (datL (dat st n) ws).map PyData.tuple = some d := e
      rw [Option.map_eq_some_iff] at e'
      obtain ⟨ds, e1, rfl⟩ := e'
      exact .tup (SqT.of h) (dp_all (dp_of rs n) k e1)
    | @ktp a vs ws h k =>
      have e' : (datL (dat st n) ws).map PyData.tuple = some d := e
      rw [Option.map_eq_some_iff] at e'
      obtain ⟨ds, e1, rfl⟩ := e'
      exact .tup (sqt_old rs h) (dp_all (dp_of rs n) k e1)
    | @scr a vs ws h k =>
      have e' : (datL (dat st n) ws).map PyData.list = some d := e
      rw [Option.map_eq_some_iff] at e'
      obtain ⟨ds, e1, rfl⟩ := e'
      exact .lst (sql_old rs h) (dp_all (dp_of rs n) k e1)
    | @ref m a h =>
      have e' : (match st[m]? with | some (.lst ws) => (datL (dat st n) ws).map PyData.list | _ => none) = some d := e
      split at e'
      · rename_i ws q
        rw [Option.map_eq_some_iff] at e'
        obtain ⟨ds, e1, rfl⟩ := e'
        obtain ⟨vs, h1, h2⟩ := rs.obj m _ a q h
        exact .lst (.inl (.inl h1)) (dp_all (dp_of rs n) h2 e1)
      · cases e'
    | cst v => cases e
theorem scal_of {H0 H : Hp} {ι : List Addr} {w z : Va} {x y : V} (r : RV X.K H0 H ι w x) (q : RV X.K H0 H ι z y) (h : scalW w z = true) : scal x y = true ∧ decide (x = y) = eqW w z := by
  cases r <;> first
    | exact absurd (show false = true from h) Bool.false_ne_true
    | (cases q <;> first
        | exact absurd (show false = true from h) Bool.false_ne_true
        | exact ⟨rfl, dec_int⟩
        | exact ⟨rfl, dec_bl⟩
        | exact ⟨rfl, dec_str⟩
        | exact ⟨rfl, by simp [eqW]⟩)
theorem os_eq (hu : X.A.units + 64 < cLine) : OpS X g (compareOp .Eq) opEq := by
  intro pins s σ H x y v u Q I rx ry h
  obtain ⟨st, ι, w1, w2, rs, r1, r2, p⟩ := h
  unfold opEq opEqB at p
  split at p
  · rename_i hs
    obtain ⟨s1, s2⟩ := scal_of r1 r2 hs
    rw [Bool.false_xor, ← s2] at p
    exact op_eq pins s σ H _ _ v u Q I rx ry ⟨s1, p H ι _ Ext.refl rs (.bl _)⟩
  unfold opEqD at p
  split at p
  · rename_i d e h1 h2
    split at p
    · rename_i hc
      rw [Bool.and_eq_true] at hc
      rw [Bool.false_xor] at p
      exact op_eqD hu pins s σ H _ _ v u Q I rx ry ⟨d, e, dp_of rs _ _ _ _ r1 h1, dp_of rs _ _ _ _ r2 h2, hc.1, hc.2, p H ι _ Ext.refl rs (.bl _)⟩
    · exact (show False from p).elim
  · exact (show False from p).elim
theorem os_ne (hu : X.A.units + 64 < cLine) : OpS X g (compareOp .NotEq) opNe := by
  intro pins s σ H x y v u Q I rx ry h
  obtain ⟨st, ι, w1, w2, rs, r1, r2, p⟩ := h
  unfold opNe opEqB at p
  split at p
  · rename_i hs
    obtain ⟨s1, s2⟩ := scal_of r1 r2 hs
    rw [Bool.true_xor, ← s2] at p
    exact op_ne pins s σ H _ _ v u Q I rx ry ⟨s1, p H ι _ Ext.refl rs (.bl _)⟩
  unfold opEqD at p
  split at p
  · rename_i d e h1 h2
    split at p
    · rename_i hc
      rw [Bool.and_eq_true] at hc
      rw [Bool.true_xor] at p
      exact op_neD hu pins s σ H _ _ v u Q I rx ry ⟨d, e, dp_of rs _ _ _ _ r1 h1, dp_of rs _ _ _ _ r2 h2, hc.1, hc.2, p H ι _ Ext.refl rs (.bl _)⟩
    · exact (show False from p).elim
  · exact (show False from p).elim
theorem flat_of {H : Hp} {ι : List Addr} {w : Va} {v : V} (r : RV X.K g.H0 H ι w v) (f : flatW w = true) : flatV v = true := by
  cases r <;> first | rfl | exact absurd (show false = true from f) Bool.false_ne_true
theorem flats_of {H : Hp} {ι : List Addr} : ∀ {ws : List Va} {vs : List V}, RVs X.K g.H0 H ι ws vs → ws.all flatW = true → vs.all flatV = true
  | _, _, .nil, _ => rfl
  | _, _, .cons r t, f => by
    rw [List.all_cons, Bool.and_eq_true] at f
    rw [List.all_cons, flat_of r f.1, flats_of t f.2]
    rfl
theorem eqW_of {H : Hp} {ι : List Addr} {w z : Va} {v u : V} (r : RV X.K g.H0 H ι w v) (q : RV X.K g.H0 H ι z u) (f : flatW w = true) (f' : flatW z = true) : eqV v u = eqW w z := by
  cases r <;> first
    | (cases q <;> first | rfl | exact absurd (show false = true from f') Bool.false_ne_true)
    | exact absurd (show false = true from f) Bool.false_ne_true
theorem inW_of {H : Hp} {ι : List Addr} {z : Va} {u : V} (q : RV X.K g.H0 H ι z u) (f' : flatW z = true) : ∀ {ws : List Va} {vs : List V}, RVs X.K g.H0 H ι ws vs → ws.all flatW = true → inV u vs = ws.any fun y => eqW y z
  | _, _, .nil, _ => rfl
  | w :: ws, v :: vs, .cons r t, f => by
    rw [List.all_cons, Bool.and_eq_true] at f
    show (eqV v u || inV u vs) = _
    rw [List.any_cons, eqW_of r q f.1 f', inW_of q f' t f.2]
theorem os_inB (neg : Bool) (hu : X.A.units + 65 < cLine) : OpS X g (compareOp (if neg then .NotIn else .In)) (opInB neg) := by
  intro pins s σ H x y v u Q I rx ry h
  obtain ⟨st, ι, w1, w2, rs, r1, r2, p⟩ := h
  unfold opInB at p
  split at p
  · cases r1; cases r2
    cases neg with
    | false => exact op_in_str pins s σ H _ _ v u Q I rx ry ⟨_, _, rfl, rfl, by rw [Bool.false_xor] at p; exact p H ι _ Ext.refl rs (.bl _)⟩
    | true => exact op_notin_str pins s σ H _ _ v u Q I rx ry ⟨_, _, rfl, rfl, by rw [Bool.true_xor] at p; exact p H ι _ Ext.refl rs (.bl _)⟩
  · split at p
    · rename_i ys hc
      rw [Bool.and_eq_true] at hc
      cases r2 with
      | @tup b us zs q2 k2 =>
        have e := inW_of r1 hc.1 k2 hc.2
        cases neg with
        | false => exact op_in_seq pins s σ H _ _ v u Q I rx ry ⟨b, us, rfl, .inr (SqT.of q2), flat_of r1 hc.1, flats_of k2 hc.2, by rw [Bool.false_xor] at p; rw [if_neg Bool.false_ne_true, e]; exact p H ι _ Ext.refl rs (.bl _)⟩
        | true => exact op_notIn_seq pins s σ H _ _ v u Q I rx ry ⟨b, us, rfl, .inr (SqT.of q2), flat_of r1 hc.1, flats_of k2 hc.2, by rw [Bool.true_xor] at p; rw [if_pos rfl, e]; exact p H ι _ Ext.refl rs (.bl _)⟩
    · exact (show False from p).elim
  · split at p
    · rename_i ys hc
      rw [Bool.and_eq_true] at hc
      cases r2 with
      | @ktp b us zs q2 k2 =>
        have e := inW_of r1 hc.1 k2 hc.2
        cases neg with
        | false => exact op_in_seq pins s σ H _ _ v u Q I rx ry ⟨b, us, rfl, .inr (sqt_old rs q2), flat_of r1 hc.1, flats_of k2 hc.2, by rw [Bool.false_xor] at p; rw [if_neg Bool.false_ne_true, e]; exact p H ι _ Ext.refl rs (.bl _)⟩
        | true => exact op_notIn_seq pins s σ H _ _ v u Q I rx ry ⟨b, us, rfl, .inr (sqt_old rs q2), flat_of r1 hc.1, flats_of k2 hc.2, by rw [Bool.true_xor] at p; rw [if_pos rfl, e]; exact p H ι _ Ext.refl rs (.bl _)⟩
    · exact (show False from p).elim
  · split at p
    · rename_i n ys q
      split at p
      · rename_i d ds h1 h2
        split at p
        · rename_i hc
          rw [Bool.and_eq_true] at hc
          obtain ⟨b, us, rfl, _, e2, k2⟩ := rs.list r2 q
          have dd : Dp X.K H (.ref b) (.list ds) := .lst (.inl (.inl e2)) (dp_all (dp_of rs 65) k2 h2)
          cases neg with
          | false => exact op_inD hu pins s σ H _ _ v u Q I rx ry ⟨d, ds, dp_of rs _ _ _ _ r1 h1, dd, hc.1, hc.2, by rw [Bool.false_xor] at p; exact p H ι _ Ext.refl rs (.bl _)⟩
          | true => exact op_notInD hu pins s σ H _ _ v u Q I rx ry ⟨d, ds, dp_of rs _ _ _ _ r1 h1, dd, hc.1, hc.2, by rw [Bool.true_xor] at p; exact p H ι _ Ext.refl rs (.bl _)⟩
        · exact (show False from p).elim
      · exact (show False from p).elim
    · exact (show False from p).elim
  · split at p
    · rename_i d ds h1 h2
      split at p
      · rename_i hc
        rw [Bool.and_eq_true] at hc
        cases r2 with
        | @scr b us zs q2 k2 =>
          have dd : Dp X.K H (.ref b) (.list ds) := .lst (sql_old rs q2) (dp_all (dp_of rs 65) k2 h2)
          cases neg with
          | false => exact op_inD hu pins s σ H _ _ v u Q I rx ry ⟨d, ds, dp_of rs _ _ _ _ r1 h1, dd, hc.1, hc.2, by rw [Bool.false_xor] at p; exact p H ι _ Ext.refl rs (.bl _)⟩
          | true => exact op_notInD hu pins s σ H _ _ v u Q I rx ry ⟨d, ds, dp_of rs _ _ _ _ r1 h1, dd, hc.1, hc.2, by rw [Bool.true_xor] at p; exact p H ι _ Ext.refl rs (.bl _)⟩
      · exact (show False from p).elim
    · exact (show False from p).elim
  · exact (show False from p).elim
theorem os_in (hu : X.A.units + 65 < cLine) : OpS X g (compareOp .In) opIn := os_inB false hu
theorem os_notIn (hu : X.A.units + 65 < cLine) : OpS X g (compareOp .NotIn) opNotIn := os_inB true hu
theorem os_isN : OpS X g (compareOp .Is) opIsN := by
  intro pins s σ H x y v u Q I rx ry h
  obtain ⟨st, ι, w1, w2, rs, r1, r2, p⟩ := h
  unfold opIsN at p
  split at p
  · cases r2
    refine op_isN pins s σ H _ _ v u Q I rx ry ⟨rfl, ?_⟩
    split at p
    · cases r1
      exact p H ι _ Ext.refl rs (.bl _)
    · exact (show False from p).elim
    · rename_i h1 h2
      have hx : x ≠ .non := by
        cases r1 <;> first | (intro z; cases z; done) | exact absurd rfl h1 | exact absurd rfl (h2 _)
      rw [decide_eq_false hx]
      exact p H ι _ Ext.refl rs (.bl _)
  · exact (show False from p).elim
theorem os_notN : OpS X g (compareOp .IsNot) opNotN := by
  intro pins s σ H x y v u Q I rx ry h
  obtain ⟨st, ι, w1, w2, rs, r1, r2, p⟩ := h
  unfold opNotN at p
  split at p
  · cases r2
    refine op_notN pins s σ H _ _ v u Q I rx ry ⟨rfl, ?_⟩
    split at p
    · cases r1
      exact p H ι _ Ext.refl rs (.bl _)
    · exact (show False from p).elim
    · rename_i h1 h2
      have hx : x ≠ .non := by
        cases r1 <;> first | (intro z; cases z; done) | exact absurd rfl h1 | exact absurd rfl (h2 _)
      rw [decide_eq_false hx]
      exact p H ι _ Ext.refl rs (.bl _)
  · exact (show False from p).elim
end
end Sh

set_option Elab.async false
set_option linter.all false
set_option maxRecDepth 100000
set_option maxHeartbeats 4000000
namespace Sh
open PySem PySem.Spec PyProof.Rows L2

/-! ### statements -/
inductive Fl where
  | nx (env : En) (st : Sto) | rt (w : Va) (st : Sto) | bk (env : En) (st : Sto) | ct (env : En) (st : Sto) | xc (c : Nat) (fs : List (Str × Va)) (env : En) (st : Sto) | no
abbrev Sm := En → Sto → Fl
def PstS (K : PySem.W.Frag) (g : Gx) (W : WX) (r : Fl) (H : Hp) (ι : List Addr) (D : Ends) : Prop :=
  match r with
  | .nx env st => ∀ H' ι' σ', Ext K H ι H' ι' → RS K g st H' ι' → RE K g H' ι' env σ' → D.nx σ' H'
  | .bk env st => ∀ H' ι' σ', Ext K H ι H' ι' → RS K g st H' ι' → RE K g H' ι' env σ' → D.bk σ' H'
  | .ct env st => ∀ H' ι' σ', Ext K H ι H' ι' → RS K g st H' ι' → RE K g H' ι' env σ' → D.ct σ' H'
  | .rt w st => ∀ H' ι' v, Ext K H ι H' ι' → RS K g st H' ι' → RV K g.H0 H' ι' w v → D.rt v H'
  | .xc c fs env st => ∀ H' ι' σ' d fs', Ext K H ι H' ι' → RS K g st H' ι' → RE K g H' ι' env σ' → H' d = some (.xd fs') → PF K g H' ι' fs fs' → W (.ref (g.cls c)) (some d) σ' H'
  | .no => False
def tSt (K : PySem.W.Frag) (g : Gx) (W : WX) (m : Sm) : TS := fun D σ H => ∃ env st ι, RS K g st H ι ∧ RE K g H ι env σ ∧ PstS K g W (m env st) H ι D
structure JS (X : Cx) (g : Gx) (W : WX) (s : Stmt) (m : Sm) : Prop where
  ps : PS X s (tSt X.K g W m)
structure JSs (X : Cx) (g : Gx) (W : WX) (s : List Stmt) (m : Sm) : Prop where
  pss : PSs X s (tSt X.K g W m)
section
variable {K : PySem.W.Frag} {g : Gx} {W : WX}
theorem PstS.shift {r : Fl} {H H1 : Hp} {ι ι1 : List Addr} {D : Ends} (h : PstS K g W r H ι D) (e : Ext K H ι H1 ι1) : PstS K g W r H1 ι1 D := by
  cases r with
  | nx env st => exact fun H' ι' σ' e' => h H' ι' σ' (e.trans e')
  | bk env st => exact fun H' ι' σ' e' => h H' ι' σ' (e.trans e')
  | ct env st => exact fun H' ι' σ' e' => h H' ι' σ' (e.trans e')
  | rt w st => exact fun H' ι' v e' => h H' ι' v (e.trans e')
  | xc c fs env st => exact fun H' ι' σ' d fs' e' => h H' ι' σ' d fs' (e.trans e')
  | no => exact h
end
/-- an expression's result, then .. -/
def bS {α : Type} (env : En) (r : Rs α) (f : α → Sto → Fl) : Fl :=
  match r with
  | .ok a st => f a st
  | .exc c fs st => .xc c fs env st
  | .no => .no
section
variable {K : PySem.W.Frag} {g : Gx} {W : WX}
theorem tG_bS {α β : Type} {rel : Rel α β} {m : En → Mo α} {f : En → α → Sto → Fl} {D : Ends} {σ : L2.St} {H : Hp} (h : tSt K g W (fun env st => bS env (m env st) (f env)) D σ H) :
    tG K g W rel m σ H fun b H1 => ∃ env a st1 ι1, RS K g st1 H1 ι1 ∧ RE K g H1 ι1 env σ ∧ rel H1 ι1 a b ∧ PstS K g W (f env a st1) H1 ι1 D := by
  obtain ⟨env, st, ι, rs, re, p⟩ := h
  refine ⟨env, st, ι, rs, re, ?_⟩
  show Pst K g rel (m env st) H ι _ _
  have p' : PstS K g W (bS env (m env st) (f env)) H ι D := p
  revert p'
  generalize m env st = r
  intro p'
  cases r with
  | ok a st1 => exact fun H' ι' b e rs1 r1 => ⟨env, a, st1, ι', rs1, re.mono e, r1, PstS.shift (r := f env a st1) p' e⟩
  | exc c fs st1 => exact fun H' ι' d fs' e rs1 hd pf => p' H' ι' σ d fs' e rs1 (re.mono e) hd pf
  | no => exact p'
end

def sNil : Sm := fun env st => .nx env st
def sSeq (m n : Sm) : Sm := fun env st => match m env st with
  | .nx env' st' => n env' st'
  | o => o
def sSet (i : Nat) (m : En → Mo Va) : Sm := fun env st => bS env (m env st) fun w st1 => .nx (env.set i (some w)) st1
def sRet (m : En → Mo Va) : Sm := fun env st => bS env (m env st) fun w st1 => .rt w st1
def sRetN : Sm := fun _ st => .rt .non st
def sExpr (m : En → Mo Va) : Sm := fun env st => bS env (m env st) fun _ st1 => .nx env st1
def sIf (t : En → Mo Bool) (m n : Sm) : Sm := fun env st => bS env (t env st) fun b st1 => if b = true then m env st1 else n env st1
def sPass : Sm := fun env st => .nx env st
def sBrk : Sm := fun env st => .bk env st
def sCnt : Sm := fun env st => .ct env st

section
variable {X : Cx} {g : Gx} {W : WX} {pos : Pos}
theorem js_nil : JSs X g W [] sNil := ⟨PSs.imp pss_nil fun D σ H h => by
  obtain ⟨env, st, ι, rs, re, p⟩ := h
  exact p H ι σ Ext.refl rs re⟩
theorem js_cons {s : Stmt} {r : List Stmt} {m n : Sm} (h1 : JS X g W s m) (h2 : JSs X g W r n) : JSs X g W (s :: r) (sSeq m n) := ⟨PSs.imp (pss_cons h1.ps h2.pss) fun D σ H h => by
  obtain ⟨env, st, ι, rs, re, p⟩ := h
  refine ⟨env, st, ι, rs, re, ?_⟩
  unfold sSeq at p
  revert p
  generalize m env st = q
  intro p
  cases q with
  | nx env' st' => exact fun H' ι' σ' e rs' re' => ⟨env', st', ι', rs', re', PstS.shift (r := n env' st') p e⟩
  | _ => exact p⟩
theorem js_one {s : Stmt} {m : Sm} (h : JS X g W s m) : JSs X g W [s] m := ⟨pss_one h.ps⟩
theorem js_pass : JS X g W (.Pass pos) sPass := ⟨PS.imp ps_pass fun D σ H h => by
  obtain ⟨env, st, ι, rs, re, p⟩ := h
  exact p H ι σ Ext.refl rs re⟩
theorem js_brk : JS X g W (.Break pos) sBrk := ⟨PS.imp ps_break fun D σ H h => by
  obtain ⟨env, st, ι, rs, re, p⟩ := h
  exact p H ι σ Ext.refl rs re⟩
theorem js_cnt : JS X g W (.Continue pos) sCnt := ⟨PS.imp ps_continue fun D σ H h => by
  obtain ⟨env, st, ι, rs, re, p⟩ := h
  exact p H ι σ Ext.refl rs re⟩
theorem js_doc {x j pos'} : JS X g W (.Expr (.Constant (.str x) j pos) pos') sPass := ⟨PS.imp ps_doc fun D σ H h => by
  obtain ⟨env, st, ι, rs, re, p⟩ := h
  exact p H ι σ Ext.refl rs re⟩
theorem js_ret {e : Expr} {m : En → Mo Va} (h : JE X g W e m) : JS X g W (.Return (some e) pos) (sRet m) := ⟨PS.imp (ps_ret h.pe) fun D σ H q => by
  obtain ⟨env, st, ι, rs, re, p⟩ := tG_bS (rel := rV X.K g) q
  refine ⟨env, st, ι, rs, re, p.imp (fun v H1 q => ?_) fun _ _ _ q => q⟩
  obtain ⟨env1, a, st1, ι1, rs1, re1, r1, p1⟩ := q
  exact p1 H1 ι1 v Ext.refl rs1 r1⟩
theorem js_retN : JS X g W (.Return none pos) sRetN := ⟨PS.imp ps_retN fun D σ H h => by
  obtain ⟨env, st, ι, rs, re, p⟩ := h
  exact p H ι _ Ext.refl rs .non⟩
theorem js_expr {e : Expr} {m : En → Mo Va} (h : JE X g W e m) (hs : swapsWith e none pos.line X.env = pure false := by rfl) : JS X g W (.Expr e pos) (sExpr m) := ⟨PS.imp (ps_expr h.pe hs) fun D σ H q => by
  obtain ⟨env, st, ι, rs, re, p⟩ := tG_bS (rel := rV X.K g) q
  refine ⟨env, st, ι, rs, re, p.imp (fun v H1 q => ?_) fun _ _ _ q => q⟩
  obtain ⟨env1, a, st1, ι1, rs1, re1, r1, p1⟩ := q
  exact p1 H1 ι1 σ Ext.refl rs1 re1⟩
theorem js_set (i : Nat) {x : Str} {e : Expr} {pos' : Pos} {m : En → Mo Va} (hN : X.N.Nodup) (h : JE X g W e m) (hi : X.N[i]? = some x := by rfl) (hx : Loc X.env.scope x := by first | exact Or.inl rfl | exact Or.inr rfl)
    (hs : swapsWith e (some (.Name x pos')) pos.line X.env = pure false := by rfl) (hf : X.fn x = true ∨ X.env.scope.names.lookup x = some .local := by first | exact .inl rfl | exact .inr rfl) :
    JS X g W (.Assign [.Name x pos'] e pos) (sSet i m) := ⟨PS.imp (ps_set hN hi hx h.pe hs hf) fun D σ H q => by
  obtain ⟨env, st, ι, rs, re, p⟩ := tG_bS (rel := rV X.K g) q
  refine ⟨env, st, ι, rs, re, p.imp (fun v H1 q => ?_) fun _ _ _ q => q⟩
  obtain ⟨env1, a, st1, ι1, rs1, re1, r1, p1⟩ := q
  exact p1 H1 ι1 _ Ext.refl rs1 (re1.set i r1)⟩
theorem js_if {c : Expr} {a b : List Stmt} {t : En → Mo Bool} {m n : Sm} (hc : JT X g W c t) (ha : JSs X g W a m) (hb : JSs X g W b n) : JS X g W (.If c a b pos) (sIf t m n) := ⟨PS.imp (ps_if hc.pt ha.pss hb.pss) fun D σ H q => by
  obtain ⟨env, st, ι, rs, re, p⟩ := tG_bS (rel := rB) q
  refine ⟨env, st, ι, rs, re, p.imp (fun v H1 q => ?_) fun _ _ _ q => q⟩
  obtain ⟨env1, w, st1, ι1, rs1, re1, r1, p1⟩ := q
  obtain rfl : w = v := r1
  cases w with
  | true => exact iteT ⟨env1, st1, ι1, rs1, re1, p1⟩
  | false => exact iteF ⟨env1, st1, ι1, rs1, re1, p1⟩⟩

/-! ### targets: the names of a loop, of an unpacking -/
abbrev Tg := Va → En → Option En
/-- what a target must do; own: the slots that it sets -/
abbrev TgOk (X : Cx) (g : Gx) (tg : Tg) (own : List Nat) (gt : TG) : Prop := ∀ (w : Va) (v : V) (env env' : En) (σ : L2.St) (H : Hp) (ι : List Addr) (Q : L2.St → Hp → Prop), (∃ st, RS X.K g st H ι) → RE X.K g H ι env σ → RV X.K g.H0 H ι w v → tg w env = some env' →
      (∀ σ', RE X.K g H ι env' σ' → (∀ vs : List Nat, (∀ i ∈ own, i ∈ vs) → wipe σ' vs = wipe σ vs) → Q σ' H) → gt v σ H Q
structure JG (X : Cx) (g : Gx) (t : Expr) (f : Tg) (own : List Nat) : Prop where
  ex : ∃ gt : TG, PG X t gt ∧ TgOk X g f own gt
def tgN (i : Nat) : Tg := fun w env => some (env.set i (some w))
theorem wipe_get {σ : L2.St} {vs : List Nat} {j : Nat} : (wipe σ vs)[j]? = if j ∈ vs ∧ j < σ.length then some none else σ[j]? := by
  induction vs with
  | nil => simp [wipe]
  | cons v vs ih =>
    unfold wipe
    by_cases hj : j = v
    · subst hj
      by_cases hl : j < σ.length
      · rw [List.getElem?_set_self (by rw [wipe_length]; exact hl), if_pos ⟨List.mem_cons_self, hl⟩]
      · rw [if_neg (fun h => hl h.2), List.getElem?_eq_none (by rw [List.length_set, wipe_length]; omega), List.getElem?_eq_none (by omega)]
    · rw [List.getElem?_set_ne (Ne.symm hj), ih]
      simp [hj]
theorem wipe_set {σ : L2.St} {vs : List Nat} {i : Nat} {x : Option V} (h : i ∈ vs) : wipe (σ.set i x) vs = wipe σ vs := by
  apply List.ext_getElem?
  intro j
  rw [wipe_get, wipe_get, List.length_set]
  by_cases hj : j = i
  · subst hj
    by_cases hl : j < σ.length
    · rw [if_pos ⟨h, hl⟩, if_pos ⟨h, hl⟩]
    · rw [if_neg (fun q => hl q.2), if_neg (fun q => hl q.2), List.getElem?_eq_none (by rw [List.length_set]; omega), List.getElem?_eq_none (by omega)]
  · rw [List.getElem?_set_ne (Ne.symm hj)]
theorem wipe_wipe {σ : L2.St} {vs : List Nat} : wipe (wipe σ vs) vs = wipe σ vs := by
  apply List.ext_getElem?
  intro j
  rw [wipe_get, wipe_length, wipe_get]
  split <;> rfl
theorem jg_name (i : Nat) {x : Str} (hN : X.N.Nodup) (hi : X.N[i]? = some x := by rfl) (hx : Loc X.env.scope x := by first | exact Or.inl rfl | exact Or.inr rfl) (hf : X.fn x = true ∨ X.env.scope.names.lookup x = some .local := by first | exact .inl rfl | exact .inr rfl) :
    JG X g (.Name x pos) (tgN i) [i] := ⟨_, pg_name hN hi hx hf, fun w v env env' σ H ι Q rs re r e q => by
  cases e
  exact q _ (re.set i r) fun vs h => wipe_set (h i List.mem_cons_self)⟩
end

/-! ### loops -/
/-- over items that stay -/
def forF (tg : Tg) (body : Sm) : List Va → Sm
  | [] => fun env st => .nx env st
  | w :: r => fun env st => match tg w env with
    | none => .no
    | some env1 => match body env1 st with
      | .nx env2 st2 => forF tg body r env2 st2
      | .ct env2 st2 => forF tg body r env2 st2
      | .bk env2 st2 => .nx env2 st2
      | o => o
/-- over a list of the store, as it stands at each turn -/
def forL (tg : Tg) (body : Sm) (n : Nat) : Nat → Nat → Sm
  | 0, _ => fun _ _ => .no
  | k + 1, i => fun env st => match st[n]? with
    | some (.lst ws) => match ws[i]? with
      | none => .nx env st
      | some w => match tg w env with
        | none => .no
        | some env1 => match body env1 st with
          | .nx env2 st2 => forL tg body n k (i + 1) env2 st2
          | .ct env2 st2 => forL tg body n k (i + 1) env2 st2
          | .bk env2 st2 => .nx env2 st2
          | o => o
    | _ => .no
def whileF (t : En → Mo Bool) (body : Sm) : Nat → Sm
  | 0 => fun _ _ => .no
  | k + 1 => fun env st => bS env (t env st) fun b st1 => if b = true then (match body env st1 with
      | .nx env2 st2 => whileF t body k env2 st2
      | .ct env2 st2 => whileF t body k env2 st2
      | .bk env2 st2 => .nx env2 st2
      | o => o) else .nx env st1
/-- what a for (a comprehension) goes over: items that stay, or a list of the store -/
inductive Src where
  | fix (ws : List Va) | live (n : Nat)
def iL (m : En → Mo Va) : En → Mo Src := fun env st => bnd (m env st) fun w st1 => match w with
  | .scr ws => .ok (.fix ws) st1
  | .ref n => match st1[n]? with
    | some (.lst _) => .ok (.live n) st1
    | _ => .no
  | _ => .no
def iT (m : En → Mo Va) : En → Mo Src := fun env st => bnd (m env st) fun w st1 => match w with
  | .tup ws => .ok (.fix ws) st1
  | .ktp ws => .ok (.fix ws) st1
  | _ => .no
def rangeW (lo : Int) (n : Nat) : List Va := (List.range n).map fun (k : Nat) => Va.int (lo + (k : Int))
def iR1 (m : En → Mo (List Va)) : En → Mo Src := fun env st => bnd (m env st) fun ws st1 => match ws with
  | [.int j] => if -(2 ^ 62) ≤ j ∧ j < 2 ^ 62 then .ok (.fix (rangeW 0 j.toNat)) st1 else .no
  | _ => .no
def iR2 (m : En → Mo (List Va)) : En → Mo Src := fun env st => bnd (m env st) fun ws st1 => match ws with
  | [.int i, .int j] => if -(2 ^ 62) ≤ i ∧ i < 2 ^ 62 ∧ -(2 ^ 62) ≤ j ∧ j < 2 ^ 62 then .ok (.fix (rangeW i (j - i).toNat)) st1 else .no
  | _ => .no
def signsW (x : Str) : List Va := x.cps.toList.map fun c => Va.str ⟨#[c]⟩
def iS (m : En → Mo Va) : En → Mo Src := fun env st => bnd (m env st) fun w st1 => match w with
  | .str x => .ok (.fix (signsW x)) st1
  | _ => .no
def sFor (src : En → Mo Src) (tg : Tg) (body : Sm) : Sm := fun env st => bS env (src env st) fun s st1 => match s with
  | .fix ws => forF tg body ws env st1
  | .live n => match st1[n]? with
    | some (.lst ws) => forL tg body n (ws.length + 1) 0 env st1
    | _ => .no
def sWhile (t : En → Mo Bool) (body : Sm) (k : Nat) : Sm := whileF t body k

/-- the iterator J yields the items all, one by one; G: what must stay -/
structure Fix (K : PySem.W.Frag) (g : Gx) (J : It) (all : List Va) (G : Hp → List Addr → Prop) : Prop where
  mono : ∀ H ι H' ι', Ext K H ι H' ι' → (∀ b o, g.H0 b = some o → H' b = some o) → G H ι → G H' ι'
  stop : ∀ H ι, G H ι → J.stop all.length H
  go : ∀ (i : Nat) H ι, G H ι → i < all.length → J.go i H
  yld : ∀ (i : Nat) H ι x H' st, RS K g st H ι → G H ι → J.yld i H x H' → Ext K H ι H' ι ∧ RS K g st H' ι ∧ ∀ w, all[i]? = some w → RV K g.H0 H' ι w x
def rI' (K : PySem.W.Frag) (g : Gx) : Rel Src It := fun H ι s J => match s with
  | .fix ws => ∃ G, Fix K g J ws G ∧ G H ι
  | .live n => ∃ a, ι[n]? = some a ∧ J = Itl K a
structure JI (X : Cx) (g : Gx) (W : WX) (tg iter : Expr) (m : En → Mo Src) : Prop where
  ex : ∃ wi : TI, PI X tg iter wi ∧ ∀ σ H R, tG X.K g W (rI' X.K g) m σ H R → wi σ H R
section
variable {X : Cx} {g : Gx} {W : WX} {pos : Pos} {tg : Expr}
theorem ji_of {iter : Expr} {wi : TI} {m : En → Mo Src} (h : PI X tg iter wi) (i : ∀ σ H R, tG X.K g W (rI' X.K g) m σ H R → wi σ H R) : JI X g W tg iter m := ⟨wi, h, i⟩
theorem fix_tup {K : PySem.W.Frag} {a : Addr} {vs : List V} {ws : List Va} : Fix K g (Itt K a) ws (fun H ι => H a = some (.tup vs) ∧ RVs K g.H0 H ι ws vs) where
  mono := fun H ι H' ι' e _ q => ⟨e.tup _ _ q.1, q.2.mono e⟩
  stop := fun H ι q => ⟨vs, SqT.of q.1, Nat.le_of_eq q.2.length.symm⟩
  go := fun i H ι q hl => by
    obtain ⟨v, e, _⟩ := q.2.get (List.getElem?_eq_getElem hl)
    exact ⟨vs, v, SqT.of q.1, e⟩
  yld := fun i H ι x H' st rs q y => by
    obtain ⟨rfl, hx⟩ := y
    refine ⟨Ext.refl, rs, fun w ew => ?_⟩
    obtain ⟨v, e, rv⟩ := q.2.get ew
    have := hx vs (SqT.of q.1)
    rw [e] at this
    cases this
    exact rv
theorem sqt_keep {K : PySem.W.Frag} {H0 H : Hp} {a : Addr} {vs : List V} (old : ∀ b o, H0 b = some o → H b = some o) (h : SqT K H0 a vs) : SqT K H a vs := by
  rcases h with (h | ⟨o, h⟩) | h
  · exact .inl (.inl (old _ _ h))
  · exact .inl (.inr ⟨o, old _ _ h⟩)
  · exact .inr h
theorem sql_keep {K : PySem.W.Frag} {H0 H : Hp} {a : Addr} {vs : List V} (old : ∀ b o, H0 b = some o → H b = some o) (h : SqL K H0 a vs) : SqL K H a vs := by
  rcases h with (h | ⟨o, h⟩) | h
  · exact .inl (.inl (old _ _ h))
  · exact .inl (.inr ⟨o, old _ _ h⟩)
  · exact .inr h
theorem fix_ktp {K : PySem.W.Frag} {a : Addr} {vs : List V} {ws : List Va} (sq : SqT K g.H0 a vs) : Fix K g (Itt K a) ws (fun H ι => SqT K H a vs ∧ RVs K g.H0 H ι ws vs) where
  mono := fun H ι H' ι' e old q => ⟨sqt_keep old sq, q.2.mono e⟩
  stop := fun H ι q => ⟨vs, q.1, Nat.le_of_eq q.2.length.symm⟩
  go := fun i H ι q hl => by
    obtain ⟨v, e, _⟩ := q.2.get (List.getElem?_eq_getElem hl)
    exact ⟨vs, v, q.1, e⟩
  yld := fun i H ι x H' st rs q y => by
    obtain ⟨rfl, hx⟩ := y
    refine ⟨Ext.refl, rs, fun w ew => ?_⟩
    obtain ⟨v, e, rv⟩ := q.2.get ew
    have := hx vs q.1
    rw [e] at this
    cases this
    exact rv
theorem fix_scr {K : PySem.W.Frag} {a : Addr} {vs : List V} {ws : List Va} (sq : SqL K g.H0 a vs) : Fix K g (Itl K a) ws (fun H ι => SqL K H a vs ∧ RVs K g.H0 H ι ws vs) where
  mono := fun H ι H' ι' e old q => ⟨sql_keep old sq, q.2.mono e⟩
  stop := fun H ι q => ⟨vs, q.1, Nat.le_of_eq q.2.length.symm⟩
  go := fun i H ι q hl => by
    obtain ⟨v, e, _⟩ := q.2.get (List.getElem?_eq_getElem hl)
    exact ⟨vs, v, q.1, e⟩
  yld := fun i H ι x H' st rs q y => by
    obtain ⟨rfl, hx⟩ := y
    refine ⟨Ext.refl, rs, fun w ew => ?_⟩
    obtain ⟨v, e, rv⟩ := q.2.get ew
    have := hx vs q.1
    rw [e] at this
    cases this
    exact rv
theorem rangeW_length (lo : Int) (n : Nat) : (rangeW lo n).length = n := by simp [rangeW]
theorem rangeW_get {lo : Int} {n i : Nat} {w : Va} (h : (rangeW lo n)[i]? = some w) : w = .int (lo + (i : Int)) ∧ i < n := by
  unfold rangeW at h
  rw [List.getElem?_map] at h
  by_cases hi : i < n
  · rw [List.getElem?_range hi] at h
    cases h
    exact ⟨rfl, hi⟩
  · rw [List.getElem?_eq_none (by simpa using hi)] at h
    cases h
theorem fix_rg {K : PySem.W.Frag} {lo : Int} {n : Nat} : Fix K g (Itr lo n) (rangeW lo n) (fun _ _ => True) where
  mono := fun _ _ _ _ _ _ _ => True.intro
  stop := fun H ι _ => by rw [rangeW_length]; exact Nat.le_refl n
  go := fun i H ι _ hl => by rw [rangeW_length] at hl; exact hl
  yld := fun i H ι x H' st rs _ y => by
    obtain ⟨rfl, rfl⟩ := y
    refine ⟨Ext.refl, rs, fun w ew => ?_⟩
    obtain ⟨rfl, _⟩ := rangeW_get ew
    exact .int _
theorem signsW_length (x : Str) : (signsW x).length = x.cps.size := by simp [signsW]
theorem fix_str {K : PySem.W.Frag} {x : Str} : Fix K g (Its x) (signsW x) (fun _ _ => True) where
  mono := fun _ _ _ _ _ _ _ => True.intro
  stop := fun H ι _ => by rw [signsW_length]; exact Nat.le_refl _
  go := fun i H ι _ hl => by rw [signsW_length] at hl; exact hl
  yld := fun i H ι v H' st rs _ y => by
    obtain ⟨rfl, c, ec, rfl⟩ := y
    refine ⟨Ext.refl, rs, fun w ew => ?_⟩
    unfold signsW at ew
    rw [List.getElem?_map, Array.getElem?_toList, ec] at ew
    cases ew
    exact .str _
theorem ji_tup {iter : Expr} {m : En → Mo Va} (hi : JE X g W iter m) : JI X g W tg iter (iT m) := ji_of (pi_tup hi.pe) fun σ H R q => by
  obtain ⟨env, st, ι, rs, re, p⟩ := q
  refine ⟨env, st, ι, rs, re, (Pst.bind (rel := rV X.K g) p).imp (fun x H1 q => ?_) fun _ _ _ q => q⟩
  obtain ⟨w, st1, ι1, ex, rs1, r1, p1⟩ := q
  cases w with
  | tup ws =>
    cases r1 with
    | @tup a vs _ sq k1 => exact ⟨a, rfl, ⟨vs, SqT.of sq⟩, p1 H1 ι1 (Itt X.K a) Ext.refl rs1 ⟨_, fix_tup, sq, k1⟩⟩
  | ktp ws =>
    cases r1 with
    | @ktp a vs _ sq k1 => exact ⟨a, rfl, ⟨vs, sqt_old rs1 sq⟩, p1 H1 ι1 (Itt X.K a) Ext.refl rs1 ⟨_, fix_ktp sq, sqt_old rs1 sq, k1⟩⟩
  | _ => exact (show False from p1).elim
theorem ji_list {iter : Expr} {m : En → Mo Va} (hi : JE X g W iter m) : JI X g W tg iter (iL m) := ji_of (pi_list hi.pe) fun σ H R q => by
  obtain ⟨env, st, ι, rs, re, p⟩ := q
  refine ⟨env, st, ι, rs, re, (Pst.bind (rel := rV X.K g) p).imp (fun x H1 q => ?_) fun _ _ _ q => q⟩
  obtain ⟨w, st1, ι1, ex, rs1, r1, p1⟩ := q
  cases w with
  | scr ws =>
    cases r1 with
    | @scr a vs _ sq k1 => exact ⟨a, rfl, ⟨vs, sql_old rs1 sq⟩, p1 H1 ι1 (Itl X.K a) Ext.refl rs1 ⟨_, fix_scr sq, sql_old rs1 sq, k1⟩⟩
  | ref n =>
    cases r1 with
    | @ref _ a ha =>
      dsimp only at p1
      split at p1
      · rename_i ws e
        obtain ⟨vs, h3, k1⟩ := rs1.obj n _ a e ha
        exact ⟨a, rfl, ⟨vs, .inl (.inl h3)⟩, p1 H1 ι1 (Itl X.K a) Ext.refl rs1 ⟨a, ha, rfl⟩⟩
      · exact (show False from p1).elim
  | _ => exact (show False from p1).elim
theorem ji_rg1 {a : Expr} {m : En → Mo (List Va)} {pp pc : Pos} (hm : X.mg "range" = none) (hi : JA X g W [a] m) (hg : Gl X "range" := by rfl) (hs1 : starEach [a] X.env = [(false, eval a X.env)] := by rfl) : JI X g W tg (.Call (.Name "range" pp) [a] [] pc) (iR1 m) := ji_of (pi_range1 hg hm hi.pa hs1) fun σ H R q => by
  obtain ⟨env, st, ι, rs, re, p⟩ := q
  refine ⟨env, st, ι, rs, re, (Pst.bind (rel := rVs X.K g) p).imp (fun x H1 q => ?_) fun _ _ _ q => q⟩
  obtain ⟨w, st1, ι1, ex, rs1, r1, p1⟩ := q
  split at p1
  · rename_i j
    split at p1
    · rename_i hc
      cases r1 with
      | cons ra rb =>
        cases ra; cases rb
        exact ⟨j, rfl, hc.1, hc.2, p1 H1 ι1 _ Ext.refl rs1 ⟨_, fix_rg, True.intro⟩⟩
    · exact (show False from p1).elim
  · exact (show False from p1).elim
theorem ji_rg2 {a a2 : Expr} {m : En → Mo (List Va)} {pp pc : Pos} (hm : X.mg "range" = none) (hi : JA X g W [a, a2] m) (hg : Gl X "range" := by rfl) (hs1 : starEach [a, a2] X.env = [(false, eval a X.env), (false, eval a2 X.env)] := by rfl) (hs2 : starEach [a2] X.env = [(false, eval a2 X.env)] := by rfl) : JI X g W tg (.Call (.Name "range" pp) [a, a2] [] pc) (iR2 m) := ji_of (pi_range2 hg hm hi.pa hs1 hs2) fun σ H R q => by
  obtain ⟨env, st, ι, rs, re, p⟩ := q
  refine ⟨env, st, ι, rs, re, (Pst.bind (rel := rVs X.K g) p).imp (fun x H1 q => ?_) fun _ _ _ q => q⟩
  obtain ⟨w, st1, ι1, ex, rs1, r1, p1⟩ := q
  split at p1
  · rename_i i j
    split at p1
    · rename_i hc
      cases r1 with
      | cons ra rb =>
        cases rb with
        | cons rb rc =>
          cases ra; cases rb; cases rc
          exact ⟨i, j, rfl, hc, p1 H1 ι1 _ Ext.refl rs1 ⟨_, fix_rg, True.intro⟩⟩
    · exact (show False from p1).elim
  · exact (show False from p1).elim
theorem ji_str {iter : Expr} {m : En → Mo Va} (hi : JE X g W iter m) : JI X g W tg iter (iS m) := ji_of (pi_str hi.pe) fun σ H R q => by
  obtain ⟨env, st, ι, rs, re, p⟩ := q
  refine ⟨env, st, ι, rs, re, (Pst.bind (rel := rV X.K g) p).imp (fun x H1 q => ?_) fun _ _ _ q => q⟩
  obtain ⟨w, st1, ι1, ex, rs1, r1, p1⟩ := q
  cases w with
  | str x =>
    cases r1
    exact ⟨x, rfl, p1 H1 ι1 _ Ext.refl rs1 ⟨_, fix_str, True.intro⟩⟩
  | _ => exact (show False from p1).elim
end

section
variable {X : Cx} {g : Gx} {W : WX} {pos : Pos}
abbrev Loop (X : Cx) (g : Gx) (W : WX) (J : It) (gt : TG) (body : Sm) (D : Ends) (σ : L2.St) (H : Hp) : Prop := ∃ Wl : Nat → Nat → L2.St → Hp → Prop, (∃ m, Wl 0 m σ H) ∧ ∀ i m σ H, Wl i m σ H →
      (J.stop i H ∧ D.nx σ H) ∨ (J.go i H ∧ ∃ N : L2.St → Hp → Prop, (∀ σ' H', N σ' H' → ∃ m', m' < m ∧ Wl (i + 1) m' σ' H') ∧ ∀ x H', J.yld i H x H' → gt x σ H' fun σ2 H2 => tSt X.K g W body { D with nx := N, ct := N, bk := D.nx } σ2 H2)
theorem for_fix {J : It} {gt : TG} {tg : Tg} {body : Sm} {D : Ends} {own : List Nat} (hg : TgOk X g tg own gt) {all : List Va} {G : Hp → List Addr → Prop} (F : Fix X.K g J all G)
    {env : En} {st : Sto} {ι : List Addr} {σ : L2.St} {H : Hp} (rs : RS X.K g st H ι) (re : RE X.K g H ι env σ) (G0 : G H ι) (p : PstS X.K g W (forF tg body all env st) H ι D) : Loop X g W J gt body D σ H := by
  refine ⟨fun i m σ H => m = all.length - i ∧ i ≤ all.length ∧ ∃ env st ι, RS X.K g st H ι ∧ RE X.K g H ι env σ ∧ G H ι ∧ PstS X.K g W (forF tg body (all.drop i) env st) H ι D, ⟨all.length, by simp, Nat.zero_le _, env, st, ι, rs, re, G0, by rw [List.drop_zero]; exact p⟩, ?_⟩
  rintro i m σ H ⟨rfl, hi, env, st, ι, rs, re, G1, p⟩
  by_cases hlt : i < all.length
  · refine .inr ⟨F.go i H ι G1 hlt, fun σ' H' => i + 1 ≤ all.length ∧ ∃ env st ι, RS X.K g st H' ι ∧ RE X.K g H' ι env σ' ∧ G H' ι ∧ PstS X.K g W (forF tg body (all.drop (i + 1)) env st) H' ι D, fun σ' H' q => ⟨all.length - (i + 1), by omega, rfl, q.1, q.2⟩, fun x H' y => ?_⟩
    obtain ⟨e0, rs', hr⟩ := F.yld i H ι x H' st rs G1 y
    rw [List.drop_eq_getElem_cons hlt] at p
    have rv := hr _ (List.getElem?_eq_getElem hlt)
    have G2 := F.mono _ _ _ _ e0 rs'.old G1
    unfold forF at p
    split at p
    · exact (show False from p).elim
    · rename_i env1 e1
      refine hg _ x env env1 σ _ ι _ ⟨_, rs'⟩ (re.mono e0) rv e1 fun σ' re' _ => ⟨env1, st, ι, rs', re', ?_⟩
      refine PstS.shift ?_ e0
      revert p
      generalize body env1 st = r
      intro p
      cases r with
      | nx env2 st2 => exact fun H2 ι2 σ2 e rs2 re2 => ⟨hlt, env2, st2, ι2, rs2, re2, F.mono _ _ _ _ e rs2.old G1, PstS.shift (r := forF tg body (all.drop (i + 1)) env2 st2) p e⟩
      | ct env2 st2 => exact fun H2 ι2 σ2 e rs2 re2 => ⟨hlt, env2, st2, ι2, rs2, re2, F.mono _ _ _ _ e rs2.old G1, PstS.shift (r := forF tg body (all.drop (i + 1)) env2 st2) p e⟩
      | bk env2 st2 => exact p
      | rt w st2 => exact p
      | xc c fs env2 st2 => exact p
      | no => exact p
  · have e : i = all.length := by omega
    subst e
    refine .inl ⟨F.stop H ι G1, ?_⟩
    rw [List.drop_length] at p
    exact p H ι σ Ext.refl rs re
theorem for_live {a : Addr} {n : Nat} {gt : TG} {tg : Tg} {body : Sm} {D : Ends} {own : List Nat} (hg : TgOk X g tg own gt) {k : Nat}
    {env : En} {st : Sto} {ι : List Addr} {σ : L2.St} {H : Hp} (rs : RS X.K g st H ι) (re : RE X.K g H ι env σ) (ha : ι[n]? = some a) (p : PstS X.K g W (forL tg body n k 0 env st) H ι D) : Loop X g W (Itl X.K a) gt body D σ H := by
  refine ⟨fun i m σ H => ∃ env st ι, RS X.K g st H ι ∧ RE X.K g H ι env σ ∧ ι[n]? = some a ∧ PstS X.K g W (forL tg body n m i env st) H ι D, ⟨k, env, st, ι, rs, re, ha, p⟩, ?_⟩
  rintro i m σ H ⟨env, st, ι, rs, re, ha, p⟩
  cases m with
  | zero => exact (show False from p).elim
  | succ m =>
    unfold forL at p
    split at p
    · rename_i ws q
      obtain ⟨vs, h1, k1⟩ := rs.obj n _ a q ha
      have sl : SqL X.K H a vs := .inl (.inl h1)
      split at p
      · rename_i e
        refine .inl ⟨⟨vs, sl, ?_⟩, p H ι σ Ext.refl rs re⟩
        rw [← k1.length]
        exact List.getElem?_eq_none_iff.mp e
      · rename_i w e
        obtain ⟨v, e', rv⟩ := k1.get e
        refine .inr ⟨⟨vs, v, sl, e'⟩, fun σ' H' => ∃ env st ι, RS X.K g st H' ι ∧ RE X.K g H' ι env σ' ∧ ι[n]? = some a ∧ PstS X.K g W (forL tg body n m (i + 1) env st) H' ι D, fun σ' H' q => ⟨m, Nat.lt_succ_self m, q⟩, fun x H' y => ?_⟩
        obtain ⟨rfl, hx⟩ := y
        have ex := hx vs sl
        rw [e'] at ex
        cases ex
        split at p
        · exact (show False from p).elim
        · rename_i env1 e1
          refine hg _ _ env env1 σ _ ι _ ⟨_, rs⟩ re rv e1 fun σ' re' _ => ⟨env1, st, ι, rs, re', ?_⟩
          revert p
          generalize body env1 st = r
          intro p
          cases r with
          | nx env2 st2 => exact fun H2 ι2 σ2 e rs2 re2 => ⟨env2, st2, ι2, rs2, re2, e.get ha, PstS.shift (r := forL tg body n m (i + 1) env2 st2) p e⟩
          | ct env2 st2 => exact fun H2 ι2 σ2 e rs2 re2 => ⟨env2, st2, ι2, rs2, re2, e.get ha, PstS.shift (r := forL tg body n m (i + 1) env2 st2) p e⟩
          | bk env2 st2 => exact p
          | rt w st2 => exact p
          | xc c fs env2 st2 => exact p
          | no => exact p
    · exact (show False from p).elim
theorem js_for {t iter : Expr} {b : List Stmt} {tg : Tg} {m : En → Mo Src} {body : Sm} {own : List Nat} (hp : PassesOwn (model X.prog X.w) X.A X.env X.xe) (hc : X.calm = true) (hi : JI X g W t iter m) (ht : JG X g t tg own) (hb : JSs X g W b body)
    (hs : ∀ x, foldedSetIterable iter X.env x = pure x := by intro _; rfl) : JS X g W (.For t iter b [] pos) (sFor m tg body) := by
  obtain ⟨gt, h1, h2⟩ := ht.ex
  obtain ⟨wi, i1, i2⟩ := hi.ex
  refine ⟨PS.imp (ps_for hp hc i1 h1 hb.pss hs) fun D σ H q => i2 σ H _ ?_⟩
  obtain ⟨env, st, ι, rs, re, p⟩ := tG_bS (rel := rI' X.K g) q
  refine ⟨env, st, ι, rs, re, p.imp (fun J H1 q => ?_) fun _ _ _ q => q⟩
  obtain ⟨env1, s, st1, ι1, rs1, re1, r1, p1⟩ := q
  cases s with
  | fix ws =>
    obtain ⟨G, F, G0⟩ := r1
    exact for_fix h2 F rs1 re1 G0 p1
  | live n =>
    obtain ⟨a, ha, rfl⟩ := r1
    dsimp only at p1
    split at p1
    · exact for_live h2 rs1 re1 ha p1
    · exact (show False from p1).elim
theorem js_while {c : Expr} {b : List Stmt} {t : En → Mo Bool} {body : Sm} (k : Nat) (hp : PassesOwn (model X.prog X.w) X.A X.env X.xe) (hc : JT X g W c t) (hb : JSs X g W b body) : JS X g W (.While c b [] pos) (sWhile t body k) := by
  refine ⟨PS.imp (ps_while hp hc.pt hb.pss) fun D σ H q => ?_⟩
  obtain ⟨env, st, ι, rs, re, p⟩ := q
  refine ⟨fun m σ H => ∃ env st ι, RS X.K g st H ι ∧ RE X.K g H ι env σ ∧ PstS X.K g W (whileF t body m env st) H ι D, ⟨k, env, st, ι, rs, re, p⟩, ?_⟩
  intro m σ H h
  cases m with
  | zero =>
    obtain ⟨env, st, ι, rs, re, p⟩ := h
    exact (show False from p).elim
  | succ m =>
    have h' : tSt X.K g W (whileF t body (m + 1)) D σ H := h
    unfold whileF at h'
    obtain ⟨env, st, ι, rs, re, p⟩ := tG_bS (rel := rB) h'
    refine ⟨env, st, ι, rs, re, p.imp (fun v H1 q => ?_) fun _ _ _ q => q⟩
    obtain ⟨env1, w, st1, ι1, rs1, re1, r1, p1⟩ := q
    obtain rfl : w = v := r1
    cases w with
    | false => exact iteF (p1 H1 ι1 σ Ext.refl rs1 re1)
    | true =>
      refine iteT ⟨fun σ' H' => ∃ env st ι, RS X.K g st H' ι ∧ RE X.K g H' ι env σ' ∧ PstS X.K g W (whileF t body m env st) H' ι D, fun σ' H' q => ⟨m, Nat.lt_succ_self m, q⟩, env1, st1, ι1, rs1, re1, ?_⟩
      rw [if_pos rfl] at p1
      revert p1
      generalize body env1 st1 = r
      intro p1
      cases r with
      | nx env2 st2 => exact fun H2 ι2 σ2 e rs2 re2 => ⟨env2, st2, ι2, rs2, re2, PstS.shift (r := whileF t body m env2 st2) p1 e⟩
      | ct env2 st2 => exact fun H2 ι2 σ2 e rs2 re2 => ⟨env2, st2, ι2, rs2, re2, PstS.shift (r := whileF t body m env2 st2) p1 e⟩
      | bk env2 st2 => exact p1
      | rt w st2 => exact p1
      | xc c fs env2 st2 => exact p1
      | no => exact p1
end
end Sh

set_option Elab.async false
set_option linter.all false
set_option maxRecDepth 100000
set_option maxHeartbeats 4000000
namespace Sh
open PySem PySem.Spec PyProof.Rows L2

/-! ### subscripts, slices -/
def opIx : Va → Va → Mo Va := fun a b st => match a, b with
  | .tup ws, .int i => match atI ws i with
    | some w => .ok w st
    | none => .no
  | .scr ws, .int i => match atI ws i with
    | some w => .ok w st
    | none => .no
  | .ktp ws, .int i => match atI ws i with
    | some w => .ok w st
    | none => .no
  | .str x, .int i => if x.length ≤ 16777216 then (match atI x.cps.toList i with
    | some c => .ok (.str ⟨#[c]⟩) st
    | none => .no) else .no
  | .ref n, .int i => match st[n]? with
    | some (.lst ws) => match atI ws i with
      | some w => .ok w st
      | none => .no
    | _ => .no
  | _, _ => .no
/-- the items of a part -/
def cutW (xs : List Va) (lo hi : Option Int) : List Va := (xs.drop (HT.sIx xs.length 0 lo)).take (HT.sIx xs.length xs.length hi - HT.sIx xs.length 0 lo)
def opSl (lo hi : Option Int) : Va → Mo Va := fun a st => match a with
  | .tup ws => .ok (.tup (cutW ws lo hi)) st
  | .ktp ws => if HT.sIx ws.length 0 lo = 0 ∧ HT.sIx ws.length ws.length hi = ws.length then .ok (.ktp ws) st else .ok (.tup (cutW ws lo hi)) st
  | .str x => if x.length ≤ 16777216 then .ok (.str (cutS x lo hi)) st else .no
  | .scr ws => .ok (.ref st.length) (st ++ [.lst (cutW ws lo hi)])
  | .ref n => match st[n]? with
    | some (.lst ws) => .ok (.ref st.length) (st ++ [.lst (cutW ws lo hi)])
    | _ => .no
  | _ => .no
def oNone : En → Mo (Option Int) := fun _ st => .ok none st
def oSome (m : En → Mo Va) : En → Mo (Option Int) := fun env st => bnd (m env st) fun w st1 => match w with
  | .int i => .ok (some i) st1
  | _ => .no
def eSl (m : En → Mo Va) (lo hi : En → Mo (Option Int)) : En → Mo Va := fun env st => bnd (m env st) fun w st1 => bnd (lo env st1) fun l st2 => bnd (hi env st2) fun h st3 => opSl l h w st3
section
variable {X : Cx} {g : Gx} {W : WX} {pos : Pos}
theorem at_rv {H0 H : Hp} {ι : List Addr} {ws : List Va} {vs : List V} {i : Int} {w : Va} (k : RVs X.K H0 H ι ws vs) (e : atI ws i = some w) : ∃ v, atI vs i = some v ∧ RV X.K H0 H ι w v := by
  unfold atI at e ⊢
  rw [← k.length]
  cases q : ixN ws.length i with
  | none => rw [q] at e; cases e
  | some j =>
    rw [q] at e
    exact k.get (i := j) e
theorem j_ix {a b : Expr} {ma mb : En → Mo Va} (ha : JE X g W a ma) (hb : JE X g W b mb) (hs : PlainIx b := by exact fun _ _ => rfl) : JE X g W (.Subscript a b pos) (e2 opIx ma mb) := ⟨PE.imp (pe_ix (IxR.or ix_tup (IxR.or ix_list ix_str)) ha.pe hb.pe hs) fun σ H Q h => by
  obtain ⟨env, st, ι, rs, re, p⟩ := pst_e2 h
  refine ⟨env, st, ι, rs, re, p.imp (fun x H1 q => ?_) fun _ _ _ q => q⟩
  obtain ⟨env1, st1, ι1, rs1, re1, p1⟩ := q
  refine ⟨env1, st1, ι1, rs1, re1, p1.imp (fun y H2 q => ?_) fun _ _ _ q => q⟩
  obtain ⟨st2, ι2, w1, w2, rs2, r1, r2, p2⟩ := q
  unfold opIx at p2
  split at p2
  · split at p2
    · rename_i w e
      cases r2
      cases r1 with
      | @tup a vs _ sq k1 =>
        obtain ⟨v, e', rv⟩ := at_rv k1 e
        exact .inl ⟨a, vs, _, v, rfl, rfl, SqT.of sq, e', p2 H2 ι2 v Ext.refl rs2 rv⟩
    · exact (show False from p2).elim
  · split at p2
    · rename_i w e
      cases r2
      cases r1 with
      | @scr a vs _ sq k1 =>
        obtain ⟨v, e', rv⟩ := at_rv k1 e
        exact .inr (.inl ⟨a, vs, _, v, rfl, rfl, sql_old rs2 sq, e', p2 H2 ι2 v Ext.refl rs2 rv⟩)
    · exact (show False from p2).elim
  · split at p2
    · rename_i w e
      cases r2
      cases r1 with
      | @ktp a vs _ sq k1 =>
        obtain ⟨v, e', rv⟩ := at_rv k1 e
        exact .inl ⟨a, vs, _, v, rfl, rfl, sqt_old rs2 sq, e', p2 H2 ι2 v Ext.refl rs2 rv⟩
    · exact (show False from p2).elim
  · split at p2
    · rename_i hl
      split at p2
      · rename_i c e
        cases r2
        cases r1
        exact .inr (.inr ⟨_, _, c, rfl, rfl, le_line hl, e, p2 H2 ι2 _ Ext.refl rs2 (.str _)⟩)
      · exact (show False from p2).elim
    · exact (show False from p2).elim
  · split at p2
    · rename_i n i _ ws e0
      split at p2
      · rename_i w e
        obtain ⟨a, vs, rfl, _, h1, k1⟩ := rs2.list r1 e0
        cases r2
        obtain ⟨v, e', rv⟩ := at_rv k1 e
        exact .inr (.inl ⟨a, vs, _, v, rfl, rfl, .inl (.inl h1), e', p2 H2 ι2 v Ext.refl rs2 rv⟩)
      · exact (show False from p2).elim
    · exact (show False from p2).elim
  · exact (show False from p2).elim⟩
structure JO (X : Cx) (g : Gx) (W : WX) (e : Option Expr) (m : En → Mo (Option Int)) : Prop where
  po : PO X e (tG X.K g W (fun _ _ a b => a = b) m)
theorem PO.imp {X : Cx} {e : Option Expr} {t t' : TO} (h : PO X e t) (i : ∀ σ H Q, t' σ H Q → t σ H Q) : PO X e t' := ⟨fun pins s σ H Q I q => h.run pins s σ H Q I (i σ H Q q)⟩
theorem jo_none : JO X g W none oNone := ⟨PO.imp po_none fun σ H Q h => by
  obtain ⟨env, st, ι, rs, re, p⟩ := h
  exact p H ι none Ext.refl rs rfl⟩
theorem jo_some {e : Expr} {m : En → Mo Va} (h : JE X g W e m) : JO X g W (some e) (oSome m) := ⟨PO.imp (po_some h.pe) fun σ H Q q => by
  obtain ⟨env, st, ι, rs, re, p⟩ := q
  refine ⟨env, st, ι, rs, re, (Pst.bind (rel := rV X.K g) p).imp (fun x H1 q => ?_) fun _ _ _ q => q⟩
  obtain ⟨w, st1, ι1, ex, rs1, r1, p1⟩ := q
  cases w with
  | int i =>
    cases r1
    exact ⟨i, rfl, p1 H1 ι1 _ Ext.refl rs1 rfl⟩
  | _ => exact (show False from p1).elim⟩
theorem cut_rv {H0 H : Hp} {ι : List Addr} {ws : List Va} {vs : List V} (lo hi : Option Int) (k : RVs X.K H0 H ι ws vs) : RVs X.K H0 H ι (cutW ws lo hi) (cutV vs lo hi) := by
  unfold cutW cutV
  rw [← k.length]
  exact (k.drop _).take _
theorem j_sl {e : Expr} {lo hi : Option Expr} {m : En → Mo Va} {ml mh : En → Mo (Option Int)} {p2 : Pos} (he : JE X g W e m) (hl : JO X g W lo ml) (hh : JO X g W hi mh) : JE X g W (.Subscript e (.Slice lo hi none p2) pos) (eSl m ml mh) :=
  ⟨PE.imp (pe_slice (SlR.or sl_tupA (SlR.or sl_list sl_str)) he.pe hl.po hh.po) fun σ H Q q => by
    obtain ⟨env, st, ι, rs, re, p⟩ := q
    refine ⟨env, st, ι, rs, re, (Pst.bind (rel := rV X.K g) p).imp (fun x H1 q => ?_) fun _ _ _ q => q⟩
    obtain ⟨w, st1, ι1, ex, rs1, r1, p1⟩ := q
    refine ⟨env, st1, ι1, rs1, re.mono ex, (Pst.bind (rel := fun _ _ a b => a = b) p1).imp (fun l H2 q => ?_) fun _ _ _ q => q⟩
    obtain ⟨lw, st2, ι2, ex2, rs2, el, q2⟩ := q
    refine ⟨env, st2, ι2, rs2, (re.mono ex).mono ex2, (Pst.bind (rel := fun _ _ a b => a = b) q2).imp (fun h H3 q => ?_) fun _ _ _ q => q⟩
    obtain ⟨hw, st3, ι3, ex3, rs3, eh, q3⟩ := q
    obtain rfl : lw = l := el
    obtain rfl : hw = h := eh
    have r3 := (r1.mono ex2).mono ex3
    unfold opSl at q3
    split at q3
    · cases r3 with
      | @tup a vs ws sq k1 =>
        have k2 := cut_rv lw hw k1
        refine .inl ⟨a, vs, rfl, SqT.of sq, fun hz => ?_, fun _ p' hp => ?_⟩
        · refine q3 H3 ι3 _ Ext.refl rs3 (.tup sq ?_)
          have e : cutV vs lw hw = vs := by
            unfold cutV
            rw [hz.1, hz.2, List.drop_zero, Nat.sub_zero, List.take_length]
          rw [e] at k2
          exact k2
        · obtain ⟨x1, x2, x3⟩ := new_tup rs3 k2 hp
          exact q3 _ _ _ x1 x2 x3
    · rename_i ws0
      cases r3 with
      | @ktp a vs ws sq k1 =>
        have k2 := cut_rv lw hw k1
        refine .inl ⟨a, vs, rfl, sqt_old rs3 sq, fun hz => ?_, fun hz p' hp => ?_⟩
        · rw [← k1.length] at hz
          rw [if_pos hz] at q3
          exact q3 H3 ι3 _ Ext.refl rs3 (.ktp sq k1)
        · rw [← k1.length] at hz
          rw [if_neg hz] at q3
          obtain ⟨x1, x2, x3⟩ := new_tup rs3 k2 hp
          exact q3 _ _ _ x1 x2 x3
    · split at q3
      · rename_i hl'
        cases r3
        exact .inr (.inr ⟨_, rfl, le_line hl', q3 H3 ι3 _ Ext.refl rs3 (.str _)⟩)
      · exact (show False from q3).elim
    · cases r3 with
      | @scr a vs ws sq k1 =>
        refine .inr (.inl ⟨a, vs, rfl, sql_old rs3 sq, fun p' hp => ?_⟩)
        obtain ⟨x1, x2, x3⟩ := new_lst rs3 (cut_rv lw hw k1) hp
        exact q3 _ _ _ x1 x2 x3
    · split at q3
      · rename_i n _ ws e0
        obtain ⟨a, vs, rfl, _, h1, k1⟩ := rs3.list r3 e0
        refine .inr (.inl ⟨a, vs, rfl, .inl (.inl h1), fun p' hp => ?_⟩)
        obtain ⟨x1, x2, x3⟩ := new_lst rs3 (cut_rv lw hw k1) hp
        exact q3 _ _ _ x1 x2 x3
      · exact (show False from q3).elim
    · exact (show False from q3).elim⟩

/-! ### unary, built-in functions -/
def opNeg : Va → Mo Va := fun a st => match a with
  | .int i => .ok (.int (-i)) st
  | _ => .no
theorem j_neg {a : Expr} {ma : En → Mo Va} (ha : JE X g W a ma) : JE X g W (.UnaryOp .USub a pos) (e1 opNeg ma) := ⟨PE.imp (pe_un un_neg ha.pe) fun σ H Q h => by
  obtain ⟨env, st, ι, rs, re, p⟩ := pst_e1 h
  refine ⟨env, st, ι, rs, re, p.imp (fun x H1 q => ?_) fun _ _ _ q => q⟩
  obtain ⟨st1, ι1, w1, rs1, r1, p1⟩ := q
  cases w1 with
  | int i =>
    cases r1
    exact ⟨i, rfl, p1 H1 ι1 _ Ext.refl rs1 (.int _)⟩
  | _ => exact (show False from p1).elim⟩
def cLen : List Va → Mo Va := fun ws st => match ws with
  | [.tup xs] => .ok (.int xs.length) st
  | [.scr xs] => .ok (.int xs.length) st
  | [.ktp xs] => .ok (.int xs.length) st
  | [.str x] => if x.length ≤ 16777216 then .ok (.int x.length) st else .no
  | [.ref n] => match st[n]? with
    | some (.lst xs) => .ok (.int xs.length) st
    | _ => .no
  | _ => .no
theorem nox_cLen : NoXA cLen := by intro a st c fs s h; unfold cLen at h; split at h <;> (try split at h) <;> cases h
theorem cs_len : CallS X g (.builtin "len") cLen := by
  intro pins s σ H xs us Q I r h
  obtain ⟨st, ι, ws, rs, rv, p⟩ := h
  unfold cLen at p
  split at p
  · cases rv with
    | cons ra rb =>
      cases rb
      cases ra with
      | @tup a vs _ sq k1 => exact call_len pins s σ H _ us Q I r ⟨_, _, rfl, .inr ⟨vs, SqT.of sq, rfl⟩, by rw [← k1.length]; exact p H ι _ Ext.refl rs (.int _)⟩
  · cases rv with
    | cons ra rb =>
      cases rb
      cases ra with
      | @scr a vs _ sq k1 => exact call_len pins s σ H _ us Q I r ⟨_, _, rfl, .inl ⟨vs, sql_old rs sq, rfl⟩, by rw [← k1.length]; exact p H ι _ Ext.refl rs (.int _)⟩
  · cases rv with
    | cons ra rb =>
      cases rb
      cases ra with
      | @ktp a vs _ sq k1 => exact call_len pins s σ H _ us Q I r ⟨_, _, rfl, .inr ⟨vs, sqt_old rs sq, rfl⟩, by rw [← k1.length]; exact p H ι _ Ext.refl rs (.int _)⟩
  · split at p
    · rename_i hl
      cases rv with
      | cons ra rb =>
        cases rb
        cases ra
        exact call_len pins s σ H _ us Q I r ⟨_, _, rfl, ⟨le_line hl, rfl⟩, p H ι _ Ext.refl rs (.int _)⟩
    · exact (show False from p).elim
  · split at p
    · rename_i n _ ys e0
      cases rv with
      | cons ra rb =>
        cases rb
        obtain ⟨a, vs, rfl, _, h1, k1⟩ := rs.list ra e0
        exact call_len pins s σ H _ us Q I r ⟨_, _, rfl, .inl ⟨vs, .inl (.inl h1), rfl⟩, by rw [← k1.length]; exact p H ι _ Ext.refl rs (.int _)⟩
    · exact (show False from p).elim
  · exact (show False from p).elim
def cAbs : List Va → Mo Va := fun ws st => match ws with
  | [.int i] => .ok (.int (if i < 0 then -i else i)) st
  | _ => .no
theorem nox_cAbs : NoXA cAbs := by intro a st c fs s h; unfold cAbs at h; split at h <;> cases h
theorem cs_abs : CallS X g (.builtin "abs") cAbs := by
  intro pins s σ H xs us Q I r h
  obtain ⟨st, ι, ws, rs, rv, p⟩ := h
  unfold cAbs at p
  split at p
  · cases rv with
    | cons ra rb =>
      cases rb
      cases ra
      exact call_abs pins s σ H _ us Q I r ⟨_, rfl, p H ι _ Ext.refl rs (.int _)⟩
  · exact (show False from p).elim
def cMax : List Va → Mo Va := fun ws st => match ws with
  | [.int i, .int j] => .ok (.int (if j > i then j else i)) st
  | _ => .no
def cMin : List Va → Mo Va := fun ws st => match ws with
  | [.int i, .int j] => .ok (.int (if j < i then j else i)) st
  | _ => .no
theorem nox_cMax : NoXA cMax := by intro a st c fs s h; unfold cMax at h; split at h <;> cases h
theorem nox_cMin : NoXA cMin := by intro a st c fs s h; unfold cMin at h; split at h <;> cases h
theorem cs_max (hc : X.calm = true) : CallS X g (.builtin "max") cMax := by
  intro pins s σ H xs us Q I r h
  obtain ⟨st, ι, ws, rs, rv, p⟩ := h
  unfold cMax at p
  split at p
  · cases rv with
    | cons ra rb =>
      cases rb with
      | cons rb rc =>
        cases rc
        cases ra
        cases rb
        exact call_max2 hc pins s σ H _ us Q I r ⟨_, _, rfl, p H ι _ Ext.refl rs (.int _)⟩
  · exact (show False from p).elim
theorem cs_min (hc : X.calm = true) : CallS X g (.builtin "min") cMin := by
  intro pins s σ H xs us Q I r h
  obtain ⟨st, ι, ws, rs, rv, p⟩ := h
  unfold cMin at p
  split at p
  · cases rv with
    | cons ra rb =>
      cases rb with
      | cons rb rc =>
        cases rc
        cases ra
        cases rb
        exact call_min2 hc pins s σ H _ us Q I r ⟨_, _, rfl, p H ι _ Ext.refl rs (.int _)⟩
  · exact (show False from p).elim
def cInt : List Va → Mo Va := fun ws st => match ws with
  | [.int i] => .ok (.int i) st
  | [.bl k] => .ok (.int (if k then 1 else 0)) st
  | [.str x] => match PySem.intText? x with
    | some n => if x.length ≤ 640 then .ok (.int n) st else .no
    | none => .no
  | _ => .no
theorem nox_cInt : NoXA cInt := by intro a st c fs s h; unfold cInt at h; split at h <;> (try split at h) <;> (try split at h) <;> cases h
theorem cs_int : CallS X g (.type "int") cInt := by
  intro pins s σ H xs us Q I r h
  obtain ⟨st, ι, ws, rs, rv, p⟩ := h
  unfold cInt at p
  split at p
  · cases rv with
    | cons ra rb =>
      cases rb
      cases ra
      exact call_int1 pins s σ H _ us Q I r (.inl ⟨_, rfl, p H ι _ Ext.refl rs (.int _)⟩)
  · cases rv with
    | cons ra rb =>
      cases rb
      cases ra
      exact call_int1 pins s σ H _ us Q I r (.inr ⟨_, rfl, p H ι _ Ext.refl rs (.int _)⟩)
  · split at p
    · rename_i n e
      split at p
      · rename_i hl
        cases rv with
        | cons ra rb =>
          cases rb
          cases ra
          exact call_int_str pins s σ H _ us Q I r ⟨_, _, rfl, e, hl, p H ι _ Ext.refl rs (.int _)⟩
      · exact (show False from p).elim
    · exact (show False from p).elim
  · exact (show False from p).elim
def cStr : List Va → Mo Va := fun ws st => match ws with
  | [.int i] => if i.natAbs.log2 < 1920 then .ok (.str (Str.ofString (toString i))) st else .no
  | _ => .no
theorem nox_cStr : NoXA cStr := by intro a st c fs s h; unfold cStr at h; split at h <;> (try split at h) <;> cases h
theorem cs_str : CallS X g (.type "str") cStr := by
  intro pins s σ H xs us Q I r h
  obtain ⟨st, ι, ws, rs, rv, p⟩ := h
  unfold cStr at p
  split at p
  · split at p
    · rename_i hl
      cases rv with
      | cons ra rb =>
        cases rb
        cases ra
        exact call_str_int pins s σ H _ us Q I r ⟨_, rfl, hl, p H ι _ Ext.refl rs (.str _)⟩
    · exact (show False from p).elim
  · exact (show False from p).elim
/-- all, any of a list of bools -/
def blsW : List Va → Option (List Bool)
  | [] => some []
  | .bl b :: r => (blsW r).map (b :: ·)
  | _ :: _ => none
theorem blsW_rv {H0 H : Hp} {ι : List Addr} : ∀ {ws : List Va} {bs : List Bool} {vs : List V}, blsW ws = some bs → RVs X.K H0 H ι ws vs → vs = bs.map V.bl
  | [], _, _, e, .nil => by cases e; rfl
  | .bl b :: ws, _, _, e, .cons r t => by
    have e' : (blsW ws).map (b :: ·) = _ := e
    rw [Option.map_eq_some_iff] at e'
    obtain ⟨bs, e1, rfl⟩ := e'
    cases r
    rw [blsW_rv e1 t]
    rfl
  | .non :: ws, _, _, e, _ => by cases e
  | .int _ :: ws, _, _, e, _ => by cases e
  | .str _ :: ws, _, _, e, _ => by cases e
  | .tup _ :: ws, _, _, e, _ => by cases e
  | .scr _ :: ws, _, _, e, _ => by cases e
  | .ktp _ :: ws, _, _, e, _ => by cases e
  | .ref _ :: ws, _, _, e, _ => by cases e
  | .cst _ :: ws, _, _, e, _ => by cases e
  | .exn :: ws, _, _, e, _ => by cases e
def cAll : List Va → Mo Va := fun ws st => match ws with
  | [.ref n] => match st[n]? with
    | some (.lst xs) => match blsW xs with
      | some bs => .ok (.bl (bs.all id)) st
      | none => .no
    | _ => .no
  | _ => .no
def cAny : List Va → Mo Va := fun ws st => match ws with
  | [.ref n] => match st[n]? with
    | some (.lst xs) => match blsW xs with
      | some bs => .ok (.bl (bs.any id)) st
      | none => .no
    | _ => .no
  | _ => .no
theorem nox_cAll : NoXA cAll := by intro a st c fs s h; unfold cAll at h; split at h <;> (try split at h) <;> (try split at h) <;> cases h
theorem nox_cAny : NoXA cAny := by intro a st c fs s h; unfold cAny at h; split at h <;> (try split at h) <;> (try split at h) <;> cases h
theorem cs_all (hc : X.calm = true) : CallS X g (.builtin "all") cAll := by
  intro pins s σ H xs us Q I r h
  obtain ⟨st, ι, ws, rs, rv, p⟩ := h
  unfold cAll at p
  split at p
  · split at p
    · rename_i n _ ys e0
      split at p
      · rename_i bs e1
        cases rv with
        | cons ra rb =>
          cases rb
          obtain ⟨a, vs, rfl, _, h1, k1⟩ := rs.list ra e0
          have := blsW_rv e1 k1
          subst this
          exact cr_all hc pins s σ H _ us Q I r ⟨a, bs, rfl, .inl (.inl h1), p H ι _ Ext.refl rs (.bl _)⟩
      · exact (show False from p).elim
    · exact (show False from p).elim
  · exact (show False from p).elim
theorem cs_any (hc : X.calm = true) : CallS X g (.builtin "any") cAny := by
  intro pins s σ H xs us Q I r h
  obtain ⟨st, ι, ws, rs, rv, p⟩ := h
  unfold cAny at p
  split at p
  · split at p
    · rename_i n _ ys e0
      split at p
      · rename_i bs e1
        cases rv with
        | cons ra rb =>
          cases rb
          obtain ⟨a, vs, rfl, _, h1, k1⟩ := rs.list ra e0
          have := blsW_rv e1 k1
          subst this
          exact cr_any hc pins s σ H _ us Q I r ⟨a, bs, rfl, .inl (.inl h1), p H ι _ Ext.refl rs (.bl _)⟩
      · exact (show False from p).elim
    · exact (show False from p).elim
  · exact (show False from p).elim
/-- list(x), tuple(x) -/
def cList : List Va → Mo Va := fun ws st => match ws with
  | [.tup xs] => .ok (.ref st.length) (st ++ [.lst xs])
  | [.ktp xs] => .ok (.ref st.length) (st ++ [.lst xs])
  | [.scr xs] => .ok (.ref st.length) (st ++ [.lst xs])
  | [.ref n] => match st[n]? with
    | some (.lst xs) => .ok (.ref st.length) (st ++ [.lst xs])
    | _ => .no
  | _ => .no
def cTuple : List Va → Mo Va := fun ws st => match ws with
  | [.tup xs] => .ok (.tup xs) st
  | [.ktp xs] => .ok (.ktp xs) st
  | [.scr xs] => .ok (.tup xs) st
  | [.ref n] => match st[n]? with
    | some (.lst xs) => .ok (.tup xs) st
    | _ => .no
  | _ => .no
theorem nox_cList : NoXA cList := by intro a st c fs s h; unfold cList at h; split at h <;> (try split at h) <;> cases h
theorem nox_cTuple : NoXA cTuple := by intro a st c fs s h; unfold cTuple at h; split at h <;> (try split at h) <;> cases h
theorem cs_list : CallS X g (.type "list") cList := by
  intro pins s σ H xs us Q I r h
  obtain ⟨st, ι, ws, rs, rv, p⟩ := h
  unfold cList at p
  split at p
  · cases rv with
    | cons ra rb =>
      cases rb
      cases ra with
      | @tup a vs _ sq k1 =>
        refine call_list_of pins s σ H _ us Q I r ⟨a, vs, rfl, .inr (SqT.of sq), fun p' hp => ?_⟩
        obtain ⟨x1, x2, x3⟩ := new_lst rs k1 hp
        exact p _ _ _ x1 x2 x3
  · cases rv with
    | cons ra rb =>
      cases rb
      cases ra with
      | @ktp a vs _ sq k1 =>
        refine call_list_of pins s σ H _ us Q I r ⟨a, vs, rfl, .inr (sqt_old rs sq), fun p' hp => ?_⟩
        obtain ⟨x1, x2, x3⟩ := new_lst rs k1 hp
        exact p _ _ _ x1 x2 x3
  · cases rv with
    | cons ra rb =>
      cases rb
      cases ra with
      | @scr a vs _ sq k1 =>
        refine call_list_of pins s σ H _ us Q I r ⟨a, vs, rfl, .inl (sql_old rs sq), fun p' hp => ?_⟩
        obtain ⟨x1, x2, x3⟩ := new_lst rs k1 hp
        exact p _ _ _ x1 x2 x3
  · split at p
    · rename_i n _ ys e0
      cases rv with
      | cons ra rb =>
        cases rb
        obtain ⟨a, vs, rfl, _, h1, k1⟩ := rs.list ra e0
        refine call_list_of pins s σ H _ us Q I r ⟨a, vs, rfl, .inl (.inl (.inl h1)), fun p' hp => ?_⟩
        obtain ⟨x1, x2, x3⟩ := new_lst rs k1 hp
        exact p _ _ _ x1 x2 x3
    · exact (show False from p).elim
  · exact (show False from p).elim
theorem cs_tuple : CallS X g (.type "tuple") cTuple := by
  intro pins s σ H xs us Q I r h
  obtain ⟨st, ι, ws, rs, rv, p⟩ := h
  unfold cTuple at p
  split at p
  · cases rv with
    | cons ra rb =>
      cases rb
      cases ra with
      | @tup a vs _ sq k1 => exact call_tuple_of pins s σ H _ us Q I r ⟨a, vs, rfl, .inr ⟨SqT.of sq, p H ι _ Ext.refl rs (.tup sq k1)⟩⟩
  · cases rv with
    | cons ra rb =>
      cases rb
      cases ra with
      | @ktp a vs _ sq k1 => exact call_tuple_of pins s σ H _ us Q I r ⟨a, vs, rfl, .inr ⟨sqt_old rs sq, p H ι _ Ext.refl rs (.ktp sq k1)⟩⟩
  · cases rv with
    | cons ra rb =>
      cases rb
      cases ra with
      | @scr a vs _ sq k1 =>
        refine call_tuple_of pins s σ H _ us Q I r ⟨a, vs, rfl, .inl ⟨sql_old rs sq, fun p' hp => ?_⟩⟩
        obtain ⟨x1, x2, x3⟩ := new_tup rs k1 hp
        exact p _ _ _ x1 x2 x3
  · split at p
    · rename_i n _ ys e0
      cases rv with
      | cons ra rb =>
        cases rb
        obtain ⟨a, vs, rfl, _, h1, k1⟩ := rs.list ra e0
        refine call_tuple_of pins s σ H _ us Q I r ⟨a, vs, rfl, .inl ⟨.inl (.inl h1), fun p' hp => ?_⟩⟩
        obtain ⟨x1, x2, x3⟩ := new_tup rs k1 hp
        exact p _ _ _ x1 x2 x3
    · exact (show False from p).elim
  · exact (show False from p).elim
end
end Sh

set_option Elab.async false
set_option linter.all false
set_option maxRecDepth 100000
set_option maxHeartbeats 4000000
namespace Sh
open PySem PySem.Spec PyProof.Rows L2

/-! ### isinstance of plain values, built-in classes -/
def tyW (st : Sto) : Va → Option String
  | .non => some "NoneType"
  | .bl _ => some "bool"
  | .int _ => some "int"
  | .str _ => some "str"
  | .tup _ => some "tuple"
  | .ktp _ => some "tuple"
  | .scr _ => some "list"
  | .ref n => match st[n]? with
    | some (.lst _) => some "list"
    | some (.dct _) => some "dict"
    | _ => none
  | _ => none
def isiB (t T : String) : Option Bool :=
  if T = "int" then (if t = "int" ∨ t = "bool" then some true else if t = "NoneType" ∨ t = "str" ∨ t = "tuple" ∨ t = "list" ∨ t = "dict" then some false else none)
  else if T = "bool" then (if t = "bool" then some true else if t = "NoneType" ∨ t = "int" ∨ t = "str" ∨ t = "tuple" ∨ t = "list" ∨ t = "dict" then some false else none)
  else if T = "str" then (if t = "str" then some true else if t = "NoneType" ∨ t = "int" ∨ t = "bool" ∨ t = "tuple" ∨ t = "list" ∨ t = "dict" then some false else none)
  else if T = "tuple" then (if t = "tuple" then some true else if t = "NoneType" ∨ t = "int" ∨ t = "bool" ∨ t = "str" ∨ t = "list" ∨ t = "dict" then some false else none)
  else if T = "list" then (if t = "list" then some true else if t = "NoneType" ∨ t = "int" ∨ t = "bool" ∨ t = "str" ∨ t = "tuple" ∨ t = "dict" then some false else none)
  else if T = "dict" then (if t = "dict" then some true else if t = "NoneType" ∨ t = "int" ∨ t = "bool" ∨ t = "str" ∨ t = "tuple" ∨ t = "list" then some false else none)
  else none
theorem isiB_kit {t T : String} {b : Bool} (h : isiB t T = some b) : kitB t T = some b := by
  unfold isiB at h
  split at h
  · rename_i e; subst e
    split at h
    · rename_i q; cases h; rcases q with q | q <;> subst q <;> decide +kernel
    · split at h
      · rename_i q; cases h; rcases q with q | q | q | q | q <;> subst q <;> decide +kernel
      · cases h
  · split at h
    · rename_i e; subst e
      split at h
      · rename_i q; cases h; subst q; decide +kernel
      · split at h
        · rename_i q; cases h; rcases q with q | q | q | q | q | q <;> subst q <;> decide +kernel
        · cases h
    · split at h
      · rename_i e; subst e
        split at h
        · rename_i q; cases h; subst q; decide +kernel
        · split at h
          · rename_i q; cases h; rcases q with q | q | q | q | q | q <;> subst q <;> decide +kernel
          · cases h
      · split at h
        · rename_i e; subst e
          split at h
          · rename_i q; cases h; subst q; decide +kernel
          · split at h
            · rename_i q; cases h; rcases q with q | q | q | q | q | q <;> subst q <;> decide +kernel
            · cases h
        · split at h
          · rename_i e; subst e
            split at h
            · rename_i q; cases h; subst q; decide +kernel
            · split at h
              · rename_i q; cases h; rcases q with q | q | q | q | q | q <;> subst q <;> decide +kernel
              · cases h
          · split at h
            · rename_i e; subst e
              split at h
              · rename_i q; cases h; subst q; decide +kernel
              · split at h
                · rename_i q; cases h; rcases q with q | q | q | q | q | q <;> subst q <;> decide +kernel
                · cases h
            · cases h
def cIsi : List Va → Mo Va := fun ws st => match ws with
  | [w, .cst (.ty T)] => match tyW st w with
    | some t => match isiB t T with
      | some b => .ok (.bl b) st
      | none => .no
    | none => .no
  | _ => .no
theorem nox_cIsi : NoXA cIsi := by intro a st c fs s h; unfold cIsi at h; split at h <;> (try split at h) <;> (try split at h) <;> cases h
section
variable {X : Cx} {g : Gx} {W : WX} {pos : Pos}
theorem ty_of {st : Sto} {H : Hp} {ι : List Addr} {w : Va} {v : V} {t : String} (rs : RS X.K g st H ι) (r : RV X.K g.H0 H ι w v) (e : tyW st w = some t) : TyX X.K H v (.type t) := by
  cases r with
  | non => cases e; exact .base .non
  | bl b => cases e; exact .base (.bl b)
  | int i => cases e; exact .base (.int i)
  | str x => cases e; exact .base (.str x)
  | tup h k => cases e; exact .base (.tup h)
  | scr h k =>
    cases e
    rcases sql_old rs h with (h | ⟨o, h⟩) | ⟨o, _, _, h1, h2, _⟩
    · exact .base (.lst h)
    · exact .base (.frz h)
    · exact .kList h1 h2
  | ktp h k =>
    cases e
    rcases sqt_old rs h with (h | ⟨o, h⟩) | ⟨o, _, _, h1, h2, _⟩
    · exact .base (.tup h)
    · exact .fTuple h
    · exact .kTuple h1 h2
  | @ref n a h =>
    have e' : (match st[n]? with | some (.lst _) => some "list" | some (.dct _) => some "dict" | _ => none) = some t := e
    split at e'
    · rename_i ws q
      cases e'
      obtain ⟨vs, h1, _⟩ := rs.obj n _ a q h
      exact .base (.lst h1)
    · rename_i ws q
      cases e'
      obtain ⟨vs, h1, _⟩ := rs.obj n _ a q h
      exact .base (.dK h1)
    · cases e'
  | cst v => cases e
theorem cs_isi : CallS X g (.builtin "isinstance") cIsi := by
  intro pins s σ H xs us Q I r h
  obtain ⟨st, ι, ws, rs, rv, p⟩ := h
  unfold cIsi at p
  split at p
  · split at p
    · rename_i t e1
      split at p
      · rename_i b e2
        cases rv with
        | cons ra rb =>
          cases rb with
          | cons rb rc =>
            cases rc
            cases rb
            exact call_isi pins s σ H _ us Q I r ⟨_, _, .type t, .type _, b, rfl, .ty _, ty_of rs ra e1, kit_ty (isiB_kit e2), p H ι _ Ext.refl rs (.bl _)⟩
      · exact (show False from p).elim
    · exact (show False from p).elim
  · exact (show False from p).elim

/-! ### methods of texts and lists -/
def MetS (X : Cx) (g : Gx) (id : String) (op : Va → List Va → Mo Va) : Prop :=
  MtR X id fun x xs H Q => ∃ st ι w ws, RS X.K g st H ι ∧ RV X.K g.H0 H ι w x ∧ RVs X.K g.H0 H ι ws xs ∧ Pst X.K g (rV X.K g) (op w ws st) H ι Q (fun _ _ _ => False)
def isT (T : String) (st : Sto) : Va → Bool
  | .str _ => decide (T = "str")
  | .scr _ => decide (T = "list")
  | .ref n => match st[n]? with
    | some (.lst _) => decide (T = "list")
    | some (.dct _) => decide (T = "dict")
    | _ => false
  | _ => false
theorem isT_ok {T : String} {st : Sto} {H : Hp} {ι : List Addr} {w : Va} {v : V} (rs : RS X.K g st H ι) (r : RV X.K g.H0 H ι w v) (e : isT T st w = true) : tyV X.K T v H := by
  cases r with
  | str x =>
    have e' : T = "str" := of_decide_eq_true e
    exact e'
  | scr h k => exact .inl ⟨of_decide_eq_true e, _, sql_old rs h⟩
  | @ref n a h =>
    have e' : (match st[n]? with | some (.lst _) => decide (T = "list") | some (.dct _) => decide (T = "dict") | _ => false) = true := e
    split at e'
    · rename_i ws q
      obtain ⟨vs, h1, _⟩ := rs.obj n _ a q h
      exact .inl ⟨of_decide_eq_true e', _, .inl (.inl h1)⟩
    · rename_i ws q
      obtain ⟨vs, h1, _⟩ := rs.obj n _ a q h
      exact .inr (.inr (.inl ⟨of_decide_eq_true e', .inl ⟨_, h1⟩⟩))
    · cases e'
  | _ => cases e
def eMt (T : String) (op : Va → List Va → Mo Va) (m : En → Mo Va) (ma : En → Mo (List Va)) : En → Mo Va := fun env st => bnd (m env st) fun w st1 => if isT T st1 w = true then bnd (ma env st1) fun ws st2 => op w ws st2 else .no
def NoXM (op : Va → List Va → Mo Va) : Prop := ∀ w ws st, NoX (op w ws st)
theorem j_mt {o e : Expr} {es : List Expr} {T id : String} {name : Str} {apos cpos : Pos} {op : Va → List Va → Mo Va} {m : En → Mo Va} {ma : En → Mo (List Va)} (h1 : PlainAttrs T) (h2 : Slot T name id) (h3 : typeOf (.builtin id) = pure (.type "method_descriptor"))
    (hm : MetS X g id op) (n : NoXM op) (ho : JE X g W o m) (ha : JA X g W (e :: es) ma) (q1 : attributeBase o name X.env (eval o X.env) = eval o X.env := by rfl)
    (q2 : ((backTo cpos (starEach (e :: es) X.env)).all (fun x => !x.1) && (backToKw cpos (keywordEach [] X.env)).all (fun x => x.1.isSome) && decide ((e :: es).length + ([] : List Keyword).length + (if ([] : List Keyword).isEmpty = true then 0 else 1) < 30)) = true := by rfl)
    (q3 : (apos.endLine == cpos.line) = true := by rfl) (q4 : starEach (e :: es) X.env = (false, eval e X.env) :: starEach es X.env := by rfl) (q5 : (backTo cpos (starEach es X.env)).any (·.1) = false := by rfl) :
    JE X g W (.Call (.Attribute o name apos) (e :: es) [] cpos) (eMt T op m ma) := ⟨PE.imp (pe_bm h1 h2 h3 hm ho.pe ha.pa q1 q2 q3 q4 q5) fun σ H Q q => by
  obtain ⟨env, st, ι, rs, re, p⟩ := q
  refine ⟨env, st, ι, rs, re, (Pst.bind (rel := rV X.K g) p).imp (fun x H1 q => ?_) fun _ _ _ q => q⟩
  obtain ⟨w, st1, ι1, ex, rs1, r1, p1⟩ := q
  split at p1
  · rename_i hT
    refine ⟨isT_ok rs1 r1 hT, env, st1, ι1, rs1, re.mono ex, (Pst.bind (rel := rVs X.K g) p1).imp (fun xs H2 q => ?_) fun _ _ _ q => q⟩
    obtain ⟨ws, st2, ι2, ex2, rs2, r2, p2⟩ := q
    exact ⟨st2, ι2, w, ws, rs2, r1.mono ex2, r2, p2.nox (n _ _ _)⟩
  · exact (show False from p1).elim⟩
theorem j_mt0 {o : Expr} {T id : String} {name : Str} {apos cpos : Pos} {op : Va → List Va → Mo Va} {m : En → Mo Va} (h1 : PlainAttrs T) (h2 : Slot T name id) (h3 : typeOf (.builtin id) = pure (.type "method_descriptor"))
    (hm : MetS X g id op) (n : NoXM op) (ho : JE X g W o m) (q1 : attributeBase o name X.env (eval o X.env) = eval o X.env := by rfl) (q3 : (apos.endLine == cpos.line) = true := by rfl) :
    JE X g W (.Call (.Attribute o name apos) [] [] cpos) (eMt T op m aNil) := ⟨PE.imp (pe_bm0 h1 h2 h3 hm ho.pe q1 q3) fun σ H Q q => by
  obtain ⟨env, st, ι, rs, re, p⟩ := q
  refine ⟨env, st, ι, rs, re, (Pst.bind (rel := rV X.K g) p).imp (fun x H1 q => ?_) fun _ _ _ q => q⟩
  obtain ⟨w, st1, ι1, ex, rs1, r1, p1⟩ := q
  split at p1
  · rename_i hT
    exact ⟨isT_ok rs1 r1 hT, st1, ι1, w, [], rs1, r1, .nil, Pst.nox (n w [] st1) (show Pst X.K g (rV X.K g) (op w [] st1) H1 ι1 Q _ from p1)⟩
  · exact (show False from p1).elim⟩
def strsW (ys : List Str) : List Va := ys.map Va.str
theorem strs_rv {H0 H : Hp} {ι : List Addr} : ∀ ys : List Str, RVs X.K H0 H ι (strsW ys) (ys.map V.str)
  | [] => .nil
  | y :: ys => .cons (.str y) (strs_rv ys)
def mSplit : Va → List Va → Mo Va := fun w ws st => match w, ws with
  | .str a, [.str b] => if (b.length == 0) = false ∧ a.length + 2 ≤ 16777216 then .ok (.ref st.length) (st ++ [.lst (strsW (Txt.split a b))]) else .no
  | _, _ => .no
theorem nox_mSplit : NoXM mSplit := by intro a b st c fs s h; unfold mSplit at h; split at h <;> (try split at h) <;> cases h
theorem ms_split : MetS X g "str.split" mSplit := by
  intro pins s σ H x xs v us Q I rx rxs h
  obtain ⟨st, ι, w, ws, rs, rw', rv, p⟩ := h
  unfold mSplit at p
  split at p
  · split at p
    · rename_i hc
      cases rw'
      cases rv with
      | cons ra rb =>
        cases rb
        cases ra
        refine mt_split pins s σ H _ _ v us Q I rx rxs ⟨_, _, rfl, rfl, hc.1, le_line hc.2, fun p' hp => ?_⟩
        obtain ⟨x1, x2, x3⟩ := new_lst rs (strs_rv (X := X) (H0 := g.H0) (ι := ι) (H := H) _) hp
        exact p _ _ _ x1 x2 x3
    · exact (show False from p).elim
  · exact (show False from p).elim
def unstr : List Va → Option (List Str)
  | [] => some []
  | .str x :: r => (unstr r).map (x :: ·)
  | _ :: _ => none
theorem unstr_eq : ∀ {ws : List Va} {ys : List Str}, unstr ws = some ys → ws = strsW ys
  | [], _, e => by cases e; rfl
  | .str x :: ws, _, e => by
    have e' : (unstr ws).map (x :: ·) = _ := e
    rw [Option.map_eq_some_iff] at e'
    obtain ⟨ys, e1, rfl⟩ := e'
    rw [unstr_eq e1]
    rfl
  | .non :: _, _, e => by cases e
  | .bl _ :: _, _, e => by cases e
  | .int _ :: _, _, e => by cases e
  | .tup _ :: _, _, e => by cases e
  | .scr _ :: _, _, e => by cases e
  | .ktp _ :: _, _, e => by cases e
  | .ref _ :: _, _, e => by cases e
  | .cst _ :: _, _, e => by cases e
  | .exn :: _, _, e => by cases e
theorem strs_inv {H0 H : Hp} {ι : List Addr} : ∀ {ys : List Str} {vs : List V}, RVs X.K H0 H ι (strsW ys) vs → vs = ys.map V.str
  | [], _, .nil => rfl
  | y :: ys, _, .cons r t => by
    cases r
    rw [strs_inv t]
    rfl
def mJoin : Va → List Va → Mo Va := fun w ws st => match w, ws with
  | .str a, [.ref n] => match st[n]? with
    | some (.lst xs) => match unstr xs with
      | some ys => if (ys.map (·.length)).sum + ys.length * a.length ≤ 16777216 then .ok (.str (Txt.join a ys)) st else .no
      | none => .no
    | _ => .no
  | _, _ => .no
theorem nox_mJoin : NoXM mJoin := by intro a b st c fs s h; unfold mJoin at h; split at h <;> (try split at h) <;> (try split at h) <;> (try split at h) <;> cases h
theorem ms_join : MetS X g "str.join" mJoin := by
  intro pins s σ H x xs v us Q I rx rxs h
  obtain ⟨st, ι, w, ws, rs, rw', rv, p⟩ := h
  unfold mJoin at p
  split at p
  · split at p
    · rename_i n _ zs e0
      split at p
      · rename_i ys e1
        split at p
        · rename_i hl
          cases rw'
          cases rv with
          | cons ra rb =>
            cases rb
            obtain ⟨a, vs, rfl, _, h1, k1⟩ := rs.list ra e0
            rw [unstr_eq e1] at k1
            rw [strs_inv k1] at h1
            exact mt_join pins s σ H _ _ v us Q I rx rxs ⟨_, a, ys, rfl, rfl, .inl (.inl (.inl h1)), hl, p H ι _ Ext.refl rs (.str _)⟩
        · exact (show False from p).elim
      · exact (show False from p).elim
    · exact (show False from p).elim
  · exact (show False from p).elim
def mAppend : Va → List Va → Mo Va := fun w ws st => match w, ws with
  | .ref n, [y] => match st[n]? with
    | some (.lst xs) => if xs.length < 16777216 then .ok .non (st.set n (.lst (xs ++ [y]))) else .no
    | _ => .no
  | _, _ => .no
theorem nox_mAppend : NoXM mAppend := by intro a b st c fs s h; unfold mAppend at h; split at h <;> (try split at h) <;> (try split at h) <;> cases h
theorem lt_line {n : Nat} (h : n < 16777216) : n < sizeLine := by rw [sizeLine_eq]; exact h
/-- a list of the store is changed -/
theorem put_lst {st : Sto} {H : Hp} {ι : List Addr} {n : Nat} {a : Addr} {ws : List Va} {vs : List V} (rs : RS X.K g st H ι) (ha : ι[n]? = some a) (r : RVs X.K g.H0 H ι ws vs) :
    Ext X.K H ι (upd H a (.lst vs)) ι ∧ RS X.K g (st.set n (.lst ws)) (upd H a (.lst vs)) ι := by
  obtain ⟨u, hu, ow⟩ := rs.mem (List.mem_of_getElem? ha)
  have e : Ext X.K H ι (upd H a (.lst vs)) ι := ext_own (n := n) rs hu ow
  exact ⟨e, rs.put ha ⟨vs, upd_same, r.mono e⟩⟩
theorem ms_append : MetS X g "list.append" mAppend := by
  intro pins s σ H x xs v us Q I rx rxs h
  obtain ⟨st, ι, w, ws, rs, rw', rv, p⟩ := h
  unfold mAppend at p
  split at p
  · split at p
    · rename_i n y _ zs e0
      split at p
      · rename_i hl
        obtain ⟨a, vs, rfl, ha, h1, k1⟩ := rs.list rw' e0
        cases rv with
        | cons ra rb =>
          cases rb
          refine mt_append pins s σ H _ _ v us Q I rx rxs ⟨a, vs, _, rfl, rfl, h1, lt_line (by rw [← k1.length]; exact hl), ?_⟩
          obtain ⟨x1, x2⟩ := put_lst rs ha (k1.append (.cons ra .nil))
          exact p _ _ _ x1 x2 .non
      · exact (show False from p).elim
    · exact (show False from p).elim
  · exact (show False from p).elim
def mExtend : Va → List Va → Mo Va := fun w ws st => match w, ws with
  | .ref n, [.ref m] => match st[n]?, st[m]? with
    | some (.lst xs), some (.lst ys) => if xs.length + ys.length ≤ 16777216 then .ok .non (st.set n (.lst (xs ++ ys))) else .no
    | _, _ => .no
  | _, _ => .no
theorem nox_mExtend : NoXM mExtend := by intro a b st c fs s h; unfold mExtend at h; split at h <;> (try split at h) <;> (try split at h) <;> cases h
theorem ms_extend : MetS X g "list.extend" mExtend := by
  intro pins s σ H x xs v us Q I rx rxs h
  obtain ⟨st, ι, w, ws, rs, rw', rv, p⟩ := h
  unfold mExtend at p
  split at p
  · split at p
    · rename_i n m _ _ zs ys e0 e1
      split at p
      · rename_i hl
        obtain ⟨a, vs, rfl, ha, h1, k1⟩ := rs.list rw' e0
        cases rv with
        | cons ra rb =>
          cases rb
          obtain ⟨b, us', rfl, hb, h2, k2⟩ := rs.list ra e1
          refine mt_extend pins s σ H _ _ v us Q I rx rxs ⟨a, b, vs, us', rfl, rfl, h1, h2, le_line (by rw [← k1.length, ← k2.length]; exact hl), ?_⟩
          obtain ⟨x1, x2⟩ := put_lst rs ha (k1.append k2)
          exact p _ _ _ x1 x2 .non
      · exact (show False from p).elim
    · exact (show False from p).elim
  · exact (show False from p).elim
def mPop : Va → List Va → Mo Va := fun w ws st => match w, ws with
  | .ref n, [] => match st[n]? with
    | some (.lst xs) => match xs[xs.length - 1]? with
      | some y => .ok y (st.set n (.lst xs.dropLast))
      | none => .no
    | _ => .no
  | _, _ => .no
theorem nox_mPop : NoXM mPop := by intro a b st c fs s h; unfold mPop at h; split at h <;> (try split at h) <;> (try split at h) <;> cases h
theorem RVs.dropLast {K : PySem.W.Frag} {H0 H : Hp} {ι : List Addr} {ws : List Va} {vs : List V} (k : RVs K H0 H ι ws vs) : RVs K H0 H ι ws.dropLast vs.dropLast := by
  rw [List.dropLast_eq_take, List.dropLast_eq_take, k.length]
  exact k.take _
theorem ms_pop : MetS X g "list.pop" mPop := by
  intro pins s σ H x xs v us Q I rx rxs h
  obtain ⟨st, ι, w, ws, rs, rw', rv, p⟩ := h
  unfold mPop at p
  split at p
  · split at p
    · rename_i n _ zs e0
      split at p
      · rename_i y e1
        obtain ⟨a, vs, rfl, ha, h1, k1⟩ := rs.list rw' e0
        cases rv
        obtain ⟨y', e2, ry⟩ := k1.get e1
        rw [k1.length] at e2
        refine mt_pop pins s σ H _ _ v us Q I rx rxs ⟨a, vs, y', rfl, rfl, h1, e2, ?_⟩
        obtain ⟨x1, x2⟩ := put_lst rs ha k1.dropLast
        exact p _ _ _ x1 x2 (ry.mono x1)
      · exact (show False from p).elim
    · exact (show False from p).elim
  · exact (show False from p).elim

/-! ### attributes of instances -/
def eFld (cs : List Nat) (f : Str) (m : En → Mo Va) : En → Mo Va := fun env st => bnd (m env st) fun w st1 => match w with
  | .ref n => match st1[n]? with
    | some (.ins c fs) => if c ∈ cs then (match fs.lookup f with
      | some x => .ok x st1
      | none => .no) else .no
    | _ => .no
  | _ => .no
theorem pf_lookup {H : Hp} {ι : List Addr} {f : Str} : ∀ {fs : List (Str × Va)} {fs' : List (Str × V)} {x : Va}, PF X.K g H ι fs fs' → fs.lookup f = some x → ∃ v, fs'.lookup f = some v ∧ RV X.K g.H0 H ι x v
  | _, _, _, .nil, e => by cases e
  | (k, y) :: fs, (k', y') :: fs', x, .cons r t, e => by
    obtain ⟨r1, r2⟩ := r
    have r1' : k = k' := r1
    subst r1'
    rw [List.lookup_cons] at e ⊢
    cases h : (f == k) with
    | true =>
      rw [h] at e
      cases e
      exact ⟨_, rfl, r2⟩
    | false =>
      rw [h] at e
      exact pf_lookup t e
/-- what is asked of a class of the program: its attributes are plain -/
def FldOk (K : PySem.W.Frag) (g : Gx) (cs : List Nat) (f : Str) : Prop := ∀ c ∈ cs, Cls K (g.cls c) ∧ NoAttr K (g.cls c) f
theorem j_fld {o : Expr} {f : Str} {cs : List Nat} {m : En → Mo Va} (hf : FldOk X.K g cs f) (ho : JE X g W o m) (hb : attributeBase o f X.env (eval o X.env) = eval o X.env := by rfl) : JE X g W (.Attribute o f pos) (eFld cs f m) := ⟨PE.imp (pe_fld ho.pe hb) fun σ H Q q => by
  obtain ⟨env, st, ι, rs, re, p⟩ := q
  refine ⟨env, st, ι, rs, re, (Pst.bind (rel := rV X.K g) p).imp (fun x H1 q => ?_) fun _ _ _ q => q⟩
  obtain ⟨w, st1, ι1, ex, rs1, r1, p1⟩ := q
  cases w with
  | ref n =>
    cases r1 with
    | @ref _ a ha =>
      dsimp only at p1
      split at p1
      · rename_i c fs e0
        split at p1
        · rename_i hc
          split at p1
          · rename_i x e1
            obtain ⟨dx, fs', h1, k1⟩ := rs1.obj n _ a e0 ha
            obtain ⟨v, e2, rv⟩ := pf_lookup k1 e1
            exact ⟨a, _, dx, fs', v, rfl, h1, (hf c hc).1, (hf c hc).2, e2, p1 H1 ι1 v Ext.refl rs1 rv⟩
          · exact (show False from p1).elim
        · exact (show False from p1).elim
      · exact (show False from p1).elim
  | _ => exact (show False from p1).elim⟩
def putW (f : Str) (v : Va) : List (Str × Va) → List (Str × Va)
  | [] => [(f, v)]
  | (k, x) :: r => if k = f then (k, v) :: r else (k, x) :: putW f v r
theorem pf_put {H : Hp} {ι : List Addr} {f : Str} {x : Va} {v : V} (r : RV X.K g.H0 H ι x v) : ∀ {fs : List (Str × Va)} {fs' : List (Str × V)}, PF X.K g H ι fs fs' → PF X.K g H ι (putW f x fs) (putF f v fs')
  | _, _, .nil => .cons ⟨rfl, r⟩ .nil
  | (k, y) :: fs, (k', y') :: fs', .cons q t => by
    obtain ⟨q1, q2⟩ := q
    have q1' : k = k' := q1
    subst q1'
    unfold putW putF
    by_cases h : k = f
    · rw [if_pos h, if_pos h]
      exact .cons ⟨rfl, r⟩ t
    · rw [if_neg h, if_neg h]
      exact .cons ⟨rfl, q2⟩ (pf_put r t)
theorem pf_length {H : Hp} {ι : List Addr} {κ : Type} : ∀ {fs : List (κ × Va)} {fs' : List (κ × V)}, PF X.K g H ι fs fs' → fs.length = fs'.length := fun h => Paired.length h
def fldT (cs : List Nat) (f : Str) (env : En) (y : Va) : Va → Sto → Fl := fun w st2 => match w with
  | .ref n => match st2[n]? with
    | some (.ins c fs) => if c ∈ cs ∧ fs.length < 1000 then .nx env (st2.set n (.ins c (putW f y fs))) else .no
    | _ => .no
  | _ => .no
def sFld (cs : List Nat) (f : Str) (mo mv : En → Mo Va) : Sm := fun env st => bS env (mv env st) fun y st1 => bS env (mo env st1) (fldT cs f env y)
theorem put_ins {st : Sto} {H : Hp} {ι : List Addr} {n c : Nat} {a dx : Addr} {fs : List (Str × Va)} {fs' : List (Str × V)} (rs : RS X.K g st H ι) (ha : ι[n]? = some a) (r : PF X.K g H ι fs fs') :
    Ext X.K H ι (upd H a (.ins (g.cls c) dx fs')) ι ∧ RS X.K g (st.set n (.ins c fs)) (upd H a (.ins (g.cls c) dx fs')) ι := by
  obtain ⟨u, hu, ow⟩ := rs.mem (List.mem_of_getElem? ha)
  have e : Ext X.K H ι (upd H a (.ins (g.cls c) dx fs')) ι := ext_own (n := n) rs hu ow
  exact ⟨e, rs.put ha ⟨dx, fs', upd_same, PF.mono e r⟩⟩
theorem js_fld {o value : Expr} {f : Str} {pos' : Pos} {cs : List Nat} {mo mv : En → Mo Va} (hf : FldOk X.K g cs f) (ho : JE X g W o mo) (hv : JE X g W value mv) (hs : swapsWith value (some (.Attribute o f pos')) pos.line X.env = pure false := by rfl) :
    JS X g W (.Assign [.Attribute o f pos'] value pos) (sFld cs f mo mv) := ⟨PS.imp (ps_fld ho.pe hv.pe hs) fun D σ H q => by
  obtain ⟨env, st, ι, rs, re, p⟩ := tG_bS (rel := rV X.K g) q
  refine ⟨env, st, ι, rs, re, p.imp (fun y H1 q => ?_) fun _ _ _ q => q⟩
  obtain ⟨env1, wy, st1, ι1, rs1, re1, ry, p1⟩ := q
  refine ⟨env1, st1, ι1, rs1, re1, ?_⟩
  have p1' : PstS X.K g W (bS env1 (mo env1 st1) (fldT cs f env1 wy)) H1 ι1 D := p1
  revert p1'
  show PstS X.K g W (bS env1 (mo env1 st1) (fldT cs f env1 wy)) H1 ι1 D → Pst X.K g (rV X.K g) (mo env1 st1) H1 ι1 _ _
  clear p1
  generalize mo env1 st1 = r
  intro p1
  cases r with
  | no => exact p1
  | exc c fs st2 => exact fun H' ι' d fs' e rs' hd pf => p1 H' ι' σ d fs' e rs' (re1.mono e) hd pf
  | ok w st2 =>
    intro H2 ι2 x e2 rs2 r2
    have p2 : PstS X.K g W (fldT cs f env1 wy w st2) H2 ι2 D := PstS.shift (r := fldT cs f env1 wy w st2) p1 e2
    unfold fldT at p2
    cases w with
    | ref n =>
      cases r2 with
      | @ref _ a ha =>
        dsimp only at p2
        split at p2
        · rename_i c fs e0
          split at p2
          · rename_i hc
            obtain ⟨dx, fs', h1, k1⟩ := rs2.obj n _ a e0 ha
            refine ⟨a, _, dx, fs', rfl, h1, (hf c hc.1).1, (hf c hc.1).2, by rw [← pf_length (X := X) (g := g) k1]; exact hc.2, ?_⟩
            obtain ⟨x1, x2⟩ := put_ins (c := c) (dx := dx) rs2 ha (pf_put (f := f) (ry.mono e2) k1)
            exact p2 _ _ σ x1 x2 ((re1.mono e2).mono x1)
          · exact (show False from p2).elim
        · exact (show False from p2).elim
    | _ => exact (show False from p2).elim⟩
/-- self.f += e, ints -/
def augT (f : Str) (env : En) (n c : Nat) (i : Int) : Va → Sto → Fl := fun y st2 => match y with
  | .int j => match st2[n]? with
    | some (.ins c' fs') => if c' = c ∧ fs'.length < 1000 then .nx env (st2.set n (.ins c' (putW f (.int (i + j)) fs'))) else .no
    | _ => .no
  | _ => .no
def sAugF (cs : List Nat) (f : Str) (mo mv : En → Mo Va) : Sm := fun env st => bS env (mo env st) fun w st1 => match w with
  | .ref n => match st1[n]? with
    | some (.ins c fs) => if c ∈ cs then (match fs.lookup f with
      | some (.int i) => bS env (mv env st1) (augT f env n c i)
      | _ => .no) else .no
    | _ => .no
  | _ => .no
theorem js_augF {o value : Expr} {f : Str} {tpos : Pos} {cs : List Nat} {mo mv : En → Mo Va} (hf : FldOk X.K g cs f) (ho : JE X g W o mo) (hv : JE X g W value mv) : JS X g W (.AugAssign (.Attribute o f tpos) .Add value pos) (sAugF cs f mo mv) := ⟨PS.imp (ps_fldaug ho.pe hv.pe in_add) fun D σ H q => by
  obtain ⟨env, st, ι, rs, re, p⟩ := tG_bS (rel := rV X.K g) q
  refine ⟨env, st, ι, rs, re, p.imp (fun x H1 q => ?_) fun _ _ _ q => q⟩
  obtain ⟨env1, w, st1, ι1, rs1, re1, r1, p1⟩ := q
  cases w with
  | ref n =>
    cases r1 with
    | @ref _ a ha =>
      dsimp only at p1
      split at p1
      · rename_i c fs e0
        split at p1
        · rename_i hc
          split at p1
          · rename_i i e1
            obtain ⟨dx, fs', h1, k1⟩ := rs1.obj n _ a e0 ha
            obtain ⟨v, e2, rv⟩ := pf_lookup k1 e1
            cases rv
            refine ⟨a, _, dx, fs', _, rfl, h1, (hf c hc).1, (hf c hc).2, e2, env1, st1, ι1, rs1, re1, ?_⟩
            revert p1
            show PstS X.K g W (bS env1 (mv env1 st1) (augT f env1 n c i)) H1 ι1 D → Pst X.K g (rV X.K g) (mv env1 st1) H1 ι1 _ _
            generalize mv env1 st1 = r
            intro p1
            cases r with
            | no => exact (show False from p1).elim
            | exc c fs st2 => exact fun H' ι' d fs' e rs' hd pf => p1 H' ι' σ d fs' e rs' (re1.mono e) hd pf
            | ok y st2 =>
              intro H2 ι2 vy e3 rs2 r2
              have p2 : PstS X.K g W (augT f env1 n c i y st2) H2 ι2 D := PstS.shift (r := augT f env1 n c i y st2) p1 e3
              unfold augT at p2
              cases y with
              | int j =>
                cases r2
                dsimp only at p2
                split at p2
                · rename_i c' fs2 e4
                  split at p2
                  · rename_i hc'
                    obtain ⟨rfl, hl⟩ := hc'
                    obtain ⟨dx2, fs2', h2, k2⟩ := rs2.obj n _ a e4 (e3.get ha)
                    refine ⟨i, j, rfl, rfl, dx2, fs2', h2, by rw [← pf_length (X := X) (g := g) k2]; exact hl, ?_⟩
                    obtain ⟨x1, x2⟩ := put_ins (c := c') (dx := dx2) rs2 (e3.get ha) (pf_put (f := f) (RV.int (i + j)) k2)
                    exact p2 _ _ σ x1 x2 ((re1.mono e3).mono x1)
                  · exact (show False from p2).elim
                · exact (show False from p2).elim
              | _ => exact (show False from p2).elim
          · exact (show False from p1).elim
        · exact (show False from p1).elim
      · exact (show False from p1).elim
  | _ => exact (show False from p1).elim⟩
end
end Sh

set_option Elab.async false
set_option linter.all false
set_option maxRecDepth 100000
set_option maxHeartbeats 4000000
namespace Sh
open PySem PySem.Spec PyProof.Rows L2

/-! ### defs: the promise that a def does what a plain function does -/
abbrev Fn := List Va → Mo Va
def spM (K : PySem.W.Frag) (g : Gx) (n : Nat) (F : Fn) : Sp := fun vs H Q E => ∃ ws st ι, ws.length = n ∧ RS K g st H ι ∧ RVs K g.H0 H ι ws vs ∧ Pst K g (rV K g) (F ws st) H ι Q E
/-- a def of the text, callable: at most k calls deep -/
structure DefOk (P : Program) (w : World) (K : PySem.W.Frag) (mg : Str → Option Value) (base : Heap) (g : Gx) (k : Nat) (x : Str) (n : Nat) (F : Fn) : Prop where
  ex : ∃ (f : Addr) (fd : FuncData) (ps : List Str), FnOk P w K mg base (L2.CX P w) k f fd ps (spM K g n F) ∧ ps.length = n ∧ Binds K fd ps [] ∧ mg x = some (.ref f) ∧ PySem.W.keepIn K (.ref f) = true
/-- .. with defaults for the last parameters -/
structure DefOkD (P : Program) (w : World) (K : PySem.W.Frag) (mg : Str → Option Value) (base : Heap) (g : Gx) (k : Nat) (x : Str) (n : Nat) (dws : List Va) (F : Fn) : Prop where
  ex : ∃ (f : Addr) (fd : FuncData) (ps : List Str) (ds : List Value) (dvs : List V), FnOk P w K mg base (L2.CX P w) k f fd ps (spM K g n F) ∧ ps.length = n ∧ Binds K fd ps ds ∧ Vals dvs ds ∧ (∀ H ι, RVs K g.H0 H ι dws dvs) ∧ mg x = some (.ref f) ∧ PySem.W.keepIn K (.ref f) = true
/-- a method of the class c -/
structure MethOk (P : Program) (w : World) (K : PySem.W.Frag) (mg : Str → Option Value) (base : Heap) (g : Gx) (k : Nat) (c : Nat) (m : Str) (n : Nat) (F : Fn) : Prop where
  ex : ∃ (f : Addr) (fd : FuncData) (ps : List Str), FnOk P w K mg base (L2.CX P w) k f fd ps (spM K g n F) ∧ ps.length = n ∧ Binds K fd ps [] ∧ Meth K (g.cls c) m f
  cl : Cls K (g.cls c)
/-- a class that is made by its __init__ -/
structure MakeOk (P : Program) (w : World) (K : PySem.W.Frag) (mg : Str → Option Value) (base : Heap) (g : Gx) (k : Nat) (c : Nat) (x : Str) (n : Nat) (F : Fn) : Prop where
  ex : ∃ (f : Addr) (fd : FuncData) (ps : List Str), FnOk P w K mg base (L2.CX P w) k f fd ps (spM K g n F) ∧ ps.length = n ∧ Binds K fd ps [] ∧ Mk K (g.cls c) f ∧ mg x = some (.ref (g.cls c))
def lenOk (n : Nat) (F : Fn) : Fn := fun ws st => if ws.length = n then F ws st else .no
section
variable {X : Cx} {g : Gx} {W : WX} {pos : Pos}
theorem j_call {k n : Nat} {F : Fn} {x : Str} {p : Pos} {e : Expr} {es : List Expr} {m : En → Mo (List Va)} (D : DefOk X.prog X.w X.K X.mg X.base g k x n F) (hr : Room k X.A) (tk : Takes X W) (ha : JA X g W (e :: es) m) (hg : Gl X x := by rfl)
    (hdb : (x == ("__debug__" : Str)) = false := by decide) (he : starEach (e :: es) X.env = (false, eval e X.env) :: starEach es X.env := by rfl) (hpl : (backTo pos (starEach es X.env)).any (·.1) = false := by rfl) :
    JE X g W (.Call (.Name x p) (e :: es) [] pos) (eA (lenOk n F) m) := by
  obtain ⟨f, fd, ps, h1, h2, h3, h4, h5⟩ := D.ex
  refine ⟨PE.imp (pe_callS h1 hr hg h4 h5 h3 (fun σ => passAt tk σ) ha.pa hdb he hpl) fun σ H Q q => ?_⟩
  obtain ⟨env, st, ι, rs, re, p⟩ := pst_eA q
  refine ⟨env, st, ι, rs, re, p.imp (fun xs H1 q => ?_) fun _ _ _ q => q⟩
  obtain ⟨st1, ι1, ws, rs1, r1, p1⟩ := q
  unfold lenOk at p1
  split at p1
  · rename_i hl
    exact ⟨ws, st1, ι1, hl, rs1, r1, p1⟩
  · exact (show False from p1).elim
theorem j_callD {k n : Nat} {F : Fn} {dws : List Va} {x : Str} {p : Pos} {e : Expr} {es : List Expr} {m : En → Mo (List Va)} (D : DefOkD X.prog X.w X.K X.mg X.base g k x n dws F) (hr : Room k X.A) (tk : Takes X W) (ha : JA X g W (e :: es) m) (hg : Gl X x := by rfl)
    (hdb : (x == ("__debug__" : Str)) = false := by decide) (he : starEach (e :: es) X.env = (false, eval e X.env) :: starEach es X.env := by rfl) (hpl : (backTo pos (starEach es X.env)).any (·.1) = false := by rfl) :
    JE X g W (.Call (.Name x p) (e :: es) [] pos) (eA (fun ws => lenOk n F (ws ++ dws)) m) := by
  obtain ⟨f, fd, ps, ds, dvs, h1, h2, h3, hd, hw, h4, h5⟩ := D.ex
  refine ⟨PE.imp (pe_callSD h1 hr hg h4 h5 h3 hd (fun σ => passAt tk σ) ha.pa hdb he hpl) fun σ H Q q => ?_⟩
  obtain ⟨env, st, ι, rs, re, p⟩ := pst_eA q
  refine ⟨env, st, ι, rs, re, p.imp (fun xs H1 q => ?_) fun _ _ _ q => q⟩
  obtain ⟨st1, ι1, ws, rs1, r1, p1⟩ := q
  unfold lenOk at p1
  split at p1
  · rename_i hl
    exact ⟨ws ++ dws, st1, ι1, hl, rs1, r1.append (hw _ _), p1⟩
  · exact (show False from p1).elim
theorem pe_call0E {CX : CXT} {k : Nat} {f : Addr} {fd : FuncData} {ps : List Str} {sp : Sp} {E : L2.St → XK} {x : Str} {p : Pos} (F : FnOk X.prog X.w X.K X.mg X.base CX k f fd ps sp) (hr : Room k X.A) (hg : Gl X x) (hm : X.mg x = some (.ref f)) (hk : PySem.W.keepIn X.K (.ref f) = true)
    (hb : Binds X.K fd ps []) (hx : ∀ σ, PassesAt CX X σ (E σ)) (hdb : (x == ("__debug__" : Str)) = false) : PE X (.Call (.Name x p) [] [] pos) (fun σ H Q => sp [] H Q (E σ)) :=
  ⟨fun pins s σ H Q I h => wpAny_Call_Name_kw (ld_glob I hg hm (PySem.W.callWith_K0 I.kIn hk (run_fnS (us := []) F hr hb (hx σ) I .nil h)) hdb)⟩
theorem j_call0 {k : Nat} {F : Fn} {x : Str} {p : Pos} (D : DefOk X.prog X.w X.K X.mg X.base g k x 0 F) (hr : Room k X.A) (tk : Takes X W) (hg : Gl X x := by rfl)
    (hdb : (x == ("__debug__" : Str)) = false := by decide) : JE X g W (.Call (.Name x p) [] [] pos) (eA (lenOk 0 F) aNil) := by
  obtain ⟨f, fd, ps, h1, h2, h3, h4, h5⟩ := D.ex
  refine ⟨PE.imp (pe_call0E h1 hr hg h4 h5 h3 (fun σ => passAt tk σ) hdb) fun σ H Q q => ?_⟩
  obtain ⟨env, st, ι, rs, re, p⟩ := q
  exact ⟨[], st, ι, rfl, rs, .nil, p⟩
theorem pe_methE {pl : Sem Bool} {CX : CXT} {k : Nat} {C f : Addr} {fd : FuncData} {ps : List Str} {sp : Sp} {E : L2.St → XK} {o e : Expr} {es : List Expr} {ta : TE} {t : TA} {m : Str} {apos : Pos} (ho : PE X o ta) (c : Cls X.K C) (hm : Meth X.K C m f)
    (F : FnOk X.prog X.w X.K X.mg X.base CX k f fd ps sp) (hr : Room k X.A) (hb : Binds X.K fd ps []) (hx : ∀ σ, PassesAt CX X σ (E σ)) (ha : PA X (e :: es) t)
    (hst : starEach (e :: es) X.env = (false, eval e X.env) :: starEach es X.env) (hpl : (backTo pos (starEach es X.env)).any (·.1) = false)
    (ht : eval (.Call (.Attribute o m apos) (e :: es) [] pos) X.env = (do
      let ov ← eval o X.env
      standAt apos.atName
      let (f, first) ← holding [ov] (getMethod ov m pl)
      callWith pos f first (backTo pos (starEach (e :: es) X.env)) (backToKw pos (keywordEach [] X.env)))) :
    PE X (.Call (.Attribute o m apos) (e :: es) [] pos) (fun σ H Q => ta σ H fun x H1 => ∃ a dx fs, x = .ref a ∧ H1 a = some (.ins C dx fs) ∧ fs.lookup m = none ∧ t σ H1 fun vs H2 => sp (x :: vs) H2 Q (E σ)) := by
  refine ⟨fun pins s σ H Q I h => PySem.W.methodCall_KW (pl := pl) (thn (ho.run pins s σ H _ I h) fun u s1 hu => ?_) ht⟩
  obtain ⟨x, H1, I1, rx, a, dx, fs, ex, ea, l, q⟩ := hu
  subst ex
  obtain rfl : u = Value.ref a := rx
  refine getmeth_ok I1 ea c hm l (PySem.W.callWith_K (first := [.ref a]) (h₀ := X.base) I.ok.mod.kin hm.kp (thn (ha.run pos pins s1 σ H1 _ I1 q) fun us s2 hv => ?_) hst hpl)
  obtain ⟨vs, H2, I2, r, q2⟩ := hv
  exact ⟨I2.kIn, run_fnS (us := .ref a :: us) (vs := .ref a :: vs) F hr hb (hx σ) I2 (.cons rfl r) q2⟩
theorem pe_methE0 {pl : Sem Bool} {CX : CXT} {k : Nat} {C f : Addr} {fd : FuncData} {ps : List Str} {sp : Sp} {E : L2.St → XK} {o : Expr} {ta : TE} {m : Str} {apos : Pos} (ho : PE X o ta) (c : Cls X.K C) (hm : Meth X.K C m f)
    (F : FnOk X.prog X.w X.K X.mg X.base CX k f fd ps sp) (hr : Room k X.A) (hb : Binds X.K fd ps []) (hx : ∀ σ, PassesAt CX X σ (E σ))
    (ht : eval (.Call (.Attribute o m apos) [] [] pos) X.env = (do
      let ov ← eval o X.env
      standAt apos.atName
      let (f, first) ← holding [ov] (getMethod ov m pl)
      callWith pos f first (backTo pos (starEach [] X.env)) (backToKw pos (keywordEach [] X.env)))) :
    PE X (.Call (.Attribute o m apos) [] [] pos) (fun σ H Q => ta σ H fun x H1 => ∃ a dx fs, x = .ref a ∧ H1 a = some (.ins C dx fs) ∧ fs.lookup m = none ∧ sp [x] H1 Q (E σ)) := by
  refine ⟨fun pins s σ H Q I h => PySem.W.methodCall_KW (pl := pl) (thn (ho.run pins s σ H _ I h) fun u s1 hu => ?_) ht⟩
  obtain ⟨x, H1, I1, rx, a, dx, fs, ex, ea, l, q⟩ := hu
  subst ex
  obtain rfl : u = Value.ref a := rx
  exact getmeth_ok I1 ea c hm l (PySem.W.callWith_K0 (first := [.ref a]) I1.kIn hm.kp (run_fnS (us := [.ref a]) (vs := [.ref a]) F hr hb (hx σ) I1 (.cons rfl .nil) q))
/-- o.m(..), o of the class c -/
def isIns (c : Nat) (m : Str) (st : Sto) : Va → Bool
  | .ref n => match st[n]? with
    | some (.ins c' fs) => decide (c' = c) && (fs.lookup m).isNone
    | _ => false
  | _ => false
theorem pf_none {H : Hp} {ι : List Addr} {f : Str} : ∀ {fs : List (Str × Va)} {fs' : List (Str × V)}, PF X.K g H ι fs fs' → fs.lookup f = none → fs'.lookup f = none
  | _, _, .nil, _ => rfl
  | (k, y) :: fs, (k', y') :: fs', .cons r t, e => by
    obtain ⟨r1, r2⟩ := r
    have r1' : k = k' := r1
    subst r1'
    rw [List.lookup_cons] at e ⊢
    cases h : (f == k) with
    | true =>
      rw [h] at e
      cases e
    | false =>
      rw [h] at e
      exact pf_none t e
theorem isIns_ok {c : Nat} {m : Str} {st : Sto} {H : Hp} {ι : List Addr} {w : Va} {v : V} (rs : RS X.K g st H ι) (r : RV X.K g.H0 H ι w v) (e : isIns c m st w = true) : ∃ a dx fs, v = .ref a ∧ H a = some (.ins (g.cls c) dx fs) ∧ fs.lookup m = none := by
  cases r with
  | @ref n a h =>
    have e' : (match st[n]? with | some (.ins c' fs) => decide (c' = c) && (fs.lookup m).isNone | _ => false) = true := e
    split at e'
    · rename_i c' fs q
      rw [Bool.and_eq_true, decide_eq_true_eq] at e'
      obtain ⟨rfl, e2⟩ := e'
      obtain ⟨dx, fs', h1, k1⟩ := rs.obj n _ a q h
      exact ⟨a, dx, fs', rfl, h1, pf_none k1 (Option.isNone_iff_eq_none.mp e2)⟩
    · cases e'
  | _ => cases e
def eMeth (c : Nat) (m : Str) (n : Nat) (F : Fn) (mo : En → Mo Va) (ma : En → Mo (List Va)) : En → Mo Va := fun env st => bnd (mo env st) fun w st1 => if isIns c m st1 w = true then bnd (ma env st1) fun ws st2 => lenOk n F (w :: ws) st2 else .no
theorem j_meth {pl : Sem Bool} {k n c : Nat} {F : Fn} {m : Str} {apos : Pos} {o e : Expr} {es : List Expr} {mo : En → Mo Va} {ma : En → Mo (List Va)} (D : MethOk X.prog X.w X.K X.mg X.base g k c m n F) (hr : Room k X.A) (tk : Takes X W) (ho : JE X g W o mo) (ha : JA X g W (e :: es) ma)
    (hst : starEach (e :: es) X.env = (false, eval e X.env) :: starEach es X.env := by rfl) (hpl : (backTo pos (starEach es X.env)).any (·.1) = false := by rfl)
    (ht : eval (.Call (.Attribute o m apos) (e :: es) [] pos) X.env = (do
      let ov ← eval o X.env
      standAt apos.atName
      let (f, first) ← holding [ov] (getMethod ov m pl)
      callWith pos f first (backTo pos (starEach (e :: es) X.env)) (backToKw pos (keywordEach [] X.env))) := by rfl) :
    JE X g W (.Call (.Attribute o m apos) (e :: es) [] pos) (eMeth c m n F mo ma) := by
  obtain ⟨f, fd, ps, h1, h2, h3, h4⟩ := D.ex
  refine ⟨PE.imp (pe_methE (pl := pl) ho.pe D.cl h4 h1 hr h3 (fun σ => passAt tk σ) ha.pa hst hpl ht) fun σ H Q q => ?_⟩
  obtain ⟨env, st, ι, rs, re, p⟩ := q
  refine ⟨env, st, ι, rs, re, (Pst.bind (rel := rV X.K g) p).imp (fun x H1 q => ?_) fun _ _ _ q => q⟩
  obtain ⟨w, st1, ι1, ex, rs1, r1, p1⟩ := q
  split at p1
  · rename_i hi
    obtain ⟨a, dx, fs, q1, q2, q3⟩ := isIns_ok rs1 r1 hi
    refine ⟨a, dx, fs, q1, q2, q3, env, st1, ι1, rs1, re.mono ex, (Pst.bind (rel := rVs X.K g) p1).imp (fun xs H2 q => ?_) fun _ _ _ q => q⟩
    obtain ⟨ws, st2, ι2, ex2, rs2, r2, p2⟩ := q
    unfold lenOk at p2
    split at p2
    · rename_i hl
      exact ⟨w :: ws, st2, ι2, hl, rs2, .cons (r1.mono ex2) r2, p2⟩
    · exact (show False from p2).elim
  · exact (show False from p1).elim
theorem j_meth0 {pl : Sem Bool} {k n c : Nat} {F : Fn} {m : Str} {apos : Pos} {o : Expr} {mo : En → Mo Va} (D : MethOk X.prog X.w X.K X.mg X.base g k c m n F) (hr : Room k X.A) (tk : Takes X W) (ho : JE X g W o mo)
    (ht : eval (.Call (.Attribute o m apos) [] [] pos) X.env = (do
      let ov ← eval o X.env
      standAt apos.atName
      let (f, first) ← holding [ov] (getMethod ov m pl)
      callWith pos f first (backTo pos (starEach [] X.env)) (backToKw pos (keywordEach [] X.env))) := by rfl) :
    JE X g W (.Call (.Attribute o m apos) [] [] pos) (eMeth c m n F mo aNil) := by
  obtain ⟨f, fd, ps, h1, h2, h3, h4⟩ := D.ex
  refine ⟨PE.imp (pe_methE0 (pl := pl) ho.pe D.cl h4 h1 hr h3 (fun σ => passAt tk σ) ht) fun σ H Q q => ?_⟩
  obtain ⟨env, st, ι, rs, re, p⟩ := q
  refine ⟨env, st, ι, rs, re, (Pst.bind (rel := rV X.K g) p).imp (fun x H1 q => ?_) fun _ _ _ q => q⟩
  obtain ⟨w, st1, ι1, ex, rs1, r1, p1⟩ := q
  split at p1
  · rename_i hi
    obtain ⟨a, dx, fs, q1, q2, q3⟩ := isIns_ok rs1 r1 hi
    refine ⟨a, dx, fs, q1, q2, q3, ?_⟩
    have p2 : Pst X.K g (rV X.K g) (lenOk n F [w] st1) H1 ι1 Q (fun c d H' => W c d σ H') := p1
    unfold lenOk at p2
    split at p2
    · rename_i hl
      exact ⟨[w], st1, ι1, hl, rs1, .cons r1 .nil, p2⟩
    · exact (show False from p2).elim
  · exact (show False from p1).elim
/-- C(..): its __init__ makes no error -/
def opMake (c n : Nat) (F : Fn) : Fn := fun ws st => match lenOk n F (.ref st.length :: ws) (st ++ [.ins c []]) with
  | .ok .non st2 => .ok (.ref st.length) st2
  | _ => .no
theorem j_make {k n c : Nat} {F : Fn} {x : Str} {p : Pos} {e : Expr} {es : List Expr} {m : En → Mo (List Va)} (D : MakeOk X.prog X.w X.K X.mg X.base g k c x n F) (hr : Room (k + 1) X.A) (ha : JA X g W (e :: es) m) (hg : Gl X x := by rfl)
    (hdb : (x == ("__debug__" : Str)) = false := by decide) (he : starEach (e :: es) X.env = (false, eval e X.env) :: starEach es X.env := by rfl) (hpl : (backTo pos (starEach es X.env)).any (·.1) = false := by rfl) :
    JE X g W (.Call (.Name x p) (e :: es) [] pos) (eA (opMake c n F) m) := by
  obtain ⟨f, fd, ps, h1, h2, h3, h4, h5⟩ := D.ex
  refine ⟨PE.imp (pe_make (dvs := []) h4 h1 hr hg h5 h3 .nil passL ha.pa hdb he hpl) fun σ H Q q => ?_⟩
  obtain ⟨env, st, ι, rs, re, p⟩ := pst_eA q
  refine ⟨env, st, ι, rs, re, p.imp (fun xs H1 q => ?_) fun _ _ _ q => q⟩
  obtain ⟨st1, ι1, ws, rs1, r1, p1⟩ := q
  intro x dx nx ndx nex
  have rs2 : RS X.K g st1 (upd H1 dx (.own x)) ι1 := rs1.other ndx
  have e1 : Ext X.K H1 ι1 (upd H1 dx (.own x)) ι1 := by simpa using ext_new (K := X.K) (ι := ι1) (o := HO.own x) ndx []
  have nx2 : upd H1 dx (.own x) x = none := by rw [upd_ne (Ne.symm nex)]; exact nx
  have e2 : Ext X.K (upd H1 dx (.own x)) ι1 (upd (upd H1 dx (.own x)) x (.ins (g.cls c) dx [])) (ι1 ++ [x]) := ext_new nx2 [x]
  have rs3 : RS X.K g (st1 ++ [.ins c []]) (upd (upd H1 dx (.own x)) x (.ins (g.cls c) dx [])) (ι1 ++ [x]) := rs2.push nx2 ⟨dx, [], upd_same, .nil⟩
  have r3 : RV X.K g.H0 (upd (upd H1 dx (.own x)) x (.ins (g.cls c) dx [])) (ι1 ++ [x]) (.ref st1.length) (.ref x) := .ref (by rw [← rs1.len]; simp)
  rw [List.append_nil]
  unfold opMake lenOk at p1
  by_cases hl : (Va.ref st1.length :: ws).length = n
  · rw [if_pos hl] at p1
    refine ⟨Va.ref st1.length :: ws, _, _, hl, rs3, .cons r3 (r1.mono (e1.trans e2)), ?_⟩
    revert p1
    generalize F (Va.ref st1.length :: ws) (st1 ++ [.ins c []]) = r
    intro p1
    cases r with
    | no => exact (show False from p1).elim
    | exc c' fs st2 => exact (show False from p1).elim
    | ok w st2 =>
      cases w with
      | non =>
        intro H' ι' v e3 rs4 rv
        cases rv
        exact ⟨rfl, p1 H' ι' _ ((e1.trans e2).trans e3) rs4 (r3.mono e3)⟩
      | _ => exact (show False from p1).elim
  · rw [if_neg hl] at p1
    exact (show False from p1).elim

/-! ### a def's body -/
def runF (n : Nat) (m : Sm) (N : Nat) : Fn := fun ws st => match m (ws.map some ++ List.replicate (N - n) none) st with
  | .nx _ st2 => .ok .non st2
  | .rt w st2 => .ok w st2
  | .xc c fs _ st2 => .exc c fs st2
  | _ => .no
theorem re_start {K : PySem.W.Frag} {H : Hp} {ι : List Addr} {ws : List Va} {vs : List V} {N : List Str} {n k : Nat} (hk : N.length = k) (hn : ws.length = n) (r : RVs K g.H0 H ι ws vs) : RE K g H ι (ws.map some ++ List.replicate (k - n) none) (L2.start N vs) := by
  subst hk
  have hl := r.length
  have at_ : ∀ {i : Nat} {w : Va}, (ws.map some ++ List.replicate (N.length - n) none)[i]? = some (some w) → ws[i]? = some w ∧ i < ws.length := fun {i w} e => by
    by_cases hi : i < ws.length
    · rw [List.getElem?_append_left (by simpa using hi), List.getElem?_map] at e
      cases q : ws[i]? with
      | none => rw [q] at e; cases e
      | some u => rw [q] at e; cases e; exact ⟨rfl, hi⟩
    · rw [List.getElem?_append_right (by simpa using Nat.le_of_not_lt hi), List.getElem?_replicate] at e
      split at e <;> cases e
  refine ⟨by unfold L2.start; simp [hl, ← hn], fun i w e _ => ?_, fun i a _ e => ?_⟩
  · obtain ⟨q, hi⟩ := at_ e
    obtain ⟨v, q1, q2⟩ := r.get q
    refine ⟨v, ?_, q2⟩
    unfold L2.start
    rw [List.getElem?_append_left (by simpa [← hl] using hi), List.getElem?_map, q1]
    rfl
  · obtain ⟨q, _⟩ := at_ e
    obtain ⟨v, q1, q2⟩ := r.get q
    exact absurd rfl q2.noExn
theorem fn_body {P : Program} {w : World} {K : PySem.W.Frag} {mg : Str → Option Value} {base : Heap} {x qual : Str} {st : Stmt} {f : Addr} {fd : FuncData} {N ps : List Str} {k n : Nat} {m : Sm} {L : Nat} (F : Fun K x qual st f fd) (S : FnScope N ps (defScope st)) (hn : ps.length = n) (hL : N.length = L)
    (hbody : ∀ (cdv : Value) (A : Around) (outer : List Env) (s : Shared) (H : Hp) (E : XK), Room k (A.deeper (envOfC qual (defScope st) s.heap.objs.size f cdv)) →
      JSs (cxOf (L2.CX P w) P w K mg base N qual (defScope st) f cdv A outer s H E) g (fun c d _ H' => E c d H') (defBody st) m) : FnOk P w K mg base (L2.CX P w) (k + 1) f fd ps (spM K g n (runF n m L)) := by
  refine F.okX S (fun vs H Q E h => ?_) (fun cdv A outer s H vs Q E hr h => ⟨_, (hbody cdv A outer s H E hr).pss, ?_⟩)
  · obtain ⟨ws, st, ι, h1, h2, h3, h4⟩ := h
    rw [← h3.length, h1, hn]
  · obtain ⟨ws, st, ι, h1, h2, h3, h4⟩ := h
    refine ⟨_, st, ι, h2, re_start hL h1 h3, ?_⟩
    revert h4
    unfold runF
    generalize m (ws.map some ++ List.replicate (L - n) none) st = r
    intro h4
    cases r with
    | nx env st2 => exact fun H' ι' σ' e rs re => h4 H' ι' .non e rs .non
    | rt w st2 => exact h4
    | xc c fs env st2 => exact fun H' ι' σ' d fs' e rs re hd pf => h4 H' ι' d fs' e rs hd pf
    | bk env st2 => exact (show False from h4).elim
    | ct env st2 => exact (show False from h4).elim
    | no => exact h4
end
end Sh

set_option Elab.async false
set_option linter.all false
set_option maxRecDepth 100000
set_option maxHeartbeats 4000000
namespace Sh
open PySem PySem.Spec PyProof.Rows L2

/-! ### comprehensions -/
/-- the reading of a target of one name, of several names -/
def gNames : List Nat → TGs
  | [] => gNil
  | i :: r => gCons (gName i) (gNames r)
def gTgt (K : PySem.W.Frag) : List Nat → TG
  | [i] => gName i
  | ix => gTup K ix.length (gNames ix)
def wipeE (env : En) : List Nat → En
  | [] => env
  | v :: vs => (wipeE env vs).set v none
/-- y goes to the end of the list n -/
def pushT (n : Nat) (y : Va) (st : Sto) : Option Sto := match st[n]? with
  | some (.lst acc) => if acc.length < 16777216 then some (st.set n (.lst (acc ++ [y]))) else none
  | _ => none
/-- no error may leave a comprehension -/
def nex {α : Type} (r : Rs α) : Rs α := match r with
  | .ok a st => .ok a st
  | _ => .no
/-- one turn of a comprehension: the store behind it -/
def compT (tg : Tg) (t : En → Mo Bool) (e : En → Mo Va) (n : Nat) (w : Va) (env : En) : Mo Unit := fun st => match tg w env with
  | none => .no
  | some env1 => bnd (nex (t env1 st)) fun b st1 => if b = true then bnd (nex (e env1 st1)) fun y st2 => (match pushT n y st2 with
      | some st3 => .ok () st3
      | none => .no) else .ok () st1
def compF (tg : Tg) (t : En → Mo Bool) (e : En → Mo Va) (n : Nat) (env : En) : List Va → Mo Va
  | [] => fun st => .ok (.ref n) st
  | w :: r => fun st => bnd (compT tg t e n w env st) fun _ st1 => compF tg t e n env r st1
def compL (tg : Tg) (t : En → Mo Bool) (e : En → Mo Va) (n : Nat) (env : En) (m : Nat) : Nat → Nat → Mo Va
  | 0, _ => fun _ => .no
  | k + 1, i => fun st => match st[m]? with
    | some (.lst ws) => match ws[i]? with
      | none => .ok (.ref n) st
      | some w => bnd (compT tg t e n w env st) fun _ st1 => compL tg t e n env m k (i + 1) st1
    | _ => .no
def compS (tg : Tg) (t : En → Mo Bool) (e : En → Mo Va) (own : List Nat) (env : En) : Src → Mo Va := fun s st => match s with
  | .fix ws => compF tg t e st.length (wipeE env own) ws (st ++ [.lst []])
  | .live m => match st[m]? with
    | some (.lst ws) => compL tg t e st.length (wipeE env own) m (ws.length + 1) 0 (st ++ [.lst []])
    | _ => .no
def eLc (src : En → Mo Src) (tg : Tg) (t : En → Mo Bool) (e : En → Mo Va) (own : List Nat) : En → Mo Va := fun env st => bnd (src env st) (compS tg t e own env)
def cYes : En → Mo Bool := fun _ st => .ok true st
structure JC (X : Cx) (g : Gx) (ifs : List Expr) (m : En → Mo Bool) : Prop where
  pts : PTs X ifs (tG X.K g (fun _ _ _ _ => False) rB m)
theorem PTs.imp {X : Cx} {ifs : List Expr} {t t' : TT} (h : PTs X ifs t) (i : ∀ σ H Q, t' σ H Q → t σ H Q) : PTs X ifs t' := ⟨fun pins s σ H Q I q => h.run pins s σ H Q I (i σ H Q q)⟩
abbrev W0 : WX := fun _ _ _ _ => False
section
variable {X : Cx} {g : Gx} {W : WX} {pos : Pos}
theorem jc_nil : JC X g [] cYes := ⟨PTs.imp pts_nil fun σ H Q h => by
  obtain ⟨env, st, ι, rs, re, p⟩ := h
  exact p H ι true Ext.refl rs rfl⟩
theorem jc_one {c : Expr} {m : En → Mo Bool} (h : JT X g W0 c m) : JC X g [c] m := ⟨pts_one h.pt⟩
theorem re_wipe {K : PySem.W.Frag} {H : Hp} {ι : List Addr} {env : En} {σ : L2.St} (h : RE K g H ι env σ) : ∀ vs : List Nat, RE K g H ι (wipeE env vs) (wipe σ vs)
  | [] => h
  | v :: vs => (re_wipe h vs).clear v
theorem pushT_ok {K : PySem.W.Frag} {H : Hp} {ι : List Addr} {st st' : Sto} {n : Nat} {D : Addr} {y : Va} {v : V} (rs : RS K g st H ι) (ha : ι[n]? = some D) (r : RV K g.H0 H ι y v) (h : pushT n y st = some st') :
    ∃ acc, H D = some (.lst acc) ∧ acc.length < sizeLine ∧ Ext K H ι (upd H D (.lst (acc ++ [v]))) ι ∧ RS K g st' (upd H D (.lst (acc ++ [v]))) ι := by
  unfold pushT at h
  split at h
  · rename_i acc e
    split at h
    · rename_i hl
      cases h
      obtain ⟨vs, h1, k1⟩ := rs.obj n _ D e ha
      obtain ⟨u, hu, ow⟩ := rs.mem (List.mem_of_getElem? ha)
      have e1 : Ext K H ι (upd H D (.lst (vs ++ [v]))) ι := ext_own (n := n) rs hu ow
      refine ⟨vs, h1, lt_line (by rw [← k1.length]; exact hl), e1, rs.put ha ⟨vs ++ [v], upd_same, (k1.append (.cons r .nil)).mono e1⟩⟩
    · cases h
  · cases h
/-- what one turn asks -/
theorem comp_turn {tg : Tg} {t : En → Mo Bool} {e : En → Mo Va} {n : Nat} {own vs : List Nat} {gt : TG} {tt : TT} {te : TE} {α β : Type} {rel : Rel α β} {f : Mo α} {Q : β → Hp → Prop} {E : XK} (hg : TgOk X g tg own gt) (hown : ∀ i ∈ own, i ∈ vs)
    (htt : ∀ σ H Q, tG X.K g W0 rB t σ H Q → tt σ H Q) (hte : ∀ σ H Q, tG X.K g W0 (rV X.K g) e σ H Q → te σ H Q)
    {env : En} {st : Sto} {ι ι0 : List Addr} {σ : L2.St} {H H0 : Hp} {D : Addr} {w : Va} {v : V} {N : Hp → Prop} (rs : RS X.K g st H ι) (re : RE X.K g H ι (wipeE env vs) (wipe σ vs)) (rv : RV X.K g.H0 H ι w v) (ha : ι[n]? = some D)
    (p : Pst X.K g rel (bnd (compT tg t e n w (wipeE env vs) st) fun _ st1 => f st1) H ι Q E)
    (hN : ∀ st2 H2 ι2, Ext X.K H ι H2 ι2 → RS X.K g st2 H2 ι2 → Pst X.K g rel (f st2) H2 ι2 Q E → N H2) :
    gt v (wipe σ vs) H fun σ2 H2 => wipe σ2 vs = wipe (wipe σ vs) vs ∧ tt σ2 H2 fun b H3 => if b = true then te σ2 H3 fun y H4 => ∃ acc, H4 D = some (.lst acc) ∧ acc.length < sizeLine ∧ N (upd H4 D (.lst (acc ++ [y]))) else N H3 := by
  unfold compT at p
  cases q : tg w (wipeE env vs) with
  | none => rw [q] at p; exact (show False from p).elim
  | some env1 =>
    rw [q] at p
    refine hg w v (wipeE env vs) env1 _ H ι _ ⟨_, rs⟩ re rv q fun σ2 re2 hw => ⟨hw vs hown, htt _ _ _ ⟨env1, st, ι, rs, re2, ?_⟩⟩
    dsimp only at p
    cases q1 : t env1 st with
    | no => rw [q1] at p; exact p
    | exc c fs st1 => rw [q1] at p; exact (show False from p).elim
    | ok b st1 =>
      rw [q1] at p
      intro H3 ι3 b' ex3 rs3 eb
      obtain rfl : b = b' := eb
      cases b with
      | false =>
        refine iteF (hN st1 H3 ι3 ex3 rs3 (Pst.shift (r := f st1) p ex3))
      | true =>
        refine iteT (hte _ _ _ ⟨env1, st1, ι3, rs3, re2.mono ex3, ?_⟩)
        have p1 : Pst X.K g rel (bnd (bnd (nex (e env1 st1)) fun y st2 => (match pushT n y st2 with | some st3 => (Rs.ok () st3 : Rs Unit) | none => .no)) fun _ st1 => f st1) H ι Q E := p
        cases q2 : e env1 st1 with
        | no => rw [q2] at p1; exact p1
        | exc c fs st2 => rw [q2] at p1; exact (show False from p1).elim
        | ok y st2 =>
          rw [q2] at p1
          intro H4 ι4 vy ex4 rs4 ry
          cases q3 : pushT n y st2 with
          | none =>
            have p2 : Pst X.K g rel (bnd (match pushT n y st2 with | some st3 => (Rs.ok () st3 : Rs Unit) | none => .no) fun _ st1 => f st1) H ι Q E := p1
            rw [q3] at p2
            exact (show False from p2).elim
          | some st3 =>
            have p2 : Pst X.K g rel (bnd (match pushT n y st2 with | some st3 => (Rs.ok () st3 : Rs Unit) | none => .no) fun _ st1 => f st1) H ι Q E := p1
            rw [q3] at p2
            obtain ⟨acc, h1, h2, ex5, rs5⟩ := pushT_ok rs4 (ex4.get (ex3.get ha)) ry q3
            exact ⟨acc, h1, h2, hN st3 _ ι4 ((ex3.trans ex4).trans ex5) rs5 (Pst.shift (r := f st3) p2 ((ex3.trans ex4).trans ex5))⟩
/-- a comprehension's loop -/
theorem lc_fix {J : It} {tg : Tg} {t : En → Mo Bool} {e : En → Mo Va} {own vs : List Nat} {gt : TG} {tt : TT} {te : TE} (hg : TgOk X g tg own gt) (hown : ∀ i ∈ own, i ∈ vs)
    (htt : ∀ σ H Q, tG X.K g W0 rB t σ H Q → tt σ H Q) (hte : ∀ σ H Q, tG X.K g W0 (rV X.K g) e σ H Q → te σ H Q) {all : List Va} {G : Hp → List Addr → Prop} (F : Fix X.K g J all G)
    {env : En} {st : Sto} {ι : List Addr} {σ : L2.St} {H : Hp} {D : Addr} {n : Nat} {Q : VK} {E : XK} (rs : RS X.K g st H ι) (re : RE X.K g H ι env σ) (G0 : G H ι) (ha : ι[n]? = some D) (p : Pst X.K g (rV X.K g) (compF tg t e n (wipeE env vs) all st) H ι Q E) :
    ∃ Wl : Nat → Nat → Hp → Prop, (∃ m, Wl 0 m H) ∧ ∀ i m H, Wl i m H → (J.stop i H ∧ Q (.ref D) H) ∨ (J.go i H ∧ ∃ N : Hp → Prop, (∀ H', N H' → ∃ m', m' < m ∧ Wl (i + 1) m' H') ∧ ∀ x H', J.yld i H x H' →
      gt x (wipe σ vs) H' fun σ2 H2 => wipe σ2 vs = wipe σ vs ∧ tt σ2 H2 fun b H3 => if b = true then te σ2 H3 fun y H4 => ∃ acc, H4 D = some (.lst acc) ∧ acc.length < sizeLine ∧ N (upd H4 D (.lst (acc ++ [y]))) else N H3) := by
  refine ⟨fun i m H => m = all.length - i ∧ i ≤ all.length ∧ ∃ st ι, RS X.K g st H ι ∧ RE X.K g H ι env σ ∧ G H ι ∧ ι[n]? = some D ∧ Pst X.K g (rV X.K g) (compF tg t e n (wipeE env vs) (all.drop i) st) H ι Q E, ⟨all.length, by simp, Nat.zero_le _, st, ι, rs, re, G0, ha, by rw [List.drop_zero]; exact p⟩, ?_⟩
  rintro i m H ⟨rfl, hi, st, ι, rs, re, G1, ha, p⟩
  by_cases hlt : i < all.length
  · refine .inr ⟨F.go i H ι G1 hlt, fun H' => i + 1 ≤ all.length ∧ ∃ st ι, RS X.K g st H' ι ∧ RE X.K g H' ι env σ ∧ G H' ι ∧ ι[n]? = some D ∧ Pst X.K g (rV X.K g) (compF tg t e n (wipeE env vs) (all.drop (i + 1)) st) H' ι Q E, fun H' q => ⟨all.length - (i + 1), by omega, rfl, q.1, q.2⟩, fun x H' y => ?_⟩
    obtain ⟨e0, rs', hr⟩ := F.yld i H ι x H' st rs G1 y
    rw [List.drop_eq_getElem_cons hlt] at p
    have rv := hr _ (List.getElem?_eq_getElem hlt)
    unfold compF at p
    have q := comp_turn (rel := rV X.K g) (f := compF tg t e n (wipeE env vs) (all.drop (i + 1))) (N := fun H' => i + 1 ≤ all.length ∧ ∃ st ι, RS X.K g st H' ι ∧ RE X.K g H' ι env σ ∧ G H' ι ∧ ι[n]? = some D ∧ Pst X.K g (rV X.K g) (compF tg t e n (wipeE env vs) (all.drop (i + 1)) st) H' ι Q E)
      (ι0 := ι) (H0 := H) hg hown htt hte rs' (re_wipe (re.mono e0) vs) rv (e0.get ha) (Pst.shift p e0) fun st2 H2 ι2 ex rs2 p2 => ⟨hlt, st2, ι2, rs2, (re.mono e0).mono ex, F.mono _ _ _ _ (e0.trans ex) rs2.old G1, ex.get (e0.get ha), p2⟩
    rw [wipe_wipe] at q
    exact q
  · have e : i = all.length := by omega
    subst e
    refine .inl ⟨F.stop H ι G1, ?_⟩
    rw [List.drop_length] at p
    exact p H ι _ Ext.refl rs (.ref ha)
theorem lc_live {a : Addr} {k0 : Nat} {m0 : Nat} {tg : Tg} {t : En → Mo Bool} {e : En → Mo Va} {own vs : List Nat} {gt : TG} {tt : TT} {te : TE} (hg : TgOk X g tg own gt) (hown : ∀ i ∈ own, i ∈ vs)
    (htt : ∀ σ H Q, tG X.K g W0 rB t σ H Q → tt σ H Q) (hte : ∀ σ H Q, tG X.K g W0 (rV X.K g) e σ H Q → te σ H Q)
    {env : En} {st : Sto} {ι : List Addr} {σ : L2.St} {H : Hp} {D : Addr} {n : Nat} {Q : VK} {E : XK} (rs : RS X.K g st H ι) (re : RE X.K g H ι env σ) (hm : ι[m0]? = some a) (ha : ι[n]? = some D) (p : Pst X.K g (rV X.K g) (compL tg t e n (wipeE env vs) m0 k0 0 st) H ι Q E) :
    ∃ Wl : Nat → Nat → Hp → Prop, (∃ m, Wl 0 m H) ∧ ∀ i m H, Wl i m H → ((Itl X.K a).stop i H ∧ Q (.ref D) H) ∨ ((Itl X.K a).go i H ∧ ∃ N : Hp → Prop, (∀ H', N H' → ∃ m', m' < m ∧ Wl (i + 1) m' H') ∧ ∀ x H', (Itl X.K a).yld i H x H' →
      gt x (wipe σ vs) H' fun σ2 H2 => wipe σ2 vs = wipe σ vs ∧ tt σ2 H2 fun b H3 => if b = true then te σ2 H3 fun y H4 => ∃ acc, H4 D = some (.lst acc) ∧ acc.length < sizeLine ∧ N (upd H4 D (.lst (acc ++ [y]))) else N H3) := by
  refine ⟨fun i m H => ∃ st ι, RS X.K g st H ι ∧ RE X.K g H ι env σ ∧ ι[m0]? = some a ∧ ι[n]? = some D ∧ Pst X.K g (rV X.K g) (compL tg t e n (wipeE env vs) m0 m i st) H ι Q E, ⟨k0, st, ι, rs, re, hm, ha, p⟩, ?_⟩
  rintro i m H ⟨st, ι, rs, re, hm, ha, p⟩
  cases m with
  | zero => exact (show False from p).elim
  | succ m =>
    unfold compL at p
    split at p
    · rename_i ws q
      obtain ⟨us, h1, k1⟩ := rs.obj m0 _ a q hm
      have sl : SqL X.K H a us := .inl (.inl h1)
      split at p
      · rename_i e'
        refine .inl ⟨⟨us, sl, ?_⟩, p H ι _ Ext.refl rs (.ref ha)⟩
        rw [← k1.length]
        exact List.getElem?_eq_none_iff.mp e'
      · rename_i w e'
        obtain ⟨v, e2, rv⟩ := k1.get e'
        refine .inr ⟨⟨us, v, sl, e2⟩, fun H' => ∃ st ι, RS X.K g st H' ι ∧ RE X.K g H' ι env σ ∧ ι[m0]? = some a ∧ ι[n]? = some D ∧ Pst X.K g (rV X.K g) (compL tg t e n (wipeE env vs) m0 m (i + 1) st) H' ι Q E, fun H' q => ⟨m, Nat.lt_succ_self m, q⟩, fun x H' y => ?_⟩
        obtain ⟨rfl, hx⟩ := y
        have ex := hx us sl
        rw [e2] at ex
        cases ex
        have q := comp_turn (rel := rV X.K g) (f := compL tg t e n (wipeE env vs) m0 m (i + 1)) (N := fun H' => ∃ st ι, RS X.K g st H' ι ∧ RE X.K g H' ι env σ ∧ ι[m0]? = some a ∧ ι[n]? = some D ∧ Pst X.K g (rV X.K g) (compL tg t e n (wipeE env vs) m0 m (i + 1) st) H' ι Q E)
          (ι0 := ι) (H0 := H') hg hown htt hte rs (re_wipe re vs) rv ha p fun st2 H2 ι2 ex rs2 p2 => ⟨st2, ι2, rs2, re.mono ex, ex.get hm, ex.get ha, p2⟩
        rw [wipe_wipe] at q
        exact q
    · exact (show False from p).elim
/-- what tLc asks -/
theorem lc_all {tg : Tg} {src : En → Mo Src} {t : En → Mo Bool} {e : En → Mo Va} {own : List Nat} {wi : TI} {gt : TG} {tt : TT} {te : TE} (hi : ∀ σ H R, tG X.K g W (rI' X.K g) src σ H R → wi σ H R) (hg : TgOk X g tg own gt)
    (htt : ∀ σ H Q, tG X.K g W0 rB t σ H Q → tt σ H Q) (hte : ∀ σ H Q, tG X.K g W0 (rV X.K g) e σ H Q → te σ H Q) {σ : L2.St} {H : Hp} {Q : VK} (h : tG X.K g W (rV X.K g) (eLc src tg t e own) σ H Q) : tLc wi gt tt te own σ H Q := by
  obtain ⟨env, st, ι, rs, re, p⟩ := h
  refine hi σ H _ ⟨env, st, ι, rs, re, (Pst.bind (rel := rI' X.K g) p).imp (fun J H1 q => ?_) fun _ _ _ q => q⟩
  obtain ⟨s, st1, ι1, ex, rs1, r1, p1⟩ := q
  intro D hD
  have nl := new_lst (X := X) (ws := []) (vs := []) rs1 .nil hD
  have hn : (ι1 ++ [D])[st1.length]? = some D := by rw [← rs1.len]; simp
  have re2 := (re.mono ex).mono nl.1
  cases s with
  | fix ws =>
    obtain ⟨G, F, G0⟩ := r1
    exact lc_fix (E := fun c d H' => W c d σ H') hg (fun _ h => h) htt hte F nl.2.1 re2 (F.mono _ _ _ _ nl.1 nl.2.1.old G0) hn (Pst.shift (r := compF tg t e st1.length (wipeE env own) ws (st1 ++ [.lst []])) p1 nl.1)
  | live m =>
    obtain ⟨a, ha, rfl⟩ := r1
    have p2 : Pst X.K g (rV X.K g) (compS tg t e own env (.live m) st1) H1 ι1 Q (fun c d H' => W c d σ H') := p1
    unfold compS at p2
    dsimp only at p2
    split at p2
    · exact lc_live (E := fun c d H' => W c d σ H') hg (fun _ h => h) htt hte nl.2.1 re2 (nl.1.get ha) hn (Pst.shift p2 nl.1)
    · exact (show False from p2).elim
theorem tgN_ok (i : Nat) : TgOk X g (tgN i) [i] (gTgt X.K [i]) := fun w v env env' σ H ι Q rs re r e q => by
  cases e
  exact q _ (re.set i r) fun vs h => wipe_set (h i List.mem_cons_self)
/-- several names at once -/
def setAll (env : En) : List Nat → List Va → En
  | i :: ix, w :: ws => setAll (env.set i (some w)) ix ws
  | _, _ => env
def tgT (ix : List Nat) : Tg := fun w env => match w with
  | .tup ws => if ws.length = ix.length then some (setAll env ix ws) else none
  | .ktp ws => if ws.length = ix.length then some (setAll env ix ws) else none
  | _ => none
theorem names_ok {H : Hp} {ι : List Addr} {Q : L2.St → Hp → Prop} : ∀ {ix : List Nat} {ws : List Va} {us : List V} {env : En} {σ : L2.St}, RE X.K g H ι env σ → RVs X.K g.H0 H ι ws us → ws.length = ix.length →
    (∀ σ', RE X.K g H ι (setAll env ix ws) σ' → (∀ vs : List Nat, (∀ i ∈ ix, i ∈ vs) → wipe σ' vs = wipe σ vs) → Q σ' H) → gNames ix us σ H Q
  | [], [], _, env, σ, re, .nil, _, q => ⟨rfl, q σ re fun _ _ => rfl⟩
  | [], _ :: _, _, _, _, _, _, h, _ => by cases h
  | _ :: _, [], _, _, _, _, _, h, _ => by cases h
  | i :: ix, w :: ws, u :: us, env, σ, re, .cons r t, h, q => by
    refine ⟨u, us, rfl, ?_⟩
    refine names_ok (re.set i r) t (by simpa using h) fun σ' re' hw => q σ' re' fun vs hv => ?_
    rw [hw vs (fun j hj => hv j (List.mem_cons_of_mem _ hj)), wipe_set (hv i List.mem_cons_self)]
theorem tgT_ok' (ix : List Nat) : TgOk X g (tgT ix) ix (gTup X.K ix.length (gNames ix)) := fun w v env env' σ H ι Q rs re r e q => by
  unfold tgT at e
  split at e
  · split at e
    · rename_i hl
      cases e
      cases r with
      | @tup a us ws h k => exact ⟨a, us, rfl, SqT.of h, by rw [← k.length]; exact hl, names_ok re k hl q⟩
    · cases e
  · split at e
    · rename_i hl
      cases e
      cases r with
      | @ktp a us ws h k =>
        obtain ⟨st, rs⟩ := rs
        exact ⟨a, us, rfl, sqt_old rs h, by rw [← k.length]; exact hl, names_ok re k hl q⟩
    · cases e
  · cases e
theorem tgT_ok (i j : Nat) (ix : List Nat) : TgOk X g (tgT (i :: j :: ix)) (i :: j :: ix) (gTgt X.K (i :: j :: ix)) := tgT_ok' _
theorem j_lc {elt tgt iter : Expr} {ifs : List Expr} {scope : Scope} {own : List (Str × Nat)} {src : En → Mo Src} {tg : Tg} {t : En → Mo Bool} {e : En → Mo Va} (hc : X.calm = true) (hN : X.N.Nodup) (hi : JI X g W tgt iter src) (hb : BlkOk X.N X.env.scope scope own)
    (hg : ∀ (s : Shared) (H : Hp) (C : Addr) (cl : List (Str × Addr)) (fp : List Addr), PG (X.blk s H scope (compEnvC scope cl C X.env) fp) tgt (gTgt X.K (own.map (·.2)))) (hgt : TgOk X g tg (own.map (·.2)) (gTgt X.K (own.map (·.2))))
    (ht : ∀ (s : Shared) (H : Hp) (C : Addr) (cl : List (Str × Addr)) (fp : List Addr), JC (X.blk s H scope (compEnvC scope cl C X.env) fp) g ifs t)
    (he : ∀ (s : Shared) (H : Hp) (C : Addr) (cl : List (Str × Addr)) (fp : List Addr), JE (X.blk s H scope (compEnvC scope cl C X.env) fp) g W0 elt e) (hs : ∀ x, foldedSetIterable iter X.env x = pure x := by intro _; rfl) :
    JE X g W (.ListComp elt [⟨tgt, iter, ifs, 0⟩] scope pos) (eLc src tg t e (own.map (·.2))) := by
  obtain ⟨wi, i1, i2⟩ := hi.ex
  exact ⟨PE.imp (pe_lc hc hN i1 hb hg (fun s H C cl fp => (ht s H C cl fp).pts) (fun s H C cl fp => (he s H C cl fp).pe) hs) fun σ H Q q => lc_all i2 hgt (fun _ _ _ q => q) (fun _ _ _ q => q) q⟩
theorem js_setLc (i : Nat) {y : Str} {py spos : Pos} {elt tgt iter : Expr} {ifs : List Expr} {scope : Scope} {own : List (Str × Nat)} {src : En → Mo Src} {tg : Tg} {t : En → Mo Bool} {e : En → Mo Va} (hc : X.calm = true) (hN : X.N.Nodup) (hi : JI X g W tgt iter src) (hb : BlkOk X.N X.env.scope scope own)
    (hg : ∀ (s : Shared) (H : Hp) (C : Addr) (cl : List (Str × Addr)) (fp : List Addr), PG (X.blk s H scope (compEnvC scope cl C X.env) fp) tgt (gTgt X.K (own.map (·.2)))) (hgt : TgOk X g tg (own.map (·.2)) (gTgt X.K (own.map (·.2))))
    (ht : ∀ (s : Shared) (H : Hp) (C : Addr) (cl : List (Str × Addr)) (fp : List Addr), JC (X.blk s H scope (compEnvC scope cl C X.env) fp) g ifs t)
    (he : ∀ (s : Shared) (H : Hp) (C : Addr) (cl : List (Str × Addr)) (fp : List Addr), JE (X.blk s H scope (compEnvC scope cl C X.env) fp) g W0 elt e)
    (hy : X.N[i]? = some y := by rfl) (hl : X.env.scope.names.lookup y = some .local := by rfl) (hsw : swapsWith (.ListComp elt [⟨tgt, iter, ifs, 0⟩] scope pos) (some (.Name y py)) spos.line X.env = pure true := by first | rfl | exact sw_true rfl rfl rfl (by decide +kernel)) (hs : ∀ x, foldedSetIterable iter X.env x = pure x := by intro _; rfl) :
    JS X g W (.Assign [.Name y py] (.ListComp elt [⟨tgt, iter, ifs, 0⟩] scope pos) spos) (sSet i (eLc src tg t e (own.map (·.2)))) := by
  obtain ⟨wi, i1, i2⟩ := hi.ex
  refine ⟨PS.imp (ps_setLc (tt := tG X.K g W0 rB t) (te := tG X.K g W0 (rV X.K g) e) hc hN hy hl hsw i1 hb hg (fun s H C cl fp => (ht s H C cl fp).pts) (fun s H C cl fp => (he s H C cl fp).pe) hs) fun D σ H q => ?_⟩
  have q1 := tG_bS (rel := rV X.K g) q
  have q2 : tG X.K g W (rV X.K g) (eLc src tg t e (own.map (·.2))) σ H (fun x H1 => gName i x σ H1 D.nx) := by
    obtain ⟨env, st, ι, rs, re, p⟩ := q1
    refine ⟨env, st, ι, rs, re, p.imp (fun v H1 q => ?_) fun _ _ _ q => q⟩
    obtain ⟨env1, a, st1, ι1, rs1, re1, r1, p1⟩ := q
    exact p1 H1 ι1 _ Ext.refl rs1 (re1.set i r1)
  exact lc_all i2 hgt (fun _ _ _ q => q) (fun _ _ _ q => q) q2

/-! ### unpacking, xs[i] = v -/
theorem jg_tup {es : List Expr} {ix : List Nat} {k : Nat} (hc : X.calm = true) (h : PGs X es (gNames ix)) (hn : (assignEach es X.env).length = ix.length := by rfl) (hst : (assignEach es X.env).findIdx? (·.1) = none := by rfl) : JG X g (.Tuple es k pos) (tgT ix) ix :=
  ⟨_, pg_tup hc h hn hst, tgT_ok' ix⟩
def sUnp (tg : Tg) (m : En → Mo Va) : Sm := fun env st => bS env (m env st) fun w st1 => match tg w env with
  | some env1 => .nx env1 st1
  | none => .no
theorem js_unp {t e : Expr} {tg : Tg} {own : List Nat} {m : En → Mo Va} (hg : JG X g t tg own) (h : JE X g W e m) (h1 : swapsWithSole [t] e pos.line X.env = pure false := by rfl) (h2 : swappedStores [t] e X.env = pure none := by rfl)
    (h3 : (assignEach [t] X.env).map (·.2) = [assign t X.env] := by rfl) : JS X g W (.Assign [t] e pos) (sUnp tg m) := by
  obtain ⟨gt, g1, g2⟩ := hg.ex
  refine ⟨PS.imp (ps_asg h.pe g1 h1 h2 h3) fun D σ H q => ?_⟩
  obtain ⟨env, st, ι, rs, re, p⟩ := tG_bS (rel := rV X.K g) q
  refine ⟨env, st, ι, rs, re, p.imp (fun v H1 q => ?_) fun _ _ _ q => q⟩
  obtain ⟨env1, a, st1, ι1, rs1, re1, r1, p1⟩ := q
  cases q : tg a env1 with
  | none => rw [q] at p1; exact (show False from p1).elim
  | some env2 =>
    rw [q] at p1
    exact g2 a v env1 env2 σ H1 ι1 _ ⟨_, rs1⟩ re1 r1 q fun σ' re' _ => p1 H1 ι1 σ' Ext.refl rs1 re'
def itemT (env : En) (y o : Va) : Va → Sto → Fl := fun i st => match o, i with
  | .ref n, .int k => match st[n]? with
    | some (.lst ws) => match ixN ws.length k with
      | some j => .nx env (st.set n (.lst (ws.set j y)))
      | none => .no
    | _ => .no
  | _, _ => .no
def itemS (mi : En → Mo Va) (env : En) (y : Va) : Va → Sto → Fl := fun o st => bS env (mi env st) (itemT env y o)
def sItem (mo mi mv : En → Mo Va) : Sm := fun env st => bS env (mv env st) fun y st1 => bS env (mo env st1) (itemS mi env y)
theorem js_item {o i value : Expr} {p2 : Pos} {mo mi mv : En → Mo Va} (ho : JE X g W o mo) (hi : JE X g W i mi) (hv : JE X g W value mv)
    (hsub : ∀ (v : Value), assign (.Subscript o i p2) X.env v = (do
      let ov ← holding [v] (eval o X.env)
      let iv ← holding [v, ov] (eval i X.env)
      standAt p2
      holding [v, ov, iv] (setItem ov iv v)
      release [v, ov, iv] []) := by intro _; rfl)
    (h1 : swapsWithSole [.Subscript o i p2] value pos.line X.env = pure false := by rfl) (h2 : swappedStores [.Subscript o i p2] value X.env = pure none := by rfl) (h3 : (assignEach [.Subscript o i p2] X.env).map (·.2) = [assign (.Subscript o i p2) X.env] := by rfl) :
    JS X g W (.Assign [.Subscript o i p2] value pos) (sItem mo mi mv) := by
  refine ⟨PS.imp (ps_asg hv.pe (pg_sub ho.pe hi.pe set_list hsub) h1 h2 h3) fun D σ H q => ?_⟩
  obtain ⟨env, st, ι, rs, re, p⟩ := tG_bS (rel := rV X.K g) q
  refine ⟨env, st, ι, rs, re, p.imp (fun v H1 q => ?_) fun _ _ _ q => q⟩
  obtain ⟨env1, y, st1, ι1, rs1, re1, ry, p1⟩ := q
  refine ⟨env1, st1, ι1, rs1, re1, ?_⟩
  revert p1
  show PstS X.K g W (bS env1 (mo env1 st1) (itemS mi env1 y)) H1 ι1 D → Pst X.K g (rV X.K g) (mo env1 st1) H1 ι1 _ _
  generalize mo env1 st1 = r
  intro p1
  cases r with
  | no => exact p1
  | exc c fs st2 => exact fun H' ι' d fs' e rs' hd pf => p1 H' ι' σ d fs' e rs' (re1.mono e) hd pf
  | ok w st2 =>
    intro H2 ι2 x e2 rs2 r2
    have p2 : PstS X.K g W (bS env1 (mi env1 st2) (itemT env1 y w)) H2 ι2 D := PstS.shift (r := bS env1 (mi env1 st2) (itemT env1 y w)) p1 e2
    refine ⟨env1, st2, ι2, rs2, re1.mono e2, ?_⟩
    revert p2
    show PstS X.K g W (bS env1 (mi env1 st2) (itemT env1 y w)) H2 ι2 D → Pst X.K g (rV X.K g) (mi env1 st2) H2 ι2 _ _
    generalize mi env1 st2 = r'
    intro p2
    cases r' with
    | no => exact p2
    | exc c fs st3 => exact fun H' ι' d fs' e rs' hd pf => p2 H' ι' σ d fs' e rs' ((re1.mono e2).mono e) hd pf
    | ok iw st3 =>
      intro H3 ι3 xi e3 rs3 r3
      have p3 : PstS X.K g W (itemT env1 y w iw st3) H3 ι3 D := PstS.shift (r := itemT env1 y w iw st3) p2 e3
      unfold itemT at p3
      split at p3
      · split at p3
        · rename_i n k _ ws e0
          split at p3
          · rename_i j ej
            obtain ⟨a, vs, rfl, ha, hh, k1⟩ := rs3.list (r2.mono e3) e0
            cases r3
            rw [k1.length] at ej
            refine ⟨a, vs, k, j, rfl, rfl, hh, ej, ?_⟩
            obtain ⟨x1, x2⟩ := put_lst rs3 ha (RVs.set ((ry.mono e2).mono e3) j k1)
            exact p3 _ _ σ x1 x2 (((re1.mono e2).mono e3).mono x1)
          · exact (show False from p3).elim
        · exact (show False from p3).elim
      · exact (show False from p3).elim
end
end Sh

set_option Elab.async false
set_option linter.all false
set_option maxRecDepth 100000
set_option maxHeartbeats 4000000
namespace Sh
open PySem PySem.Spec PyProof.Rows L2
/-! ### the law's end -/
/-- the law, from the heap at its entry -/
def spLaw (K : PySem.W.Frag) (F : Fn) : Sp := fun vs H Q E => ∃ (a : Addr) (ns : List Int), vs = [.ref a] ∧ SqL K H a (ns.map V.int) ∧ (∃ st, F [.scr (ns.map Va.int)] [] = .ok (.bl true) st) ∧ ∀ H', Q (.bl true) H'
theorem law_in {K : PySem.W.Frag} {cls : Nat → Addr} {F : Fn} {vs : List V} {H : Hp} {Q : VK} {E : XK} (q : spLaw K F vs H Q E) : spM K ⟨cls, H, [], []⟩ 1 F vs H Q E := by
  obtain ⟨a, ns, rfl, hs, ⟨st, e⟩, q⟩ := q
  have hints : ∀ ns : List Int, RVs K H H [] (ns.map Va.int) (ns.map V.int) := fun ns => by
    induction ns with
    | nil => exact .nil
    | cons n r ih => exact .cons (.int n) ih
  refine ⟨[.scr (ns.map Va.int)], [], [], rfl, ⟨rfl, List.nodup_nil, fun _ _ q => q, fun _ q => absurd q List.not_mem_nil, fun n o a q => by simp at q, fun p q => absurd q List.not_mem_nil⟩, .cons (.scr hs (hints ns)) .nil, ?_⟩
  rw [e]
  intro H' ι' b _ _ r
  cases r
  exact q H'
theorem law_fn {P : Program} {w : World} {K : PySem.W.Frag} {mg : Str → Option Value} {base : Heap} {k : Nat} {f : Addr} {fd : FuncData} {ps : List Str} {F : Fn} (cls : Nat → Addr) (h : ∀ H0 : Hp, FnOk P w K mg base (L2.CX P w) k f fd ps (spM K ⟨cls, H0, [], []⟩ 1 F)) :
    FnOk P w K mg base (L2.CX P w) k f fd ps (spLaw K F) :=
  ⟨fun vs H Q E q => (h H).len vs H Q E (law_in q), fun A outer s H args us vs Q E hr he hb hv q => (h H).run A outer s H args us vs Q E hr he hb hv (law_in q)⟩
theorem law_sp {K : PySem.W.Frag} {F : Fn} {H : Hp} {a : Addr} {ns : List Int} (hs : SqL K H a (ns.map V.int)) (h : ∃ st, F [.scr (ns.map Va.int)] [] = .ok (.bl true) st) : spLaw K F [.ref a] H (fun v _ => v = .bl true) fun _ _ _ => False :=
  ⟨a, ns, rfl, hs, h, fun _ => rfl⟩
theorem cx_end {P : Program} {w : World} {H : Hp} {s s' : Shared} {e : Value} (h : L2.CX P w [] H s (fun _ _ _ => False) e s') : False := by
  obtain ⟨_, _, _, _, _, _, _, _, _, _, _, _, z⟩ := h
  exact z
/-! ### what the module's names hold -/
theorem gv_int {K : PySem.W.Frag} {mg : Str → Option Value} {x : Str} {i : Int} {t : Tok} (h : mg x = some (.int i t)) : GV K mg x (.int i) := ⟨_, .int i, h, ⟨t, rfl⟩, fun _ _ _ => .int i⟩
theorem gv_str {K : PySem.W.Frag} {mg : Str → Option Value} {x s : Str} {t : Tok} (h : mg x = some (.str s t)) : GV K mg x (.str s) := ⟨_, .str s, h, ⟨t, rfl⟩, fun _ _ _ => .str s⟩
def flatEq : Va → Value → Option V
  | .int i, .int j _ => if i = j then some (.int i) else none
  | .str x, .str y _ => if x = y then some (.str x) else none
  | .bl b, .bool c => if b = c then some (.bl b) else none
  | .non, .none => some .non
  | _, _ => none
def flatEqs : List Va → List Value → Option (List V)
  | [], [] => some []
  | w :: ws, v :: vs => match flatEq w v, flatEqs ws vs with
    | some x, some xs => some (x :: xs)
    | _, _ => none
  | _, _ => none
theorem flatEq_ok {K : PySem.W.Frag} {H0 H : Hp} {ι : List Addr} {w : Va} {u : Value} {x : V} (h : flatEq w u = some x) : RelV x u ∧ RV K H0 H ι w x := by
  unfold flatEq at h
  split at h
  · split at h
    · rename_i e; subst e; cases h; exact ⟨⟨_, rfl⟩, .int _⟩
    · cases h
  · split at h
    · rename_i e; subst e; cases h; exact ⟨⟨_, rfl⟩, .str _⟩
    · cases h
  · split at h
    · rename_i e; subst e; cases h; exact ⟨rfl, .bl _⟩
    · cases h
  · cases h; exact ⟨rfl, .non⟩
  · cases h
theorem flatEqs_ok {K : PySem.W.Frag} : ∀ {ws : List Va} {us : List Value} {xs : List V}, flatEqs ws us = some xs → Vals xs us ∧ ∀ H0 H ι, RVs K H0 H ι ws xs
  | [], [], _, h => by cases h; exact ⟨.nil, fun _ _ _ => .nil⟩
  | [], _ :: _, _, h => by cases h
  | _ :: _, [], _, h => by cases h
  | w :: ws, u :: us, _, h => by
    unfold flatEqs at h
    split at h
    · rename_i x xs h1 h2
      cases h
      obtain ⟨q1, q2⟩ := flatEqs_ok (K := K) h2
      exact ⟨.cons (flatEq_ok (K := K) (H0 := fun _ => none) (H := fun _ => none) (ι := []) h1).1 q1, fun H0 H ι => .cons (flatEq_ok h1).2 (q2 H0 H ι)⟩
    · cases h
def ktpOk (o : Obj) (ws : List Va) : Bool := (o.cls == .type "tuple") && match o.data with
  | .seq its _ => decide (its.size ≤ 16777216) && (flatEqs ws its.toList).isSome
  | _ => false
theorem gv_ktp {K : PySem.W.Frag} {mg : Str → Option Value} {x : Str} {a : Addr} {o : Obj} {ws : List Va} (h : mg x = some (.ref a)) (l : K.lookup a = some o) (q : ktpOk o ws = true) : GV K mg x (.ktp ws) := by
  unfold ktpOk at q
  rw [Bool.and_eq_true] at q
  obtain ⟨q1, q2⟩ := q
  split at q2
  · rename_i its n e
    rw [Bool.and_eq_true, decide_eq_true_eq] at q2
    obtain ⟨q2, q3⟩ := q2
    obtain ⟨xs, e3⟩ := Option.isSome_iff_exists.mp q3
    obtain ⟨r1, r2⟩ := flatEqs_ok (K := K) e3
    exact ⟨_, .ref a, h, rfl, fun g H ι => .ktp (.inr ⟨o, its, n, l, eq_of_beq q1, e, le_line q2, r1⟩) (r2 _ _ _)⟩
  · cases q2
/-! ### what the top has made of a class -/
theorem fldOk_nil {K : PySem.W.Frag} {g : Gx} {f : Str} : FldOk K g [] f := fun c h => absurd h List.not_mem_nil
theorem fldOk_cons {K : PySem.W.Frag} {g : Gx} {f : Str} {c : Nat} {cs : List Nat} (h : Cls K (g.cls c)) (n : NoAttr K (g.cls c) f) (r : FldOk K g cs f) : FldOk K g (c :: cs) f := fun d hd => by
  rcases List.mem_cons.mp hd with rfl | hd
  · exact ⟨h, n⟩
  · exact r d hd
end Sh

set_option Elab.async false
set_option linter.all false
set_option maxRecDepth 100000
set_option maxHeartbeats 4000000
namespace Sh
open PySem PySem.Spec PyProof.Rows L2
/-! ### running plain programs: the equations -/
theorem qInt (n : Bool) (i j : Int) (st : Sto) : opEqB n (.int i) (.int j) st = .ok (.bl (xor n (i == j))) st := rfl
theorem qStr (n : Bool) (i j : Str) (st : Sto) : opEqB n (.str i) (.str j) st = .ok (.bl (xor n (i == j))) st := rfl
theorem qBl (n : Bool) (i j : Bool) (st : Sto) : opEqB n (.bl i) (.bl j) st = .ok (.bl (xor n (i == j))) st := rfl
theorem map_nat_inj : ∀ {a b : List Char}, a.map Char.toNat = b.map Char.toNat → a = b
  | [], [], _ => rfl
  | [], _ :: _, h => by simp at h
  | _ :: _, [], h => by simp at h
  | c :: r, d :: q, h => by
    simp only [List.map_cons, List.cons.injEq] at h
    rw [Char.toNat_inj.mp h.1, map_nat_inj h.2]
theorem ofString_inj {x y : String} (h : Str.ofString x = Str.ofString y) : x = y := by
  rw [Str.ofString_eq_toList, Str.ofString_eq_toList] at h
  have h1 : x.toList.map Char.toNat = y.toList.map Char.toNat := by simpa using congrArg (fun s : Str => s.cps.toList) h
  exact String.toList_inj.mp (map_nat_inj h1)
theorem str_eq (x y : String) : (Str.ofString x = Str.ofString y) = (x = y) := propext ⟨ofString_inj, fun h => by rw [h]⟩
theorem str_beq (x y : String) : (Str.ofString x == Str.ofString y) = (x == y) := by
  by_cases h : x = y
  · subst h; simp
  · have h' : ¬ Str.ofString x = Str.ofString y := fun e => h (ofString_inj e)
    rw [beq_eq_false_iff_ne.mpr h, beq_eq_false_iff_ne.mpr h']
/-- a loop by what stays true -/
theorem forF_inv {tg : Tg} {body : Sm} (P : En → Sto → Prop) : ∀ {ws : List Va}, (∀ w ∈ ws, ∀ env st, P env st → ∃ env1, tg w env = some env1 ∧ ∃ env2 st2, (body env1 st = .nx env2 st2 ∨ body env1 st = .ct env2 st2) ∧ P env2 st2) →
    ∀ {env : En} {st : Sto}, P env st → ∃ env' st', forF tg body ws env st = .nx env' st' ∧ P env' st'
  | [], _, env, st, p => ⟨env, st, rfl, p⟩
  | w :: ws, h, env, st, p => by
    obtain ⟨env1, e1, env2, st2, e2, p2⟩ := h w List.mem_cons_self env st p
    obtain ⟨env3, st3, e3, p3⟩ := forF_inv P (ws := ws) (fun u hu => h u (List.mem_cons_of_mem _ hu)) p2
    refine ⟨env3, st3, ?_, p3⟩
    unfold forF
    rw [e1]
    dsimp only
    rcases e2 with e2 | e2
    · rw [e2]; exact e3
    · rw [e2]; exact e3
theorem rangeW_mem {lo : Int} {n : Nat} {w : Va} (h : w ∈ rangeW lo n) : ∃ k : Nat, k < n ∧ w = .int (lo + (k : Int)) := by
  unfold rangeW at h
  obtain ⟨k, hk, e⟩ := List.mem_map.mp h
  exact ⟨k, List.mem_range.mp hk, e.symm⟩
theorem atI_map {α β : Type} (f : α → β) (xs : List α) (i : Int) : atI (xs.map f) i = (atI xs i).map f := by
  unfold atI
  rw [List.length_map]
  cases ixN xs.length i with
  | none => rfl
  | some j => simp
theorem atI_nat' {α : Type} (xs : List α) (k : Nat) : atI xs (k : Int) = xs[k]? := by
  unfold atI ixN
  rw [if_pos (Int.natCast_nonneg k)]
  by_cases h : (k : Int) < xs.length
  · rw [if_pos h]
    simp
  · rw [if_neg h]
    simp
    omega
theorem run_rt {n N : Nat} {m : Sm} {ws : List Va} {st st2 : Sto} {w : Va} (env : En) (he : ws.map some ++ List.replicate (N - n) none = env) (h : m env st = .rt w st2) : runF n m N ws st = .ok w st2 := by
  unfold runF
  rw [he, h]
theorem run_nx {n N : Nat} {m : Sm} {ws : List Va} {st st2 : Sto} {env2 : En} (env : En) (he : ws.map some ++ List.replicate (N - n) none = env) (h : m env st = .nx env2 st2) : runF n m N ws st = .ok .non st2 := by
  unfold runF
  rw [he, h]
theorem run_xc {n N c : Nat} {fs : List (Str × Va)} {m : Sm} {ws : List Va} {st st2 : Sto} {env2 : En} (env : En) (he : ws.map some ++ List.replicate (N - n) none = env) (h : m env st = .xc c fs env2 st2) : runF n m N ws st = .exc c fs st2 := by
  unfold runF
  rw [he, h]
theorem seq_nx {m n : Sm} {env env' : En} {st st' : Sto} (h : m env st = .nx env' st') : sSeq m n env st = n env' st' := by
  unfold sSeq
  rw [h]
theorem seq_rt {m n : Sm} {env : En} {st st' : Sto} {w : Va} (h : m env st = .rt w st') : sSeq m n env st = .rt w st' := by
  unfold sSeq
  rw [h]
theorem seq_xc {m n : Sm} {env env' : En} {st st' : Sto} {c : Nat} {fs : List (Str × Va)} (h : m env st = .xc c fs env' st') : sSeq m n env st = .xc c fs env' st' := by
  unfold sSeq
  rw [h]
theorem iR1_ok {m : En → Mo (List Va)} {env : En} {st st1 : Sto} {j : Int} (h : m env st = .ok [.int j] st1) (h0 : -(2 ^ 62) ≤ j) (h1 : j < 2 ^ 62) : iR1 m env st = .ok (.fix (rangeW 0 j.toNat)) st1 := by
  unfold iR1
  rw [h]
  exact if_pos ⟨h0, h1⟩
end Sh

set_option Elab.async false
set_option linter.all false
set_option maxRecDepth 100000
set_option maxHeartbeats 4000000
namespace Sh
open PySem PySem.Spec PyProof.Rows L2 TL
/-! ### tools for the plain layer -/
theorem get_mid {α : Type} (st : List α) (a : α) (r : List α) : (st ++ a :: r)[st.length]? = some a := by simp
theorem set_mid {α : Type} (st : List α) (a b : α) (r : List α) : (st ++ a :: r).set st.length b = st ++ b :: r := by simp [List.set_append]
theorem get_off {α : Type} (st r : List α) (k : Nat) : (st ++ r)[st.length + k]? = r[k]? := by
  rw [List.getElem?_append_right (by omega), Nat.add_sub_cancel_left]
theorem get_off0 {α : Type} (st r : List α) : (st ++ r)[st.length]? = r[0]? := get_off st r 0
theorem get_old {α : Type} {st t : List α} {n : Nat} {x : α} (h : st[n]? = some x) : (st ++ t)[n]? = some x := by
  rw [List.getElem?_append_left (List.getElem?_eq_some_iff.mp h).1]
  exact h
/-- a loop over items, by a word of the place -/
theorem forF_idx {tg : Tg} {body : Sm} (P : Nat → En → Sto → Prop) : ∀ {ws : List Va} {k : Nat}, (∀ i w, ws[i]? = some w → ∀ env st, P (k + i) env st → ∃ env1, tg w env = some env1 ∧ ∃ env2 st2, (body env1 st = .nx env2 st2 ∨ body env1 st = .ct env2 st2) ∧ P (k + i + 1) env2 st2) →
    ∀ {env : En} {st : Sto}, P k env st → ∃ env' st', forF tg body ws env st = .nx env' st' ∧ P (k + ws.length) env' st'
  | [], k, _, env, st, p => ⟨env, st, rfl, p⟩
  | w :: ws, k, h, env, st, p => by
    obtain ⟨env1, e1, env2, st2, e2, p2⟩ := h 0 w rfl env st p
    obtain ⟨env3, st3, e3, p3⟩ := forF_idx P (ws := ws) (k := k + 1) (fun i u hu env st q => by
      have := h (i + 1) u hu env st (by rw [show k + (i + 1) = k + 1 + i by omega]; exact q)
      rw [show k + (i + 1) + 1 = k + 1 + i + 1 by omega] at this
      exact this) p2
    refine ⟨env3, st3, ?_, by rw [show k + (w :: ws).length = k + 1 + ws.length by simp; omega]; exact p3⟩
    unfold forF
    rw [e1]
    dsimp only
    rcases e2 with e2 | e2
    · rw [e2]; exact e3
    · rw [e2]; exact e3
/-- a comprehension over items: an item each, the store grows -/
theorem compF_ok {e : En → Mo Va} {i : Nat} {env : En} {st0 : Sto} (R : Va → Va → Prop) : ∀ {ws : List Va}, (∀ w ∈ ws, ∀ t : Sto, ∃ y x, e (env.set i (some w)) (st0 ++ t) = .ok y (st0 ++ t ++ x) ∧ R w y) →
    ∀ (acc : List Va) (t : Sto), acc.length + ws.length ≤ 16777216 → ∃ ys x, compF (tgN i) cYes e st0.length env ws (st0 ++ .lst acc :: t) = .ok (.ref st0.length) (st0 ++ .lst (acc ++ ys) :: (t ++ x)) ∧ Paired R ws ys
  | [], _, acc, t, _ => ⟨[], [], by simp [compF], .nil⟩
  | w :: ws, h, acc, t, hl => by
    obtain ⟨y, x, e1, r⟩ := h w List.mem_cons_self (.lst acc :: t)
    obtain ⟨ys, x2, e2, r2⟩ := compF_ok R (ws := ws) (fun u hu => h u (List.mem_cons_of_mem _ hu)) (acc ++ [y]) (t ++ x) (by simp at hl ⊢; omega)
    refine ⟨y :: ys, x ++ x2, ?_, .cons r r2⟩
    have ha : acc.length < 16777216 := by simp at hl; omega
    have e1' : e (env.set i (some w)) (st0 ++ Ob.lst acc :: t) = .ok y (st0 ++ Ob.lst acc :: (t ++ x)) := by rw [e1]; simp
    have g1 : (st0 ++ Ob.lst acc :: (t ++ x))[st0.length]? = some (Ob.lst acc) := get_mid _ _ _
    have s1 : (st0 ++ Ob.lst acc :: (t ++ x)).set st0.length (Ob.lst (acc ++ [y])) = st0 ++ Ob.lst (acc ++ [y]) :: (t ++ x) := set_mid _ _ _ _
    unfold compF compT
    simp only [tgN, cYes, nex, bnd, e1', if_true, pushT, g1, ha, s1]
    rw [e2]
    simp [List.append_assoc]
/-- the same over a list of the store, which stays -/
theorem compL_ok {e : En → Mo Va} {i : Nat} {env : En} {st0 : Sto} {m : Nat} {all : List Va} (R : Va → Va → Prop) (hm : st0[m]? = some (.lst all)) (h : ∀ w ∈ all, ∀ t : Sto, ∃ y x, e (env.set i (some w)) (st0 ++ t) = .ok y (st0 ++ t ++ x) ∧ R w y) :
    ∀ (k j : Nat) (acc : List Va) (t : Sto), j ≤ all.length → all.length - j < k → acc.length + (all.length - j) ≤ 16777216 → ∃ ys x, compL (tgN i) cYes e st0.length env m k j (st0 ++ .lst acc :: t) = .ok (.ref st0.length) (st0 ++ .lst (acc ++ ys) :: (t ++ x)) ∧ Paired R (all.drop j) ys
  | 0, j, acc, t, _, h2, _ => by omega
  | k + 1, j, acc, t, h1, h2, hl => by
    have gm : (st0 ++ Ob.lst acc :: t)[m]? = some (.lst all) := get_old hm
    unfold compL
    by_cases hj : j < all.length
    · rw [List.drop_eq_getElem_cons hj]
      obtain ⟨y, x, e1, r⟩ := h all[j] (List.getElem_mem hj) (.lst acc :: t)
      have ha : acc.length < 16777216 := by omega
      obtain ⟨ys, x2, e2, r2⟩ := compL_ok R hm h k (j + 1) (acc ++ [y]) (t ++ x) (by omega) (by omega) (by rw [List.length_append, List.length_singleton]; omega)
      refine ⟨y :: ys, x ++ x2, ?_, .cons r r2⟩
      have e1' : e (env.set i (some all[j])) (st0 ++ Ob.lst acc :: t) = .ok y (st0 ++ Ob.lst acc :: (t ++ x)) := by rw [e1]; simp
      have g1 : (st0 ++ Ob.lst acc :: (t ++ x))[st0.length]? = some (Ob.lst acc) := get_mid _ _ _
      have s1 : (st0 ++ Ob.lst acc :: (t ++ x)).set st0.length (Ob.lst (acc ++ [y])) = st0 ++ Ob.lst (acc ++ [y]) :: (t ++ x) := set_mid _ _ _ _
      rw [gm]
      dsimp only
      rw [List.getElem?_eq_getElem hj]
      dsimp only
      unfold compT
      simp only [tgN, cYes, nex, bnd, e1', if_true, pushT, g1, ha, s1]
      rw [e2]
      simp [List.append_assoc]
    · refine ⟨[], [], ?_, ?_⟩
      · rw [gm]
        dsimp only
        rw [List.getElem?_eq_none (by omega)]
        simp
      · rw [List.drop_eq_nil_of_le (by omega)]
        exact .nil
/-- a comprehension over a list of the store / over written items -/
theorem eLc_live {src : En → Mo Src} {e : En → Mo Va} {i m : Nat} {env : En} {st st0 : Sto} {all : List Va} (R : Va → Va → Prop) (hs : src env st = .ok (.live m) st0) (hm : st0[m]? = some (.lst all)) (hl : all.length ≤ 16777216)
    (h : ∀ w ∈ all, ∀ t : Sto, ∃ y x, e ((env.set i none).set i (some w)) (st0 ++ t) = .ok y (st0 ++ t ++ x) ∧ R w y) :
    ∃ ys x, eLc src (tgN i) cYes e [i] env st = .ok (.ref st0.length) (st0 ++ .lst ys :: x) ∧ Paired R all ys := by
  obtain ⟨ys, x, e1, r⟩ := compL_ok (e := e) (i := i) (env := env.set i none) R hm h (all.length + 1) 0 [] [] (Nat.zero_le _) (by omega) (by simpa using hl)
  refine ⟨ys, x, ?_, by simpa using r⟩
  unfold eLc
  rw [hs]
  show compS (tgN i) cYes e [i] env (.live m) st0 = _
  unfold compS
  dsimp only
  rw [hm]
  dsimp only
  simpa [wipeE] using e1
theorem eLc_fix {src : En → Mo Src} {e : En → Mo Va} {i : Nat} {env : En} {st st0 : Sto} {all : List Va} (R : Va → Va → Prop) (hs : src env st = .ok (.fix all) st0) (hl : all.length ≤ 16777216)
    (h : ∀ w ∈ all, ∀ t : Sto, ∃ y x, e ((env.set i none).set i (some w)) (st0 ++ t) = .ok y (st0 ++ t ++ x) ∧ R w y) :
    ∃ ys x, eLc src (tgN i) cYes e [i] env st = .ok (.ref st0.length) (st0 ++ .lst ys :: x) ∧ Paired R all ys := by
  obtain ⟨ys, x, e1, r⟩ := compF_ok (e := e) (i := i) (env := env.set i none) (st0 := st0) R h [] [] (by simpa using hl)
  refine ⟨ys, x, ?_, r⟩
  unfold eLc
  rw [hs]
  show compS (tgN i) cYes e [i] env (.fix all) st0 = _
  unfold compS
  dsimp only
  simpa [wipeE] using e1
/-- in -/
theorem inS_one (c : Nat) (y : Str) : inS ⟨#[c]⟩ y = decide (c ∈ tl y) := PySem.StrLaws.found_one y c
theorem mem_joinL {S : List Nat} {c : Nat} : ∀ {ps : List (List Nat)}, c ∈ joinL S ps → c ∈ S ∨ ∃ p ∈ ps, c ∈ p
  | [], h => by cases h
  | [p], h => .inr ⟨p, List.mem_singleton.mpr rfl, h⟩
  | p :: q :: r, h => by
    rcases List.mem_append.mp h with h | h
    · exact .inr ⟨p, List.mem_cons_self, h⟩
    · rcases List.mem_append.mp h with h | h
      · exact .inl h
      · rcases mem_joinL h with h | ⟨z, hz, h⟩
        · exact .inl h
        · exact .inr ⟨z, List.mem_cons_of_mem _ hz, h⟩
theorem mem_cutS {x : Str} {lo hi : Option Int} {c : Nat} (h : c ∈ tl (cutS x lo hi)) : c ∈ tl x := List.mem_of_mem_drop (List.mem_of_mem_take h)
theorem atI_in {α : Type} {xs : List α} {i : Int} (h0 : 0 ≤ i) (h1 : i < xs.length) : ∃ x, atI xs i = some x ∧ x ∈ xs := by
  obtain ⟨k, rfl⟩ : ∃ k : Nat, i = (k : Int) := ⟨i.toNat, by omega⟩
  rw [atI_nat']
  have hk : k < xs.length := by omega
  exact ⟨xs[k], List.getElem?_eq_getElem hk, List.getElem_mem hk⟩

theorem seq_step {m n : Sm} {env env' : En} {st st' : Sto} {r : Fl} (h : m env st = .nx env' st') (h2 : n env' st' = r) : sSeq m n env st = r := by rw [seq_nx h]; exact h2
theorem seq_ret {m n : Sm} {env : En} {st st' : Sto} {w : Va} (h : m env st = .rt w st') : sSeq m n env st = .rt w st' := seq_rt h
theorem set_step {i : Nat} {m : En → Mo Va} {env : En} {st st' : Sto} {w : Va} (h : m env st = .ok w st') : sSet i m env st = .nx (env.set i (some w)) st' := by
  unfold sSet
  rw [h]
  rfl
theorem ret_step {m : En → Mo Va} {env : En} {st st' : Sto} {w : Va} (h : m env st = .ok w st') : sRet m env st = .rt w st' := by
  unfold sRet
  rw [h]
  rfl
theorem if_t {t : En → Mo Bool} {m n : Sm} {env : En} {st st' : Sto} (h : t env st = .ok true st') : sIf t m n env st = m env st' := by
  unfold sIf
  rw [h]
  rfl
theorem if_f {t : En → Mo Bool} {m n : Sm} {env : En} {st st' : Sto} (h : t env st = .ok false st') : sIf t m n env st = n env st' := by
  unfold sIf
  rw [h]
  rfl
theorem paired_length {α β : Type} {R : α → β → Prop} : ∀ {xs : List α} {ys : List β}, Paired R xs ys → xs.length = ys.length
  | _, _, .nil => rfl
  | _, _, .cons _ t => by rw [List.length_cons, List.length_cons, paired_length t]
theorem paired_right {α β γ : Type} {R : α → β → Prop} (f : γ → β) (G : α → γ → Prop) (h : ∀ a b, R a b → ∃ c, b = f c ∧ G a c) : ∀ {xs : List α} {ys : List β}, Paired R xs ys → ∃ zs : List γ, ys = zs.map f ∧ Paired G xs zs
  | _, _, .nil => ⟨[], rfl, .nil⟩
  | _, _, .cons r t => by
    obtain ⟨zs, e, p⟩ := paired_right f G h t
    obtain ⟨c, e1, g1⟩ := h _ _ r
    exact ⟨c :: zs, by rw [e, e1]; rfl, .cons g1 p⟩
theorem paired_all {α β : Type} {R : α → β → Prop} {P : β → Prop} (h : ∀ a b, R a b → P b) : ∀ {xs : List α} {ys : List β}, Paired R xs ys → ∀ y ∈ ys, P y
  | _, _, .nil, _, hy => absurd hy List.not_mem_nil
  | _, _, .cons r t, y, hy => by
    rcases List.mem_cons.mp hy with e | hy
    · subst e; exact h _ _ r
    · exact paired_all h t y hy
theorem unstr_map : ∀ zs : List Str, unstr (zs.map Va.str) = some zs
  | [] => rfl
  | z :: r => by
    show (unstr (r.map Va.str)).map (z :: ·) = _
    rw [unstr_map r]
    rfl
theorem joinL_nil_length : ∀ ps : List (List Nat), (joinL [] ps).length = (ps.map List.length).sum
  | [] => rfl
  | [p] => by simp [joinL]
  | p :: q :: r => by
    show (p ++ ([] ++ joinL [] (q :: r))).length = _
    rw [List.nil_append, List.length_append, joinL_nil_length (q :: r)]
    simp

/-- a loop that looks at every item and may stop -/
theorem forF_scan {i : Nat} {body : Sm} {env : En} {st : Sto} {v : Va} (p : Va → Bool) : ∀ {ws : List Va}, (∀ w ∈ ws, p w = true → body (env.set i (some w)) st = .nx (env.set i (some w)) st) → (∀ w ∈ ws, p w = false → body (env.set i (some w)) st = .rt v st) →
    ∀ z, (ws.all p = true → ∃ z', forF (tgN i) body ws (env.set i z) st = .nx (env.set i z') st) ∧ (ws.all p = false → forF (tgN i) body ws (env.set i z) st = .rt v st)
  | [], _, _, z => ⟨fun _ => ⟨z, rfl⟩, fun h => by simp at h⟩
  | w :: ws, h1, h2, z => by
    have ih := forF_scan p (ws := ws) (fun u hu => h1 u (List.mem_cons_of_mem _ hu)) (fun u hu => h2 u (List.mem_cons_of_mem _ hu)) (some w)
    have e : (env.set i z).set i (some w) = env.set i (some w) := by rw [List.set_set]
    cases hp : p w with
    | true =>
      have hb := h1 w List.mem_cons_self hp
      rw [List.all_cons, hp, Bool.true_and]
      have e2 : forF (tgN i) body (w :: ws) (env.set i z) st = forF (tgN i) body ws (env.set i (some w)) st := by
        rw [forF]
        simp only [tgN, e, hb]
      rw [e2]
      exact ih
    | false =>
      have hb := h2 w List.mem_cons_self hp
      rw [List.all_cons, hp, Bool.false_and]
      refine ⟨fun h => (Bool.false_ne_true h).elim, fun _ => ?_⟩
      rw [forF]
      simp only [tgN, e, hb]
theorem paired_eq {α β : Type} {f : α → β} : ∀ {xs : List α} {ys : List β}, Paired (fun a b => b = f a) xs ys → ys = xs.map f
  | _, _, .nil => rfl
  | _, _, .cons r t => by rw [r, paired_eq t]; rfl
theorem blsW_map : ∀ bs : List Bool, blsW (bs.map Va.bl) = some bs
  | [] => rfl
  | b :: r => by
    show (blsW (r.map Va.bl)).map (b :: ·) = _
    rw [blsW_map r]
    rfl
/-- lists of texts as data -/
theorem datL_strs (st : Sto) (n : Nat) : ∀ ys : List Str, datL (dat st (n + 1)) (ys.map Va.str) = some (ys.map PyData.str)
  | [] => rfl
  | y :: r => by
    rw [List.map_cons, datL, datL_strs st n r]
    rfl
theorem canLay_strs : ∀ ys : List Str, (∀ y ∈ ys, PySem.PyData.strOk y = true) → PyData.canLayAll0 (ys.map PyData.str) = true
  | [], _ => rfl
  | y :: r, h => by
    simp only [List.map_cons, PyData.canLayAll0, PyData.canLay0, canLay_strs r fun z hz => h z (List.mem_cons_of_mem _ hz), h y List.mem_cons_self, Bool.and_self]
theorem depth_strs : ∀ ys : List Str, PyData.depthAll (ys.map PyData.str) = 0
  | [] => rfl
  | y :: r => by simp [PyData.depthAll, PyData.depth, depth_strs r]
theorem shaped_strs (ys : List Str) (h : ∀ y ∈ ys, PySem.PyData.strOk y = true) : SeqAt.shaped (.list (ys.map PyData.str)) = true := by
  simp [SeqAt.shaped, PyData.canLay0, PyData.depth, canLay_strs ys h, depth_strs]
theorem eqv_strs : ∀ xs ys : List Str, PyData.eqvAll (xs.map PyData.str) (ys.map PyData.str) = decide (xs = ys)
  | [], [] => by simp [PyData.eqvAll]
  | [], _ :: _ => by simp [PyData.eqvAll]
  | _ :: _, [] => by simp [PyData.eqvAll]
  | a :: r, b :: t => by
    simp only [List.map_cons, PyData.eqvAll, PyData.eqv, eqv_strs r t]
    by_cases h : a = b <;> by_cases h' : r = t <;> simp [h, h']
theorem any_strs (w : Str) : ∀ ys : List Str, ((ys.map PyData.str).any fun z => z.eqv (.str w)) = ys.any (· == w)
  | [] => rfl
  | y :: r => by rw [List.map_cons, List.any_cons, List.any_cons, any_strs w r]; rfl
theorem any_eqW (w : Str) : ∀ ys : List Str, ((ys.map Va.str).any fun y => eqW y (.str w)) = ys.any (· == w)
  | [] => rfl
  | y :: r => by rw [List.map_cons, List.any_cons, List.any_cons, any_eqW w r]; rfl
theorem flat_strs : ∀ ys : List Str, (ys.map Va.str).all flatW = true
  | [] => rfl
  | y :: r => by rw [List.map_cons, List.all_cons, flat_strs r]; rfl
theorem in_ktp (neg : Bool) (w : Str) (ys : List Str) (st : Sto) : opInB neg (.str w) (.ktp (ys.map Va.str)) st = .ok (.bl (xor neg (ys.any (· == w)))) st := by
  unfold opInB
  dsimp only
  rw [flat_strs, any_eqW]
  rfl
theorem in_lst (neg : Bool) (w : Str) (ys : List Str) (n : Nat) (st : Sto) (h : st[n]? = some (.lst (ys.map Va.str))) (hw : PySem.PyData.strOk w = true) (hy : ∀ y ∈ ys, PySem.PyData.strOk y = true) : opInB neg (.str w) (.ref n) st = .ok (.bl (xor neg (ys.any (· == w)))) st := by
  unfold opInB
  dsimp only
  rw [h]
  dsimp only
  rw [datL_strs]
  show (if (SeqAt.shaped (.str w) && SeqAt.shaped (.list (ys.map PyData.str))) = true then _ else _) = _
  rw [shaped_strs ys hy, any_strs]
  have : SeqAt.shaped (.str w) = true := by simp [SeqAt.shaped, PyData.canLay0, PyData.depth, hw]
  rw [this]
  rfl

theorem dat_strs {st : Sto} {n k : Nat} {ys : List Str} (h : st[n]? = some (.lst (ys.map Va.str))) : dat st (k + 2) (.ref n) = some (.list (ys.map PyData.str)) := by
  unfold dat
  dsimp only
  rw [h]
  dsimp only
  rw [datL_strs]
  rfl
theorem eq_strs (neg : Bool) {st : Sto} {m n : Nat} {xs ys : List Str} (hm : st[m]? = some (.lst (xs.map Va.str))) (hn : st[n]? = some (.lst (ys.map Va.str))) (hx : ∀ y ∈ xs, PySem.PyData.strOk y = true) (hy : ∀ y ∈ ys, PySem.PyData.strOk y = true) :
    opEqB neg (.ref m) (.ref n) st = .ok (.bl (xor neg (decide (xs = ys)))) st := by
  show opEqD neg (.ref m) (.ref n) st = _
  unfold opEqD
  rw [dat_strs hm, dat_strs hn]
  dsimp only
  rw [shaped_strs xs hx, shaped_strs ys hy]
  show Rs.ok (Va.bl (xor neg (PyData.eqv (.list _) (.list _)))) st = _
  rw [PyData.eqv, eqv_strs]
end Sh

set_option Elab.async false
set_option linter.all false
set_option maxRecDepth 100000
set_option maxHeartbeats 4000000
namespace Pr
open PySem PySem.Spec PyProof.Rows L2 Sh
def topS (i : Nat) : Stmt := PySem.Challenge.pw_nestcall_k00_names_and_numbers.main.body.getD i (.Pass ⟨0, 0, 0, 0⟩)
def K_DIGITS : Va := (Va.str ("0123456789" : Str))
def L_KEY_WORDS : List Va := [(Va.str ("asset" : Str)), (Va.str ("contract" : Str)), (Va.str ("var" : Str)), (Va.str ("hold" : Str)), (Va.str ("proc" : Str)), (Va.str ("shown" : Str)), (Va.str ("hidden" : Str)), (Va.str ("end" : Str)), (Va.str ("set" : Str)), (Va.str ("need" : Str)), (Va.str ("give" : Str)), (Va.str ("get" : Str)), (Va.str ("move" : Str)), (Va.str ("ask" : Str)), (Va.str ("call" : Str)), (Va.str ("if" : Str)), (Va.str ("else" : Str)), (Va.str ("given" : Str)), (Va.str ("have" : Str)), (Va.str ("out" : Str)), (Va.str ("mod" : Str))]
def K_KEY_WORDS : Va := .ktp L_KEY_WORDS
def K_LARGEST : Va := (Va.int 65535)
def K_LETTERS : Va := (Va.str ("abcdefghijklmnopqrstuvwxyz" : Str))
def K_LONGEST_NAME : Va := (Va.int 12)
def K_LONGEST_NUMBER : Va := (Va.int 5)
def b_law_row  : Sm :=
  (sSeq (sSet 3 (eVar 0))
  (sSeq (sSet 4 (eA opLst aNil))
  (sSeq (sFor (iR1 (aCons (eVar 1) aNil)) (tgN 5)
  (sIf (eT (e2 opGe (eVar 0) (e2 opPow (eC (.int 10)) (eC (.int 18)))))
  (sSeq (sExpr (eMt "list" mAppend (eVar 4) (aCons (e2 opMod (eA cInt (aCons (eVar 3) aNil)) (eVar 2)) aNil)))
  (sSet 3 (e2 opFdiv (eVar 3) (eVar 2)))) (sSeq (sSet 3 (e2 opMod (e2 opAdd (e2 opMul (eVar 3) (eC (.int 48271))) (eC (.int 12345))) (eC (.int 2147483647))))
  (sExpr (eMt "list" mAppend (eVar 4) (aCons (e2 opMod (e2 opMod (eA cInt (aCons (e2 opAdd (e2 opMul (eVar 3) (eC (.int 69621))) (e2 opMul (eVar 5) (eC (.int 7919)))) aNil)) (eC (.int 2147483647))) (eVar 2)) aNil))))))
  (sRet (eVar 4)))))
def f_law_row : Fn := runF 3 (b_law_row ) 6
def b_law_word (c_law_row : Fn) : Sm :=
  (sSeq (sSet 1 (eA opLst (aCons (eC (.str ("asset" : Str))) (aCons (eC (.str ("contract" : Str))) (aCons (eC (.str ("var" : Str))) (aCons (eC (.str ("hold" : Str))) (aCons (eC (.str ("proc" : Str))) (aCons (eC (.str ("shown" : Str))) (aCons (eC (.str ("hidden" : Str))) (aCons (eC (.str ("end" : Str))) (aCons (eC (.str ("set" : Str))) (aCons (eC (.str ("need" : Str))) (aCons (eC (.str ("give" : Str))) (aCons (eC (.str ("get" : Str))) (aCons (eC (.str ("move" : Str))) (aCons (eC (.str ("ask" : Str))) aNil))))))))))))))))
  (sSeq (sSet 1 (e2 opAdd (eVar 1) (eA opLst (aCons (eC (.str ("call" : Str))) (aCons (eC (.str ("if" : Str))) (aCons (eC (.str ("else" : Str))) (aCons (eC (.str ("given" : Str))) (aCons (eC (.str ("have" : Str))) (aCons (eC (.str ("out" : Str))) (aCons (eC (.str ("mod" : Str))) aNil))))))))))
  (sSeq (sIf (eT (e2 opEq (e2 opMod (eA cInt (aCons (eVar 0) aNil)) (eC (.int 4))) (eC (.int 0))))
  (sRet (e2 opAdd (e2 opIx (eVar 1) (e2 opMod (e2 opFdiv (eA cInt (aCons (eVar 0) aNil)) (eC (.int 4))) (eC (.int 21)))) (e2 opIx (eA opTup (aCons (eC (.str ("" : Str))) (aCons (eC (.str ("" : Str))) (aCons (eC (.str ("s" : Str))) (aCons (eC (.str ("1" : Str))) aNil))))) (e2 opMod (e2 opFdiv (eA cInt (aCons (eVar 0) aNil)) (eC (.int 84))) (eC (.int 4)))))) sNil)
  (sSeq (sSet 2 (eC (.str ("abcdefghijklmnopqrstuvwxyz0123456789AZ_-+.\t\n" : Str))))
  (sSeq (sIf (eT (e2 opEq (e2 opMod (eA cInt (aCons (eVar 0) aNil)) (eC (.int 4))) (eC (.int 1))))
  (sSet 2 (eC (.str ("0123456789" : Str)))) sNil)
  (sSeq (sIf (eT (e2 opEq (e2 opMod (eA cInt (aCons (eVar 0) aNil)) (eC (.int 4))) (eC (.int 2))))
  (sSeq (sSet 3 (eMt "str" mJoin (eC (.str ("" : Str))) (aCons (eLc (iL (eA (lenOk 3 c_law_row) (aCons (e2 opFdiv (eA cInt (aCons (eVar 0) aNil)) (eC (.int 4))) (aCons (e2 opMod (e2 opFdiv (eA cInt (aCons (eVar 0) aNil)) (eC (.int 7))) (eC (.int 14))) (aCons (eC (.int 10)) aNil))))) (tgN 4) cYes (e2 opIx (eC (.str ("abcxyz0189" : Str))) (eVar 4)) [4]) aNil)))
  (sSeq (sSet 5 (eC (.str ("!\"#$&'()*+,-./:;<=>?@ABCDEFGHIJKLMNOPQRSTUVWXYZ[\\]^_`{|}~\t\n" : Str))))
  (sSeq (sSet 6 (e2 opMod (e2 opFdiv (eA cInt (aCons (eVar 0) aNil)) (eC (.int 100))) (e2 opAdd (eA cLen (aCons (eVar 3) aNil)) (eC (.int 1)))))
  (sRet (e2 opAdd (e2 opAdd (eSl (eVar 3) oNone (oSome (eVar 6))) (e2 opIx (eVar 5) (e2 opMod (e2 opFdiv (eA cInt (aCons (eVar 0) aNil)) (eC (.int 1500))) (eA cLen (aCons (eVar 5) aNil))))) (eSl (eVar 3) (oSome (eVar 6)) oNone)))))) sNil)
  (sSeq (sSet 7 (eA (lenOk 3 c_law_row) (aCons (e2 opFdiv (eA cInt (aCons (eVar 0) aNil)) (eC (.int 4))) (aCons (eC (.int 60)) (aCons (eA cLen (aCons (eVar 2) aNil)) aNil)))))
  (sSeq (sSet 8 (e2 opMod (e2 opFdiv (eA cInt (aCons (eVar 0) aNil)) (eC (.int 7))) (eC (.int 15))))
  (sSeq (sIf (eT (e2 opEq (e2 opMod (e2 opFdiv (eA cInt (aCons (eVar 0) aNil)) (eC (.int 105))) (eC (.int 5))) (eC (.int 4))))
  (sSet 8 (e2 opMod (e2 opFdiv (eA cInt (aCons (eVar 0) aNil)) (eC (.int 7))) (eC (.int 60)))) sNil)
  (sRet (eMt "str" mJoin (eC (.str ("" : Str))) (aCons (eLc (iR1 (aCons (eVar 8) aNil)) (tgN 9) cYes (e2 opIx (eVar 2) (e2 opIx (eVar 7) (eVar 9))) [9]) aNil))))))))))))
def f_law_word : Fn := runF 1 (b_law_word f_law_row) 10
def b_is_name  : Sm :=
  (sSeq (sIf (eOr (eT (e2 opEq (eVar 0) (eC (.str ("" : Str))))) (eOr (eT (e2 opGt (eA cLen (aCons (eVar 0) aNil)) (eC K_LONGEST_NAME))) (eT (e2 opIn (eVar 0) (eC K_KEY_WORDS)))))
  (sRet (eC (.bl false))) sNil)
  (sRet (vAnd (e2 opIn (e2 opIx (eVar 0) (eC (.int 0))) (eC K_LETTERS)) (eA cAll (aCons (eLc (iS (eVar 0)) (tgN 1) cYes (vOr (e2 opIn (eVar 1) (eC K_LETTERS)) (e2 opIn (eVar 1) (eC K_DIGITS))) [1]) aNil)))))
def f_is_name : Fn := runF 1 (b_is_name ) 2
def b_law_name  : Sm :=
  (sSeq (sSet 1 (eA opLst (aCons (eC (.str ("asset" : Str))) (aCons (eC (.str ("contract" : Str))) (aCons (eC (.str ("var" : Str))) (aCons (eC (.str ("hold" : Str))) (aCons (eC (.str ("proc" : Str))) (aCons (eC (.str ("shown" : Str))) (aCons (eC (.str ("hidden" : Str))) (aCons (eC (.str ("end" : Str))) (aCons (eC (.str ("set" : Str))) (aCons (eC (.str ("need" : Str))) (aCons (eC (.str ("give" : Str))) (aCons (eC (.str ("get" : Str))) (aCons (eC (.str ("move" : Str))) (aCons (eC (.str ("ask" : Str))) aNil))))))))))))))))
  (sSeq (sSet 1 (e2 opAdd (eVar 1) (eA opLst (aCons (eC (.str ("call" : Str))) (aCons (eC (.str ("if" : Str))) (aCons (eC (.str ("else" : Str))) (aCons (eC (.str ("given" : Str))) (aCons (eC (.str ("have" : Str))) (aCons (eC (.str ("out" : Str))) (aCons (eC (.str ("mod" : Str))) aNil))))))))))
  (sSeq (sIf (eOr (eT (e2 opEq (eVar 0) (eC (.str ("" : Str))))) (eOr (eT (e2 opGt (eA cLen (aCons (eVar 0) aNil)) (eC (.int 12)))) (eOr (eT (e2 opIn (eVar 0) (eVar 1))) (eT (e2 opNotIn (e2 opIx (eVar 0) (eC (.int 0))) (eC (.str ("abcdefghijklmnopqrstuvwxyz" : Str))))))))
  (sRet (eC (.bl false))) sNil)
  (sSeq (sFor (iS (eVar 0)) (tgN 2)
  (sIf (eT (e2 opNotIn (eVar 2) (eC (.str ("abcdefghijklmnopqrstuvwxyz0123456789" : Str)))))
  (sRet (eC (.bl false))) sNil))
  (sRet (eC (.bl true)))))))
def f_law_name : Fn := runF 1 (b_law_name ) 3
def b_digits_value  : Sm :=
  (sSeq (sIf (eOr (eT (e2 opEq (eVar 0) (eC (.str ("" : Str))))) (eT (e2 opGt (eA cLen (aCons (eVar 0) aNil)) (eVar 1))))
  (sRet (eC .non)) sNil)
  (sSeq (sIf (eNot (eT (eA cAll (aCons (eLc (iS (eVar 0)) (tgN 2) cYes (e2 opIn (eVar 2) (eC K_DIGITS)) [2]) aNil))))
  (sRet (eC .non)) sNil)
  (sSeq (sIf (eAnd (eT (e2 opEq (e2 opIx (eVar 0) (eC (.int 0))) (eC (.str ("0" : Str))))) (eT (e2 opNe (eVar 0) (eC (.str ("0" : Str))))))
  (sRet (eC .non)) sNil)
  (sRet (eA cInt (aCons (eVar 0) aNil))))))
def f_digits_value : Fn := runF 2 (b_digits_value ) 3
def b_number_of (c_digits_value : Fn) : Sm :=
  (sSeq (sSet 1 (eA (lenOk 2 c_digits_value) (aCons (eVar 0) (aCons (eC K_LONGEST_NUMBER) aNil))))
  (sRet (eIf (eAnd (eT (e2 opNotN (eVar 1) (eC .non))) (eT (e2 opLe (eVar 1) (eC K_LARGEST)))) (eVar 1) (eC .non))))
def f_number_of : Fn := runF 1 (b_number_of f_digits_value) 2
def b_law_number  : Sm :=
  (sSeq (sIf (eOr (eT (e2 opEq (eVar 0) (eC (.str ("" : Str))))) (eT (e2 opGt (eA cLen (aCons (eVar 0) aNil)) (eC (.int 5)))))
  (sRet (eC .non)) sNil)
  (sSeq (sFor (iS (eVar 0)) (tgN 1)
  (sIf (eT (e2 opNotIn (eVar 1) (eC (.str ("0123456789" : Str)))))
  (sRet (eC .non)) sNil))
  (sSeq (sIf (eOr (eAnd (eT (e2 opNe (eVar 0) (eC (.str ("0" : Str))))) (eT (e2 opEq (e2 opIx (eVar 0) (eC (.int 0))) (eC (.str ("0" : Str)))))) (eT (e2 opGt (eA cInt (aCons (eVar 0) aNil)) (eC (.int 65535)))))
  (sRet (eC .non)) sNil)
  (sRet (eA cInt (aCons (eVar 0) aNil))))))
def f_law_number : Fn := runF 1 (b_law_number ) 2
def b_law_is_integer  : Sm :=
  (sRet (vAnd (eA cIsi (aCons (eVar 0) (aCons (eC (.cst (.ty "int"))) aNil))) (vNot (eA cIsi (aCons (eVar 0) (aCons (eC (.cst (.ty "bool"))) aNil))))))
def f_law_is_integer : Fn := runF 1 (b_law_is_integer ) 1
def b_Cursor_init  : Sm :=
  (sSeq (sFld [2] ("words" : Str) (eVar 0) (eIf (eT (e2 opNe (eVar 1) (eC (.str ("" : Str))))) (eMt "str" mSplit (eVar 1) (aCons (eC (.str (" " : Str))) aNil)) (eA opLst aNil)))
  (sFld [2] ("at" : Str) (eVar 0) (eC (.int 0))))
def f_Cursor_init : Fn := runF 2 (b_Cursor_init ) 2
def b_law (c_law_word : Fn) (c_is_name : Fn) (c_law_name : Fn) (c_number_of : Fn) (c_law_number : Fn) (c_law_is_integer : Fn) (c_Cursor_init : Fn) : Sm :=
  (sSeq (sFor (iL (eVar 0)) (tgN 1)
  (sSeq (sSet 2 (eA (lenOk 1 c_law_word) (aCons (eA cAbs (aCons (eVar 1) aNil)) aNil)))
  (sSeq (sSet 3 (eA (lenOk 1 c_is_name) (aCons (eVar 2) aNil)))
  (sSeq (sIf (eOr (eNot (eT (eA cIsi (aCons (eVar 3) (aCons (eC (.cst (.ty "bool"))) aNil))))) (eT (e2 opNe (eVar 3) (eA (lenOk 1 c_law_name) (aCons (eVar 2) aNil)))))
  (sRet (eC (.bl false))) sNil)
  (sSeq (sSet 3 (eA (lenOk 1 c_number_of) (aCons (eVar 2) aNil)))
  (sSeq (sSet 4 (eA (lenOk 1 c_law_number) (aCons (eVar 2) aNil)))
  (sIf (eT (e2 opIsN (eVar 4) (eC .non)))
  (sIf (eT (e2 opNotN (eVar 3) (eC .non)))
  (sRet (eC (.bl false))) sNil) (sIf (eOr (eNot (eT (eA (lenOk 1 c_law_is_integer) (aCons (eVar 3) aNil)))) (eT (e2 opNe (eVar 3) (eVar 4))))
  (sRet (eC (.bl false))) sNil))))))))
  (sSeq (sSet 5 (eLc (iL (eVar 0)) (tgN 1) cYes (eA (lenOk 1 c_law_word) (aCons (eA cAbs (aCons (eVar 1) aNil)) aNil)) [1]))
  (sSeq (sSet 6 (eA (opMake 2 2 c_Cursor_init) (aCons (eMt "str" mJoin (eC (.str (" " : Str))) (aCons (eVar 5) aNil)) aNil)))
  (sSeq (sSet 4 (eVar 5))
  (sSeq (sIf (eOr (eT (e2 opEq (eVar 5) (eA opLst aNil))) (eT (e2 opEq (eVar 5) (eA opLst (aCons (eC (.str ("" : Str))) aNil)))))
  (sSet 4 (eA opLst aNil)) sNil)
  (sSeq (sIf (eOr (eT (e2 opNe (eFld [2] ("words" : Str) (eVar 6)) (eVar 4))) (eOr (eT (e2 opNe (eFld [2] ("at" : Str) (eVar 6)) (eC (.int 0)))) (eNot (eT (eA cIsi (aCons (eFld [2] ("words" : Str) (eVar 6)) (aCons (eC (.cst (.ty "list"))) aNil)))))))
  (sRet (eC (.bl false))) sNil)
  (sRet (vAnd (e2 opEq (eA (lenOk 1 c_number_of) (aCons (eC (.str ("65535" : Str))) aNil)) (eC (.int 65535))) (e2 opIsN (eA (lenOk 1 c_number_of) (aCons (eC (.str ("65536" : Str))) aNil)) (eC .non))))))))))
def f_law : Fn := runF 1 (b_law f_law_word f_is_name f_law_name f_number_of f_law_number f_law_is_integer f_Cursor_init) 7
structure Txt (K : PySem.W.Frag) (mg : Str → Option Value) (g : Gx) : Prop where
  ok : True
  b_abs : mg "abs" = none
  b_all : mg "all" = none
  b_bool : mg "bool" = none
  b_int : mg "int" = none
  b_isinstance : mg "isinstance" = none
  b_len : mg "len" = none
  b_list : mg "list" = none
  b_range : mg "range" = none
  k_DIGITS : GV K mg "DIGITS" K_DIGITS
  k_KEY_WORDS : GV K mg "KEY_WORDS" K_KEY_WORDS
  k_LARGEST : GV K mg "LARGEST" K_LARGEST
  k_LETTERS : GV K mg "LETTERS" K_LETTERS
  k_LONGEST_NAME : GV K mg "LONGEST_NAME" K_LONGEST_NAME
  k_LONGEST_NUMBER : GV K mg "LONGEST_NUMBER" K_LONGEST_NUMBER
  a_at : FldOk K g [2] ("at" : Str)
  a_words : FldOk K g [2] ("words" : Str)
section
variable {P : Program} {w : World} {K : PySem.W.Frag} {mg : Str → Option Value} {base : Heap} {g : Gx}
abbrev s_law_row : Stmt := topS 18
theorem sc_law_row : FnScope [("cell" : Str), ("count" : Str), ("size" : Str), ("state" : Str), ("row" : Str), ("k" : Str)] [("cell" : Str), ("count" : Str), ("size" : Str)] (defScope s_law_row) := ⟨rfl, rfl, rfl, by decide +kernel, rfl, by decide +kernel, by decide +kernel⟩
theorem body_law_row (T : Txt K mg g)  {f : Addr} {fd : FuncData} (F : Fun K ("_law_row" : Str) ("_law_row" : Str) s_law_row f fd) : FnOk P w K mg base (L2.CX P w) (0 + 1) f fd [("cell" : Str), ("count" : Str), ("size" : Str)] (spM K g 3 (runF 3 (b_law_row ) 6)) :=
  fn_body F sc_law_row rfl rfl fun cdv A outer s H E hr => by
  have hu : (A.deeper (envOfC ("_law_row" : Str) (defScope s_law_row) s.heap.objs.size f cdv)).units + 64 < cLine := hr.units
  have hv : (A.deeper (envOfC ("_law_row" : Str) (defScope s_law_row) s.heap.objs.size f cdv)).units + 65 < cLine := by have := hr.un; omega
  have tk := takes_of (X := cxOf (L2.CX P w) P w K mg base [("cell" : Str), ("count" : Str), ("size" : Str), ("state" : Str), ("row" : Str), ("k" : Str)] ("_law_row" : Str) (defScope s_law_row) f cdv A outer s H E) (E := E) rfl rfl rfl rfl
  have hp := passes_of (X := cxOf (L2.CX P w) P w K mg base [("cell" : Str), ("count" : Str), ("size" : Str), ("state" : Str), ("row" : Str), ("k" : Str)] ("_law_row" : Str) (defScope s_law_row) f cdv A outer s H E) rfl
  exact (js_cons (js_set 3 sc_law_row.nd (j_var 0))
  (js_cons (js_set 4 sc_law_row.nd (j_lst ja_nil))
  (js_cons (js_for hp rfl (ji_rg1 T.b_range (ja_cons (j_var 1) ja_nil)) (jg_name 5 sc_law_row.nd)
  (js_one (js_if (jt_cmp os_ge nox_opGe (j_var 0) (j_op os_pow nox_opPow j_int j_int))
  (js_cons (js_expr (j_mt PySem.F.plainAttrs_list PySem.F.slot_list_append PySem.F.type_list_append ms_append nox_mAppend (j_var 4) (ja_cons (j_op os_mod nox_opMod (j_callTy cs_int nox_cInt T.b_int (by decide +kernel) (ja_cons (j_var 3) ja_nil)) (j_var 2)) ja_nil)))
  (js_one (js_set 3 sc_law_row.nd (j_op os_fdiv nox_opFdiv (j_var 3) (j_var 2))))) (js_cons (js_set 3 sc_law_row.nd (j_op os_mod nox_opMod (j_op os_add nox_opAdd (j_op os_mul nox_opMul (j_var 3) j_int) j_int) j_int))
  (js_one (js_expr (j_mt PySem.F.plainAttrs_list PySem.F.slot_list_append PySem.F.type_list_append ms_append nox_mAppend (j_var 4) (ja_cons (j_op os_mod nox_opMod (j_op os_mod nox_opMod (j_callTy cs_int nox_cInt T.b_int (by decide +kernel) (ja_cons (j_op os_add nox_opAdd (j_op os_mul nox_opMul (j_var 3) j_int) (j_op os_mul nox_opMul (j_var 5) j_int)) ja_nil)) j_int) (j_var 2)) ja_nil))))))))
  (js_one (js_ret (j_var 4))))))
abbrev s_law_word : Stmt := topS 19
theorem sc_law_word : FnScope [("cell" : Str), ("keys" : Str), ("signs" : Str), ("word" : Str), ("digit" : Str), ("every" : Str), ("at" : Str), ("digits" : Str), ("count" : Str), ("k" : Str)] [("cell" : Str)] (defScope s_law_word) := ⟨rfl, rfl, rfl, by decide +kernel, rfl, by decide +kernel, by decide +kernel⟩
theorem body_law_word (T : Txt K mg g) {c_law_row : Fn} (d_law_row : DefOk P w K mg base g 1 ("_law_row" : Str) 3 c_law_row) {f : Addr} {fd : FuncData} (F : Fun K ("_law_word" : Str) ("_law_word" : Str) s_law_word f fd) : FnOk P w K mg base (L2.CX P w) (1 + 1) f fd [("cell" : Str)] (spM K g 1 (runF 1 (b_law_word c_law_row) 10)) :=
  fn_body F sc_law_word rfl rfl fun cdv A outer s H E hr => by
  have hu : (A.deeper (envOfC ("_law_word" : Str) (defScope s_law_word) s.heap.objs.size f cdv)).units + 64 < cLine := hr.units
  have hv : (A.deeper (envOfC ("_law_word" : Str) (defScope s_law_word) s.heap.objs.size f cdv)).units + 65 < cLine := by have := hr.un; omega
  have tk := takes_of (X := cxOf (L2.CX P w) P w K mg base [("cell" : Str), ("keys" : Str), ("signs" : Str), ("word" : Str), ("digit" : Str), ("every" : Str), ("at" : Str), ("digits" : Str), ("count" : Str), ("k" : Str)] ("_law_word" : Str) (defScope s_law_word) f cdv A outer s H E) (E := E) rfl rfl rfl rfl
  have hp := passes_of (X := cxOf (L2.CX P w) P w K mg base [("cell" : Str), ("keys" : Str), ("signs" : Str), ("word" : Str), ("digit" : Str), ("every" : Str), ("at" : Str), ("digits" : Str), ("count" : Str), ("k" : Str)] ("_law_word" : Str) (defScope s_law_word) f cdv A outer s H E) rfl
  exact (js_cons (js_set 1 sc_law_word.nd (j_lst (ja_cons j_str (ja_cons j_str (ja_cons j_str (ja_cons j_str (ja_cons j_str (ja_cons j_str (ja_cons j_str (ja_cons j_str (ja_cons j_str (ja_cons j_str (ja_cons j_str (ja_cons j_str (ja_cons j_str (ja_cons j_str ja_nil))))))))))))))))
  (js_cons (js_set 1 sc_law_word.nd (j_op os_add nox_opAdd (j_var 1) (j_lst (ja_cons j_str (ja_cons j_str (ja_cons j_str (ja_cons j_str (ja_cons j_str (ja_cons j_str (ja_cons j_str ja_nil))))))))))
  (js_cons (js_if (jt_cmp (os_eq hu) nox_opEqB (j_op os_mod nox_opMod (j_callTy cs_int nox_cInt T.b_int (by decide +kernel) (ja_cons (j_var 0) ja_nil)) j_int) j_int)
  (js_one (js_ret (j_op os_add nox_opAdd (j_ix (j_var 1) (j_op os_mod nox_opMod (j_op os_fdiv nox_opFdiv (j_callTy cs_int nox_cInt T.b_int (by decide +kernel) (ja_cons (j_var 0) ja_nil)) j_int) j_int)) (j_ix (j_tup (ja_cons j_str (ja_cons j_str (ja_cons j_str (ja_cons j_str ja_nil))))) (j_op os_mod nox_opMod (j_op os_fdiv nox_opFdiv (j_callTy cs_int nox_cInt T.b_int (by decide +kernel) (ja_cons (j_var 0) ja_nil)) j_int) j_int))))) js_nil)
  (js_cons (js_set 2 sc_law_word.nd j_str)
  (js_cons (js_if (jt_cmp (os_eq hu) nox_opEqB (j_op os_mod nox_opMod (j_callTy cs_int nox_cInt T.b_int (by decide +kernel) (ja_cons (j_var 0) ja_nil)) j_int) j_int)
  (js_one (js_set 2 sc_law_word.nd j_str)) js_nil)
  (js_cons (js_if (jt_cmp (os_eq hu) nox_opEqB (j_op os_mod nox_opMod (j_callTy cs_int nox_cInt T.b_int (by decide +kernel) (ja_cons (j_var 0) ja_nil)) j_int) j_int)
  (js_cons (js_set 3 sc_law_word.nd (j_mt PySem.F.plainAttrs_str PySem.F.slot_str_join PySem.F.type_str_join ms_join nox_mJoin j_str (ja_cons (j_lc (own := [(("digit" : Str), 4)]) rfl sc_law_word.nd (ji_list (j_call d_law_row (hr.mono (by omega)) tk (ja_cons (j_op os_fdiv nox_opFdiv (j_callTy cs_int nox_cInt T.b_int (by decide +kernel) (ja_cons (j_var 0) ja_nil)) j_int) (ja_cons (j_op os_mod nox_opMod (j_op os_fdiv nox_opFdiv (j_callTy cs_int nox_cInt T.b_int (by decide +kernel) (ja_cons (j_var 0) ja_nil)) j_int) j_int) (ja_cons j_int ja_nil))))) (blkOk_by (N := [("cell" : Str), ("keys" : Str), ("signs" : Str), ("word" : Str), ("digit" : Str), ("every" : Str), ("at" : Str), ("digits" : Str), ("count" : Str), ("k" : Str)]) (sc := (defScope s_law_word)) (by decide +kernel)) (fun _ _ _ _ _ => pg_name (i := 4) sc_law_word.nd rfl (.inl rfl)) (tgN_ok 4) (fun _ _ _ _ _ => jc_nil) (fun _ _ _ _ _ => (j_ix j_str (j_var 4)))) ja_nil)))
  (js_cons (js_set 5 sc_law_word.nd j_str)
  (js_cons (js_set 6 sc_law_word.nd (j_op os_mod nox_opMod (j_op os_fdiv nox_opFdiv (j_callTy cs_int nox_cInt T.b_int (by decide +kernel) (ja_cons (j_var 0) ja_nil)) j_int) (j_op os_add nox_opAdd (j_callB cs_len nox_cLen T.b_len (by decide +kernel) (ja_cons (j_var 3) ja_nil)) j_int)))
  (js_one (js_ret (j_op os_add nox_opAdd (j_op os_add nox_opAdd (j_sl (j_var 3) jo_none (jo_some (j_var 6))) (j_ix (j_var 5) (j_op os_mod nox_opMod (j_op os_fdiv nox_opFdiv (j_callTy cs_int nox_cInt T.b_int (by decide +kernel) (ja_cons (j_var 0) ja_nil)) j_int) (j_callB cs_len nox_cLen T.b_len (by decide +kernel) (ja_cons (j_var 5) ja_nil))))) (j_sl (j_var 3) (jo_some (j_var 6)) jo_none))))))) js_nil)
  (js_cons (js_set 7 sc_law_word.nd (j_call d_law_row (hr.mono (by omega)) tk (ja_cons (j_op os_fdiv nox_opFdiv (j_callTy cs_int nox_cInt T.b_int (by decide +kernel) (ja_cons (j_var 0) ja_nil)) j_int) (ja_cons j_int (ja_cons (j_callB cs_len nox_cLen T.b_len (by decide +kernel) (ja_cons (j_var 2) ja_nil)) ja_nil)))))
  (js_cons (js_set 8 sc_law_word.nd (j_op os_mod nox_opMod (j_op os_fdiv nox_opFdiv (j_callTy cs_int nox_cInt T.b_int (by decide +kernel) (ja_cons (j_var 0) ja_nil)) j_int) j_int))
  (js_cons (js_if (jt_cmp (os_eq hu) nox_opEqB (j_op os_mod nox_opMod (j_op os_fdiv nox_opFdiv (j_callTy cs_int nox_cInt T.b_int (by decide +kernel) (ja_cons (j_var 0) ja_nil)) j_int) j_int) j_int)
  (js_one (js_set 8 sc_law_word.nd (j_op os_mod nox_opMod (j_op os_fdiv nox_opFdiv (j_callTy cs_int nox_cInt T.b_int (by decide +kernel) (ja_cons (j_var 0) ja_nil)) j_int) j_int))) js_nil)
  (js_one (js_ret (j_mt PySem.F.plainAttrs_str PySem.F.slot_str_join PySem.F.type_str_join ms_join nox_mJoin j_str (ja_cons (j_lc (own := [(("k" : Str), 9)]) rfl sc_law_word.nd (ji_rg1 T.b_range (ja_cons (j_var 8) ja_nil)) (blkOk_by (N := [("cell" : Str), ("keys" : Str), ("signs" : Str), ("word" : Str), ("digit" : Str), ("every" : Str), ("at" : Str), ("digits" : Str), ("count" : Str), ("k" : Str)]) (sc := (defScope s_law_word)) (by decide +kernel)) (fun _ _ _ _ _ => pg_name (i := 9) sc_law_word.nd rfl (.inl rfl)) (tgN_ok 9) (fun _ _ _ _ _ => jc_nil) (fun _ _ _ _ _ => (j_ix (j_var 2) (j_ix (j_var 7) (j_var 9))))) ja_nil)))))))))))))
abbrev s_is_name : Stmt := topS 11
theorem sc_is_name : FnScope [("word" : Str), ("sign" : Str)] [("word" : Str)] (defScope s_is_name) := ⟨rfl, rfl, rfl, by decide +kernel, rfl, by decide +kernel, by decide +kernel⟩
theorem body_is_name (T : Txt K mg g)  {f : Addr} {fd : FuncData} (F : Fun K ("is_name" : Str) ("is_name" : Str) s_is_name f fd) : FnOk P w K mg base (L2.CX P w) (0 + 1) f fd [("word" : Str)] (spM K g 1 (runF 1 (b_is_name ) 2)) :=
  fn_body F sc_is_name rfl rfl fun cdv A outer s H E hr => by
  have hu : (A.deeper (envOfC ("is_name" : Str) (defScope s_is_name) s.heap.objs.size f cdv)).units + 64 < cLine := hr.units
  have hv : (A.deeper (envOfC ("is_name" : Str) (defScope s_is_name) s.heap.objs.size f cdv)).units + 65 < cLine := by have := hr.un; omega
  have tk := takes_of (X := cxOf (L2.CX P w) P w K mg base [("word" : Str), ("sign" : Str)] ("is_name" : Str) (defScope s_is_name) f cdv A outer s H E) (E := E) rfl rfl rfl rfl
  have hp := passes_of (X := cxOf (L2.CX P w) P w K mg base [("word" : Str), ("sign" : Str)] ("is_name" : Str) (defScope s_is_name) f cdv A outer s H E) rfl
  exact (js_cons (js_if (jt_w (jw_or (jt_cmp (os_eq hu) nox_opEqB (j_var 0) j_str) (jw_or (jt_cmp os_gt nox_opGt (j_callB cs_len nox_cLen T.b_len (by decide +kernel) (ja_cons (j_var 0) ja_nil)) (j_glob T.k_LONGEST_NAME)) (jw_or1 (jt_cmp (os_in hv) nox_opInB (j_var 0) (j_glob T.k_KEY_WORDS))))))
  (js_one (js_ret j_bl)) js_nil)
  (js_one (js_ret (j_and (j_cmp (os_in hv) nox_opInB (j_ix (j_var 0) j_int) (j_glob T.k_LETTERS)) (j_one (j_callB (cs_all rfl) nox_cAll T.b_all (by decide +kernel) (ja_cons (j_lc (own := [(("sign" : Str), 1)]) rfl sc_is_name.nd (ji_str (j_var 0)) (blkOk_by (N := [("word" : Str), ("sign" : Str)]) (sc := (defScope s_is_name)) (by decide +kernel)) (fun _ _ _ _ _ => pg_name (i := 1) sc_is_name.nd rfl (.inl rfl)) (tgN_ok 1) (fun _ _ _ _ _ => jc_nil) (fun _ _ _ _ _ => (j_or (j_cmp (os_in hv) nox_opInB (j_var 1) (j_glob T.k_LETTERS)) (j_one (j_cmp (os_in hv) nox_opInB (j_var 1) (j_glob T.k_DIGITS)))))) ja_nil)))))))
abbrev s_law_name : Stmt := topS 20
theorem sc_law_name : FnScope [("word" : Str), ("keys" : Str), ("sign" : Str)] [("word" : Str)] (defScope s_law_name) := ⟨rfl, rfl, rfl, by decide +kernel, rfl, by decide +kernel, by decide +kernel⟩
theorem body_law_name (T : Txt K mg g)  {f : Addr} {fd : FuncData} (F : Fun K ("_law_name" : Str) ("_law_name" : Str) s_law_name f fd) : FnOk P w K mg base (L2.CX P w) (0 + 1) f fd [("word" : Str)] (spM K g 1 (runF 1 (b_law_name ) 3)) :=
  fn_body F sc_law_name rfl rfl fun cdv A outer s H E hr => by
  have hu : (A.deeper (envOfC ("_law_name" : Str) (defScope s_law_name) s.heap.objs.size f cdv)).units + 64 < cLine := hr.units
  have hv : (A.deeper (envOfC ("_law_name" : Str) (defScope s_law_name) s.heap.objs.size f cdv)).units + 65 < cLine := by have := hr.un; omega
  have tk := takes_of (X := cxOf (L2.CX P w) P w K mg base [("word" : Str), ("keys" : Str), ("sign" : Str)] ("_law_name" : Str) (defScope s_law_name) f cdv A outer s H E) (E := E) rfl rfl rfl rfl
  have hp := passes_of (X := cxOf (L2.CX P w) P w K mg base [("word" : Str), ("keys" : Str), ("sign" : Str)] ("_law_name" : Str) (defScope s_law_name) f cdv A outer s H E) rfl
  exact (js_cons (js_set 1 sc_law_name.nd (j_lst (ja_cons j_str (ja_cons j_str (ja_cons j_str (ja_cons j_str (ja_cons j_str (ja_cons j_str (ja_cons j_str (ja_cons j_str (ja_cons j_str (ja_cons j_str (ja_cons j_str (ja_cons j_str (ja_cons j_str (ja_cons j_str ja_nil))))))))))))))))
  (js_cons (js_set 1 sc_law_name.nd (j_op os_add nox_opAdd (j_var 1) (j_lst (ja_cons j_str (ja_cons j_str (ja_cons j_str (ja_cons j_str (ja_cons j_str (ja_cons j_str (ja_cons j_str ja_nil))))))))))
  (js_cons (js_if (jt_w (jw_or (jt_cmp (os_eq hu) nox_opEqB (j_var 0) j_str) (jw_or (jt_cmp os_gt nox_opGt (j_callB cs_len nox_cLen T.b_len (by decide +kernel) (ja_cons (j_var 0) ja_nil)) j_int) (jw_or (jt_cmp (os_in hv) nox_opInB (j_var 0) (j_var 1)) (jw_or1 (jt_cmp (os_notIn hv) nox_opInB (j_ix (j_var 0) j_int) j_str))))))
  (js_one (js_ret j_bl)) js_nil)
  (js_cons (js_for hp rfl (ji_str (j_var 0)) (jg_name 2 sc_law_name.nd)
  (js_one (js_if (jt_cmp (os_notIn hv) nox_opInB (j_var 2) j_str)
  (js_one (js_ret j_bl)) js_nil)))
  (js_one (js_ret j_bl))))))
abbrev s_digits_value : Stmt := topS 13
theorem sc_digits_value : FnScope [("word" : Str), ("longest" : Str), ("sign" : Str)] [("word" : Str), ("longest" : Str)] (defScope s_digits_value) := ⟨rfl, rfl, rfl, by decide +kernel, rfl, by decide +kernel, by decide +kernel⟩
theorem body_digits_value (T : Txt K mg g)  {f : Addr} {fd : FuncData} (F : Fun K ("digits_value" : Str) ("digits_value" : Str) s_digits_value f fd) : FnOk P w K mg base (L2.CX P w) (0 + 1) f fd [("word" : Str), ("longest" : Str)] (spM K g 2 (runF 2 (b_digits_value ) 3)) :=
  fn_body F sc_digits_value rfl rfl fun cdv A outer s H E hr => by
  have hu : (A.deeper (envOfC ("digits_value" : Str) (defScope s_digits_value) s.heap.objs.size f cdv)).units + 64 < cLine := hr.units
  have hv : (A.deeper (envOfC ("digits_value" : Str) (defScope s_digits_value) s.heap.objs.size f cdv)).units + 65 < cLine := by have := hr.un; omega
  have tk := takes_of (X := cxOf (L2.CX P w) P w K mg base [("word" : Str), ("longest" : Str), ("sign" : Str)] ("digits_value" : Str) (defScope s_digits_value) f cdv A outer s H E) (E := E) rfl rfl rfl rfl
  have hp := passes_of (X := cxOf (L2.CX P w) P w K mg base [("word" : Str), ("longest" : Str), ("sign" : Str)] ("digits_value" : Str) (defScope s_digits_value) f cdv A outer s H E) rfl
  exact (js_cons (js_if (jt_w (jw_or (jt_cmp (os_eq hu) nox_opEqB (j_var 0) j_str) (jw_or1 (jt_cmp os_gt nox_opGt (j_callB cs_len nox_cLen T.b_len (by decide +kernel) (ja_cons (j_var 0) ja_nil)) (j_var 1)))))
  (js_one (js_ret j_non)) js_nil)
  (js_cons (js_if (jt_not (jt_val (j_callB (cs_all rfl) nox_cAll T.b_all (by decide +kernel) (ja_cons (j_lc (own := [(("sign" : Str), 2)]) rfl sc_digits_value.nd (ji_str (j_var 0)) (blkOk_by (N := [("word" : Str), ("longest" : Str), ("sign" : Str)]) (sc := (defScope s_digits_value)) (by decide +kernel)) (fun _ _ _ _ _ => pg_name (i := 2) sc_digits_value.nd rfl (.inl rfl)) (tgN_ok 2) (fun _ _ _ _ _ => jc_nil) (fun _ _ _ _ _ => (j_cmp (os_in hv) nox_opInB (j_var 2) (j_glob T.k_DIGITS)))) ja_nil))))
  (js_one (js_ret j_non)) js_nil)
  (js_cons (js_if (jt_w (jw_and (jt_cmp (os_eq hu) nox_opEqB (j_ix (j_var 0) j_int) j_str) (jw_and1 (jt_cmp (os_ne hu) nox_opEqB (j_var 0) j_str))))
  (js_one (js_ret j_non)) js_nil)
  (js_one (js_ret (j_callTy cs_int nox_cInt T.b_int (by decide +kernel) (ja_cons (j_var 0) ja_nil)))))))
abbrev s_number_of : Stmt := topS 12
theorem sc_number_of : FnScope [("word" : Str), ("number" : Str)] [("word" : Str)] (defScope s_number_of) := ⟨rfl, rfl, rfl, by decide +kernel, rfl, by decide +kernel, by decide +kernel⟩
theorem body_number_of (T : Txt K mg g) {c_digits_value : Fn} (d_digits_value : DefOk P w K mg base g 1 ("digits_value" : Str) 2 c_digits_value) {f : Addr} {fd : FuncData} (F : Fun K ("number_of" : Str) ("number_of" : Str) s_number_of f fd) : FnOk P w K mg base (L2.CX P w) (1 + 1) f fd [("word" : Str)] (spM K g 1 (runF 1 (b_number_of c_digits_value) 2)) :=
  fn_body F sc_number_of rfl rfl fun cdv A outer s H E hr => by
  have hu : (A.deeper (envOfC ("number_of" : Str) (defScope s_number_of) s.heap.objs.size f cdv)).units + 64 < cLine := hr.units
  have hv : (A.deeper (envOfC ("number_of" : Str) (defScope s_number_of) s.heap.objs.size f cdv)).units + 65 < cLine := by have := hr.un; omega
  have tk := takes_of (X := cxOf (L2.CX P w) P w K mg base [("word" : Str), ("number" : Str)] ("number_of" : Str) (defScope s_number_of) f cdv A outer s H E) (E := E) rfl rfl rfl rfl
  have hp := passes_of (X := cxOf (L2.CX P w) P w K mg base [("word" : Str), ("number" : Str)] ("number_of" : Str) (defScope s_number_of) f cdv A outer s H E) rfl
  exact (js_cons (js_set 1 sc_number_of.nd (j_call d_digits_value (hr.mono (by omega)) tk (ja_cons (j_var 0) (ja_cons (j_glob T.k_LONGEST_NUMBER) ja_nil))))
  (js_one (js_ret (j_if (jt_w (jw_and (jt_cmp os_notN nox_opNotN (j_var 1) j_non) (jw_and1 (jt_cmp os_le nox_opLe (j_var 1) (j_glob T.k_LARGEST))))) (j_var 1) j_non))))
abbrev s_law_number : Stmt := topS 21
theorem sc_law_number : FnScope [("word" : Str), ("sign" : Str)] [("word" : Str)] (defScope s_law_number) := ⟨rfl, rfl, rfl, by decide +kernel, rfl, by decide +kernel, by decide +kernel⟩
theorem body_law_number (T : Txt K mg g)  {f : Addr} {fd : FuncData} (F : Fun K ("_law_number" : Str) ("_law_number" : Str) s_law_number f fd) : FnOk P w K mg base (L2.CX P w) (0 + 1) f fd [("word" : Str)] (spM K g 1 (runF 1 (b_law_number ) 2)) :=
  fn_body F sc_law_number rfl rfl fun cdv A outer s H E hr => by
  have hu : (A.deeper (envOfC ("_law_number" : Str) (defScope s_law_number) s.heap.objs.size f cdv)).units + 64 < cLine := hr.units
  have hv : (A.deeper (envOfC ("_law_number" : Str) (defScope s_law_number) s.heap.objs.size f cdv)).units + 65 < cLine := by have := hr.un; omega
  have tk := takes_of (X := cxOf (L2.CX P w) P w K mg base [("word" : Str), ("sign" : Str)] ("_law_number" : Str) (defScope s_law_number) f cdv A outer s H E) (E := E) rfl rfl rfl rfl
  have hp := passes_of (X := cxOf (L2.CX P w) P w K mg base [("word" : Str), ("sign" : Str)] ("_law_number" : Str) (defScope s_law_number) f cdv A outer s H E) rfl
  exact (js_cons (js_if (jt_w (jw_or (jt_cmp (os_eq hu) nox_opEqB (j_var 0) j_str) (jw_or1 (jt_cmp os_gt nox_opGt (j_callB cs_len nox_cLen T.b_len (by decide +kernel) (ja_cons (j_var 0) ja_nil)) j_int))))
  (js_one (js_ret j_non)) js_nil)
  (js_cons (js_for hp rfl (ji_str (j_var 0)) (jg_name 1 sc_law_number.nd)
  (js_one (js_if (jt_cmp (os_notIn hv) nox_opInB (j_var 1) j_str)
  (js_one (js_ret j_non)) js_nil)))
  (js_cons (js_if (jt_w (jw_or (jt_w (jw_and (jt_cmp (os_ne hu) nox_opEqB (j_var 0) j_str) (jw_and1 (jt_cmp (os_eq hu) nox_opEqB (j_ix (j_var 0) j_int) j_str)))) (jw_or1 (jt_cmp os_gt nox_opGt (j_callTy cs_int nox_cInt T.b_int (by decide +kernel) (ja_cons (j_var 0) ja_nil)) j_int))))
  (js_one (js_ret j_non)) js_nil)
  (js_one (js_ret (j_callTy cs_int nox_cInt T.b_int (by decide +kernel) (ja_cons (j_var 0) ja_nil)))))))
abbrev s_law_is_integer : Stmt := topS 17
theorem sc_law_is_integer : FnScope [("actual" : Str)] [("actual" : Str)] (defScope s_law_is_integer) := ⟨rfl, rfl, rfl, by decide +kernel, rfl, by decide +kernel, by decide +kernel⟩
theorem body_law_is_integer (T : Txt K mg g)  {f : Addr} {fd : FuncData} (F : Fun K ("_law_is_integer" : Str) ("_law_is_integer" : Str) s_law_is_integer f fd) : FnOk P w K mg base (L2.CX P w) (0 + 1) f fd [("actual" : Str)] (spM K g 1 (runF 1 (b_law_is_integer ) 1)) :=
  fn_body F sc_law_is_integer rfl rfl fun cdv A outer s H E hr => by
  have hu : (A.deeper (envOfC ("_law_is_integer" : Str) (defScope s_law_is_integer) s.heap.objs.size f cdv)).units + 64 < cLine := hr.units
  have hv : (A.deeper (envOfC ("_law_is_integer" : Str) (defScope s_law_is_integer) s.heap.objs.size f cdv)).units + 65 < cLine := by have := hr.un; omega
  have tk := takes_of (X := cxOf (L2.CX P w) P w K mg base [("actual" : Str)] ("_law_is_integer" : Str) (defScope s_law_is_integer) f cdv A outer s H E) (E := E) rfl rfl rfl rfl
  have hp := passes_of (X := cxOf (L2.CX P w) P w K mg base [("actual" : Str)] ("_law_is_integer" : Str) (defScope s_law_is_integer) f cdv A outer s H E) rfl
  exact (js_one (js_ret (j_and (j_callB cs_isi nox_cIsi T.b_isinstance (by decide +kernel) (ja_cons (j_var 0) (ja_cons (j_type T.b_int (by decide +kernel)) ja_nil))) (j_one (j_not (j_callB cs_isi nox_cIsi T.b_isinstance (by decide +kernel) (ja_cons (j_var 0) (ja_cons (j_type T.b_bool (by decide +kernel)) ja_nil))))))))
abbrev s_Cursor_init : Stmt := inClass (topS 14) 0
theorem sc_Cursor_init : FnScope [("self" : Str), ("text" : Str)] [("self" : Str), ("text" : Str)] (defScope s_Cursor_init) := ⟨rfl, rfl, rfl, by decide +kernel, rfl, by decide +kernel, by decide +kernel⟩
theorem body_Cursor_init (T : Txt K mg g)  {f : Addr} {fd : FuncData} (F : Fun K ("__init__" : Str) ("Cursor.__init__" : Str) s_Cursor_init f fd) : FnOk P w K mg base (L2.CX P w) (0 + 1) f fd [("self" : Str), ("text" : Str)] (spM K g 2 (runF 2 (b_Cursor_init ) 2)) :=
  fn_body F sc_Cursor_init rfl rfl fun cdv A outer s H E hr => by
  have hu : (A.deeper (envOfC ("Cursor.__init__" : Str) (defScope s_Cursor_init) s.heap.objs.size f cdv)).units + 64 < cLine := hr.units
  have hv : (A.deeper (envOfC ("Cursor.__init__" : Str) (defScope s_Cursor_init) s.heap.objs.size f cdv)).units + 65 < cLine := by have := hr.un; omega
  have tk := takes_of (X := cxOf (L2.CX P w) P w K mg base [("self" : Str), ("text" : Str)] ("Cursor.__init__" : Str) (defScope s_Cursor_init) f cdv A outer s H E) (E := E) rfl rfl rfl rfl
  have hp := passes_of (X := cxOf (L2.CX P w) P w K mg base [("self" : Str), ("text" : Str)] ("Cursor.__init__" : Str) (defScope s_Cursor_init) f cdv A outer s H E) rfl
  exact (js_cons (js_fld T.a_words (j_var 0) (j_if (jt_cmp (os_ne hu) nox_opEqB (j_var 1) j_str) (j_mt PySem.F.plainAttrs_str PySem.F.slot_str_split PySem.F.type_str_split ms_split nox_mSplit (j_var 1) (ja_cons j_str ja_nil)) (j_lst ja_nil)))
  (js_one (js_fld T.a_at (j_var 0) j_int)))
abbrev s_law : Stmt := topS 22
theorem sc_law : FnScope [("script" : Str), ("cell" : Str), ("word" : Str), ("actual" : Str), ("due" : Str), ("words" : Str), ("cursor" : Str)] [("script" : Str)] (defScope s_law) := ⟨rfl, rfl, rfl, by decide +kernel, rfl, by decide +kernel, by decide +kernel⟩
theorem body_law (T : Txt K mg g) {c_law_word : Fn} (d_law_word : DefOk P w K mg base g 2 ("_law_word" : Str) 1 c_law_word) {c_is_name : Fn} (d_is_name : DefOk P w K mg base g 1 ("is_name" : Str) 1 c_is_name) {c_law_name : Fn} (d_law_name : DefOk P w K mg base g 1 ("_law_name" : Str) 1 c_law_name) {c_number_of : Fn} (d_number_of : DefOk P w K mg base g 2 ("number_of" : Str) 1 c_number_of) {c_law_number : Fn} (d_law_number : DefOk P w K mg base g 1 ("_law_number" : Str) 1 c_law_number) {c_law_is_integer : Fn} (d_law_is_integer : DefOk P w K mg base g 1 ("_law_is_integer" : Str) 1 c_law_is_integer) {c_Cursor_init : Fn} (d_Cursor_init : MakeOk P w K mg base g 1 2 ("Cursor" : Str) 2 c_Cursor_init) {f : Addr} {fd : FuncData} (F : Fun K ("law" : Str) ("law" : Str) s_law f fd) : FnOk P w K mg base (L2.CX P w) (2 + 1) f fd [("script" : Str)] (spM K g 1 (runF 1 (b_law c_law_word c_is_name c_law_name c_number_of c_law_number c_law_is_integer c_Cursor_init) 7)) :=
  fn_body F sc_law rfl rfl fun cdv A outer s H E hr => by
  have hu : (A.deeper (envOfC ("law" : Str) (defScope s_law) s.heap.objs.size f cdv)).units + 64 < cLine := hr.units
  have hv : (A.deeper (envOfC ("law" : Str) (defScope s_law) s.heap.objs.size f cdv)).units + 65 < cLine := by have := hr.un; omega
  have tk := takes_of (X := cxOf (L2.CX P w) P w K mg base [("script" : Str), ("cell" : Str), ("word" : Str), ("actual" : Str), ("due" : Str), ("words" : Str), ("cursor" : Str)] ("law" : Str) (defScope s_law) f cdv A outer s H E) (E := E) rfl rfl rfl rfl
  have hp := passes_of (X := cxOf (L2.CX P w) P w K mg base [("script" : Str), ("cell" : Str), ("word" : Str), ("actual" : Str), ("due" : Str), ("words" : Str), ("cursor" : Str)] ("law" : Str) (defScope s_law) f cdv A outer s H E) rfl
  exact (js_cons (js_for hp rfl (ji_list (j_var 0)) (jg_name 1 sc_law.nd)
  (js_cons (js_set 2 sc_law.nd (j_call d_law_word (hr.mono (by omega)) tk (ja_cons (j_callB cs_abs nox_cAbs T.b_abs (by decide +kernel) (ja_cons (j_var 1) ja_nil)) ja_nil)))
  (js_cons (js_set 3 sc_law.nd (j_call d_is_name (hr.mono (by omega)) tk (ja_cons (j_var 2) ja_nil)))
  (js_cons (js_if (jt_w (jw_or (jt_not (jt_val (j_callB cs_isi nox_cIsi T.b_isinstance (by decide +kernel) (ja_cons (j_var 3) (ja_cons (j_type T.b_bool (by decide +kernel)) ja_nil))))) (jw_or1 (jt_cmp (os_ne hu) nox_opEqB (j_var 3) (j_call d_law_name (hr.mono (by omega)) tk (ja_cons (j_var 2) ja_nil))))))
  (js_one (js_ret j_bl)) js_nil)
  (js_cons (js_set 3 sc_law.nd (j_call d_number_of (hr.mono (by omega)) tk (ja_cons (j_var 2) ja_nil)))
  (js_cons (js_set 4 sc_law.nd (j_call d_law_number (hr.mono (by omega)) tk (ja_cons (j_var 2) ja_nil)))
  (js_one (js_if (jt_cmp os_isN nox_opIsN (j_var 4) j_non)
  (js_one (js_if (jt_cmp os_notN nox_opNotN (j_var 3) j_non)
  (js_one (js_ret j_bl)) js_nil)) (js_one (js_if (jt_w (jw_or (jt_not (jt_val (j_call d_law_is_integer (hr.mono (by omega)) tk (ja_cons (j_var 3) ja_nil)))) (jw_or1 (jt_cmp (os_ne hu) nox_opEqB (j_var 3) (j_var 4)))))
  (js_one (js_ret j_bl)) js_nil))))))))))
  (js_cons (js_setLc 5 (own := [(("cell" : Str), 1)]) rfl sc_law.nd (ji_list (j_var 0)) (blkOk_by (N := [("script" : Str), ("cell" : Str), ("word" : Str), ("actual" : Str), ("due" : Str), ("words" : Str), ("cursor" : Str)]) (sc := (defScope s_law)) (by decide +kernel)) (fun _ _ _ _ _ => pg_name (i := 1) sc_law.nd rfl (.inl rfl)) (tgN_ok 1) (fun _ _ _ _ _ => jc_nil) (fun _ _ _ _ _ => (j_call d_law_word (hr.mono (by omega)) takes0 (ja_cons (j_callB cs_abs nox_cAbs T.b_abs (by decide +kernel) (ja_cons (j_var 1) ja_nil)) ja_nil))))
  (js_cons (js_set 6 sc_law.nd (j_make d_Cursor_init (hr.mono (by omega)) (ja_cons (j_mt PySem.F.plainAttrs_str PySem.F.slot_str_join PySem.F.type_str_join ms_join nox_mJoin j_str (ja_cons (j_var 5) ja_nil)) ja_nil)))
  (js_cons (js_set 4 sc_law.nd (j_var 5))
  (js_cons (js_if (jt_w (jw_or (jt_cmp (os_eq hu) nox_opEqB (j_var 5) (j_lst ja_nil)) (jw_or1 (jt_cmp (os_eq hu) nox_opEqB (j_var 5) (j_lst (ja_cons j_str ja_nil))))))
  (js_one (js_set 4 sc_law.nd (j_lst ja_nil))) js_nil)
  (js_cons (js_if (jt_w (jw_or (jt_cmp (os_ne hu) nox_opEqB (j_fld T.a_words (j_var 6)) (j_var 4)) (jw_or (jt_cmp (os_ne hu) nox_opEqB (j_fld T.a_at (j_var 6)) j_int) (jw_or1 (jt_not (jt_val (j_callB cs_isi nox_cIsi T.b_isinstance (by decide +kernel) (ja_cons (j_fld T.a_words (j_var 6)) (ja_cons (j_type T.b_list (by decide +kernel)) ja_nil)))))))))
  (js_one (js_ret j_bl)) js_nil)
  (js_one (js_ret (j_and (j_cmp (os_eq hu) nox_opEqB (j_call d_number_of (hr.mono (by omega)) tk (ja_cons j_str ja_nil)) j_int) (j_one (j_cmp os_isN nox_opIsN (j_call d_number_of (hr.mono (by omega)) tk (ja_cons j_str ja_nil)) j_non)))))))))))
end
/-! the text as the top leaves it -/
theorem all_mk {P : Program} {w : World} {K : PySem.W.Frag} {h : Heap} {mg : Str → Option Value} {fa : Addr} (X : K.In h) (G : h.Ns mainGlobals mg) (hfa : mg "law" = some (.ref fa))
    {f0 : Addr} {od0 an0 : Option Addr} {sl0 : Array (Option Value)} {oc0 kV0 dc0 pm0 cd0 ct0 : Value}
    (a0 : PySem.W.nsIn K mainGlobals ("is_name" : Str) = some (some (.ref f0)))
    (l0 : K.lookup f0 = some ⟨oc0, od0, .func (PySem.W.fnOf ("is_name" : Str) ("is_name" : Str) (defArgs s_is_name) (defBody s_is_name) (defScope s_is_name) .none kV0 dc0 pm0 an0 cd0 ct0), sl0⟩) (c0 : PySem.W.codeIn K cd0 ("is_name" : Str) = true) (k0 : PySem.W.keepIn K (.ref f0) = true)
    {f1 : Addr} {od1 an1 : Option Addr} {sl1 : Array (Option Value)} {oc1 kV1 dc1 pm1 cd1 ct1 : Value}
    (a1 : PySem.W.nsIn K mainGlobals ("number_of" : Str) = some (some (.ref f1)))
    (l1 : K.lookup f1 = some ⟨oc1, od1, .func (PySem.W.fnOf ("number_of" : Str) ("number_of" : Str) (defArgs s_number_of) (defBody s_number_of) (defScope s_number_of) .none kV1 dc1 pm1 an1 cd1 ct1), sl1⟩) (c1 : PySem.W.codeIn K cd1 ("number_of" : Str) = true) (k1 : PySem.W.keepIn K (.ref f1) = true)
    {f2 : Addr} {od2 an2 : Option Addr} {sl2 : Array (Option Value)} {oc2 kV2 dc2 pm2 cd2 ct2 : Value}
    (a2 : PySem.W.nsIn K mainGlobals ("digits_value" : Str) = some (some (.ref f2)))
    (l2 : K.lookup f2 = some ⟨oc2, od2, .func (PySem.W.fnOf ("digits_value" : Str) ("digits_value" : Str) (defArgs s_digits_value) (defBody s_digits_value) (defScope s_digits_value) .none kV2 dc2 pm2 an2 cd2 ct2), sl2⟩) (c2 : PySem.W.codeIn K cd2 ("digits_value" : Str) = true) (k2 : PySem.W.keepIn K (.ref f2) = true)
    {f3 : Addr} {od3 an3 : Option Addr} {sl3 : Array (Option Value)} {oc3 kV3 dc3 pm3 cd3 ct3 : Value}
    (l3 : K.lookup f3 = some ⟨oc3, od3, .func (PySem.W.fnOf ("__init__" : Str) ("Cursor.__init__" : Str) (defArgs s_Cursor_init) (defBody s_Cursor_init) (defScope s_Cursor_init) .none kV3 dc3 pm3 an3 cd3 ct3), sl3⟩) (c3 : PySem.W.codeIn K cd3 ("Cursor.__init__" : Str) = true) (k3 : PySem.W.keepIn K (.ref f3) = true)
    {f4 : Addr} {od4 an4 : Option Addr} {sl4 : Array (Option Value)} {oc4 kV4 dc4 pm4 cd4 ct4 : Value}
    (a4 : PySem.W.nsIn K mainGlobals ("_law_is_integer" : Str) = some (some (.ref f4)))
    (l4 : K.lookup f4 = some ⟨oc4, od4, .func (PySem.W.fnOf ("_law_is_integer" : Str) ("_law_is_integer" : Str) (defArgs s_law_is_integer) (defBody s_law_is_integer) (defScope s_law_is_integer) .none kV4 dc4 pm4 an4 cd4 ct4), sl4⟩) (c4 : PySem.W.codeIn K cd4 ("_law_is_integer" : Str) = true) (k4 : PySem.W.keepIn K (.ref f4) = true)
    {f5 : Addr} {od5 an5 : Option Addr} {sl5 : Array (Option Value)} {oc5 kV5 dc5 pm5 cd5 ct5 : Value}
    (a5 : PySem.W.nsIn K mainGlobals ("_law_row" : Str) = some (some (.ref f5)))
    (l5 : K.lookup f5 = some ⟨oc5, od5, .func (PySem.W.fnOf ("_law_row" : Str) ("_law_row" : Str) (defArgs s_law_row) (defBody s_law_row) (defScope s_law_row) .none kV5 dc5 pm5 an5 cd5 ct5), sl5⟩) (c5 : PySem.W.codeIn K cd5 ("_law_row" : Str) = true) (k5 : PySem.W.keepIn K (.ref f5) = true)
    {f6 : Addr} {od6 an6 : Option Addr} {sl6 : Array (Option Value)} {oc6 kV6 dc6 pm6 cd6 ct6 : Value}
    (a6 : PySem.W.nsIn K mainGlobals ("_law_word" : Str) = some (some (.ref f6)))
    (l6 : K.lookup f6 = some ⟨oc6, od6, .func (PySem.W.fnOf ("_law_word" : Str) ("_law_word" : Str) (defArgs s_law_word) (defBody s_law_word) (defScope s_law_word) .none kV6 dc6 pm6 an6 cd6 ct6), sl6⟩) (c6 : PySem.W.codeIn K cd6 ("_law_word" : Str) = true) (k6 : PySem.W.keepIn K (.ref f6) = true)
    {f7 : Addr} {od7 an7 : Option Addr} {sl7 : Array (Option Value)} {oc7 kV7 dc7 pm7 cd7 ct7 : Value}
    (a7 : PySem.W.nsIn K mainGlobals ("_law_name" : Str) = some (some (.ref f7)))
    (l7 : K.lookup f7 = some ⟨oc7, od7, .func (PySem.W.fnOf ("_law_name" : Str) ("_law_name" : Str) (defArgs s_law_name) (defBody s_law_name) (defScope s_law_name) .none kV7 dc7 pm7 an7 cd7 ct7), sl7⟩) (c7 : PySem.W.codeIn K cd7 ("_law_name" : Str) = true) (k7 : PySem.W.keepIn K (.ref f7) = true)
    {f8 : Addr} {od8 an8 : Option Addr} {sl8 : Array (Option Value)} {oc8 kV8 dc8 pm8 cd8 ct8 : Value}
    (a8 : PySem.W.nsIn K mainGlobals ("_law_number" : Str) = some (some (.ref f8)))
    (l8 : K.lookup f8 = some ⟨oc8, od8, .func (PySem.W.fnOf ("_law_number" : Str) ("_law_number" : Str) (defArgs s_law_number) (defBody s_law_number) (defScope s_law_number) .none kV8 dc8 pm8 an8 cd8 ct8), sl8⟩) (c8 : PySem.W.codeIn K cd8 ("_law_number" : Str) = true) (k8 : PySem.W.keepIn K (.ref f8) = true)
    {f9 : Addr} {od9 an9 : Option Addr} {sl9 : Array (Option Value)} {oc9 kV9 dc9 pm9 cd9 ct9 : Value}
    (a9 : PySem.W.nsIn K mainGlobals ("law" : Str) = some (some (.ref f9)))
    (l9 : K.lookup f9 = some ⟨oc9, od9, .func (PySem.W.fnOf ("law" : Str) ("law" : Str) (defArgs s_law) (defBody s_law) (defScope s_law) .none kV9 dc9 pm9 an9 cd9 ct9), sl9⟩) (c9 : PySem.W.codeIn K cd9 ("law" : Str) = true) (k9 : PySem.W.keepIn K (.ref f9) = true)
    (z_abs : PySem.W.nsIn K mainGlobals "abs" = some none)
    (z_all : PySem.W.nsIn K mainGlobals "all" = some none)
    (z_bool : PySem.W.nsIn K mainGlobals "bool" = some none)
    (z_int : PySem.W.nsIn K mainGlobals "int" = some none)
    (z_isinstance : PySem.W.nsIn K mainGlobals "isinstance" = some none)
    (z_len : PySem.W.nsIn K mainGlobals "len" = some none)
    (z_list : PySem.W.nsIn K mainGlobals "list" = some none)
    (z_range : PySem.W.nsIn K mainGlobals "range" = some none)
    {t_DIGITS : Tok} (n_DIGITS : PySem.W.nsIn K mainGlobals "DIGITS" = some (some (.str ("0123456789" : Str) t_DIGITS)))
    {a_KEY_WORDS : Addr} {o_KEY_WORDS : Obj} (n_KEY_WORDS : PySem.W.nsIn K mainGlobals "KEY_WORDS" = some (some (.ref a_KEY_WORDS))) (o_KEY_WORDS_ : K.lookup a_KEY_WORDS = some o_KEY_WORDS) (q_KEY_WORDS : ktpOk o_KEY_WORDS L_KEY_WORDS = true)
    {t_LARGEST : Tok} (n_LARGEST : PySem.W.nsIn K mainGlobals "LARGEST" = some (some (.int 65535 t_LARGEST)))
    {t_LETTERS : Tok} (n_LETTERS : PySem.W.nsIn K mainGlobals "LETTERS" = some (some (.str ("abcdefghijklmnopqrstuvwxyz" : Str) t_LETTERS)))
    {t_LONGEST_NAME : Tok} (n_LONGEST_NAME : PySem.W.nsIn K mainGlobals "LONGEST_NAME" = some (some (.int 12 t_LONGEST_NAME)))
    {t_LONGEST_NUMBER : Tok} (n_LONGEST_NUMBER : PySem.W.nsIn K mainGlobals "LONGEST_NUMBER" = some (some (.int 5 t_LONGEST_NUMBER)))
    {C2 : Addr} (aC2 : PySem.W.nsIn K mainGlobals ("Cursor" : Str) = some (some (.ref C2))) (pg2 : PySem.W.plainGet K C2 PySem.Str.empty = true) (hd2 : PySem.W.hasDictIn K C2 = true) (po2 : PySem.W.plainOver K C2 = true) (sa2 : PySem.W.findIn K (.ref C2) "__setattr__" = some (some (.builtin "object.__setattr__"))) (mk2 : PySem.W.makesIn K C2 = true) (kc2 : PySem.W.keepIn K (.ref C2) = true)
    (at3 : PySem.W.findIn K (.ref C2) ("__init__" : Str) = some (some (.ref f3))) (fn3 : PySem.W.isFn K (.ref f3) = true)
    (no2_at : PySem.W.findIn K (.ref C2) ("at" : Str) = some none)
    (no2_words : PySem.W.findIn K (.ref C2) ("words" : Str) = some none) :
    ∃ fd : FuncData, (∀ (s : Shared) (v : Value), BindsTo s fd ⟨[v], []⟩ [("script", v)]) ∧ ∀ base : Heap, K.In base → base.Ns mainGlobals mg → FnOk P w K mg base (L2.CX P w) 3 fa fd ["script"] (spLaw K f_law) := by
  have e := hfa.symm.trans (PySem.W.mg_of X G a9)
  cases e
  have F0 := fun_mk (st := s_is_name) l0 c0 k0
  have b0 := F0.binds (ps := [("word" : Str)]) fun _ _ _ _ _ _ us hl => match us, hl with | [_], _ => rfl
  have F1 := fun_mk (st := s_number_of) l1 c1 k1
  have b1 := F1.binds (ps := [("word" : Str)]) fun _ _ _ _ _ _ us hl => match us, hl with | [_], _ => rfl
  have F2 := fun_mk (st := s_digits_value) l2 c2 k2
  have b2 := F2.binds (ps := [("word" : Str), ("longest" : Str)]) fun _ _ _ _ _ _ us hl => match us, hl with | [_, _], _ => rfl
  have F3 := fun_mk (st := s_Cursor_init) l3 c3 k3
  have b3 := F3.binds (ps := [("self" : Str), ("text" : Str)]) fun _ _ _ _ _ _ us hl => match us, hl with | [_, _], _ => rfl
  have F4 := fun_mk (st := s_law_is_integer) l4 c4 k4
  have b4 := F4.binds (ps := [("actual" : Str)]) fun _ _ _ _ _ _ us hl => match us, hl with | [_], _ => rfl
  have F5 := fun_mk (st := s_law_row) l5 c5 k5
  have b5 := F5.binds (ps := [("cell" : Str), ("count" : Str), ("size" : Str)]) fun _ _ _ _ _ _ us hl => match us, hl with | [_, _, _], _ => rfl
  have F6 := fun_mk (st := s_law_word) l6 c6 k6
  have b6 := F6.binds (ps := [("cell" : Str)]) fun _ _ _ _ _ _ us hl => match us, hl with | [_], _ => rfl
  have F7 := fun_mk (st := s_law_name) l7 c7 k7
  have b7 := F7.binds (ps := [("word" : Str)]) fun _ _ _ _ _ _ us hl => match us, hl with | [_], _ => rfl
  have F8 := fun_mk (st := s_law_number) l8 c8 k8
  have b8 := F8.binds (ps := [("word" : Str)]) fun _ _ _ _ _ _ us hl => match us, hl with | [_], _ => rfl
  have F9 := fun_mk (st := s_law) l9 c9 k9
  have b9 := F9.binds (ps := [("script" : Str)]) fun _ _ _ _ _ _ us hl => match us, hl with | [_], _ => rfl
  refine ⟨PySem.W.fnOf "law" "law" (defArgs s_law) (defBody s_law) (defScope s_law) .none kV9 dc9 pm9 an9 cd9 ct9, fun s v => .of_eq rfl, fun base _ _ => law_fn (fun c => if c = 2 then C2 else 0) fun H0 => ?_⟩
  have T : Txt K mg ⟨fun c => if c = 2 then C2 else 0, H0, [], []⟩ := ⟨True.intro, PySem.W.mg_none_of X G z_abs, PySem.W.mg_none_of X G z_all, PySem.W.mg_none_of X G z_bool, PySem.W.mg_none_of X G z_int, PySem.W.mg_none_of X G z_isinstance, PySem.W.mg_none_of X G z_len, PySem.W.mg_none_of X G z_list, PySem.W.mg_none_of X G z_range, gv_str (PySem.W.mg_of X G n_DIGITS), gv_ktp (PySem.W.mg_of X G n_KEY_WORDS) o_KEY_WORDS_ q_KEY_WORDS, gv_int (PySem.W.mg_of X G n_LARGEST), gv_str (PySem.W.mg_of X G n_LETTERS), gv_int (PySem.W.mg_of X G n_LONGEST_NAME), gv_int (PySem.W.mg_of X G n_LONGEST_NUMBER), (fldOk_cons ⟨pg2, hd2, po2, sa2⟩ no2_at fldOk_nil), (fldOk_cons ⟨pg2, hd2, po2, sa2⟩ no2_words fldOk_nil)⟩
  have d5 : DefOk P w K mg base _ 1 ("_law_row" : Str) 3 f_law_row := ⟨⟨_, _, _, body_law_row T  F5, rfl, b5, PySem.W.mg_of X G a5, k5⟩⟩
  have d6 : DefOk P w K mg base _ 2 ("_law_word" : Str) 1 f_law_word := ⟨⟨_, _, _, body_law_word T d5 F6, rfl, b6, PySem.W.mg_of X G a6, k6⟩⟩
  have d0 : DefOk P w K mg base _ 1 ("is_name" : Str) 1 f_is_name := ⟨⟨_, _, _, body_is_name T  F0, rfl, b0, PySem.W.mg_of X G a0, k0⟩⟩
  have d7 : DefOk P w K mg base _ 1 ("_law_name" : Str) 1 f_law_name := ⟨⟨_, _, _, body_law_name T  F7, rfl, b7, PySem.W.mg_of X G a7, k7⟩⟩
  have d2 : DefOk P w K mg base _ 1 ("digits_value" : Str) 2 f_digits_value := ⟨⟨_, _, _, body_digits_value T  F2, rfl, b2, PySem.W.mg_of X G a2, k2⟩⟩
  have d1 : DefOk P w K mg base _ 2 ("number_of" : Str) 1 f_number_of := ⟨⟨_, _, _, body_number_of T d2 F1, rfl, b1, PySem.W.mg_of X G a1, k1⟩⟩
  have d8 : DefOk P w K mg base _ 1 ("_law_number" : Str) 1 f_law_number := ⟨⟨_, _, _, body_law_number T  F8, rfl, b8, PySem.W.mg_of X G a8, k8⟩⟩
  have d4 : DefOk P w K mg base _ 1 ("_law_is_integer" : Str) 1 f_law_is_integer := ⟨⟨_, _, _, body_law_is_integer T  F4, rfl, b4, PySem.W.mg_of X G a4, k4⟩⟩
  have d3 : MakeOk P w K mg base _ 1 2 ("Cursor" : Str) 2 f_Cursor_init := ⟨⟨_, _, _, body_Cursor_init T  F3, rfl, b3, ⟨mk2, at3, fn3, kc2⟩, PySem.W.mg_of X G aC2⟩⟩
  exact body_law T d6 d0 d7 d1 d8 d4 d3 F9
end Pr
/-- what is left: the plain law is true -/
def Pr.Goal : Prop := ∀ ns : List Int, ns.length ≤ 63 → ∃ st, Pr.f_law [.scr (ns.map Sh.Va.int)] [] = .ok (.bl true) st

set_option Elab.async false
set_option linter.all false
set_option maxRecDepth 100000
set_option maxHeartbeats 4000000
namespace Pr
open PySem PySem.Spec PyProof.Rows L2 Sh TL
theorem sm64_of {i : Int} (h0 : -1000000 ≤ i) (h1 : i ≤ 1000000) : sm64 i = true := by
  unfold sm64
  rw [Bool.and_eq_true, decide_eq_true_eq, decide_eq_true_eq]
  omega
/-! ### the drawn row -/
def rbody : Sm := (sIf (eT (e2 opGe (eVar 0) (e2 opPow (eC (.int 10)) (eC (.int 18)))))
  (sSeq (sExpr (eMt "list" mAppend (eVar 4) (aCons (e2 opMod (eA cInt (aCons (eVar 3) aNil)) (eVar 2)) aNil)))
  (sSet 3 (e2 opFdiv (eVar 3) (eVar 2)))) (sSeq (sSet 3 (e2 opMod (e2 opAdd (e2 opMul (eVar 3) (eC (.int 48271))) (eC (.int 12345))) (eC (.int 2147483647))))
  (sExpr (eMt "list" mAppend (eVar 4) (aCons (e2 opMod (e2 opMod (eA cInt (aCons (e2 opAdd (e2 opMul (eVar 3) (eC (.int 69621))) (e2 opMul (eVar 5) (eC (.int 7919)))) aNil)) (eC (.int 2147483647))) (eVar 2)) aNil)))))
theorem row_turn (c s k m : Int) (hm : 0 < m ∧ m < 1000) (xs : List Int) (hx : xs.length ≤ 100) (st : Sto) (n : Va) : ∃ s' x : Int, 0 ≤ x ∧ x < m ∧ rbody [some (.int c), some n, some (.int m), some (.int s), some (.ref st.length), some (.int k)] (st ++ [.lst (xs.map Va.int)]) = .nx [some (.int c), some n, some (.int m), some (.int s'), some (.ref st.length), some (.int k)] (st ++ [.lst ((xs ++ [x]).map Va.int)]) := by
  have h1 : sm64 48271 = true := by decide
  have h2 : sm64 69621 = true := by decide
  have h3 : sm64 7919 = true := by decide
  have hl : xs.length < 16777216 := by omega
  have hm2 : m < 1073741824 := by omega
  have h18 : (10 : Int) ^ (18 : Int).toNat = 1000000000000000000 := by decide
  have hp : (0:Int) ≤ 18 ∧ (18:Int) ≤ 1000000 ∧ (10:Int).natAbs < 2 ^ 64 := by decide
  by_cases hc : 1000000000000000000 ≤ c
  · refine ⟨s / m, s % m, Int.emod_nonneg _ (by omega), Int.emod_lt_of_pos _ hm.1, ?_⟩
    simp [rbody, sSeq, sSet, sIf, sRet, sRetN, sNil, sExpr, sPass, sBrk, sCnt, eT, tBl, eNot, eAnd, eOr, vAnd, vOr, vNot, eIf, e1, e2, e3, eA, eMt, eFld, aCons, aNil, bnd, bS, eVar, eC, lenOk, cYes, opAdd, opSub, opMul, opFdiv, opMod, opPow, opLt, opLe, opGt, opGe, opIx, opNeg, opTup, opLst, opIsN, opNotN, cLen, cInt, cAbs, cMax, cMin, cAll, cAny, cIsi, tyW, isiB, isT, mAppend, qInt, qStr, qBl, eSl, oNone, oSome, opSl, hm.1, hm2, hl, h18, hp, hc, List.set_append]
  · refine ⟨(s * 48271 + 12345) % 2147483647, (((s * 48271 + 12345) % 2147483647 * 69621 + k * 7919) % 2147483647) % m, Int.emod_nonneg _ (by omega), Int.emod_lt_of_pos _ hm.1, ?_⟩
    simp [rbody, sSeq, sSet, sIf, sRet, sRetN, sNil, sExpr, sPass, sBrk, sCnt, eT, tBl, eNot, eAnd, eOr, vAnd, vOr, vNot, eIf, e1, e2, e3, eA, eMt, eFld, aCons, aNil, bnd, bS, eVar, eC, lenOk, cYes, opAdd, opSub, opMul, opFdiv, opMod, opPow, opLt, opLe, opGt, opGe, opIx, opNeg, opTup, opLst, opIsN, opNotN, cLen, cInt, cAbs, cMax, cMin, cAll, cAny, cIsi, tyW, isiB, isT, mAppend, qInt, qStr, qBl, eSl, oNone, oSome, opSl, hm.1, hm2, hl, h18, hp, hc, h1, h2, h3, List.set_append]
theorem f_row (c m : Int) (n : Nat) (hn : n ≤ 100) (hm : 0 < m ∧ m < 1000) (st : Sto) : ∃ xs : List Int, f_law_row [.int c, .int n, .int m] st = .ok (.ref st.length) (st ++ [.lst (xs.map Va.int)]) ∧ xs.length = n ∧ ∀ x ∈ xs, 0 ≤ x ∧ x < m := by
  obtain ⟨env', st', e, s, xs, z, rfl, rfl, hxl, hx⟩ := forF_idx (tg := tgN 5) (body := rbody) (fun i env t => ∃ (s : Int) (xs : List Int) (z : Option Va), env = [some (.int c), some (.int n), some (.int m), some (.int s), some (.ref st.length), z] ∧ t = st ++ [.lst (xs.map Va.int)] ∧ xs.length = i ∧ ∀ x ∈ xs, 0 ≤ x ∧ x < m) (ws := rangeW 0 n) (k := 0)
    (fun i w hw env t p => by
      obtain ⟨rfl, hi⟩ := rangeW_get hw
      obtain ⟨s, xs, z, rfl, rfl, hl, hx⟩ := p
      obtain ⟨s', x, x0, x1, e⟩ := row_turn c s (0 + (i : Int)) m hm xs (by omega) st (.int n)
      refine ⟨_, rfl, _, _, .inl e, s', xs ++ [x], _, rfl, rfl, by simp [hl], fun y hy => ?_⟩
      rcases List.mem_append.mp hy with hy | hy
      · exact hx y hy
      · rw [List.mem_singleton.mp hy]; exact ⟨x0, x1⟩)
    (env := [some (.int c), some (.int n), some (.int m), some (.int c), some (.ref st.length), none]) (st := st ++ [.lst []]) ⟨c, [], none, rfl, rfl, rfl, fun _ h => absurd h List.not_mem_nil⟩
  refine ⟨xs, ?_, by simpa [rangeW_length] using hxl, hx⟩
  have hr : ((n : Int)).toNat = n := by simp
  have hb : -(2:Int) ^ 62 ≤ (n : Int) ∧ (n : Int) < 2 ^ 62 := by omega
  show runF 3 (sSeq (sSet 3 (eVar 0)) (sSeq (sSet 4 (eA opLst aNil)) (sSeq (sFor (iR1 (aCons (eVar 1) aNil)) (tgN 5) rbody) (sRet (eVar 4))))) 6 [.int c, .int n, .int m] st = _
  refine run_rt [some (.int c), some (.int n), some (.int m), none, none, none] rfl ?_
  rw [seq_nx (env' := [some (.int c), some (.int n), some (.int m), some (.int c), none, none]) (st' := st) (by simp [sSeq, sSet, sIf, sRet, sRetN, sNil, sExpr, sPass, sBrk, sCnt, eT, tBl, eNot, eAnd, eOr, vAnd, vOr, vNot, eIf, e1, e2, e3, eA, eMt, eFld, aCons, aNil, bnd, bS, eVar, eC, lenOk, cYes, opAdd, opSub, opMul, opFdiv, opMod, opPow, opLt, opLe, opGt, opGe, opIx, opNeg, opTup, opLst, opIsN, opNotN, cLen, cInt, cAbs, cMax, cMin, cAll, cAny, cIsi, tyW, isiB, isT, mAppend, qInt, qStr, qBl, eSl, oNone, oSome, opSl])]
  rw [seq_nx (env' := [some (.int c), some (.int n), some (.int m), some (.int c), some (.ref st.length), none]) (st' := st ++ [.lst []]) (by simp [sSeq, sSet, sIf, sRet, sRetN, sNil, sExpr, sPass, sBrk, sCnt, eT, tBl, eNot, eAnd, eOr, vAnd, vOr, vNot, eIf, e1, e2, e3, eA, eMt, eFld, aCons, aNil, bnd, bS, eVar, eC, lenOk, cYes, opAdd, opSub, opMul, opFdiv, opMod, opPow, opLt, opLe, opGt, opGe, opIx, opNeg, opTup, opLst, opIsN, opNotN, cLen, cInt, cAbs, cMax, cMin, cAll, cAny, cIsi, tyW, isiB, isT, mAppend, qInt, qStr, qBl, eSl, oNone, oSome, opSl])]
  have hsrc : iR1 (aCons (eVar 1) aNil) [some (.int c), some (.int n), some (.int m), some (.int c), some (.ref st.length), none] (st ++ [.lst []]) = .ok (.fix (rangeW 0 n)) (st ++ [.lst []]) := by
    rw [iR1_ok (j := n) (st1 := st ++ [.lst []]) (by simp [sSeq, sSet, sIf, sRet, sRetN, sNil, sExpr, sPass, sBrk, sCnt, eT, tBl, eNot, eAnd, eOr, vAnd, vOr, vNot, eIf, e1, e2, e3, eA, eMt, eFld, aCons, aNil, bnd, bS, eVar, eC, lenOk, cYes, opAdd, opSub, opMul, opFdiv, opMod, opPow, opLt, opLe, opGt, opGe, opIx, opNeg, opTup, opLst, opIsN, opNotN, cLen, cInt, cAbs, cMax, cMin, cAll, cAny, cIsi, tyW, isiB, isT, mAppend, qInt, qStr, qBl, eSl, oNone, oSome, opSl]) hb.1 hb.2, hr]
  rw [seq_nx (env' := [some (.int c), some (.int n), some (.int m), some (.int s), some (.ref st.length), z]) (st' := st ++ [.lst (xs.map Va.int)]) (by unfold sFor; rw [hsrc]; exact e)]
  rfl

/-! ### the drawn word -/
def okT (l : List Nat) : Prop := ∀ c ∈ l, c ≠ 32 ∧ c < 128
instance (l : List Nat) : Decidable (okT l) := inferInstanceAs (Decidable (∀ c ∈ l, c ≠ 32 ∧ c < 128))
def Good (w : Str) : Prop := (tl w).length ≤ 100 ∧ okT (tl w)
theorem good_app {a b : Str} {n m : Nat} (ha : (tl a).length ≤ n ∧ okT (tl a)) (hb : (tl b).length ≤ m ∧ okT (tl b)) : (tl (a ++ b)).length ≤ n + m ∧ okT (tl (a ++ b)) := by
  rw [tl_append]
  refine ⟨by rw [List.length_append]; omega, fun c h => ?_⟩
  rcases List.mem_append.mp h with h | h
  · exact ha.2 c h
  · exact hb.2 c h
def okS (n : Nat) (w : Va) : Bool := match w with
  | .str x => decide ((tl x).length ≤ n) && decide (okT (tl x))
  | _ => false
theorem okS_of {n : Nat} {w : Va} (h : okS n w = true) : ∃ x, w = .str x ∧ (tl x).length ≤ n ∧ okT (tl x) := by
  cases w with
  | str x =>
    unfold okS at h
    rw [Bool.and_eq_true, decide_eq_true_eq, decide_eq_true_eq] at h
    exact ⟨x, rfl, h.1, h.2⟩
  | _ => cases h
def keysL : List Va := [.str "asset", .str "contract", .str "var", .str "hold", .str "proc", .str "shown", .str "hidden", .str "end", .str "set", .str "need", .str "give", .str "get", .str "move", .str "ask", .str "call", .str "if", .str "else", .str "given", .str "have", .str "out", .str "mod"]
theorem keys_at {i : Int} (h0 : 0 ≤ i) (h1 : i < 21) : ∃ x, atI keysL i = some (.str x) ∧ (tl x).length ≤ 10 ∧ okT (tl x) := by
  obtain ⟨x, e, hx⟩ := atI_in (xs := keysL) h0 h1
  have : ∀ w ∈ keysL, okS 10 w = true := by decide +kernel
  obtain ⟨y, rfl, h2⟩ := okS_of (this x hx)
  exact ⟨y, e, h2⟩
def endsL : List Va := [.str "", .str "", .str "s", .str "1"]
theorem ends_at {i : Int} (h0 : 0 ≤ i) (h1 : i < 4) : ∃ x, atI endsL i = some (.str x) ∧ (tl x).length ≤ 1 ∧ okT (tl x) := by
  obtain ⟨x, e, hx⟩ := atI_in (xs := endsL) h0 h1
  have : ∀ w ∈ endsL, okS 1 w = true := by decide +kernel
  obtain ⟨y, rfl, h2⟩ := okS_of (this x hx)
  exact ⟨y, e, h2⟩
/-- a sign of a text -/
theorem sign_at {y : Str} {i : Int} (hy : okT (tl y)) (h0 : 0 ≤ i) (h1 : i < (tl y).length) : ∃ c, atI y.cps.toList i = some c ∧ c ∈ tl y ∧ (tl ⟨#[c]⟩).length ≤ 1 ∧ okT (tl ⟨#[c]⟩) := by
  obtain ⟨c, e, hc⟩ := atI_in (xs := tl y) h0 h1
  refine ⟨c, e, hc, by simp [tl], fun d h => ?_⟩
  have h' : d = c := by simpa [tl] using h
  rw [h']
  exact hy c hc
theorem case0 (c : Int) (hc : 0 ≤ c) (n : Nat) (st : Sto) (x2 x3 x4 x5 x6 x7 x8 x9 : Option Va) (h1 : st[n]? = some (.lst keysL)) : ∃ w x, Good w ∧
  (sRet (e2 opAdd (e2 opIx (eVar 1) (e2 opMod (e2 opFdiv (eA cInt (aCons (eVar 0) aNil)) (eC (.int 4))) (eC (.int 21)))) (e2 opIx (eA opTup (aCons (eC (.str ("" : Str))) (aCons (eC (.str ("" : Str))) (aCons (eC (.str ("s" : Str))) (aCons (eC (.str ("1" : Str))) aNil))))) (e2 opMod (e2 opFdiv (eA cInt (aCons (eVar 0) aNil)) (eC (.int 84))) (eC (.int 4)))))) [some (.int c), some (.ref n), x2, x3, x4, x5, x6, x7, x8, x9] st = .rt (.str w) (st ++ x) := by
  obtain ⟨a, ea, ha⟩ := keys_at (i := c / 4 % 21) (Int.emod_nonneg _ (by decide)) (Int.emod_lt_of_pos _ (by decide))
  obtain ⟨b, eb, hb⟩ := ends_at (i := c / 84 % 4) (Int.emod_nonneg _ (by decide)) (Int.emod_lt_of_pos _ (by decide))
  have eb' : atI [Va.str ("" : Str), .str ("" : Str), .str ("s" : Str), .str ("1" : Str)] (c / 84 % 4) = some (.str b) := eb
  have hab := good_app ha hb
  have hl : a.length + b.length ≤ 16777216 := by
    have h1 : a.length = (tl a).length := rfl
    have h2 : b.length = (tl b).length := rfl
    omega
  refine ⟨a ++ b, [], ⟨by omega, hab.2⟩, ?_⟩
  simp [sSeq, sSet, sIf, sRet, sRetN, sNil, sExpr, sPass, sBrk, sCnt, eT, tBl, eNot, eAnd, eOr, vAnd, vOr, vNot, eIf, e1, e2, e3, eA, eMt, eFld, aCons, aNil, bnd, bS, eVar, eC, lenOk, cYes, opAdd, opSub, opMul, opFdiv, opMod, opPow, opLt, opLe, opGt, opGe, opIx, opNeg, opTup, opLst, opIsN, opNotN, cLen, cInt, cAbs, cMax, cMin, cAll, cAny, cIsi, tyW, isiB, isT, mAppend, qInt, qStr, qBl, eSl, oNone, oSome, opSl, h1, ea, eb', hl]

/-- texts of one sign, glued -/
theorem sum_le : ∀ {ns : List Nat} {k : Nat}, (∀ n ∈ ns, n ≤ k) → ns.sum ≤ ns.length * k
  | [], _, _ => by simp
  | n :: r, k, h => by
    have h1 := h n List.mem_cons_self
    have h2 := sum_le (ns := r) (k := k) fun m hm => h m (List.mem_cons_of_mem _ hm)
    rw [List.sum_cons, List.length_cons, Nat.add_mul]
    omega
theorem good_join {zs : List Str} {n : Nat} (hn : zs.length ≤ n) (h : ∀ z ∈ zs, (tl z).length ≤ 1 ∧ okT (tl z)) : (tl (PySem.Txt.join ("" : Str) zs)).length ≤ n ∧ okT (tl (PySem.Txt.join ("" : Str) zs)) := by
  rw [join_eq, tl_join, show tl ("" : Str) = [] from rfl]
  refine ⟨?_, fun c q => ?_⟩
  · rw [joinL_nil_length]
    have := sum_le (ns := (zs.map tl).map List.length) (k := 1) (fun m hm => by
      obtain ⟨p, hp, rfl⟩ := List.mem_map.mp hm
      obtain ⟨z, hz, rfl⟩ := List.mem_map.mp hp
      exact (h z hz).1)
    rw [List.length_map, List.length_map] at this
    omega
  · rcases mem_joinL q with q | ⟨p, hp, q⟩
    · cases q
    · obtain ⟨z, hz, rfl⟩ := List.mem_map.mp hp
      exact (h z hz).2 c q
theorem join_small {zs : List Str} (hn : zs.length ≤ 100) (h : ∀ z ∈ zs, (tl z).length ≤ 1 ∧ okT (tl z)) : (zs.map (·.length)).sum + zs.length * ("" : Str).length ≤ 16777216 := by
  have := sum_le (ns := zs.map (·.length)) (k := 1) (fun m hm => by
    obtain ⟨z, hz, rfl⟩ := List.mem_map.mp hm
    exact (h z hz).1)
  rw [List.length_map] at this
  have e : ("" : Str).length = 0 := rfl
  rw [e]
  omega
/-- ''.join of a comprehension of signs -/
theorem join_ok {m : En → Mo Va} {env : En} {st st' : Sto} {n : Nat} {zs : List Str} (h : m env st = .ok (.ref n) st') (hg : st'[n]? = some (.lst (zs.map Va.str))) (hn : zs.length ≤ 100) (hz : ∀ z ∈ zs, (tl z).length ≤ 1 ∧ okT (tl z)) :
    eMt "str" mJoin (eC (.str ("" : Str))) (aCons m aNil) env st = .ok (.str (PySem.Txt.join ("" : Str) zs)) st' := by
  have hs := join_small hn hz
  simp [sSeq, sSet, sIf, sRet, sRetN, sNil, sExpr, sPass, sBrk, sCnt, eT, tBl, eNot, eAnd, eOr, vAnd, vOr, vNot, eIf, e1, e2, e3, eA, eMt, eFld, aCons, aNil, bnd, bS, eVar, eC, lenOk, cYes, opAdd, opSub, opMul, opFdiv, opMod, opPow, opLt, opLe, opGt, opGe, opIx, opNeg, opTup, opLst, opIsN, opNotN, cLen, cInt, cAbs, cMax, cMin, cAll, cAny, cIsi, tyW, isiB, isT, mAppend, qInt, qStr, qBl, eSl, oNone, oSome, opSl, h, mJoin, hg, unstr_map]
  omega
def sgn (y : Str) : Prop := y.length ≤ 16777216 ∧ okT (tl y)
theorem case2 (c : Int) (hc : 0 ≤ c) (st : Sto) (x1 x2 x3 x4 x5 x6 x7 x8 x9 : Option Va) : ∃ w x, Good w ∧
    (sSeq (sSet 3 (eMt "str" mJoin (eC (.str ("" : Str))) (aCons (eLc (iL (eA (lenOk 3 f_law_row) (aCons (e2 opFdiv (eA cInt (aCons (eVar 0) aNil)) (eC (.int 4))) (aCons (e2 opMod (e2 opFdiv (eA cInt (aCons (eVar 0) aNil)) (eC (.int 7))) (eC (.int 14))) (aCons (eC (.int 10)) aNil))))) (tgN 4) cYes (e2 opIx (eC (.str ("abcxyz0189" : Str))) (eVar 4)) [4]) aNil)))
  (sSeq (sSet 5 (eC (.str ("!\"#$&'()*+,-./:;<=>?@ABCDEFGHIJKLMNOPQRSTUVWXYZ[\\]^_`{|}~\t\n" : Str))))
  (sSeq (sSet 6 (e2 opMod (e2 opFdiv (eA cInt (aCons (eVar 0) aNil)) (eC (.int 100))) (e2 opAdd (eA cLen (aCons (eVar 3) aNil)) (eC (.int 1)))))
  (sRet (e2 opAdd (e2 opAdd (eSl (eVar 3) oNone (oSome (eVar 6))) (e2 opIx (eVar 5) (e2 opMod (e2 opFdiv (eA cInt (aCons (eVar 0) aNil)) (eC (.int 1500))) (eA cLen (aCons (eVar 5) aNil))))) (eSl (eVar 3) (oSome (eVar 6)) oNone)))))) [some (.int c), x1, x2, x3, x4, x5, x6, x7, x8, x9] st = .rt (.str w) (st ++ x) := by
  obtain ⟨n, hn⟩ : ∃ n : Nat, c / 7 % 14 = (n : Int) := ⟨(c / 7 % 14).toNat, by have := Int.emod_nonneg (c / 7) (show (14 : Int) ≠ 0 by decide); omega⟩
  have hn14 : n < 14 := by have := Int.emod_lt_of_pos (c / 7) (show (0 : Int) < 14 by decide); omega
  obtain ⟨xs, er, hl, hx⟩ := f_row (c / 4) 10 n (by omega) (by decide) st
  have hsrc : iL (eA (lenOk 3 f_law_row) (aCons (e2 opFdiv (eA cInt (aCons (eVar 0) aNil)) (eC (.int 4))) (aCons (e2 opMod (e2 opFdiv (eA cInt (aCons (eVar 0) aNil)) (eC (.int 7))) (eC (.int 14))) (aCons (eC (.int 10)) aNil)))) [some (.int c), x1, x2, x3, x4, x5, x6, x7, x8, x9] st = .ok (.live st.length) (st ++ [.lst (xs.map Va.int)]) := by
    simp [sSeq, sSet, sIf, sRet, sRetN, sNil, sExpr, sPass, sBrk, sCnt, eT, tBl, eNot, eAnd, eOr, vAnd, vOr, vNot, eIf, e1, e2, e3, eA, eMt, eFld, aCons, aNil, bnd, bS, eVar, eC, lenOk, cYes, opAdd, opSub, opMul, opFdiv, opMod, opPow, opLt, opLe, opGt, opGe, opIx, opNeg, opTup, opLst, opIsN, opNotN, cLen, cInt, cAbs, cMax, cMin, cAll, cAny, cIsi, tyW, isiB, isT, mAppend, qInt, qStr, qBl, eSl, oNone, oSome, opSl, iL, hn, er]
  have hy : okT (tl ("abcxyz0189" : Str)) := by decide +kernel
  obtain ⟨ys, x, e, r⟩ := eLc_live (e := e2 opIx (eC (.str ("abcxyz0189" : Str))) (eVar 4)) (i := 4) (fun _ y => ∃ z : Str, y = .str z ∧ (tl z).length ≤ 1 ∧ okT (tl z)) hsrc (all := xs.map Va.int) (by simp) (by simp; omega)
    (fun w hw t => by
      obtain ⟨i, hi, rfl⟩ := List.mem_map.mp hw
      obtain ⟨s, es, _, g1, g2⟩ := sign_at (i := i) hy (hx i hi).1 (by have := (hx i hi).2; have e10 : (tl ("abcxyz0189" : Str)).length = 10 := by decide +kernel
                                                                       omega)
      have e16 : (("abcxyz0189" : Str).length ≤ 16777216) := by decide +kernel
      exact ⟨.str ⟨#[s]⟩, [], by simp [sSeq, sSet, sIf, sRet, sRetN, sNil, sExpr, sPass, sBrk, sCnt, eT, tBl, eNot, eAnd, eOr, vAnd, vOr, vNot, eIf, e1, e2, e3, eA, eMt, eFld, aCons, aNil, bnd, bS, eVar, eC, lenOk, cYes, opAdd, opSub, opMul, opFdiv, opMod, opPow, opLt, opLe, opGt, opGe, opIx, opNeg, opTup, opLst, opIsN, opNotN, cLen, cInt, cAbs, cMax, cMin, cAll, cAny, cIsi, tyW, isiB, isT, mAppend, qInt, qStr, qBl, eSl, oNone, oSome, opSl, es, e16], ⟨#[s]⟩, rfl, g1, g2⟩)
  obtain ⟨zs, rfl, p⟩ := paired_right Va.str (fun _ z => (tl z).length ≤ 1 ∧ okT (tl z)) (fun a b h => h) r
  have hz := paired_all (P := fun z => (tl z).length ≤ 1 ∧ okT (tl z)) (fun a b h => h) p
  have hzl : zs.length ≤ 13 := by have := paired_length p; rw [List.length_map] at this; omega
  have ej := join_ok (n := (st ++ [Ob.lst (xs.map Va.int)]).length) e (get_mid _ _ _) (by omega) hz
  have gj := good_join hzl hz
  generalize PySem.Txt.join ("" : Str) zs = z at ej gj
  have hST : ∃ ST, ST = st ++ ([Ob.lst (List.map Va.int xs)] ++ Ob.lst (List.map Va.str zs) :: x) := ⟨_, rfl⟩
  obtain ⟨ST, hST⟩ := hST
  rw [List.append_assoc, ← hST] at ej
  have h32 : okT (tl ("!\"#$&'()*+,-./:;<=>?@ABCDEFGHIJKLMNOPQRSTUVWXYZ[\\]^_`{|}~\t\n" : Str)) := by decide +kernel
  have hel : (tl ("!\"#$&'()*+,-./:;<=>?@ABCDEFGHIJKLMNOPQRSTUVWXYZ[\\]^_`{|}~\t\n" : Str)).length = 59 := by decide +kernel
  generalize hE : ("!\"#$&'()*+,-./:;<=>?@ABCDEFGHIJKLMNOPQRSTUVWXYZ[\\]^_`{|}~\t\n" : Str) = E at h32 hel ⊢
  obtain ⟨s, es, _, g1, g2⟩ := sign_at (i := c / 1500 % 59) h32 (Int.emod_nonneg _ (by decide)) (by rw [hel]; exact Int.emod_lt_of_pos _ (by decide))
  have zl : z.length = (tl z).length := rfl
  have El : E.length = 59 := hel
  have c1 : ∀ lo hi, (tl (cutS z lo hi)).length ≤ 13 ∧ okT (tl (cutS z lo hi)) := fun lo hi => ⟨Nat.le_trans (cutS_length z lo hi) (by omega), fun c h => gj.2 c (mem_cutS h)⟩
  have c2 : ∀ lo hi, (cutS z lo hi).length ≤ 13 := fun lo hi => (c1 lo hi).1
  let at' : Int := c / 100 % ((z.length : Int) + 1)
  have hgood := good_app (good_app (c1 none (some at')) ⟨g1, g2⟩) (c1 (some at') none)
  refine ⟨cutS z none (some at') ++ ⟨#[s]⟩ ++ cutS z (some at') none, ([Ob.lst (List.map Va.int xs)] ++ Ob.lst (List.map Va.str zs) :: x), ⟨by omega, hgood.2⟩, ?_⟩
  rw [← hST]
  refine seq_step (set_step ej) ?_
  refine seq_step (set_step (w := .str E) (st' := ST) rfl) ?_
  have hz16 : z.length ≤ 16777216 := by omega
  have hz1 : 0 < (z.length : Int) + 1 := by omega
  refine seq_step (set_step (w := .int at') (st' := ST) (by simp [sSeq, sSet, sIf, sRet, sRetN, sNil, sExpr, sPass, sBrk, sCnt, eT, tBl, eNot, eAnd, eOr, vAnd, vOr, vNot, eIf, e1, e2, e3, eA, eMt, eFld, aCons, aNil, bnd, bS, eVar, eC, lenOk, cYes, opAdd, opSub, opMul, opFdiv, opMod, opPow, opLt, opLe, opGt, opGe, opIx, opNeg, opTup, opLst, opIsN, opNotN, cLen, cInt, cAbs, cMax, cMin, cAll, cAny, cIsi, tyW, isiB, isT, mAppend, qInt, qStr, qBl, eSl, oNone, oSome, opSl, hz16, hz1, at'])) ?_
  refine ret_step ?_
  have l1 := c2 none (some at')
  have l2 := c2 (some at') none
  have k1 : (cutS z none (some at')).length + (⟨#[s]⟩ : Str).length ≤ 16777216 := by have : (⟨#[s]⟩ : Str).length = 1 := rfl; omega
  have k2 : (cutS z none (some at') ++ ⟨#[s]⟩ : Str).length + (cutS z (some at') none).length ≤ 16777216 := by
    have := hgood.1; have e3 := (good_app (c1 none (some at')) ⟨g1, g2⟩).1
    have e4 : (cutS z none (some at') ++ ⟨#[s]⟩ : Str).length = (tl (cutS z none (some at') ++ ⟨#[s]⟩ : Str)).length := rfl
    omega
  simp [sSeq, sSet, sIf, sRet, sRetN, sNil, sExpr, sPass, sBrk, sCnt, eT, tBl, eNot, eAnd, eOr, vAnd, vOr, vNot, eIf, e1, e2, e3, eA, eMt, eFld, aCons, aNil, bnd, bS, eVar, eC, lenOk, cYes, opAdd, opSub, opMul, opFdiv, opMod, opPow, opLt, opLe, opGt, opGe, opIx, opNeg, opTup, opLst, opIsN, opNotN, cLen, cInt, cAbs, cMax, cMin, cAll, cAny, cIsi, tyW, isiB, isT, mAppend, qInt, qStr, qBl, eSl, oNone, oSome, opSl, hz16, El, es, k1, k2]

theorem case13 (c : Int) (hc : 0 ≤ c) (y : Str) (hy : okT (tl y)) (h0 : 0 < (tl y).length) (hl : (tl y).length < 1000) (st : Sto) (x1 x3 x4 x5 x6 x7 x8 x9 : Option Va) : ∃ w x, Good w ∧
  (sSeq (sSet 7 (eA (lenOk 3 f_law_row) (aCons (e2 opFdiv (eA cInt (aCons (eVar 0) aNil)) (eC (.int 4))) (aCons (eC (.int 60)) (aCons (eA cLen (aCons (eVar 2) aNil)) aNil)))))
  (sSeq (sSet 8 (e2 opMod (e2 opFdiv (eA cInt (aCons (eVar 0) aNil)) (eC (.int 7))) (eC (.int 15))))
  (sSeq (sIf (eT (e2 opEq (e2 opMod (e2 opFdiv (eA cInt (aCons (eVar 0) aNil)) (eC (.int 105))) (eC (.int 5))) (eC (.int 4))))
  (sSet 8 (e2 opMod (e2 opFdiv (eA cInt (aCons (eVar 0) aNil)) (eC (.int 7))) (eC (.int 60)))) sNil)
  (sRet (eMt "str" mJoin (eC (.str ("" : Str))) (aCons (eLc (iR1 (aCons (eVar 8) aNil)) (tgN 9) cYes (e2 opIx (eVar 2) (e2 opIx (eVar 7) (eVar 9))) [9]) aNil)))))) [some (.int c), x1, some (.str y), x3, x4, x5, x6, x7, x8, x9] st = .rt (.str w) (st ++ x) := by
  have yl : y.length = (tl y).length := rfl
  have y16 : y.length ≤ 16777216 := by omega
  obtain ⟨xs, er, hxl, hx⟩ := f_row (c / 4) (tl y).length 60 (by omega) (by omega) st
  obtain ⟨k, hk60, hk⟩ : ∃ k : Nat, k < 60 ∧ (sIf (eT (e2 opEq (e2 opMod (e2 opFdiv (eA cInt (aCons (eVar 0) aNil)) (eC (.int 105))) (eC (.int 5))) (eC (.int 4))))
      (sSet 8 (e2 opMod (e2 opFdiv (eA cInt (aCons (eVar 0) aNil)) (eC (.int 7))) (eC (.int 60)))) sNil) [some (.int c), x1, some (.str y), x3, x4, x5, x6, some (.ref st.length), some (.int (c / 7 % 15)), x9] (st ++ [.lst (xs.map Va.int)]) = .nx [some (.int c), x1, some (.str y), x3, x4, x5, x6, some (.ref st.length), some (.int (k : Int)), x9] (st ++ [.lst (xs.map Va.int)]) := by
    by_cases h5 : c / 105 % 5 = 4
    · have a1 := Int.emod_nonneg (c / 7) (show (60 : Int) ≠ 0 by decide)
      have a2 := Int.emod_lt_of_pos (c / 7) (show (0 : Int) < 60 by decide)
      refine ⟨(c / 7 % 60).toNat, by omega, ?_⟩
      simp [sSeq, sSet, sIf, sRet, sRetN, sNil, sExpr, sPass, sBrk, sCnt, eT, tBl, eNot, eAnd, eOr, vAnd, vOr, vNot, eIf, e1, e2, e3, eA, eMt, eFld, aCons, aNil, bnd, bS, eVar, eC, lenOk, cYes, opAdd, opSub, opMul, opFdiv, opMod, opPow, opLt, opLe, opGt, opGe, opIx, opNeg, opTup, opLst, opIsN, opNotN, cLen, cInt, cAbs, cMax, cMin, cAll, cAny, cIsi, tyW, isiB, isT, mAppend, qInt, qStr, qBl, eSl, oNone, oSome, opSl, h5]
      omega
    · have a1 := Int.emod_nonneg (c / 7) (show (15 : Int) ≠ 0 by decide)
      have a2 := Int.emod_lt_of_pos (c / 7) (show (0 : Int) < 15 by decide)
      refine ⟨(c / 7 % 15).toNat, by omega, ?_⟩
      simp [sSeq, sSet, sIf, sRet, sRetN, sNil, sExpr, sPass, sBrk, sCnt, eT, tBl, eNot, eAnd, eOr, vAnd, vOr, vNot, eIf, e1, e2, e3, eA, eMt, eFld, aCons, aNil, bnd, bS, eVar, eC, lenOk, cYes, opAdd, opSub, opMul, opFdiv, opMod, opPow, opLt, opLe, opGt, opGe, opIx, opNeg, opTup, opLst, opIsN, opNotN, cLen, cInt, cAbs, cMax, cMin, cAll, cAny, cIsi, tyW, isiB, isT, mAppend, qInt, qStr, qBl, eSl, oNone, oSome, opSl, h5]
      omega
  have hr : ((k : Int)).toNat = k := by simp
  have hb : -(2:Int) ^ 62 ≤ (k : Int) ∧ (k : Int) < 2 ^ 62 := by omega
  have hsrc : iR1 (aCons (eVar 8) aNil) [some (.int c), x1, some (.str y), x3, x4, x5, x6, some (.ref st.length), some (.int (k : Int)), x9] (st ++ [.lst (xs.map Va.int)]) = .ok (.fix (rangeW 0 k)) (st ++ [.lst (xs.map Va.int)]) := by
    rw [iR1_ok (j := k) (st1 := st ++ [.lst (xs.map Va.int)]) (by simp [sSeq, sSet, sIf, sRet, sRetN, sNil, sExpr, sPass, sBrk, sCnt, eT, tBl, eNot, eAnd, eOr, vAnd, vOr, vNot, eIf, e1, e2, e3, eA, eMt, eFld, aCons, aNil, bnd, bS, eVar, eC, lenOk, cYes, opAdd, opSub, opMul, opFdiv, opMod, opPow, opLt, opLe, opGt, opGe, opIx, opNeg, opTup, opLst, opIsN, opNotN, cLen, cInt, cAbs, cMax, cMin, cAll, cAny, cIsi, tyW, isiB, isT, mAppend, qInt, qStr, qBl, eSl, oNone, oSome, opSl]) hb.1 hb.2, hr]
  obtain ⟨ys, x, e, r⟩ := eLc_fix (e := e2 opIx (eVar 2) (e2 opIx (eVar 7) (eVar 9))) (i := 9) (fun _ y => ∃ z : Str, y = .str z ∧ (tl z).length ≤ 1 ∧ okT (tl z)) hsrc (by rw [rangeW_length]; omega)
    (fun w hw t => by
      obtain ⟨j, hj, rfl⟩ := rangeW_mem hw
      have hj2 : j < xs.length := by omega
      obtain ⟨s, es, _, g1, g2⟩ := sign_at (i := xs[j]) hy (hx _ (List.getElem_mem hj2)).1 (hx _ (List.getElem_mem hj2)).2
      have ej : atI (xs.map Va.int) (j : Int) = some (.int xs[j]) := by rw [atI_map, atI_nat', List.getElem?_eq_getElem hj2]; rfl
      refine ⟨.str ⟨#[s]⟩, [], ?_, ⟨#[s]⟩, rfl, g1, g2⟩
      have eg : (st ++ [Ob.lst (xs.map Va.int)] ++ t)[st.length]? = some (Ob.lst (xs.map Va.int)) := by rw [List.append_assoc]; exact get_mid _ _ _
      generalize st ++ [Ob.lst (xs.map Va.int)] ++ t = ST at eg
      simp [sSeq, sSet, sIf, sRet, sRetN, sNil, sExpr, sPass, sBrk, sCnt, eT, tBl, eNot, eAnd, eOr, vAnd, vOr, vNot, eIf, e1, e2, e3, eA, eMt, eFld, aCons, aNil, bnd, bS, eVar, eC, lenOk, cYes, opAdd, opSub, opMul, opFdiv, opMod, opPow, opLt, opLe, opGt, opGe, opIx, opNeg, opTup, opLst, opIsN, opNotN, cLen, cInt, cAbs, cMax, cMin, cAll, cAny, cIsi, tyW, isiB, isT, mAppend, qInt, qStr, qBl, eSl, oNone, oSome, opSl, eg, ej, es, y16])
  obtain ⟨zs, rfl, p⟩ := paired_right Va.str (fun _ z => (tl z).length ≤ 1 ∧ okT (tl z)) (fun a b h => h) r
  have hz := paired_all (P := fun z => (tl z).length ≤ 1 ∧ okT (tl z)) (fun a b h => h) p
  have hzl : zs.length ≤ 60 := by have := paired_length p; rw [rangeW_length] at this; omega
  have ej := join_ok (n := (st ++ [Ob.lst (xs.map Va.int)]).length) e (get_mid _ _ _) (by omega) hz
  have gj := good_join hzl hz
  refine ⟨_, [Ob.lst (List.map Va.int xs)] ++ Ob.lst (List.map Va.str zs) :: x, ⟨by omega, gj.2⟩, ?_⟩
  rw [← List.append_assoc]
  refine seq_step (set_step (w := .ref st.length) (st' := st ++ [.lst (xs.map Va.int)]) ?_) ?_
  · have yl' : (y.length : Int) = ((tl y).length : Int) := by rw [yl]
    have er' : f_law_row [.int (c / 4), .int 60, .int ((tl y).length : Int)] st = _ := er
    simp [sSeq, sSet, sIf, sRet, sRetN, sNil, sExpr, sPass, sBrk, sCnt, eT, tBl, eNot, eAnd, eOr, vAnd, vOr, vNot, eIf, e1, e2, e3, eA, eMt, eFld, aCons, aNil, bnd, bS, eVar, eC, lenOk, cYes, opAdd, opSub, opMul, opFdiv, opMod, opPow, opLt, opLe, opGt, opGe, opIx, opNeg, opTup, opLst, opIsN, opNotN, cLen, cInt, cAbs, cMax, cMin, cAll, cAny, cIsi, tyW, isiB, isT, mAppend, qInt, qStr, qBl, eSl, oNone, oSome, opSl, y16]
    exact er
  refine seq_step (set_step (w := .int (c / 7 % 15)) (st' := st ++ [.lst (xs.map Va.int)]) (by simp [sSeq, sSet, sIf, sRet, sRetN, sNil, sExpr, sPass, sBrk, sCnt, eT, tBl, eNot, eAnd, eOr, vAnd, vOr, vNot, eIf, e1, e2, e3, eA, eMt, eFld, aCons, aNil, bnd, bS, eVar, eC, lenOk, cYes, opAdd, opSub, opMul, opFdiv, opMod, opPow, opLt, opLe, opGt, opGe, opIx, opNeg, opTup, opLst, opIsN, opNotN, cLen, cInt, cAbs, cMax, cMin, cAll, cAny, cIsi, tyW, isiB, isT, mAppend, qInt, qStr, qBl, eSl, oNone, oSome, opSl])) ?_
  exact seq_step hk (ret_step ej)
theorem f_word (c : Int) (hc : 0 ≤ c) (st : Sto) : ∃ w x, Good w ∧ f_law_word [.int c] st = .ok (.str w) (st ++ x) := by
  have k1 : ∀ (x1 x2 x3 x4 x5 x6 x7 x8 x9 : Option Va), (sSet 1 (eA opLst (aCons (eC (.str ("asset" : Str))) (aCons (eC (.str ("contract" : Str))) (aCons (eC (.str ("var" : Str))) (aCons (eC (.str ("hold" : Str))) (aCons (eC (.str ("proc" : Str))) (aCons (eC (.str ("shown" : Str))) (aCons (eC (.str ("hidden" : Str))) (aCons (eC (.str ("end" : Str))) (aCons (eC (.str ("set" : Str))) (aCons (eC (.str ("need" : Str))) (aCons (eC (.str ("give" : Str))) (aCons (eC (.str ("get" : Str))) (aCons (eC (.str ("move" : Str))) (aCons (eC (.str ("ask" : Str))) aNil)))))))))))))))) [some (.int c), x1, x2, x3, x4, x5, x6, x7, x8, x9] st = .nx [some (.int c), some (.ref st.length), x2, x3, x4, x5, x6, x7, x8, x9] (st ++ [.lst (keysL.take 14)]) := by
    intros
    rfl
  have k2 : ∀ (x2 x3 x4 x5 x6 x7 x8 x9 : Option Va), (sSet 1 (e2 opAdd (eVar 1) (eA opLst (aCons (eC (.str ("call" : Str))) (aCons (eC (.str ("if" : Str))) (aCons (eC (.str ("else" : Str))) (aCons (eC (.str ("given" : Str))) (aCons (eC (.str ("have" : Str))) (aCons (eC (.str ("out" : Str))) (aCons (eC (.str ("mod" : Str))) aNil)))))))))) [some (.int c), some (.ref st.length), x2, x3, x4, x5, x6, x7, x8, x9] (st ++ [.lst (keysL.take 14)]) = .nx [some (.int c), some (.ref (st.length + 2)), x2, x3, x4, x5, x6, x7, x8, x9] (st ++ [.lst (keysL.take 14), .lst (keysL.drop 14), .lst keysL]) := by
    intros
    simp [sSeq, sSet, sIf, sRet, sRetN, sNil, sExpr, sPass, sBrk, sCnt, eT, tBl, eNot, eAnd, eOr, vAnd, vOr, vNot, eIf, e1, e2, e3, eA, eMt, eFld, aCons, aNil, bnd, bS, eVar, eC, lenOk, cYes, opAdd, opSub, opMul, opFdiv, opMod, opPow, opLt, opLe, opGt, opGe, opIx, opNeg, opTup, opLst, opIsN, opNotN, cLen, cInt, cAbs, cMax, cMin, cAll, cAny, cIsi, tyW, isiB, isT, mAppend, qInt, qStr, qBl, eSl, oNone, oSome, opSl, get_off, get_off0, keysL]
  have hmem : (st ++ [Ob.lst (keysL.take 14), .lst (keysL.drop 14), .lst keysL])[st.length + 2]? = some (.lst keysL) := by rw [get_off]; rfl
  generalize hst : st ++ [Ob.lst (keysL.take 14), .lst (keysL.drop 14), .lst keysL] = st1 at k2 hmem
  have key : ∃ w x, Good w ∧ b_law_word f_law_row [some (.int c), none, none, none, none, none, none, none, none, none] st = .rt (.str w) (st ++ x) := by
    by_cases h0 : c % 4 = 0
    · obtain ⟨w, x, g, e⟩ := case0 c hc (st.length + 2) st1 none none none none none none none none hmem
      refine ⟨w, [Ob.lst (keysL.take 14), .lst (keysL.drop 14), .lst keysL] ++ x, g, by rw [← List.append_assoc, hst]; exact seq_step (k1 _ _ _ _ _ _ _ _ _) (seq_step (k2 _ _ _ _ _ _ _ _) (seq_ret (by rw [if_t (st' := st1) (by simp [sSeq, sSet, sIf, sRet, sRetN, sNil, sExpr, sPass, sBrk, sCnt, eT, tBl, eNot, eAnd, eOr, vAnd, vOr, vNot, eIf, e1, e2, e3, eA, eMt, eFld, aCons, aNil, bnd, bS, eVar, eC, lenOk, cYes, opAdd, opSub, opMul, opFdiv, opMod, opPow, opLt, opLe, opGt, opGe, opIx, opNeg, opTup, opLst, opIsN, opNotN, cLen, cInt, cAbs, cMax, cMin, cAll, cAny, cIsi, tyW, isiB, isT, mAppend, qInt, qStr, qBl, eSl, oNone, oSome, opSl, h0])]; exact e)))⟩
    · by_cases h1 : c % 4 = 1
      · obtain ⟨w, x, g, e⟩ := case13 c hc "0123456789" (by decide +kernel) (by decide +kernel) (by decide +kernel) st1 (some (.ref (st.length + 2))) none none none none none none none
        refine ⟨w, [Ob.lst (keysL.take 14), .lst (keysL.drop 14), .lst keysL] ++ x, g, by rw [← List.append_assoc, hst]; exact seq_step (k1 _ _ _ _ _ _ _ _ _) (seq_step (k2 _ _ _ _ _ _ _ _) (seq_step (st' := st1) (env' := [some (.int c), some (.ref (st.length + 2)), none, none, none, none, none, none, none, none]) (by simp [sSeq, sSet, sIf, sRet, sRetN, sNil, sExpr, sPass, sBrk, sCnt, eT, tBl, eNot, eAnd, eOr, vAnd, vOr, vNot, eIf, e1, e2, e3, eA, eMt, eFld, aCons, aNil, bnd, bS, eVar, eC, lenOk, cYes, opAdd, opSub, opMul, opFdiv, opMod, opPow, opLt, opLe, opGt, opGe, opIx, opNeg, opTup, opLst, opIsN, opNotN, cLen, cInt, cAbs, cMax, cMin, cAll, cAny, cIsi, tyW, isiB, isT, mAppend, qInt, qStr, qBl, eSl, oNone, oSome, opSl, h0]) (seq_step (st' := st1) (set_step rfl) (seq_step (st' := st1) (env' := [some (.int c), some (.ref (st.length + 2)), some (.str "0123456789"), none, none, none, none, none, none, none]) (by simp [sSeq, sSet, sIf, sRet, sRetN, sNil, sExpr, sPass, sBrk, sCnt, eT, tBl, eNot, eAnd, eOr, vAnd, vOr, vNot, eIf, e1, e2, e3, eA, eMt, eFld, aCons, aNil, bnd, bS, eVar, eC, lenOk, cYes, opAdd, opSub, opMul, opFdiv, opMod, opPow, opLt, opLe, opGt, opGe, opIx, opNeg, opTup, opLst, opIsN, opNotN, cLen, cInt, cAbs, cMax, cMin, cAll, cAny, cIsi, tyW, isiB, isT, mAppend, qInt, qStr, qBl, eSl, oNone, oSome, opSl, h1]) (seq_step (st' := st1) (env' := [some (.int c), some (.ref (st.length + 2)), some (.str "0123456789"), none, none, none, none, none, none, none]) (by simp [sSeq, sSet, sIf, sRet, sRetN, sNil, sExpr, sPass, sBrk, sCnt, eT, tBl, eNot, eAnd, eOr, vAnd, vOr, vNot, eIf, e1, e2, e3, eA, eMt, eFld, aCons, aNil, bnd, bS, eVar, eC, lenOk, cYes, opAdd, opSub, opMul, opFdiv, opMod, opPow, opLt, opLe, opGt, opGe, opIx, opNeg, opTup, opLst, opIsN, opNotN, cLen, cInt, cAbs, cMax, cMin, cAll, cAny, cIsi, tyW, isiB, isT, mAppend, qInt, qStr, qBl, eSl, oNone, oSome, opSl, h1]) e)))))⟩
      · by_cases h2 : c % 4 = 2
        · obtain ⟨w, x, g, e⟩ := case2 c hc st1 (some (.ref (st.length + 2))) (some (.str "abcdefghijklmnopqrstuvwxyz0123456789AZ_-+.\t\n")) none none none none none none none
          refine ⟨w, [Ob.lst (keysL.take 14), .lst (keysL.drop 14), .lst keysL] ++ x, g, by rw [← List.append_assoc, hst]; exact seq_step (k1 _ _ _ _ _ _ _ _ _) (seq_step (k2 _ _ _ _ _ _ _ _) (seq_step (st' := st1) (env' := [some (.int c), some (.ref (st.length + 2)), none, none, none, none, none, none, none, none]) (by simp [sSeq, sSet, sIf, sRet, sRetN, sNil, sExpr, sPass, sBrk, sCnt, eT, tBl, eNot, eAnd, eOr, vAnd, vOr, vNot, eIf, e1, e2, e3, eA, eMt, eFld, aCons, aNil, bnd, bS, eVar, eC, lenOk, cYes, opAdd, opSub, opMul, opFdiv, opMod, opPow, opLt, opLe, opGt, opGe, opIx, opNeg, opTup, opLst, opIsN, opNotN, cLen, cInt, cAbs, cMax, cMin, cAll, cAny, cIsi, tyW, isiB, isT, mAppend, qInt, qStr, qBl, eSl, oNone, oSome, opSl, h0]) (seq_step (st' := st1) (set_step rfl) (seq_step (st' := st1) (env' := [some (.int c), some (.ref (st.length + 2)), some (.str "abcdefghijklmnopqrstuvwxyz0123456789AZ_-+.\t\n"), none, none, none, none, none, none, none]) (by simp [sSeq, sSet, sIf, sRet, sRetN, sNil, sExpr, sPass, sBrk, sCnt, eT, tBl, eNot, eAnd, eOr, vAnd, vOr, vNot, eIf, e1, e2, e3, eA, eMt, eFld, aCons, aNil, bnd, bS, eVar, eC, lenOk, cYes, opAdd, opSub, opMul, opFdiv, opMod, opPow, opLt, opLe, opGt, opGe, opIx, opNeg, opTup, opLst, opIsN, opNotN, cLen, cInt, cAbs, cMax, cMin, cAll, cAny, cIsi, tyW, isiB, isT, mAppend, qInt, qStr, qBl, eSl, oNone, oSome, opSl, h1]) (seq_ret (by rw [if_t (st' := st1) (by simp [sSeq, sSet, sIf, sRet, sRetN, sNil, sExpr, sPass, sBrk, sCnt, eT, tBl, eNot, eAnd, eOr, vAnd, vOr, vNot, eIf, e1, e2, e3, eA, eMt, eFld, aCons, aNil, bnd, bS, eVar, eC, lenOk, cYes, opAdd, opSub, opMul, opFdiv, opMod, opPow, opLt, opLe, opGt, opGe, opIx, opNeg, opTup, opLst, opIsN, opNotN, cLen, cInt, cAbs, cMax, cMin, cAll, cAny, cIsi, tyW, isiB, isT, mAppend, qInt, qStr, qBl, eSl, oNone, oSome, opSl, h2])]; exact e))))))⟩
        · obtain ⟨w, x, g, e⟩ := case13 c hc "abcdefghijklmnopqrstuvwxyz0123456789AZ_-+.\t\n" (by decide +kernel) (by decide +kernel) (by decide +kernel) st1 (some (.ref (st.length + 2))) none none none none none none none
          refine ⟨w, [Ob.lst (keysL.take 14), .lst (keysL.drop 14), .lst keysL] ++ x, g, by rw [← List.append_assoc, hst]; exact seq_step (k1 _ _ _ _ _ _ _ _ _) (seq_step (k2 _ _ _ _ _ _ _ _) (seq_step (st' := st1) (env' := [some (.int c), some (.ref (st.length + 2)), none, none, none, none, none, none, none, none]) (by simp [sSeq, sSet, sIf, sRet, sRetN, sNil, sExpr, sPass, sBrk, sCnt, eT, tBl, eNot, eAnd, eOr, vAnd, vOr, vNot, eIf, e1, e2, e3, eA, eMt, eFld, aCons, aNil, bnd, bS, eVar, eC, lenOk, cYes, opAdd, opSub, opMul, opFdiv, opMod, opPow, opLt, opLe, opGt, opGe, opIx, opNeg, opTup, opLst, opIsN, opNotN, cLen, cInt, cAbs, cMax, cMin, cAll, cAny, cIsi, tyW, isiB, isT, mAppend, qInt, qStr, qBl, eSl, oNone, oSome, opSl, h0]) (seq_step (st' := st1) (set_step rfl) (seq_step (st' := st1) (env' := [some (.int c), some (.ref (st.length + 2)), some (.str "abcdefghijklmnopqrstuvwxyz0123456789AZ_-+.\t\n"), none, none, none, none, none, none, none]) (by simp [sSeq, sSet, sIf, sRet, sRetN, sNil, sExpr, sPass, sBrk, sCnt, eT, tBl, eNot, eAnd, eOr, vAnd, vOr, vNot, eIf, e1, e2, e3, eA, eMt, eFld, aCons, aNil, bnd, bS, eVar, eC, lenOk, cYes, opAdd, opSub, opMul, opFdiv, opMod, opPow, opLt, opLe, opGt, opGe, opIx, opNeg, opTup, opLst, opIsN, opNotN, cLen, cInt, cAbs, cMax, cMin, cAll, cAny, cIsi, tyW, isiB, isT, mAppend, qInt, qStr, qBl, eSl, oNone, oSome, opSl, h1]) (seq_step (st' := st1) (env' := [some (.int c), some (.ref (st.length + 2)), some (.str "abcdefghijklmnopqrstuvwxyz0123456789AZ_-+.\t\n"), none, none, none, none, none, none, none]) (by simp [sSeq, sSet, sIf, sRet, sRetN, sNil, sExpr, sPass, sBrk, sCnt, eT, tBl, eNot, eAnd, eOr, vAnd, vOr, vNot, eIf, e1, e2, e3, eA, eMt, eFld, aCons, aNil, bnd, bS, eVar, eC, lenOk, cYes, opAdd, opSub, opMul, opFdiv, opMod, opPow, opLt, opLe, opGt, opGe, opIx, opNeg, opTup, opLst, opIsN, opNotN, cLen, cInt, cAbs, cMax, cMin, cAll, cAny, cIsi, tyW, isiB, isT, mAppend, qInt, qStr, qBl, eSl, oNone, oSome, opSl, h2]) e)))))⟩
  obtain ⟨w, x, g, e⟩ := key
  exact ⟨w, x, g, run_rt _ rfl e⟩

/-! ### names -/
def keyS : List Str := ["asset", "contract", "var", "hold", "proc", "shown", "hidden", "end", "set", "need", "give", "get", "move", "ask", "call", "if", "else", "given", "have", "out", "mod"]
theorem keys_map : keysL = keyS.map Va.str := rfl
theorem lkeys_map : L_KEY_WORDS = keyS.map Va.str := rfl
theorem strOk_of {w : Str} (h : okT (tl w)) : PySem.PyData.strOk w = true := by
  unfold PySem.PyData.strOk
  rw [Array.all_eq_true_iff_forall_mem]
  intro c hc
  have := (h c (Array.mem_def.mp hc)).2
  exact decide_eq_true (by omega)
theorem strOk_keys : ∀ y ∈ keyS, PySem.PyData.strOk y = true := by decide +kernel
def letS : Str := "abcdefghijklmnopqrstuvwxyz"
def digS : Str := "0123456789"
def bothS : Str := "abcdefghijklmnopqrstuvwxyz0123456789"
theorem both_eq : tl bothS = tl letS ++ tl digS := by decide +kernel
def pSign (c : Nat) : Bool := decide (c ∈ tl letS) || decide (c ∈ tl digS)
theorem pSign_both (c : Nat) : decide (c ∈ tl bothS) = pSign c := by
  unfold pSign
  rw [both_eq]
  by_cases h1 : c ∈ tl letS <;> by_cases h2 : c ∈ tl digS <;> simp [h1, h2]
def c0 (w : Str) : Nat := (tl w).headD 0
theorem at0 {w : Str} (h : tl w ≠ []) : atI w.cps.toList 0 = some (c0 w) := by
  unfold c0 tl at *
  rw [show (0 : Int) = ((0 : Nat) : Int) from rfl, atI_nat']
  cases e : w.cps.toList with
  | nil => exact (h e).elim
  | cons c r => rfl
theorem beq_nil {w : Str} (h : tl w ≠ []) : (w == ("" : Str)) = false := by
  refine beq_eq_false_iff_ne.mpr fun e => h ?_
  rw [e]
  rfl
def nameB (w : Str) : Bool := !(w == ("" : Str)) && !decide (12 < w.length) && !(keyS.any (· == w)) && decide (c0 w ∈ tl letS) && (tl w).all pSign
theorem tl_nil_iff {w : Str} : w == ("" : Str) ↔ tl w = [] := by
  rw [beq_iff_eq]
  exact ⟨fun h => by rw [h]; rfl, fun h => ext_tl h⟩
theorem f_name (w : Str) (hw : w.length ≤ 100) (st : Sto) : ∃ x, f_is_name [.str w] st = .ok (.bl (nameB w)) (st ++ x) := by
  have w16 : w.length ≤ 16777216 := by omega
  have hk : ∀ st, opInB false (.str w) K_KEY_WORDS st = .ok (.bl (keyS.any (· == w))) st := fun st => by
    have := in_ktp false w keyS st
    rw [Bool.false_xor] at this
    exact this
  by_cases hbad : ((w == ("" : Str)) || decide (12 < w.length) || keyS.any (· == w)) = true
  · refine ⟨[], ?_⟩
    have hn : nameB w = false := by
      unfold nameB
      rw [Bool.or_eq_true, Bool.or_eq_true] at hbad
      rcases hbad with (h | h) | h <;> simp [h]
    rw [hn, List.append_nil]
    refine run_rt [some (.str w), none] rfl (seq_ret ?_)
    rw [if_t (st' := st)]
    · rfl
    · rw [Bool.or_eq_true, Bool.or_eq_true] at hbad
      by_cases h1 : (w == ("" : Str)) = true
      · simp [sSeq, sSet, sIf, sRet, sRetN, sNil, sExpr, sPass, sBrk, sCnt, eT, tBl, eNot, eAnd, eOr, vAnd, vOr, vNot, eIf, e1, e2, e3, eA, eMt, eFld, aCons, aNil, bnd, bS, eVar, eC, lenOk, cYes, opAdd, opSub, opMul, opFdiv, opMod, opPow, opLt, opLe, opGt, opGe, opIx, opNeg, opTup, opLst, opIsN, opNotN, cLen, cInt, cAbs, cMax, cMin, cAll, cAny, cIsi, tyW, isiB, isT, mAppend, qInt, qStr, qBl, eSl, oNone, oSome, opSl, h1]
      · have h1' : (w == ("" : Str)) = false := by simpa using h1
        by_cases h2 : 12 < w.length
        · have h2' : (12 : Int) < (w.length : Int) := by omega
          simp [sSeq, sSet, sIf, sRet, sRetN, sNil, sExpr, sPass, sBrk, sCnt, eT, tBl, eNot, eAnd, eOr, vAnd, vOr, vNot, eIf, e1, e2, e3, eA, eMt, eFld, aCons, aNil, bnd, bS, eVar, eC, lenOk, cYes, opAdd, opSub, opMul, opFdiv, opMod, opPow, opLt, opLe, opGt, opGe, opIx, opNeg, opTup, opLst, opIsN, opNotN, cLen, cInt, cAbs, cMax, cMin, cAll, cAny, cIsi, tyW, isiB, isT, mAppend, qInt, qStr, qBl, eSl, oNone, oSome, opSl, w16, h1', h2', K_LONGEST_NAME]
        · have h3 : keyS.any (· == w) = true := by
            rcases hbad with (h | h) | h
            · exact (h1 h).elim
            · exact (h2 (of_decide_eq_true h)).elim
            · exact h
          have h2' : ¬ (12 : Int) < (w.length : Int) := by omega
          simp only [List.any_eq_true, beq_iff_eq] at h3
          simp [sSeq, sSet, sIf, sRet, sRetN, sNil, sExpr, sPass, sBrk, sCnt, eT, tBl, eNot, eAnd, eOr, vAnd, vOr, vNot, eIf, e1, e2, e3, eA, eMt, eFld, aCons, aNil, bnd, bS, eVar, eC, lenOk, cYes, opAdd, opSub, opMul, opFdiv, opMod, opPow, opLt, opLe, opGt, opGe, opIx, opNeg, opTup, opLst, opIsN, opNotN, cLen, cInt, cAbs, cMax, cMin, cAll, cAny, cIsi, tyW, isiB, isT, mAppend, qInt, qStr, qBl, eSl, oNone, oSome, opSl, w16, h1', h2', K_LONGEST_NAME, hk, h3]
  · rw [Bool.not_eq_true, Bool.or_eq_false_iff, Bool.or_eq_false_iff] at hbad
    obtain ⟨⟨h1, h2⟩, h3⟩ := hbad
    have hne : tl w ≠ [] := fun e => by rw [tl_nil_iff.mpr e] at h1; cases h1
    have hlc : ∀ st : Sto, opInB false (.str ⟨#[c0 w]⟩) K_LETTERS st = .ok (.bl (decide (c0 w ∈ tl letS))) st := fun st => by
      show Rs.ok (Va.bl (xor false (inS ⟨#[c0 w]⟩ letS))) st = _
      rw [inS_one, Bool.false_xor]
    have hif : sIf (eOr (eT (e2 opEq (eVar 0) (eC (.str ("" : Str))))) (eOr (eT (e2 opGt (eA cLen (aCons (eVar 0) aNil)) (eC K_LONGEST_NAME))) (eT (e2 opIn (eVar 0) (eC K_KEY_WORDS)))))
        (sRet (eC (.bl false))) sNil [some (.str w), none] st = .nx [some (.str w), none] st := by
      rw [if_f (st' := st)]
      · rfl
      · have h2' := of_decide_eq_false h2
        have h2' : ¬ (12 : Int) < (w.length : Int) := by omega
        simp [sSeq, sSet, sIf, sRet, sRetN, sNil, sExpr, sPass, sBrk, sCnt, eT, tBl, eNot, eAnd, eOr, vAnd, vOr, vNot, eIf, e1, e2, e3, eA, eMt, eFld, aCons, aNil, bnd, bS, eVar, eC, lenOk, cYes, opAdd, opSub, opMul, opFdiv, opMod, opPow, opLt, opLe, opGt, opGe, opIx, opNeg, opTup, opLst, opIsN, opNotN, cLen, cInt, cAbs, cMax, cMin, cAll, cAny, cIsi, tyW, isiB, isT, mAppend, qInt, qStr, qBl, eSl, oNone, oSome, opSl, w16, h1, h2', K_LONGEST_NAME, hk, h3]
    by_cases h4 : c0 w ∈ tl letS
    · obtain ⟨ys, x, e, r⟩ := eLc_fix (src := iS (eVar 0)) (e := vOr (e2 opIn (eVar 1) (eC K_LETTERS)) (e2 opIn (eVar 1) (eC K_DIGITS))) (i := 1) (env := [some (.str w), none]) (st := st) (st0 := st) (all := signsW w)
        (fun a b => ∃ c : Nat, a = .str ⟨#[c]⟩ ∧ b = .bl (pSign c)) (by simp [iS, sSeq, sSet, sIf, sRet, sRetN, sNil, sExpr, sPass, sBrk, sCnt, eT, tBl, eNot, eAnd, eOr, vAnd, vOr, vNot, eIf, e1, e2, e3, eA, eMt, eFld, aCons, aNil, bnd, bS, eVar, eC, lenOk, cYes, opAdd, opSub, opMul, opFdiv, opMod, opPow, opLt, opLe, opGt, opGe, opIx, opNeg, opTup, opLst, opIsN, opNotN, cLen, cInt, cAbs, cMax, cMin, cAll, cAny, cIsi, tyW, isiB, isT, mAppend, qInt, qStr, qBl, eSl, oNone, oSome, opSl]) (by rw [signsW, List.length_map]; exact w16)
        (fun a ha t => by
          obtain ⟨c, hc, rfl⟩ := List.mem_map.mp ha
          refine ⟨.bl (pSign c), [], ?_, c, rfl, rfl⟩
          have e1 : ∀ s : Sto, opInB false (.str ⟨#[c]⟩) K_LETTERS s = .ok (.bl (decide (c ∈ tl letS))) s := fun s => by
            show Rs.ok (Va.bl (xor false (inS ⟨#[c]⟩ letS))) s = _
            rw [inS_one, Bool.false_xor]
          have q2 : ∀ s : Sto, opInB false (.str ⟨#[c]⟩) K_DIGITS s = .ok (.bl (decide (c ∈ tl digS))) s := fun s => by
            show Rs.ok (Va.bl (xor false (inS ⟨#[c]⟩ digS))) s = _
            rw [inS_one, Bool.false_xor]
          unfold pSign
          by_cases hh : c ∈ tl letS
          · simp [sSeq, sSet, sIf, sRet, sRetN, sNil, sExpr, sPass, sBrk, sCnt, eT, tBl, eNot, eAnd, eOr, vAnd, vOr, vNot, eIf, e1, e2, e3, eA, eMt, eFld, aCons, aNil, bnd, bS, eVar, eC, lenOk, cYes, opAdd, opSub, opMul, opFdiv, opMod, opPow, opLt, opLe, opGt, opGe, opIx, opNeg, opTup, opLst, opIsN, opNotN, cLen, cInt, cAbs, cMax, cMin, cAll, cAny, cIsi, tyW, isiB, isT, mAppend, qInt, qStr, qBl, eSl, oNone, oSome, opSl, e1, hh]
          · simp [sSeq, sSet, sIf, sRet, sRetN, sNil, sExpr, sPass, sBrk, sCnt, eT, tBl, eNot, eAnd, eOr, vAnd, vOr, vNot, eIf, e1, e2, e3, eA, eMt, eFld, aCons, aNil, bnd, bS, eVar, eC, lenOk, cYes, opAdd, opSub, opMul, opFdiv, opMod, opPow, opLt, opLe, opGt, opGe, opIx, opNeg, opTup, opLst, opIsN, opNotN, cLen, cInt, cAbs, cMax, cMin, cAll, cAny, cIsi, tyW, isiB, isT, mAppend, qInt, qStr, qBl, eSl, oNone, oSome, opSl, e1, q2, hh])
      have hys : ys = (((tl w).map pSign).map Va.bl) := by
        have : Paired (fun (c : Nat) (y : Va) => y = .bl (pSign c)) (tl w) ys := by
          clear e
          unfold signsW at r
          change Paired _ (List.map _ (tl w)) ys at r
          generalize tl w = l at r
          induction l generalizing ys with
          | nil => cases r; exact .nil
          | cons c l ih =>
            cases r with
            | cons r1 r2 =>
              obtain ⟨d, e1, q2⟩ := r1
              have : c = d := by
                have e3 := congrArg (fun v => match v with | Va.str s => s.cps.toList | _ => []) e1
                simpa using e3
              subst this
              exact .cons q2 (ih _ r2)
        rw [paired_eq this, List.map_map]
        rfl
      refine ⟨.lst ys :: x, run_rt [some (.str w), none] rfl (seq_step hif (ret_step ?_))⟩
      have hn : nameB w = (tl w).all pSign := by
        unfold nameB
        rw [h1, h2, h3, decide_eq_true h4]
        rfl
      have hb : (((tl w).map pSign).all id) = (tl w).all pSign := by simp [List.all_map]
      have hcall : eA cAll (aCons (eLc (iS (eVar 0)) (tgN 1) cYes (vOr (e2 opIn (eVar 1) (eC K_LETTERS)) (e2 opIn (eVar 1) (eC K_DIGITS))) [1]) aNil) [some (.str w), none] st = .ok (.bl ((tl w).all pSign)) (st ++ .lst ys :: x) := by
        unfold eA aCons aNil
        rw [e]
        show cAll [.ref st.length] (st ++ .lst ys :: x) = _
        unfold cAll
        dsimp only
        rw [get_mid]
        dsimp only
        rw [hys, blsW_map]
        dsimp only
        rw [hb]
      have hfirst : e2 opIn (e2 opIx (eVar 0) (eC (.int 0))) (eC K_LETTERS) [some (.str w), none] st = .ok (.bl true) st := by
        simp only [sSeq, sSet, sIf, sRet, sRetN, sNil, sExpr, sPass, sBrk, sCnt, eT, tBl, eNot, eAnd, eOr, vAnd, vOr, vNot, eIf, e1, e2, e3, eA, eMt, eFld, aCons, aNil, bnd, bS, eVar, eC, lenOk, cYes, opAdd, opSub, opMul, opFdiv, opMod, opPow, opLt, opLe, opGt, opGe, opIx, opNeg, opTup, opLst, opIsN, opNotN, cLen, cInt, cAbs, cMax, cMin, cAll, cAny, cIsi, tyW, isiB, isT, mAppend, qInt, qStr, qBl, eSl, oNone, oSome, opSl, List.getElem?_cons_zero, w16, if_true, at0 hne]
        exact (hlc st).trans (by rw [decide_eq_true h4])
      unfold vAnd
      rw [hfirst, hn]
      exact hcall
    · refine ⟨[], run_rt [some (.str w), none] rfl (seq_step hif (ret_step ?_))⟩
      have hn : nameB w = false := by
        unfold nameB
        rw [decide_eq_false h4]
        simp
      have hfirst : e2 opIn (e2 opIx (eVar 0) (eC (.int 0))) (eC K_LETTERS) [some (.str w), none] st = .ok (.bl false) st := by
        simp only [sSeq, sSet, sIf, sRet, sRetN, sNil, sExpr, sPass, sBrk, sCnt, eT, tBl, eNot, eAnd, eOr, vAnd, vOr, vNot, eIf, e1, e2, e3, eA, eMt, eFld, aCons, aNil, bnd, bS, eVar, eC, lenOk, cYes, opAdd, opSub, opMul, opFdiv, opMod, opPow, opLt, opLe, opGt, opGe, opIx, opNeg, opTup, opLst, opIsN, opNotN, cLen, cInt, cAbs, cMax, cMin, cAll, cAny, cIsi, tyW, isiB, isT, mAppend, qInt, qStr, qBl, eSl, oNone, oSome, opSl, List.getElem?_cons_zero, w16, if_true, at0 hne]
        exact (hlc st).trans (by rw [decide_eq_false h4])
      unfold vAnd
      rw [hfirst, hn, List.append_nil]
      rfl

theorem signs_all (w : Str) (p : Nat → Bool) (q : Va → Bool) (h : ∀ c, q (.str ⟨#[c]⟩) = p c) : (signsW w).all q = (tl w).all p := by
  unfold signsW tl
  rw [List.all_map]
  congr 1
  funext c
  exact h c
def vSign (p : Nat → Bool) : Va → Bool := fun v => match v with
  | .str s => s.cps.toList.all p
  | _ => true
theorem f_lname (w : Str) (hw : w.length ≤ 100) (hok : okT (tl w)) (st : Sto) : ∃ x, f_law_name [.str w] st = .ok (.bl (nameB w)) (st ++ x) := by
  have w16 : w.length ≤ 16777216 := by omega
  refine ⟨[.lst (keysL.take 14), .lst (keysL.drop 14), .lst keysL], ?_⟩
  have hmem : (st ++ [Ob.lst (keysL.take 14), .lst (keysL.drop 14), .lst keysL])[st.length + 2]? = some (.lst keysL) := by rw [get_off]; rfl
  have k2 : ∀ (x : Option Va), (sSet 1 (e2 opAdd (eVar 1) (eA opLst (aCons (eC (.str ("call" : Str))) (aCons (eC (.str ("if" : Str))) (aCons (eC (.str ("else" : Str))) (aCons (eC (.str ("given" : Str))) (aCons (eC (.str ("have" : Str))) (aCons (eC (.str ("out" : Str))) (aCons (eC (.str ("mod" : Str))) aNil)))))))))) [some (.str w), some (.ref st.length), x] (st ++ [.lst (keysL.take 14)]) = .nx [some (.str w), some (.ref (st.length + 2)), x] (st ++ [.lst (keysL.take 14), .lst (keysL.drop 14), .lst keysL]) := by
    intros
    simp [sSeq, sSet, sIf, sRet, sRetN, sNil, sExpr, sPass, sBrk, sCnt, eT, tBl, eNot, eAnd, eOr, vAnd, vOr, vNot, eIf, e1, e2, e3, eA, eMt, eFld, aCons, aNil, bnd, bS, eVar, eC, lenOk, cYes, opAdd, opSub, opMul, opFdiv, opMod, opPow, opLt, opLe, opGt, opGe, opIx, opNeg, opTup, opLst, opIsN, opNotN, cLen, cInt, cAbs, cMax, cMin, cAll, cAny, cIsi, tyW, isiB, isT, mAppend, qInt, qStr, qBl, eSl, oNone, oSome, opSl, get_off, get_off0, keysL]
  refine run_rt [some (.str w), none, none] rfl (seq_step (st' := st ++ [.lst (keysL.take 14)]) (env' := [some (.str w), some (.ref st.length), none]) rfl (seq_step (k2 none) ?_))
  generalize st ++ [Ob.lst (keysL.take 14), .lst (keysL.drop 14), .lst keysL] = st1 at hmem
  generalize st.length + 2 = n at hmem
  have hk : opInB false (.str w) (.ref n) st1 = .ok (.bl (keyS.any (· == w))) st1 := by
    have := in_lst false w keyS n st1 hmem (strOk_of hok) strOk_keys
    rw [Bool.false_xor] at this
    exact this
  by_cases h1 : (w == ("" : Str)) = true
  · have hn : nameB w = false := by unfold nameB; rw [h1]; rfl
    rw [hn]
    refine seq_ret ?_
    rw [if_t (st' := st1) (by simp [sSeq, sSet, sIf, sRet, sRetN, sNil, sExpr, sPass, sBrk, sCnt, eT, tBl, eNot, eAnd, eOr, vAnd, vOr, vNot, eIf, e1, e2, e3, eA, eMt, eFld, aCons, aNil, bnd, bS, eVar, eC, lenOk, cYes, opAdd, opSub, opMul, opFdiv, opMod, opPow, opLt, opLe, opGt, opGe, opIx, opNeg, opTup, opLst, opIsN, opNotN, cLen, cInt, cAbs, cMax, cMin, cAll, cAny, cIsi, tyW, isiB, isT, mAppend, qInt, qStr, qBl, eSl, oNone, oSome, opSl, h1])]
    rfl
  have h1' : (w == ("" : Str)) = false := by simpa using h1
  have hne : tl w ≠ [] := fun e => h1 (tl_nil_iff.mpr e)
  by_cases h2 : 12 < w.length
  · have hn : nameB w = false := by unfold nameB; rw [decide_eq_true h2]; simp
    have h2' : (12 : Int) < (w.length : Int) := by omega
    rw [hn]
    refine seq_ret ?_
    rw [if_t (st' := st1) (by simp [sSeq, sSet, sIf, sRet, sRetN, sNil, sExpr, sPass, sBrk, sCnt, eT, tBl, eNot, eAnd, eOr, vAnd, vOr, vNot, eIf, e1, e2, e3, eA, eMt, eFld, aCons, aNil, bnd, bS, eVar, eC, lenOk, cYes, opAdd, opSub, opMul, opFdiv, opMod, opPow, opLt, opLe, opGt, opGe, opIx, opNeg, opTup, opLst, opIsN, opNotN, cLen, cInt, cAbs, cMax, cMin, cAll, cAny, cIsi, tyW, isiB, isT, mAppend, qInt, qStr, qBl, eSl, oNone, oSome, opSl, w16, h1', h2'])]
    rfl
  have h2' : ¬ (12 : Int) < (w.length : Int) := by omega
  by_cases h3 : keyS.any (· == w) = true
  · have hn : nameB w = false := by unfold nameB; rw [h3]; simp
    rw [hn]
    refine seq_ret ?_
    rw [h3] at hk
    rw [if_t (st' := st1) (by simp [sSeq, sSet, sIf, sRet, sRetN, sNil, sExpr, sPass, sBrk, sCnt, eT, tBl, eNot, eAnd, eOr, vAnd, vOr, vNot, eIf, e1, e2, e3, eA, eMt, eFld, aCons, aNil, bnd, bS, eVar, eC, lenOk, cYes, opAdd, opSub, opMul, opFdiv, opMod, opPow, opLt, opLe, opGt, opGe, opIx, opNeg, opTup, opLst, opIsN, opNotN, cLen, cInt, cAbs, cMax, cMin, cAll, cAny, cIsi, tyW, isiB, isT, mAppend, qInt, qStr, qBl, eSl, oNone, oSome, opSl, w16, h1', h2', hk])]
    rfl
  have h3' : keyS.any (· == w) = false := by rw [Bool.not_eq_true] at h3; exact h3
  rw [h3'] at hk
  have hlc : ∀ st : Sto, opInB true (.str ⟨#[c0 w]⟩) (.str letS) st = .ok (.bl (!decide (c0 w ∈ tl letS))) st := fun st => by
    show Rs.ok (Va.bl (xor true (inS ⟨#[c0 w]⟩ letS))) st = _
    rw [inS_one, Bool.true_xor]
  have hlc' : opInB true (.str ⟨#[c0 w]⟩) (.str (Str.ofString "abcdefghijklmnopqrstuvwxyz")) st1 = .ok (.bl (!decide (c0 w ∈ tl letS))) st1 := hlc st1
  by_cases h4 : c0 w ∈ tl letS
  · rw [decide_eq_true h4] at hlc'
    refine seq_step (st' := st1) (env' := [some (.str w), some (.ref n), none]) ?_ ?_
    · rw [if_f (st' := st1) (by simp [sSeq, sSet, sIf, sRet, sRetN, sNil, sExpr, sPass, sBrk, sCnt, eT, tBl, eNot, eAnd, eOr, vAnd, vOr, vNot, eIf, e1, e2, e3, eA, eMt, eFld, aCons, aNil, bnd, bS, eVar, eC, lenOk, cYes, opAdd, opSub, opMul, opFdiv, opMod, opPow, opLt, opLe, opGt, opGe, opIx, opNeg, opTup, opLst, opIsN, opNotN, cLen, cInt, cAbs, cMax, cMin, cAll, cAny, cIsi, tyW, isiB, isT, mAppend, qInt, qStr, qBl, eSl, oNone, oSome, opSl, w16, h1', h2', hk, at0 hne, hlc'])]
      rfl
    have hs : ∀ c st, opInB true (.str ⟨#[c]⟩) (.str (Str.ofString "abcdefghijklmnopqrstuvwxyz0123456789")) st = .ok (.bl (!pSign c)) st := fun c st => by
      show Rs.ok (Va.bl (xor true (inS ⟨#[c]⟩ bothS))) st = _
      rw [inS_one, Bool.true_xor, pSign_both]
    obtain ⟨s1, s2⟩ := forF_scan (i := 2) (body := (sIf (eT (e2 opNotIn (eVar 2) (eC (.str ("abcdefghijklmnopqrstuvwxyz0123456789" : Str))))) (sRet (eC (.bl false))) sNil)) (env := [some (.str w), some (.ref n), none]) (st := st1) (v := .bl false) (vSign pSign) (ws := signsW w)
      (fun a ha hp => by
        obtain ⟨c, hc, rfl⟩ := List.mem_map.mp ha
        have hp' : pSign c = true := by simpa [vSign] using hp
        have := hs c st1
        rw [hp'] at this
        show (sIf _ _ _ [some (.str w), some (.ref n), some (.str ⟨#[c]⟩)] st1) = _
        rw [if_f (st' := st1) (by simp [sSeq, sSet, sIf, sRet, sRetN, sNil, sExpr, sPass, sBrk, sCnt, eT, tBl, eNot, eAnd, eOr, vAnd, vOr, vNot, eIf, e1, e2, e3, eA, eMt, eFld, aCons, aNil, bnd, bS, eVar, eC, lenOk, cYes, opAdd, opSub, opMul, opFdiv, opMod, opPow, opLt, opLe, opGt, opGe, opIx, opNeg, opTup, opLst, opIsN, opNotN, cLen, cInt, cAbs, cMax, cMin, cAll, cAny, cIsi, tyW, isiB, isT, mAppend, qInt, qStr, qBl, eSl, oNone, oSome, opSl, this])]
        rfl)
      (fun a ha hp => by
        obtain ⟨c, hc, rfl⟩ := List.mem_map.mp ha
        have hp' : pSign c = false := by simpa [vSign] using hp
        have := hs c st1
        rw [hp'] at this
        show (sIf _ _ _ [some (.str w), some (.ref n), some (.str ⟨#[c]⟩)] st1) = _
        rw [if_t (st' := st1) (by simp [sSeq, sSet, sIf, sRet, sRetN, sNil, sExpr, sPass, sBrk, sCnt, eT, tBl, eNot, eAnd, eOr, vAnd, vOr, vNot, eIf, e1, e2, e3, eA, eMt, eFld, aCons, aNil, bnd, bS, eVar, eC, lenOk, cYes, opAdd, opSub, opMul, opFdiv, opMod, opPow, opLt, opLe, opGt, opGe, opIx, opNeg, opTup, opLst, opIsN, opNotN, cLen, cInt, cAbs, cMax, cMin, cAll, cAny, cIsi, tyW, isiB, isT, mAppend, qInt, qStr, qBl, eSl, oNone, oSome, opSl, this])]
        rfl) none
    have hn : nameB w = (tl w).all pSign := by
      unfold nameB
      rw [h1', h3', decide_eq_true h4, decide_eq_false h2]
      rfl
    have hall : (signsW w).all (vSign pSign) = (tl w).all pSign := signs_all w pSign _ fun c => by simp [vSign]
    rw [hall] at s1 s2
    rw [hn]
    cases hp : (tl w).all pSign with
    | true =>
      obtain ⟨z, e⟩ := s1 hp
      exact seq_step (m := sFor _ _ _) (by unfold sFor iS; exact e) rfl
    | false => exact seq_ret (m := sFor _ _ _) (by unfold sFor iS; exact s2 hp)
  · rw [decide_eq_false h4] at hlc'
    have hn : nameB w = false := by unfold nameB; rw [decide_eq_false h4]; simp
    rw [hn]
    refine seq_ret ?_
    rw [if_t (st' := st1) (by simp [sSeq, sSet, sIf, sRet, sRetN, sNil, sExpr, sPass, sBrk, sCnt, eT, tBl, eNot, eAnd, eOr, vAnd, vOr, vNot, eIf, e1, e2, e3, eA, eMt, eFld, aCons, aNil, bnd, bS, eVar, eC, lenOk, cYes, opAdd, opSub, opMul, opFdiv, opMod, opPow, opLt, opLe, opGt, opGe, opIx, opNeg, opTup, opLst, opIsN, opNotN, cLen, cInt, cAbs, cMax, cMin, cAll, cAny, cIsi, tyW, isiB, isT, mAppend, qInt, qStr, qBl, eSl, oNone, oSome, opSl, w16, h1', h2', hk, at0 hne, hlc'])]
    rfl

/-! ### numbers -/
theorem all_signs (w : Str) (p : Nat → Bool) (m : En → Mo Va) (k : Nat) (pre post : En) (hk : pre.length = k) (hw : w.length ≤ 16777216) (src : En → Mo Src) (st : Sto) (z : Option Va) (hs : src (pre ++ z :: post) st = .ok (.fix (signsW w)) st)
    (h : ∀ c (s : Sto), m (pre ++ some (.str ⟨#[c]⟩) :: post) s = .ok (.bl (p c)) s) : ∃ x, eA cAll (aCons (eLc src (tgN k) cYes m [k]) aNil) (pre ++ z :: post) st = .ok (.bl ((tl w).all p)) (st ++ x) := by
  have hset : ∀ a b : Option Va, (pre ++ a :: post).set k b = pre ++ b :: post := fun a b => by rw [← hk]; exact set_mid _ _ _ _
  obtain ⟨ys, x, e, r⟩ := eLc_fix (e := m) (i := k) (fun a b => ∃ c : Nat, a = .str ⟨#[c]⟩ ∧ b = .bl (p c)) hs (by rw [signsW, List.length_map]; exact hw)
    (fun a ha t => by
      obtain ⟨c, hc, rfl⟩ := List.mem_map.mp ha
      refine ⟨.bl (p c), [], ?_, c, rfl, rfl⟩
      rw [hset, hset, h, List.append_nil])
  have hys : ys = (((tl w).map p).map Va.bl) := by
    have : Paired (fun (c : Nat) (y : Va) => y = .bl (p c)) (tl w) ys := by
      clear e
      unfold signsW at r
      change Paired _ (List.map _ (tl w)) ys at r
      generalize tl w = l at r
      induction l generalizing ys with
      | nil => cases r; exact .nil
      | cons c l ih =>
        cases r with
        | cons r1 r2 =>
          obtain ⟨d, e1, q2⟩ := r1
          have : c = d := by
            have e3 := congrArg (fun v => match v with | Va.str s => s.cps.toList | _ => []) e1
            simpa using e3
          subst this
          exact .cons q2 (ih _ r2)
    rw [paired_eq this, List.map_map]
    rfl
  have hb : (((tl w).map p).all id) = (tl w).all p := by simp [List.all_map]
  refine ⟨.lst ys :: x, ?_⟩
  unfold eA aCons aNil
  rw [e]
  show cAll [.ref st.length] (st ++ .lst ys :: x) = _
  unfold cAll
  dsimp only
  rw [get_mid]
  dsimp only
  rw [hys, blsW_map]
  dsimp only
  rw [hb]
def pDig (c : Nat) : Bool := decide (c ∈ tl digS)
def lead (w : Str) : Bool := (⟨#[c0 w]⟩ : Str) == ("0" : Str)
def val (w : Str) : Int := ((NumText.digitsVal (tl w) : Nat) : Int)
def numB (w : Str) : Option Int :=
  if (w == ("" : Str)) = true then none else if 5 < w.length then none else if (tl w).all pDig = false then none else if lead w = true ∧ (w == ("0" : Str)) = false then none else if val w ≤ 65535 then some (val w) else none
def vOf : Option Int → Va
  | some n => .int n
  | none => .non
theorem int_ok {w : Str} (h : (tl w).all pDig = true) (hne : tl w ≠ []) (hl : w.length ≤ 5) (st : Sto) : cInt [.str w] st = .ok (.int (val w)) st := by
  have hd : ∀ c ∈ tl digS, 48 ≤ c ∧ c ≤ 57 := by decide +kernel
  have e : intText? w = some (val w) := intText_digits (fun c hc => hd c (of_decide_eq_true (List.all_eq_true.mp h c hc))) hne (by omega)
  unfold cInt
  dsimp only
  rw [e]
  exact if_pos (by omega)
theorem in_dig (c : Nat) (st : Sto) : opInB false (.str ⟨#[c]⟩) K_DIGITS st = .ok (.bl (pDig c)) st := by
  show Rs.ok (Va.bl (xor false (inS ⟨#[c]⟩ digS))) st = _
  rw [inS_one, Bool.false_xor]
  rfl
def digB (w : Str) : Option Int :=
  if (w == ("" : Str)) = true then none else if 5 < w.length then none else if (tl w).all pDig = false then none else if lead w = true ∧ (w == ("0" : Str)) = false then none else some (val w)
theorem numB_eq (w : Str) : numB w = match digB w with
    | some n => if n ≤ 65535 then some n else none
    | none => none := by
  unfold numB digB
  repeat' split
  all_goals first | rfl | contradiction | (simp_all; done) | (simp_all; omega)
theorem f_digits (w : Str) (hw : w.length ≤ 100) (st : Sto) : ∃ x, f_digits_value [.str w, .int 5] st = .ok (vOf (digB w)) (st ++ x) := by
  have w16 : w.length ≤ 16777216 := by omega
  unfold digB
  by_cases h1 : (w == ("" : Str)) = true
  · refine ⟨[], run_rt [some (.str w), some (.int 5), none] rfl (seq_ret ?_)⟩
    rw [if_t (st' := st) (by simp [sSeq, sSet, sIf, sRet, sRetN, sNil, sExpr, sPass, sBrk, sCnt, eT, tBl, eNot, eAnd, eOr, vAnd, vOr, vNot, eIf, e1, e2, e3, eA, eMt, eFld, aCons, aNil, bnd, bS, eVar, eC, lenOk, cYes, opAdd, opSub, opMul, opFdiv, opMod, opPow, opLt, opLe, opGt, opGe, opIx, opNeg, opTup, opLst, opIsN, opNotN, cLen, cInt, cAbs, cMax, cMin, cAll, cAny, cIsi, tyW, isiB, isT, mAppend, qInt, qStr, qBl, eSl, oNone, oSome, opSl, h1]), if_pos h1, List.append_nil]
    rfl
  have h1' : (w == ("" : Str)) = false := by simpa using h1
  have hne : tl w ≠ [] := fun e => h1 (tl_nil_iff.mpr e)
  rw [if_neg h1]
  by_cases h2 : 5 < w.length
  · have h2' : (5 : Int) < (w.length : Int) := by omega
    refine ⟨[], run_rt [some (.str w), some (.int 5), none] rfl (seq_ret ?_)⟩
    rw [if_t (st' := st) (by simp [sSeq, sSet, sIf, sRet, sRetN, sNil, sExpr, sPass, sBrk, sCnt, eT, tBl, eNot, eAnd, eOr, vAnd, vOr, vNot, eIf, e1, e2, e3, eA, eMt, eFld, aCons, aNil, bnd, bS, eVar, eC, lenOk, cYes, opAdd, opSub, opMul, opFdiv, opMod, opPow, opLt, opLe, opGt, opGe, opIx, opNeg, opTup, opLst, opIsN, opNotN, cLen, cInt, cAbs, cMax, cMin, cAll, cAny, cIsi, tyW, isiB, isT, mAppend, qInt, qStr, qBl, eSl, oNone, oSome, opSl, w16, h1', h2']), if_pos h2, List.append_nil]
    rfl
  have h2' : ¬ (5 : Int) < (w.length : Int) := by omega
  rw [if_neg h2]
  have s1 : sIf (eOr (eT (e2 opEq (eVar 0) (eC (.str ("" : Str))))) (eT (e2 opGt (eA cLen (aCons (eVar 0) aNil)) (eVar 1)))) (sRet (eC .non)) sNil [some (.str w), some (.int 5), none] st = .nx [some (.str w), some (.int 5), none] st := by
    rw [if_f (st' := st) (by simp [sSeq, sSet, sIf, sRet, sRetN, sNil, sExpr, sPass, sBrk, sCnt, eT, tBl, eNot, eAnd, eOr, vAnd, vOr, vNot, eIf, e1, e2, e3, eA, eMt, eFld, aCons, aNil, bnd, bS, eVar, eC, lenOk, cYes, opAdd, opSub, opMul, opFdiv, opMod, opPow, opLt, opLe, opGt, opGe, opIx, opNeg, opTup, opLst, opIsN, opNotN, cLen, cInt, cAbs, cMax, cMin, cAll, cAny, cIsi, tyW, isiB, isT, mAppend, qInt, qStr, qBl, eSl, oNone, oSome, opSl, w16, h1', h2'])]
    rfl
  obtain ⟨x, ea⟩ := all_signs w pDig (e2 opIn (eVar 2) (eC K_DIGITS)) 2 [some (.str w), some (.int 5)] [] rfl w16 (iS (eVar 0)) st none rfl (fun c s => by
    have := in_dig c s
    simp [sSeq, sSet, sIf, sRet, sRetN, sNil, sExpr, sPass, sBrk, sCnt, eT, tBl, eNot, eAnd, eOr, vAnd, vOr, vNot, eIf, e1, e2, e3, eA, eMt, eFld, aCons, aNil, bnd, bS, eVar, eC, lenOk, cYes, opAdd, opSub, opMul, opFdiv, opMod, opPow, opLt, opLe, opGt, opGe, opIx, opNeg, opTup, opLst, opIsN, opNotN, cLen, cInt, cAbs, cMax, cMin, cAll, cAny, cIsi, tyW, isiB, isT, mAppend, qInt, qStr, qBl, eSl, oNone, oSome, opSl, this])
  have ea' : eA cAll (aCons (eLc (iS (eVar 0)) (tgN 2) cYes (e2 opIn (eVar 2) (eC K_DIGITS)) [2]) aNil) [some (.str w), some (.int 5), none] st = .ok (.bl ((tl w).all pDig)) (st ++ x) := ea
  refine ⟨x, run_rt [some (.str w), some (.int 5), none] rfl (seq_step s1 ?_)⟩
  cases h3 : (tl w).all pDig with
  | false =>
    rw [h3] at ea'
    refine seq_ret ?_
    rw [if_t (st' := st ++ x) (by unfold eNot eT; rw [ea']; rfl), if_pos rfl]
    rfl
  | true =>
    rw [h3] at ea'
    rw [if_neg (by decide)]
    refine seq_step (st' := st ++ x) (env' := [some (.str w), some (.int 5), none]) (by rw [if_f (st' := st ++ x) (by unfold eNot eT; rw [ea']; rfl)]; rfl) ?_
    generalize st ++ x = st1
    have hl0 : opEqB false (.str ⟨#[c0 w]⟩) (.str ("0" : Str)) st1 = .ok (.bl (lead w)) st1 := by rw [qStr, Bool.false_xor]; rfl
    by_cases h4 : lead w = true ∧ (w == ("0" : Str)) = false
    · rw [if_pos h4]
      rw [h4.1] at hl0
      refine seq_ret ?_
      rw [if_t (st' := st1) (by simp [sSeq, sSet, sIf, sRet, sRetN, sNil, sExpr, sPass, sBrk, sCnt, eT, tBl, eNot, eAnd, eOr, vAnd, vOr, vNot, eIf, e1, e2, e3, eA, eMt, eFld, aCons, aNil, bnd, bS, eVar, eC, lenOk, cYes, opAdd, opSub, opMul, opFdiv, opMod, opPow, opLt, opLe, opGt, opGe, opIx, opNeg, opTup, opLst, opIsN, opNotN, cLen, cInt, cAbs, cMax, cMin, cAll, cAny, cIsi, tyW, isiB, isT, mAppend, qInt, qStr, qBl, eSl, oNone, oSome, opSl, w16, at0 hne, hl0, h4.2])]
      rfl
    · rw [if_neg h4]
      refine seq_step (st' := st1) (env' := [some (.str w), some (.int 5), none]) ?_ ?_
      · cases h5 : lead w with
        | false =>
          rw [h5] at hl0
          rw [if_f (st' := st1) (by simp [sSeq, sSet, sIf, sRet, sRetN, sNil, sExpr, sPass, sBrk, sCnt, eT, tBl, eNot, eAnd, eOr, vAnd, vOr, vNot, eIf, e1, e2, e3, eA, eMt, eFld, aCons, aNil, bnd, bS, eVar, eC, lenOk, cYes, opAdd, opSub, opMul, opFdiv, opMod, opPow, opLt, opLe, opGt, opGe, opIx, opNeg, opTup, opLst, opIsN, opNotN, cLen, cInt, cAbs, cMax, cMin, cAll, cAny, cIsi, tyW, isiB, isT, mAppend, qInt, qStr, qBl, eSl, oNone, oSome, opSl, w16, at0 hne, hl0])]
          rfl
        | true =>
          rw [h5] at hl0
          have h6 : (w == ("0" : Str)) = true := by
            cases h7 : (w == ("0" : Str)) with
            | true => rfl
            | false => exact (h4 ⟨h5, h7⟩).elim
          rw [if_f (st' := st1) (by simp [sSeq, sSet, sIf, sRet, sRetN, sNil, sExpr, sPass, sBrk, sCnt, eT, tBl, eNot, eAnd, eOr, vAnd, vOr, vNot, eIf, e1, e2, e3, eA, eMt, eFld, aCons, aNil, bnd, bS, eVar, eC, lenOk, cYes, opAdd, opSub, opMul, opFdiv, opMod, opPow, opLt, opLe, opGt, opGe, opIx, opNeg, opTup, opLst, opIsN, opNotN, cLen, cInt, cAbs, cMax, cMin, cAll, cAny, cIsi, tyW, isiB, isT, mAppend, qInt, qStr, qBl, eSl, oNone, oSome, opSl, w16, at0 hne, hl0, h6])]
          rfl
      · have hi := int_ok h3 hne (by omega) st1
        exact ret_step (by unfold eA aCons aNil; exact hi)
theorem f_number (w : Str) (hw : w.length ≤ 100) (st : Sto) : ∃ x, f_number_of [.str w] st = .ok (vOf (numB w)) (st ++ x) := by
  obtain ⟨x, e⟩ := f_digits w hw st
  rw [numB_eq]
  refine ⟨x, run_rt [some (.str w), none] rfl (seq_step (set_step (w := vOf (digB w)) (st' := st ++ x) (by simp [sSeq, sSet, sIf, sRet, sRetN, sNil, sExpr, sPass, sBrk, sCnt, eT, tBl, eNot, eAnd, eOr, vAnd, vOr, vNot, eIf, e1, e2, e3, eA, eMt, eFld, aCons, aNil, bnd, bS, eVar, eC, lenOk, cYes, opAdd, opSub, opMul, opFdiv, opMod, opPow, opLt, opLe, opGt, opGe, opIx, opNeg, opTup, opLst, opIsN, opNotN, cLen, cInt, cAbs, cMax, cMin, cAll, cAny, cIsi, tyW, isiB, isT, mAppend, qInt, qStr, qBl, eSl, oNone, oSome, opSl, K_LONGEST_NUMBER, e])) (ret_step ?_))⟩
  cases digB w with
  | none => simp [sSeq, sSet, sIf, sRet, sRetN, sNil, sExpr, sPass, sBrk, sCnt, eT, tBl, eNot, eAnd, eOr, vAnd, vOr, vNot, eIf, e1, e2, e3, eA, eMt, eFld, aCons, aNil, bnd, bS, eVar, eC, lenOk, cYes, opAdd, opSub, opMul, opFdiv, opMod, opPow, opLt, opLe, opGt, opGe, opIx, opNeg, opTup, opLst, opIsN, opNotN, cLen, cInt, cAbs, cMax, cMin, cAll, cAny, cIsi, tyW, isiB, isT, mAppend, qInt, qStr, qBl, eSl, oNone, oSome, opSl, vOf]
  | some n =>
    by_cases h8 : n ≤ 65535
    · simp [sSeq, sSet, sIf, sRet, sRetN, sNil, sExpr, sPass, sBrk, sCnt, eT, tBl, eNot, eAnd, eOr, vAnd, vOr, vNot, eIf, e1, e2, e3, eA, eMt, eFld, aCons, aNil, bnd, bS, eVar, eC, lenOk, cYes, opAdd, opSub, opMul, opFdiv, opMod, opPow, opLt, opLe, opGt, opGe, opIx, opNeg, opTup, opLst, opIsN, opNotN, cLen, cInt, cAbs, cMax, cMin, cAll, cAny, cIsi, tyW, isiB, isT, mAppend, qInt, qStr, qBl, eSl, oNone, oSome, opSl, K_LARGEST, h8, vOf]
    · simp [sSeq, sSet, sIf, sRet, sRetN, sNil, sExpr, sPass, sBrk, sCnt, eT, tBl, eNot, eAnd, eOr, vAnd, vOr, vNot, eIf, e1, e2, e3, eA, eMt, eFld, aCons, aNil, bnd, bS, eVar, eC, lenOk, cYes, opAdd, opSub, opMul, opFdiv, opMod, opPow, opLt, opLe, opGt, opGe, opIx, opNeg, opTup, opLst, opIsN, opNotN, cLen, cInt, cAbs, cMax, cMin, cAll, cAny, cIsi, tyW, isiB, isT, mAppend, qInt, qStr, qBl, eSl, oNone, oSome, opSl, K_LARGEST, h8, vOf]
theorem f_lnumber (w : Str) (hw : w.length ≤ 100) (st : Sto) : f_law_number [.str w] st = .ok (vOf (numB w)) st := by
  have w16 : w.length ≤ 16777216 := by omega
  unfold numB
  by_cases h1 : (w == ("" : Str)) = true
  · refine run_rt [some (.str w), none] rfl (seq_ret ?_)
    rw [if_t (st' := st) (by simp [sSeq, sSet, sIf, sRet, sRetN, sNil, sExpr, sPass, sBrk, sCnt, eT, tBl, eNot, eAnd, eOr, vAnd, vOr, vNot, eIf, e1, e2, e3, eA, eMt, eFld, aCons, aNil, bnd, bS, eVar, eC, lenOk, cYes, opAdd, opSub, opMul, opFdiv, opMod, opPow, opLt, opLe, opGt, opGe, opIx, opNeg, opTup, opLst, opIsN, opNotN, cLen, cInt, cAbs, cMax, cMin, cAll, cAny, cIsi, tyW, isiB, isT, mAppend, qInt, qStr, qBl, eSl, oNone, oSome, opSl, h1]), if_pos h1]
    rfl
  have h1' : (w == ("" : Str)) = false := by simpa using h1
  have hne : tl w ≠ [] := fun e => h1 (tl_nil_iff.mpr e)
  rw [if_neg h1]
  by_cases h2 : 5 < w.length
  · have h2' : (5 : Int) < (w.length : Int) := by omega
    refine run_rt [some (.str w), none] rfl (seq_ret ?_)
    rw [if_t (st' := st) (by simp [sSeq, sSet, sIf, sRet, sRetN, sNil, sExpr, sPass, sBrk, sCnt, eT, tBl, eNot, eAnd, eOr, vAnd, vOr, vNot, eIf, e1, e2, e3, eA, eMt, eFld, aCons, aNil, bnd, bS, eVar, eC, lenOk, cYes, opAdd, opSub, opMul, opFdiv, opMod, opPow, opLt, opLe, opGt, opGe, opIx, opNeg, opTup, opLst, opIsN, opNotN, cLen, cInt, cAbs, cMax, cMin, cAll, cAny, cIsi, tyW, isiB, isT, mAppend, qInt, qStr, qBl, eSl, oNone, oSome, opSl, w16, h1', h2']), if_pos h2]
    rfl
  have h2' : ¬ (5 : Int) < (w.length : Int) := by omega
  rw [if_neg h2]
  refine run_rt [some (.str w), none] rfl (seq_step (st' := st) (env' := [some (.str w), none]) (by
    rw [if_f (st' := st) (by simp [sSeq, sSet, sIf, sRet, sRetN, sNil, sExpr, sPass, sBrk, sCnt, eT, tBl, eNot, eAnd, eOr, vAnd, vOr, vNot, eIf, e1, e2, e3, eA, eMt, eFld, aCons, aNil, bnd, bS, eVar, eC, lenOk, cYes, opAdd, opSub, opMul, opFdiv, opMod, opPow, opLt, opLe, opGt, opGe, opIx, opNeg, opTup, opLst, opIsN, opNotN, cLen, cInt, cAbs, cMax, cMin, cAll, cAny, cIsi, tyW, isiB, isT, mAppend, qInt, qStr, qBl, eSl, oNone, oSome, opSl, w16, h1', h2'])]
    rfl) ?_)
  have hs : ∀ c st, opInB true (.str ⟨#[c]⟩) (.str (Str.ofString "0123456789")) st = .ok (.bl (!pDig c)) st := fun c st => by
    show Rs.ok (Va.bl (xor true (inS ⟨#[c]⟩ digS))) st = _
    rw [inS_one, Bool.true_xor]
    rfl
  obtain ⟨s1, s2⟩ := forF_scan (i := 1) (body := (sIf (eT (e2 opNotIn (eVar 1) (eC (.str ("0123456789" : Str))))) (sRet (eC .non)) sNil)) (env := [some (.str w), none]) (st := st) (v := .non) (vSign pDig) (ws := signsW w)
    (fun a ha hp => by
      obtain ⟨c, hc, rfl⟩ := List.mem_map.mp ha
      have hp' : pDig c = true := by simpa [vSign] using hp
      have := hs c st
      rw [hp'] at this
      show (sIf _ _ _ [some (.str w), some (.str ⟨#[c]⟩)] st) = _
      rw [if_f (st' := st) (by simp [sSeq, sSet, sIf, sRet, sRetN, sNil, sExpr, sPass, sBrk, sCnt, eT, tBl, eNot, eAnd, eOr, vAnd, vOr, vNot, eIf, e1, e2, e3, eA, eMt, eFld, aCons, aNil, bnd, bS, eVar, eC, lenOk, cYes, opAdd, opSub, opMul, opFdiv, opMod, opPow, opLt, opLe, opGt, opGe, opIx, opNeg, opTup, opLst, opIsN, opNotN, cLen, cInt, cAbs, cMax, cMin, cAll, cAny, cIsi, tyW, isiB, isT, mAppend, qInt, qStr, qBl, eSl, oNone, oSome, opSl, this])]
      rfl)
    (fun a ha hp => by
      obtain ⟨c, hc, rfl⟩ := List.mem_map.mp ha
      have hp' : pDig c = false := by simpa [vSign] using hp
      have := hs c st
      rw [hp'] at this
      show (sIf _ _ _ [some (.str w), some (.str ⟨#[c]⟩)] st) = _
      rw [if_t (st' := st) (by simp [sSeq, sSet, sIf, sRet, sRetN, sNil, sExpr, sPass, sBrk, sCnt, eT, tBl, eNot, eAnd, eOr, vAnd, vOr, vNot, eIf, e1, e2, e3, eA, eMt, eFld, aCons, aNil, bnd, bS, eVar, eC, lenOk, cYes, opAdd, opSub, opMul, opFdiv, opMod, opPow, opLt, opLe, opGt, opGe, opIx, opNeg, opTup, opLst, opIsN, opNotN, cLen, cInt, cAbs, cMax, cMin, cAll, cAny, cIsi, tyW, isiB, isT, mAppend, qInt, qStr, qBl, eSl, oNone, oSome, opSl, this])]
      rfl) none
  have hall : (signsW w).all (vSign pDig) = (tl w).all pDig := signs_all w pDig _ fun c => by simp [vSign]
  rw [hall] at s1 s2
  cases h3 : (tl w).all pDig with
  | false =>
    rw [if_pos rfl]
    exact seq_ret (m := sFor _ _ _) (by unfold sFor iS; exact s2 h3)
  | true =>
    rw [if_neg (by decide)]
    obtain ⟨z, e⟩ := s1 h3
    refine seq_step (m := sFor _ _ _) (env' := [some (.str w), z]) (st' := st) (by unfold sFor iS; exact e) ?_
    have hi := int_ok h3 hne (by omega) st
    have hl0 : opEqB false (.str ⟨#[c0 w]⟩) (.str ("0" : Str)) st = .ok (.bl (lead w)) st := by rw [qStr, Bool.false_xor]; rfl
    have hir : eA cInt (aCons (eVar 0) aNil) [some (.str w), z] st = .ok (.int (val w)) st := hi
    by_cases h4 : lead w = true ∧ (w == ("0" : Str)) = false
    · rw [if_pos h4]
      rw [h4.1] at hl0
      refine seq_ret ?_
      rw [if_t (st' := st) (by simp [sIf, sRet, sNil, eT, tBl, eOr, eAnd, e2, bnd, eVar, eC, opIx, qStr, w16, at0 hne, hl0, h4.2])]
      rfl
    · rw [if_neg h4]
      have hf : (eAnd (eT (e2 opNe (eVar 0) (eC (.str ("0" : Str))))) (eT (e2 opEq (e2 opIx (eVar 0) (eC (.int 0))) (eC (.str ("0" : Str)))))) [some (.str w), z] st = .ok false st := by
        cases h7 : (w == ("0" : Str)) with
        | true => simp [eT, tBl, eAnd, e2, bnd, eVar, eC, qStr, h7]
        | false =>
          have h5 : lead w = false := by
            cases h5 : lead w with
            | false => rfl
            | true => exact (h4 ⟨h5, h7⟩).elim
          rw [h5] at hl0
          simp [eT, tBl, eAnd, e2, bnd, eVar, eC, opIx, qStr, w16, at0 hne, hl0, h7]
      have hg : eT (e2 opGt (eA cInt (aCons (eVar 0) aNil)) (eC (.int 65535))) [some (.str w), z] st = .ok (decide (65535 < val w)) st := by
        unfold eT e2
        rw [hir]
        rfl
      by_cases h8 : val w ≤ 65535
      · rw [if_pos h8]
        refine seq_step (st' := st) (env' := [some (.str w), z]) ?_ (ret_step hir)
        rw [if_f (st' := st)]
        · rfl
        · unfold eOr
          rw [hf]
          show eT _ _ st = _
          rw [hg, decide_eq_false (by omega)]
      · rw [if_neg h8]
        refine seq_ret ?_
        rw [if_t (st' := st)]
        · rfl
        · unfold eOr
          rw [hf]
          show eT _ _ st = _
          rw [hg, decide_eq_true (by omega)]

/-! ### the cursor -/
def spaceS : Str := " "
theorem f_init (t : Str) (ht : t.length + 2 ≤ 16777216) (st : Sto) : ∃ zs : List Str, (t = "" → zs = []) ∧ (t ≠ "" → zs = PySem.Txt.split t spaceS) ∧
    opMake 2 2 f_Cursor_init [.str t] st = .ok (.ref st.length) (st ++ [.ins 2 [("words", .ref (st.length + 1)), ("at", .int 0)], .lst (zs.map Va.str)]) := by
  have h4 : ((" " : Str).length == 0) = false := by decide +kernel
  have hk : ¬ ("words" : Str) = ("at" : Str) := by decide +kernel
  by_cases h : t = ""
  · subst h
    refine ⟨[], fun _ => rfl, fun h => (h rfl).elim, ?_⟩
    have e : f_Cursor_init [.ref st.length, .str ("" : Str)] (st ++ [.ins 2 []]) = .ok .non (st ++ [.ins 2 [("words", .ref (st.length + 1)), ("at", .int 0)], .lst []]) := by
      refine run_nx (env2 := [some (.ref st.length), some (.str "")]) [some (.ref st.length), some (.str "")] rfl ?_
      simp [b_Cursor_init, Sh.sFld, fldT, putW, sSeq, sSet, sIf, sRet, sRetN, sNil, sExpr, sPass, sBrk, sCnt, eT, tBl, eNot, eAnd, eOr, vAnd, vOr, vNot, eIf, e1, e2, e3, eA, eMt, eFld, aCons, aNil, bnd, bS, eVar, eC, lenOk, cYes, opAdd, opSub, opMul, opFdiv, opMod, opPow, opLt, opLe, opGt, opGe, opIx, opNeg, opTup, opLst, opIsN, opNotN, cLen, cInt, cAbs, cMax, cMin, cAll, cAny, cIsi, tyW, isiB, isT, mAppend, qInt, qStr, qBl, eSl, oNone, oSome, opSl, get_off, get_off0, List.set_append, hk]
    unfold opMake
    rw [show lenOk 2 f_Cursor_init [.ref st.length, .str ("" : Str)] (st ++ [.ins 2 []]) = _ from e]
    rfl
  · refine ⟨PySem.Txt.split t spaceS, fun e => (h e).elim, fun _ => rfl, ?_⟩
    have hb : (t == ("" : Str)) = false := beq_eq_false_iff_ne.mpr h
    have e : f_Cursor_init [.ref st.length, .str t] (st ++ [.ins 2 []]) = .ok .non (st ++ [.ins 2 [("words", .ref (st.length + 1)), ("at", .int 0)], .lst ((PySem.Txt.split t spaceS).map Va.str)]) := by
      refine run_nx (env2 := [some (.ref st.length), some (.str t)]) [some (.ref st.length), some (.str t)] rfl ?_
      have hs : spaceS = (" " : Str) := rfl
      simp [b_Cursor_init, Sh.sFld, fldT, putW, sSeq, sSet, sIf, sRet, sRetN, sNil, sExpr, sPass, sBrk, sCnt, eT, tBl, eNot, eAnd, eOr, vAnd, vOr, vNot, eIf, e1, e2, e3, eA, eMt, eFld, aCons, aNil, bnd, bS, eVar, eC, lenOk, cYes, opAdd, opSub, opMul, opFdiv, opMod, opPow, opLt, opLe, opGt, opGe, opIx, opNeg, opTup, opLst, opIsN, opNotN, cLen, cInt, cAbs, cMax, cMin, cAll, cAny, cIsi, tyW, isiB, isT, mAppend, qInt, qStr, qBl, eSl, oNone, oSome, opSl, get_off, get_off0, List.set_append, hk, hb, mSplit, strsW, ht, h4, hs]
    unfold opMake
    rw [show lenOk 2 f_Cursor_init [.ref st.length, .str t] (st ++ [.ins 2 []]) = _ from e]
/-! ### the law -/
def turnB : Sm := (sSeq (sSet 2 (eA (lenOk 1 f_law_word) (aCons (eA cAbs (aCons (eVar 1) aNil)) aNil)))
  (sSeq (sSet 3 (eA (lenOk 1 f_is_name) (aCons (eVar 2) aNil)))
  (sSeq (sIf (eOr (eNot (eT (eA cIsi (aCons (eVar 3) (aCons (eC (.cst (.ty "bool"))) aNil))))) (eT (e2 opNe (eVar 3) (eA (lenOk 1 f_law_name) (aCons (eVar 2) aNil)))))
  (sRet (eC (.bl false))) sNil)
  (sSeq (sSet 3 (eA (lenOk 1 f_number_of) (aCons (eVar 2) aNil)))
  (sSeq (sSet 4 (eA (lenOk 1 f_law_number) (aCons (eVar 2) aNil)))
  (sIf (eT (e2 opIsN (eVar 4) (eC .non)))
  (sIf (eT (e2 opNotN (eVar 3) (eC .non)))
  (sRet (eC (.bl false))) sNil) (sIf (eOr (eNot (eT (eA (lenOk 1 f_law_is_integer) (aCons (eVar 3) aNil)))) (eT (e2 opNe (eVar 3) (eVar 4))))
  (sRet (eC (.bl false))) sNil)))))))
theorem f_isint (i : Int) (st : Sto) : f_law_is_integer [.int i] st = .ok (.bl true) st := by
  simp [f_law_is_integer, b_law_is_integer, runF, sSeq, sSet, sIf, sRet, sRetN, sNil, sExpr, sPass, sBrk, sCnt, eT, tBl, eNot, eAnd, eOr, vAnd, vOr, vNot, eIf, e1, e2, e3, eA, eMt, eFld, aCons, aNil, bnd, bS, eVar, eC, lenOk, cYes, opAdd, opSub, opMul, opFdiv, opMod, opPow, opLt, opLe, opGt, opGe, opIx, opNeg, opTup, opLst, opIsN, opNotN, cLen, cInt, cAbs, cMax, cMin, cAll, cAny, cIsi, tyW, isiB, isT, mAppend, qInt, qStr, qBl, eSl, oNone, oSome, opSl]
theorem turn (i : Int) (x0 x2 x3 x4 x5 x6 : Option Va) (st : Sto) : ∃ y2 y3 y4 st', turnB [x0, some (.int i), x2, x3, x4, x5, x6] st = .nx [x0, some (.int i), y2, y3, y4, x5, x6] st' := by
  obtain ⟨w, x, g, e⟩ := f_word (if i < 0 then -i else i) (by split <;> omega) st
  have g1 : w.length ≤ 100 := g.1
  obtain ⟨z1, n1⟩ := f_name w g1 (st ++ x)
  obtain ⟨z2, n2⟩ := f_lname w g1 g.2 (st ++ x ++ z1)
  obtain ⟨z3, n3⟩ := f_number w g1 (st ++ x ++ z1 ++ z2)
  have n4 := f_lnumber w g1 (st ++ x ++ z1 ++ z2 ++ z3)
  generalize st ++ x = s1 at e n1 n2 n3 n4
  generalize s1 ++ z1 = s2 at n1 n2 n3 n4
  generalize s2 ++ z2 = s3 at n2 n3 n4
  generalize s3 ++ z3 = s4 at n3 n4
  refine ⟨some (.str w), some (vOf (numB w)), some (vOf (numB w)), s4, ?_⟩
  refine seq_step (st' := s1) (env' := [x0, some (.int i), some (.str w), x3, x4, x5, x6]) (by simp [sSeq, sSet, sIf, sRet, sRetN, sNil, sExpr, sPass, sBrk, sCnt, eT, tBl, eNot, eAnd, eOr, vAnd, vOr, vNot, eIf, e1, e2, e3, eA, eMt, eFld, aCons, aNil, bnd, bS, eVar, eC, lenOk, cYes, opAdd, opSub, opMul, opFdiv, opMod, opPow, opLt, opLe, opGt, opGe, opIx, opNeg, opTup, opLst, opIsN, opNotN, cLen, cInt, cAbs, cMax, cMin, cAll, cAny, cIsi, tyW, isiB, isT, mAppend, qInt, qStr, qBl, eSl, oNone, oSome, opSl, e]) ?_
  refine seq_step (st' := s2) (env' := [x0, some (.int i), some (.str w), some (.bl (nameB w)), x4, x5, x6]) (by simp [sSeq, sSet, sIf, sRet, sRetN, sNil, sExpr, sPass, sBrk, sCnt, eT, tBl, eNot, eAnd, eOr, vAnd, vOr, vNot, eIf, e1, e2, e3, eA, eMt, eFld, aCons, aNil, bnd, bS, eVar, eC, lenOk, cYes, opAdd, opSub, opMul, opFdiv, opMod, opPow, opLt, opLe, opGt, opGe, opIx, opNeg, opTup, opLst, opIsN, opNotN, cLen, cInt, cAbs, cMax, cMin, cAll, cAny, cIsi, tyW, isiB, isT, mAppend, qInt, qStr, qBl, eSl, oNone, oSome, opSl, n1]) ?_
  refine seq_step (st' := s3) (env' := [x0, some (.int i), some (.str w), some (.bl (nameB w)), x4, x5, x6]) (by
    rw [if_f (st' := s3) (by simp [sSeq, sSet, sIf, sRet, sRetN, sNil, sExpr, sPass, sBrk, sCnt, eT, tBl, eNot, eAnd, eOr, vAnd, vOr, vNot, eIf, e1, e2, e3, eA, eMt, eFld, aCons, aNil, bnd, bS, eVar, eC, lenOk, cYes, opAdd, opSub, opMul, opFdiv, opMod, opPow, opLt, opLe, opGt, opGe, opIx, opNeg, opTup, opLst, opIsN, opNotN, cLen, cInt, cAbs, cMax, cMin, cAll, cAny, cIsi, tyW, isiB, isT, mAppend, qInt, qStr, qBl, eSl, oNone, oSome, opSl, n2])]
    rfl) ?_
  refine seq_step (st' := s4) (env' := [x0, some (.int i), some (.str w), some (vOf (numB w)), x4, x5, x6]) (by simp [sSeq, sSet, sIf, sRet, sRetN, sNil, sExpr, sPass, sBrk, sCnt, eT, tBl, eNot, eAnd, eOr, vAnd, vOr, vNot, eIf, e1, e2, e3, eA, eMt, eFld, aCons, aNil, bnd, bS, eVar, eC, lenOk, cYes, opAdd, opSub, opMul, opFdiv, opMod, opPow, opLt, opLe, opGt, opGe, opIx, opNeg, opTup, opLst, opIsN, opNotN, cLen, cInt, cAbs, cMax, cMin, cAll, cAny, cIsi, tyW, isiB, isT, mAppend, qInt, qStr, qBl, eSl, oNone, oSome, opSl, n3]) ?_
  refine seq_step (st' := s4) (env' := [x0, some (.int i), some (.str w), some (vOf (numB w)), some (vOf (numB w)), x5, x6]) (by simp [sSeq, sSet, sIf, sRet, sRetN, sNil, sExpr, sPass, sBrk, sCnt, eT, tBl, eNot, eAnd, eOr, vAnd, vOr, vNot, eIf, e1, e2, e3, eA, eMt, eFld, aCons, aNil, bnd, bS, eVar, eC, lenOk, cYes, opAdd, opSub, opMul, opFdiv, opMod, opPow, opLt, opLe, opGt, opGe, opIx, opNeg, opTup, opLst, opIsN, opNotN, cLen, cInt, cAbs, cMax, cMin, cAll, cAny, cIsi, tyW, isiB, isT, mAppend, qInt, qStr, qBl, eSl, oNone, oSome, opSl, n4]) ?_
  cases numB w with
  | none => simp [sSeq, sSet, sIf, sRet, sRetN, sNil, sExpr, sPass, sBrk, sCnt, eT, tBl, eNot, eAnd, eOr, vAnd, vOr, vNot, eIf, e1, e2, e3, eA, eMt, eFld, aCons, aNil, bnd, bS, eVar, eC, lenOk, cYes, opAdd, opSub, opMul, opFdiv, opMod, opPow, opLt, opLe, opGt, opGe, opIx, opNeg, opTup, opLst, opIsN, opNotN, cLen, cInt, cAbs, cMax, cMin, cAll, cAny, cIsi, tyW, isiB, isT, mAppend, qInt, qStr, qBl, eSl, oNone, oSome, opSl, vOf]
  | some n => simp [sSeq, sSet, sIf, sRet, sRetN, sNil, sExpr, sPass, sBrk, sCnt, eT, tBl, eNot, eAnd, eOr, vAnd, vOr, vNot, eIf, e1, e2, e3, eA, eMt, eFld, aCons, aNil, bnd, bS, eVar, eC, lenOk, cYes, opAdd, opSub, opMul, opFdiv, opMod, opPow, opLt, opLe, opGt, opGe, opIx, opNeg, opTup, opLst, opIsN, opNotN, cLen, cInt, cAbs, cMax, cMin, cAll, cAny, cIsi, tyW, isiB, isT, mAppend, qInt, qStr, qBl, eSl, oNone, oSome, opSl, vOf, f_isint]
theorem words_ok (ns : List Int) (hn : ns.length ≤ 63) (x1 x2 x3 x4 x6 : Option Va) (st : Sto) : ∃ (ws : List Str) (x : Sto), (eLc (iL (eVar 0)) (tgN 1) cYes (eA (lenOk 1 f_law_word) (aCons (eA cAbs (aCons (eVar 1) aNil)) aNil)) [1]) [some (.scr (ns.map Va.int)), x1, x2, x3, x4, none, x6] st = .ok (.ref st.length) (st ++ .lst (ws.map Va.str) :: x) ∧ ws.length = ns.length ∧ ∀ w ∈ ws, Good w := by
  obtain ⟨ys, x, e, r⟩ := eLc_fix (src := iL (eVar 0)) (env := [some (.scr (ns.map Va.int)), x1, x2, x3, x4, none, x6]) (st := st) (st0 := st) (e := (eA (lenOk 1 f_law_word) (aCons (eA cAbs (aCons (eVar 1) aNil)) aNil))) (i := 1) (fun _ y => ∃ w, y = .str w ∧ Good w) rfl (by simp; omega)
    (fun a ha t => by
      obtain ⟨i, hi, rfl⟩ := List.mem_map.mp ha
      obtain ⟨w, x, g, e⟩ := f_word (if i < 0 then -i else i) (by split <;> omega) (st ++ t)
      exact ⟨.str w, x, by simp only [List.set_cons_succ, List.set_cons_zero]; simp [eA, aCons, aNil, bnd, eVar, lenOk, cAbs] at e ⊢; exact e, w, rfl, g⟩)
  obtain ⟨zs, rfl, p⟩ := paired_right Va.str (fun _ z => Good z) (fun a b h => h) r
  exact ⟨zs, x, e, by have := paired_length p; simpa using this.symm, paired_all (P := Good) (fun a b h => h) p⟩

theorem loop1 (ns : List Int) : ∃ x1 x2 x3 x4 x6 st', sFor (iL (eVar 0)) (tgN 1) turnB [some (.scr (ns.map Va.int)), none, none, none, none, none, none] [] = .nx [some (.scr (ns.map Va.int)), x1, x2, x3, x4, none, x6] st' := by
  obtain ⟨env', st', e, x1, x2, x3, x4, x6, rfl⟩ := forF_inv (tg := tgN 1) (body := turnB) (fun env _ => ∃ x1 x2 x3 x4 x6, env = [some (.scr (ns.map Va.int)), x1, x2, x3, x4, none, x6]) (ws := ns.map Va.int)
    (fun w hw env st hp => by
      obtain ⟨i, hi, rfl⟩ := List.mem_map.mp hw
      obtain ⟨x1, x2, x3, x4, x6, rfl⟩ := hp
      obtain ⟨y2, y3, y4, st2, q⟩ := turn i (some (.scr (ns.map Va.int))) x2 x3 x4 none x6 st
      exact ⟨_, rfl, _, st2, .inl q, some (.int i), y2, y3, y4, x6, rfl⟩)
    (env := [some (.scr (ns.map Va.int)), none, none, none, none, none, none]) (st := []) ⟨_, _, _, _, _, rfl⟩
  exact ⟨x1, x2, x3, x4, x6, st', e⟩
theorem join_len {ws : List Str} (hl : ws.length ≤ 63) (h : ∀ w ∈ ws, Good w) : (ws.map (·.length)).sum + ws.length * spaceS.length ≤ 6400 := by
  have := sum_le (ns := ws.map (·.length)) (k := 100) (fun m hm => by
    obtain ⟨z, hz, rfl⟩ := List.mem_map.mp hm
    exact (h z hz).1)
  rw [List.length_map] at this
  have e : spaceS.length = 1 := by decide +kernel
  rw [e]
  omega
theorem tl_space : tl spaceS = [32] := by decide +kernel
theorem split_words {ws : List Str} (hne : ws ≠ []) (h : ∀ w ∈ ws, Good w) : PySem.Txt.split (PySem.Txt.join spaceS ws) spaceS = ws :=
  split_join tl_space (by decide +kernel) hne fun p hp hc => ((h p hp).2 32 hc).1 rfl
theorem join_nil_iff {ws : List Str} (h : ∀ w ∈ ws, Good w) : PySem.Txt.join spaceS ws = ("" : Str) ↔ (ws = [] ∨ ws = [("" : Str)]) := by
  constructor
  · intro e
    by_cases hne : ws = []
    · exact .inl hne
    · have := split_words hne h
      rw [e] at this
      refine .inr (this.symm.trans ?_)
      decide +kernel
  · intro e
    rcases e with e | e
    · rw [e]; rfl
    · rw [e]; decide +kernel
def endB : Sm := (sSeq (sIf (eOr (eT (e2 opEq (eVar 5) (eA opLst aNil))) (eT (e2 opEq (eVar 5) (eA opLst (aCons (eC (.str ("" : Str))) aNil)))))
  (sSet 4 (eA opLst aNil)) sNil)
  (sSeq (sIf (eOr (eT (e2 opNe (eFld [2] ("words" : Str) (eVar 6)) (eVar 4))) (eOr (eT (e2 opNe (eFld [2] ("at" : Str) (eVar 6)) (eC (.int 0)))) (eNot (eT (eA cIsi (aCons (eFld [2] ("words" : Str) (eVar 6)) (aCons (eC (.cst (.ty "list"))) aNil)))))))
  (sRet (eC (.bl false))) sNil)
  (sRet (vAnd (e2 opEq (eA (lenOk 1 f_number_of) (aCons (eC (.str ("65535" : Str))) aNil)) (eC (.int 65535))) (e2 opIsN (eA (lenOk 1 f_number_of) (aCons (eC (.str ("65536" : Str))) aNil)) (eC .non))))))
theorem good_strOk {ws : List Str} (h : ∀ w ∈ ws, Good w) : ∀ y ∈ ws, PySem.PyData.strOk y = true := fun y hy => strOk_of (h y hy).2
theorem last_ok (x0 x1 x2 x3 x4 x5 x6 : Option Va) (st : Sto) : ∃ st', (sRet (vAnd (e2 opEq (eA (lenOk 1 f_number_of) (aCons (eC (.str ("65535" : Str))) aNil)) (eC (.int 65535))) (e2 opIsN (eA (lenOk 1 f_number_of) (aCons (eC (.str ("65536" : Str))) aNil)) (eC .non)))) [x0, x1, x2, x3, x4, x5, x6] st = .rt (.bl true) st' := by
  obtain ⟨z1, r1⟩ := f_number "65535" (by decide +kernel) st
  obtain ⟨z2, q2⟩ := f_number "65536" (by decide +kernel) (st ++ z1)
  have h1 : numB "65535" = some 65535 := by decide +kernel
  have h2 : numB "65536" = none := by decide +kernel
  rw [h1] at r1
  rw [h2] at q2
  exact ⟨st ++ z1 ++ z2, by
    have e1' : f_number_of [Va.str (Str.ofString "65535")] st = Rs.ok (.int 65535) (st ++ z1) := r1
    have q2' : f_number_of [Va.str (Str.ofString "65536")] (st ++ z1) = Rs.ok .non (st ++ z1 ++ z2) := q2
    generalize st ++ z1 = s1 at e1' q2'
    generalize s1 ++ z2 = s2 at q2'
    simp [sSeq, sSet, sIf, sRet, sRetN, sNil, sExpr, sPass, sBrk, sCnt, eT, tBl, eNot, eAnd, eOr, vAnd, vOr, vNot, eIf, e1, e2, e3, eA, eMt, eFld, aCons, aNil, bnd, bS, eVar, eC, lenOk, cYes, opAdd, opSub, opMul, opFdiv, opMod, opPow, opLt, opLe, opGt, opGe, opIx, opNeg, opTup, opLst, opIsN, opNotN, cLen, cInt, cAbs, cMax, cMin, cAll, cAny, cIsi, tyW, isiB, isT, mAppend, qInt, qStr, qBl, eSl, oNone, oSome, opSl, e1', q2']⟩

theorem check2 (x0 x1 x2 x3 x5 : Option Va) (n4 n6 nw : Nat) (zs : List Str) (S : Sto) (h6 : S[n6]? = some (.ins 2 [("words", .ref nw), ("at", .int 0)])) (hw : S[nw]? = some (.lst (zs.map Va.str))) (h4 : S[n4]? = some (.lst (zs.map Va.str))) (hz : ∀ y ∈ zs, PySem.PyData.strOk y = true) :
    (sIf (eOr (eT (e2 opNe (eFld [2] ("words" : Str) (eVar 6)) (eVar 4))) (eOr (eT (e2 opNe (eFld [2] ("at" : Str) (eVar 6)) (eC (.int 0)))) (eNot (eT (eA cIsi (aCons (eFld [2] ("words" : Str) (eVar 6)) (aCons (eC (.cst (.ty "list"))) aNil)))))))
  (sRet (eC (.bl false))) sNil) [x0, x1, x2, x3, some (.ref n4), x5, some (.ref n6)] S = .nx [x0, x1, x2, x3, some (.ref n4), x5, some (.ref n6)] S := by
  have e1 : eFld [2] ("words" : Str) (eVar 6) [x0, x1, x2, x3, some (.ref n4), x5, some (.ref n6)] S = .ok (.ref nw) S := by
    unfold eFld
    show (match S[n6]? with | some (.ins c fs) => _ | _ => _) = _
    rw [h6]
    simp [List.lookup]
  have e3 : eFld [2] ("at" : Str) (eVar 6) [x0, x1, x2, x3, some (.ref n4), x5, some (.ref n6)] S = .ok (.int 0) S := by
    unfold eFld
    show (match S[n6]? with | some (.ins c fs) => _ | _ => _) = _
    rw [h6]
    have hk : (("at" : Str) == ("words" : Str)) = false := by decide +kernel
    simp [List.lookup, hk]
  have q := eq_strs true hw h4 hz hz
  rw [decide_eq_true rfl] at q
  rw [if_f (st' := S)]
  · rfl
  · simp [eOr, eNot, eT, tBl, e2, eA, aCons, aNil, bnd, eVar, eC, cIsi, tyW, isiB, e1, e3, q, qInt, hw]
theorem goal : Goal := by
  intro ns hn
  obtain ⟨x1, x2, x3, x4, x6, s0, e0⟩ := loop1 ns
  obtain ⟨ws, x, e5, hl, hg⟩ := words_ok ns hn x1 x2 x3 x4 x6 s0
  have hjl := join_len (ws := ws) (by omega) hg
  have hT : (PySem.Txt.join spaceS ws).length + 2 ≤ 16777216 := by
    have := PySem.StrLaws.join_length_le spaceS ws
    rw [join_eq]
    omega
  obtain ⟨zs, z1, z2, e6⟩ := f_init (PySem.Txt.join spaceS ws) hT (s0 ++ .lst (ws.map Va.str) :: x)
  have hm5 : (s0 ++ .lst (ws.map Va.str) :: x)[s0.length]? = some (.lst (ws.map Va.str)) := get_mid _ _ _
  generalize s0 ++ .lst (ws.map Va.str) :: x = s5 at e5 e6 hm5
  generalize s0.length = n5 at e5 hm5
  have hmi : (s5 ++ [Ob.ins 2 [("words", .ref (s5.length + 1)), ("at", .int 0)], .lst (zs.map Va.str)])[s5.length]? = some (.ins 2 [("words", .ref (s5.length + 1)), ("at", .int 0)]) := get_mid _ _ _
  have hmw : (s5 ++ [Ob.ins 2 [("words", .ref (s5.length + 1)), ("at", .int 0)], .lst (zs.map Va.str)])[s5.length + 1]? = some (.lst (zs.map Va.str)) := by rw [get_off]; rfl
  have hm5' := get_old (t := [Ob.ins 2 [("words", .ref (s5.length + 1)), ("at", .int 0)], .lst (zs.map Va.str)]) hm5
  generalize s5 ++ [Ob.ins 2 [("words", .ref (s5.length + 1)), ("at", .int 0)], .lst (zs.map Va.str)] = s6 at e6 hmi hmw hm5'
  generalize s5.length = n6 at e6 hmi hmw
  have hso := good_strOk hg
  have key : ∃ st, endB [some (.scr (ns.map Va.int)), x1, x2, x3, some (.ref n5), some (.ref n5), some (.ref n6)] s6 = .rt (.bl true) st := by
    have fin : ∀ (n4 : Nat) (S : Sto), S[n6]? = some (.ins 2 [("words", .ref (n6 + 1)), ("at", .int 0)]) → S[n6 + 1]? = some (.lst (zs.map Va.str)) → S[n4]? = some (.lst (zs.map Va.str)) → (∀ y ∈ zs, PySem.PyData.strOk y = true) →
        (sIf (eOr (eT (e2 opEq (eVar 5) (eA opLst aNil))) (eT (e2 opEq (eVar 5) (eA opLst (aCons (eC (.str ("" : Str))) aNil))))) (sSet 4 (eA opLst aNil)) sNil) [some (.scr (ns.map Va.int)), x1, x2, x3, some (.ref n5), some (.ref n5), some (.ref n6)] s6 = .nx [some (.scr (ns.map Va.int)), x1, x2, x3, some (.ref n4), some (.ref n5), some (.ref n6)] S →
        ∃ st, endB [some (.scr (ns.map Va.int)), x1, x2, x3, some (.ref n5), some (.ref n5), some (.ref n6)] s6 = .rt (.bl true) st := by
      intro n4 S a1 a2 a3 a4 a5
      obtain ⟨st, e⟩ := last_ok (some (.scr (ns.map Va.int))) x1 x2 x3 (some (.ref n4)) (some (.ref n5)) (some (.ref n6)) S
      exact ⟨st, seq_step a5 (seq_step (check2 _ _ _ _ _ n4 n6 (n6 + 1) zs S a1 a2 a3 a4) e)⟩
    have hE : (s6 ++ [Ob.lst []])[s6.length]? = some (Ob.lst (([] : List Str).map Va.str)) := get_mid _ _ _
    have q1 := eq_strs false (get_old (t := [Ob.lst []]) hm5') hE hso (fun _ h => absurd h List.not_mem_nil)
    rw [Bool.false_xor] at q1
    have t1 : eT (e2 opEq (eVar 5) (eA opLst aNil)) [some (.scr (ns.map Va.int)), x1, x2, x3, some (.ref n5), some (.ref n5), some (.ref n6)] s6 = .ok (decide (ws = [])) (s6 ++ [.lst []]) := by
      show tBl (opEqB false (.ref n5) (.ref s6.length) (s6 ++ [.lst []])) = _
      rw [q1]
      rfl
    have hE2 : (s6 ++ [Ob.lst []] ++ [Ob.lst [.str ("" : Str)]])[(s6 ++ [Ob.lst []]).length]? = some (Ob.lst ([("" : Str)].map Va.str)) := get_mid _ _ _
    have q2 := eq_strs false (get_old (t := [Ob.lst [.str ("" : Str)]]) (get_old (t := [Ob.lst []]) hm5')) hE2 hso (by decide +kernel)
    rw [Bool.false_xor] at q2
    have t2 : eT (e2 opEq (eVar 5) (eA opLst (aCons (eC (.str ("" : Str))) aNil))) [some (.scr (ns.map Va.int)), x1, x2, x3, some (.ref n5), some (.ref n5), some (.ref n6)] (s6 ++ [.lst []]) = .ok (decide (ws = [("" : Str)])) (s6 ++ [Ob.lst []] ++ [Ob.lst [.str ("" : Str)]]) := by
      show tBl (opEqB false (.ref n5) (.ref (s6 ++ [Ob.lst []]).length) (s6 ++ [Ob.lst []] ++ [Ob.lst [.str ("" : Str)]])) = _
      rw [q2]
      rfl
    by_cases w1 : ws = []
    · have hz : zs = [] := z1 ((join_nil_iff hg).mpr (.inl w1))
      rw [decide_eq_true w1] at t1
      refine fin (s6 ++ [Ob.lst []]).length (s6 ++ [Ob.lst []] ++ [Ob.lst []]) (get_old (get_old hmi)) (get_old (get_old hmw)) (by rw [hz]; exact get_mid _ _ _) (by rw [hz]; exact fun _ h => absurd h List.not_mem_nil) ?_
      rw [if_t (st' := s6 ++ [Ob.lst []]) (by unfold eOr; rw [t1]; rfl)]
      rfl
    · rw [decide_eq_false w1] at t1
      by_cases w2 : ws = [("" : Str)]
      · have hz : zs = [] := z1 ((join_nil_iff hg).mpr (.inr w2))
        rw [decide_eq_true w2] at t2
        refine fin (s6 ++ [Ob.lst []] ++ [Ob.lst [.str ("" : Str)]]).length (s6 ++ [Ob.lst []] ++ [Ob.lst [.str ("" : Str)]] ++ [Ob.lst []]) (get_old (get_old (get_old hmi))) (get_old (get_old (get_old hmw))) (by rw [hz]; exact get_mid _ _ _) (by rw [hz]; exact fun _ h => absurd h List.not_mem_nil) ?_
        rw [if_t (st' := s6 ++ [Ob.lst []] ++ [Ob.lst [.str ("" : Str)]]) (by unfold eOr; rw [t1]; exact t2)]
        rfl
      · have hz : zs = ws := by
          rw [z2 (fun e => by rcases (join_nil_iff hg).mp e with h | h; exact w1 h; exact w2 h)]
          exact split_words w1 hg
        rw [decide_eq_false w2] at t2
        refine fin n5 (s6 ++ [Ob.lst []] ++ [Ob.lst [.str ("" : Str)]]) (get_old (get_old hmi)) (get_old (get_old hmw)) (by rw [hz]; exact get_old (get_old hm5')) (by rw [hz]; exact hso) ?_
        rw [if_f (st' := s6 ++ [Ob.lst []] ++ [Ob.lst [.str ("" : Str)]]) (by unfold eOr; rw [t1]; exact t2)]
        rfl
  obtain ⟨st, ek⟩ := key
  refine ⟨st, run_rt [some (.scr (ns.map Va.int)), none, none, none, none, none, none] rfl (seq_step (m := sFor _ _ turnB) e0 (seq_step (set_step e5) (seq_step (set_step (w := .ref n6) (st' := s6) ?_) (seq_step (set_step (w := .ref n5) (st' := s6) rfl) ek))))⟩
  have hj : mJoin (.str spaceS) [.ref n5] s5 = .ok (.str (PySem.Txt.join spaceS ws)) s5 := by
    unfold mJoin
    dsimp only
    rw [hm5]
    dsimp only
    rw [unstr_map]
    exact if_pos (by omega)
  show bnd (bnd (mJoin (.str spaceS) [.ref n5] s5) _) _ = _
  rw [hj]
  exact e6
end Pr

open PySem PySem.W PyProof.Rows
set_option maxRecDepth 100000 in
set_option maxHeartbeats 0 in
theorem PySem.Challenge.cw_nestcall_k00_names_and_numbers_holds : PySem.Challenge.rw_nestcall_k00_names_and_numbers.Holds := by
  w_on; o_law; k_head; (case hw => w_witness2)
  k_fill
  refine L2.walk_of (l := PySem.Challenge.rw_nestcall_k00_names_and_numbers) (n := 63) (k := 3) (x := "script") (CX := fun w => L2.CX PySem.Challenge.rw_nestcall_k00_names_and_numbers.prog w) (sp := fun w => Sh.spLaw _ Pr.f_law) rfl (by decide) rfl ⟨rfl, by decide, by decide⟩ (fun w h Y => PySem.W.kIn_of Y) ?F (fun _ _ a ns hl _ hS => Sh.law_sp hS (Pr.goal ns hl)) (fun _ _ _ _ _ h => Sh.cx_end h)
  case F =>
    intro w mg fa h KX G hmg
    refine' Pr.all_mk KX G hmg ?a0 ?l0 ?c0 ?k0 ?a1 ?l1 ?c1 ?k1 ?a2 ?l2 ?c2 ?k2 ?l3 ?c3 ?k3 ?a4 ?l4 ?c4 ?k4 ?a5 ?l5 ?c5 ?k5 ?a6 ?l6 ?c6 ?k6 ?a7 ?l7 ?c7 ?k7 ?a8 ?l8 ?c8 ?k8 ?a9 ?l9 ?c9 ?k9 ?z_abs ?z_all ?z_bool ?z_int ?z_isinstance ?z_len ?z_list ?z_range ?n_DIGITS ?n_KEY_WORDS ?o_KEY_WORDS_ ?q_KEY_WORDS ?n_LARGEST ?n_LETTERS ?n_LONGEST_NAME ?n_LONGEST_NUMBER ?aC2 ?pg2 ?hd2 ?po2 ?sa2 ?mk2 ?kc2 ?at3 ?fn3 ?no2_at ?no2_words
    (case aC2 => k_is); (case at3 => k_is); (case a0 => k_is); (case a1 => k_is); (case a2 => k_is); (case a4 => k_is); (case a5 => k_is); (case a6 => k_is); (case a7 => k_is); (case a8 => k_is); (case a9 => k_is); (case l0 => k_is); (case c0 => k_is); (case k0 => k_is); (case l1 => k_is); (case c1 => k_is); (case k1 => k_is); (case l2 => k_is); (case c2 => k_is); (case k2 => k_is); (case l3 => k_is); (case c3 => k_is); (case k3 => k_is); (case l4 => k_is); (case c4 => k_is); (case k4 => k_is); (case l5 => k_is); (case c5 => k_is); (case k5 => k_is); (case l6 => k_is); (case c6 => k_is); (case k6 => k_is); (case l7 => k_is); (case c7 => k_is); (case k7 => k_is); (case l8 => k_is); (case c8 => k_is); (case k8 => k_is); (case l9 => k_is); (case c9 => k_is); (case k9 => k_is); (case z_abs => k_is); (case z_all => k_is); (case z_bool => k_is); (case z_int => k_is); (case z_isinstance => k_is); (case z_len => k_is); (case z_list => k_is); (case z_range => k_is); (case n_DIGITS => k_is); (case n_KEY_WORDS => k_is); (case o_KEY_WORDS_ => k_is); (case q_KEY_WORDS => decide +kernel); (case n_LARGEST => k_is); (case n_LETTERS => k_is); (case n_LONGEST_NAME => k_is); (case n_LONGEST_NUMBER => k_is); (case pg2 => k_is); (case hd2 => k_is); (case po2 => k_is); (case sa2 => k_is); (case mk2 => k_is); (case kc2 => k_is); (case fn3 => k_is); (case no2_at => k_is); (case no2_words => k_is)

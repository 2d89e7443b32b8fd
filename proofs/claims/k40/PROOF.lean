import PyProof.Rows.All
import Wide.All
import OpenK.AllK
import Wide.FinOn
import HandS.ForMost
import HandS.ForExc
import HandS.TupAny
import HandS.Deep
import HandS.ExcInit
import HandS.CallSlots
import HandS.IsInst
import HandS.FStr
import HandS.ExcIs
import HandS.ExcField
import HandS.StrMore
import HandS.TryMany
import HandS.Text
import HandS.HotCalls
import KE.KExcIs
import HandS.ForDict
import HandS.OwnEq
import HandS.Iter
import PySem.Challenge.RW_nestcall_k40_guards_of_a_house
set_option Elab.async false
set_option linter.all false
set_option maxRecDepth 100000
set_option maxHeartbeats 4000000
/-! The plain layer: a program's defs as plain Lean functions on plain data (Va), over a store of the objects that change (Ob).
    A judgement (JE, JT, JA, JS, JSs ..) says that a piece of syntax does what a plain function does. -/
namespace Sh
open PySem PySem.Spec PyProof.Rows L2

/-- plain values: a tuple is data, a list (a dict, an instance) is a place in the store; scr: a list that is only read; ktp: a tuple of the module; cst: a thing of the module -/
inductive Va where
  | non | bl (b : Bool) | int (i : Int) | str (s : Str) | tup (xs : List Va) | scr (xs : List Va) | ktp (xs : List Va) | ref (n : Nat) | cst (v : V) | exn
instance : Inhabited Va := ⟨.non⟩
inductive Ob where
  | lst (xs : List Va) | dct (kvs : List (Key × Va)) | dtp (kvs : List (List Key × Va)) | ins (c : Nat) (fs : List (Str × Va))
abbrev Sto := List Ob
abbrev En := List (Option Va)
inductive Rs (α : Type) where
  | ok (a : α) (st : Sto) | exc (c : Nat) (fs : List (Str × Va)) (st : Sto) | no
abbrev Mo (α : Type) := Sto → Rs α
def bnd {α β : Type} (r : Rs α) (f : α → Mo β) : Rs β :=
  match r with
  | .ok a st => f a st
  | .exc c fs st => .exc c fs st
  | .no => .no

/-- the classes' addresses, the heap at the entry -/
structure Gx where
  cls : Nat → Addr
  H0 : Hp
  xs : List (Addr × List (Str × V)) := []
  es : List (Nat × Addr) := []

mutual
inductive RV (K : PySem.W.Frag) (H0 : Hp) (H : Hp) (ι : List Addr) : Va → V → Prop
  | non : RV K H0 H ι .non .non
  | bl (b : Bool) : RV K H0 H ι (.bl b) (.bl b)
  | int (i : Int) : RV K H0 H ι (.int i) (.int i)
  | str (s : Str) : RV K H0 H ι (.str s) (.str s)
  | tup {a : Addr} {vs : List V} {ws : List Va} : H a = some (.tup vs) → RVs K H0 H ι ws vs → RV K H0 H ι (.tup ws) (.ref a)
  | ktp {a : Addr} {vs : List V} {ws : List Va} : SqT K H0 a vs → RVs K H0 H ι ws vs → RV K H0 H ι (.ktp ws) (.ref a)
  | scr {a : Addr} {vs : List V} {ws : List Va} : SqL K H0 a vs → RVs K H0 H ι ws vs → RV K H0 H ι (.scr ws) (.ref a)
  | ref {n : Nat} {a : Addr} : ι[n]? = some a → RV K H0 H ι (.ref n) (.ref a)
  | cst (v : V) : RV K H0 H ι (.cst v) v
inductive RVs (K : PySem.W.Frag) (H0 : Hp) (H : Hp) (ι : List Addr) : List Va → List V → Prop
  | nil : RVs K H0 H ι [] []
  | cons {w : Va} {v : V} {ws : List Va} {vs : List V} : RV K H0 H ι w v → RVs K H0 H ι ws vs → RVs K H0 H ι (w :: ws) (v :: vs)
end

structure Ext (K : PySem.W.Frag) (H : Hp) (ι : List Addr) (H' : Hp) (ι' : List Addr) : Prop where
  pre : ∃ r, ι' = ι ++ r
  tup : ∀ a vs, H a = some (.tup vs) → H' a = some (.tup vs)
  xd : ∀ a fs, H a = some (.xd fs) → H' a = some (.xd fs)
theorem Ext.refl {K : PySem.W.Frag} {H : Hp} {ι : List Addr} : Ext K H ι H ι := ⟨⟨[], by simp⟩, fun _ _ h => h, fun _ _ h => h⟩
theorem Ext.trans {K : PySem.W.Frag} {H H1 H2 : Hp} {ι ι1 ι2 : List Addr} (a : Ext K H ι H1 ι1) (b : Ext K H1 ι1 H2 ι2) : Ext K H ι H2 ι2 := by
  obtain ⟨r, e⟩ := a.pre
  obtain ⟨r', e'⟩ := b.pre
  exact ⟨⟨r ++ r', by rw [e', e, List.append_assoc]⟩, fun x vs h => b.tup x vs (a.tup x vs h), fun x fs h => b.xd x fs (a.xd x fs h)⟩
theorem Ext.get {K : PySem.W.Frag} {H H' : Hp} {ι ι' : List Addr} (e : Ext K H ι H' ι') {n : Nat} {a : Addr} (h : ι[n]? = some a) : ι'[n]? = some a := by
  obtain ⟨r, rfl⟩ := e.pre
  rw [List.getElem?_append_left (List.getElem?_eq_some_iff.mp h).1]
  exact h
section
variable {K : PySem.W.Frag} {g : Gx} {H0 H H' : Hp} {ι ι' : List Addr}
mutual
theorem RV.mono (e : Ext K H ι H' ι') : ∀ {w : Va} {v : V}, RV K H0 H ι w v → RV K H0 H' ι' w v
  | _, _, .non => .non
  | _, _, .bl b => .bl b
  | _, _, .int i => .int i
  | _, _, .str s => .str s
  | _, _, .tup h r => .tup (e.tup _ _ h) (RVs.mono e r)
  | _, _, .scr h r => .scr h (RVs.mono e r)
  | _, _, .ktp h r => .ktp h (RVs.mono e r)
  | _, _, .ref h => .ref (e.get h)
  | _, _, .cst v => .cst v
theorem RVs.mono (e : Ext K H ι H' ι') : ∀ {ws : List Va} {vs : List V}, RVs K H0 H ι ws vs → RVs K H0 H' ι' ws vs
  | _, _, .nil => .nil
  | _, _, .cons r t => .cons (RV.mono e r) (RVs.mono e t)
end
theorem RVs.length : ∀ {ws : List Va} {vs : List V}, RVs K H0 H ι ws vs → ws.length = vs.length
  | _, _, .nil => rfl
  | _, _, .cons _ t => by rw [List.length_cons, List.length_cons, RVs.length t]
theorem RVs.get : ∀ {ws : List Va} {vs : List V} {i : Nat} {w : Va}, RVs K H0 H ι ws vs → ws[i]? = some w → ∃ v, vs[i]? = some v ∧ RV K H0 H ι w v
  | _, _, _, _, .nil, e => by simp at e
  | _, _, 0, _, .cons r _, e => by simp at e; subst e; exact ⟨_, rfl, r⟩
  | _, _, i + 1, _, .cons _ t, e => by
    obtain ⟨v, h1, h2⟩ := RVs.get (i := i) t (by simpa using e)
    exact ⟨v, by simpa using h1, h2⟩
theorem RVs.getv : ∀ {ws : List Va} {vs : List V} {i : Nat} {v : V}, RVs K H0 H ι ws vs → vs[i]? = some v → ∃ w, ws[i]? = some w ∧ RV K H0 H ι w v
  | _, _, _, _, .nil, e => by simp at e
  | _, _, 0, _, .cons r _, e => by simp at e; subst e; exact ⟨_, rfl, r⟩
  | _, _, i + 1, _, .cons _ t, e => by
    obtain ⟨v, h1, h2⟩ := RVs.getv (i := i) t (by simpa using e)
    exact ⟨v, by simpa using h1, h2⟩
theorem RVs.append : ∀ {ws zs : List Va} {vs us : List V}, RVs K H0 H ι ws vs → RVs K H0 H ι zs us → RVs K H0 H ι (ws ++ zs) (vs ++ us)
  | _, _, _, _, .nil, h => h
  | _, _, _, _, .cons r t, h => .cons r (RVs.append t h)
theorem RVs.take : ∀ {ws : List Va} {vs : List V} (n : Nat), RVs K H0 H ι ws vs → RVs K H0 H ι (ws.take n) (vs.take n)
  | _, _, 0, _ => by simpa using RVs.nil
  | _, _, _ + 1, .nil => .nil
  | _, _, n + 1, .cons r t => .cons r (RVs.take n t)
theorem RVs.drop : ∀ {ws : List Va} {vs : List V} (n : Nat), RVs K H0 H ι ws vs → RVs K H0 H ι (ws.drop n) (vs.drop n)
  | _, _, 0, h => h
  | _, _, _ + 1, .nil => .nil
  | _, _, n + 1, .cons _ t => RVs.drop n t
theorem RVs.reverse : ∀ {ws : List Va} {vs : List V}, RVs K H0 H ι ws vs → RVs K H0 H ι ws.reverse vs.reverse
  | _, _, .nil => .nil
  | _, _, .cons r t => by
    rw [List.reverse_cons, List.reverse_cons]
    exact (RVs.reverse t).append (.cons r .nil)
theorem RVs.set {w : Va} {v : V} (r : RV K H0 H ι w v) : ∀ {ws : List Va} {vs : List V} (n : Nat), RVs K H0 H ι ws vs → RVs K H0 H ι (ws.set n w) (vs.set n v)
  | _, _, _, .nil => .nil
  | _, _, 0, .cons _ t => .cons r t
  | _, _, n + 1, .cons q t => .cons q (RVs.set r n t)

/-- fields, pairs of a dict -/
abbrev PF (K : PySem.W.Frag) (g : Gx) (H : Hp) (ι : List Addr) {κ : Type} : List (κ × Va) → List (κ × V) → Prop := Paired fun (p : κ × Va) (q : κ × V) => p.1 = q.1 ∧ RV K g.H0 H ι p.2 q.2
theorem PF.mono {κ : Type} (e : Ext K H ι H' ι') {fs : List (κ × Va)} {fs' : List (κ × V)} (h : PF K g H ι fs fs') : PF K g H' ι' fs fs' := Paired.mapP h fun _ _ q => ⟨q.1, q.2.mono e⟩
def RO (K : PySem.W.Frag) (g : Gx) (H : Hp) (ι : List Addr) : Ob → Addr → Prop
  | .lst ws, a => ∃ vs, H a = some (.lst vs) ∧ RVs K g.H0 H ι ws vs
  | .dct kvs, a => ∃ kvs', H a = some (.dK kvs') ∧ PF K g H ι kvs kvs'
  | .dtp kvs, a => ∃ kvs', H a = some (.dT kvs') ∧ PF K g H ι kvs kvs'
  | .ins c fs, a => ∃ dx fs', H a = some (.ins (g.cls c) dx fs') ∧ PF K g H ι fs fs'
/-- the kinds that stand in the store -/
def Own : HO → Bool
  | .lst _ => true
  | .dK _ => true
  | .dT _ => true
  | .ins _ _ _ => true
  | _ => false
theorem RO.own {o : Ob} {a : Addr} (h : RO K g H ι o a) : ∃ u, H a = some u ∧ Own u = true := by
  cases o with
  | lst ws => obtain ⟨vs, e, _⟩ := h; exact ⟨_, e, rfl⟩
  | dct ws => obtain ⟨vs, e, _⟩ := h; exact ⟨_, e, rfl⟩
  | dtp ws => obtain ⟨vs, e, _⟩ := h; exact ⟨_, e, rfl⟩
  | ins c fs => obtain ⟨dx, vs, e, _⟩ := h; exact ⟨_, e, rfl⟩
/-- an object elsewhere stays -/
theorem RO.keep {o : Ob} {a : Addr} (e : Ext K H ι H' ι') (ha : H' a = H a) (h : RO K g H ι o a) : RO K g H' ι' o a := by
  cases o with
  | lst ws => obtain ⟨vs, q, r⟩ := h; exact ⟨vs, ha.trans q, r.mono e⟩
  | dct ws => obtain ⟨vs, q, r⟩ := h; exact ⟨vs, ha.trans q, PF.mono e r⟩
  | dtp ws => obtain ⟨vs, q, r⟩ := h; exact ⟨vs, ha.trans q, PF.mono e r⟩
  | ins c fs => obtain ⟨dx, vs, q, r⟩ := h; exact ⟨dx, vs, ha.trans q, PF.mono e r⟩

structure RS (K : PySem.W.Frag) (g : Gx) (st : Sto) (H : Hp) (ι : List Addr) : Prop where
  len : ι.length = st.length
  nd : ι.Nodup
  old : ∀ b o, g.H0 b = some o → H b = some o
  new : ∀ a ∈ ι, g.H0 a = none
  obj : ∀ (n : Nat) o a, st[n]? = some o → ι[n]? = some a → RO K g H ι o a
  xds : ∀ p ∈ g.xs, H p.1 = some (.xd p.2)
theorem RS.at {st : Sto} (s : RS K g st H ι) {n : Nat} {o : Ob} (h : st[n]? = some o) : ∃ a, ι[n]? = some a ∧ RO K g H ι o a := by
  have hl : n < ι.length := by rw [s.len]; exact (List.getElem?_eq_some_iff.mp h).1
  exact ⟨ι[n], List.getElem?_eq_getElem hl, s.obj n o _ h (List.getElem?_eq_getElem hl)⟩
theorem RS.mem {st : Sto} (s : RS K g st H ι) {a : Addr} (h : a ∈ ι) : ∃ u, H a = some u ∧ Own u = true := by
  obtain ⟨n, hn, e⟩ := List.mem_iff_getElem.mp h
  have hs : n < st.length := by rw [← s.len]; exact hn
  exact (s.obj n _ a (List.getElem?_eq_getElem hs) (by rw [List.getElem?_eq_getElem hn, e])).own
theorem RS.fresh {st : Sto} (s : RS K g st H ι) {p : Addr} (h : H p = none) : p ∉ ι ∧ g.H0 p = none := by
  refine ⟨fun hm => ?_, ?_⟩
  · obtain ⟨u, e, _⟩ := s.mem hm
    rw [h] at e; cases e
  · cases q : g.H0 p with
    | none => rfl
    | some o =>
      have := s.old p o q
      rw [h] at this; cases this
theorem ext_new {p : Addr} {o : HO} (h : H p = none) (r : List Addr) : Ext K H ι (upd H p o) (ι ++ r) := ⟨⟨r, rfl⟩, fun a vs q => by rw [upd_ne (ne_of_none q h)]; exact q, fun a fs q => by rw [upd_ne (ne_of_none q h)]; exact q⟩
/-- something else is laid -/
theorem RS.other {st : Sto} (s : RS K g st H ι) {p : Addr} {o : HO} (h : H p = none) : RS K g st (upd H p o) ι := by
  obtain ⟨h1, h2⟩ := s.fresh h
  have e : Ext K H ι (upd H p o) ι := by simpa using ext_new (K := K) (ι := ι) (o := o) h []
  refine ⟨s.len, s.nd, fun b u q => ?_, s.new, fun n u a q1 q2 => ?_, ?_⟩
  · rw [upd_ne (fun z => by rw [z, h2] at q; cases q)]
    exact s.old b u q
  · have ha : a ∈ ι := List.mem_of_getElem? q2
    exact (s.obj n u a q1 q2).keep e (upd_ne fun z => h1 (z ▸ ha))
  · exact fun p hp => e.xd _ _ (s.xds p hp)
/-- a new object of the store -/
theorem RS.push {st : Sto} (s : RS K g st H ι) {p : Addr} {o : HO} {ob : Ob} (h : H p = none) (r : RO K g (upd H p o) (ι ++ [p]) ob p) : RS K g (st ++ [ob]) (upd H p o) (ι ++ [p]) := by
  obtain ⟨h1, h2⟩ := s.fresh h
  have e : Ext K H ι (upd H p o) (ι ++ [p]) := ext_new h [p]
  refine ⟨by simp [s.len], ?_, fun b u q => ?_, fun a ha => ?_, fun n u a q1 q2 => ?_, fun p hp => e.xd _ _ (s.xds p hp)⟩
  · rw [List.nodup_append]
    refine ⟨s.nd, List.nodup_cons.mpr ⟨by simp, List.nodup_nil⟩, fun a ha b hb => ?_⟩
    have : b = p := by simpa using hb
    subst this
    exact fun z => h1 (z ▸ ha)
  · rw [upd_ne (fun z => by rw [z, h2] at q; cases q)]
    exact s.old b u q
  · rcases List.mem_append.mp ha with ha | ha
    · exact s.new a ha
    · have : a = p := by simpa using ha
      subst this
      exact h2
  · by_cases hn : n < st.length
    · rw [List.getElem?_append_left hn] at q1
      rw [List.getElem?_append_left (by rw [s.len]; exact hn)] at q2
      have ha : a ∈ ι := List.mem_of_getElem? q2
      exact (s.obj n u a q1 q2).keep e (upd_ne fun z => h1 (z ▸ ha))
    · have hn' : n = st.length := by
        have := (List.getElem?_eq_some_iff.mp q1).1
        simp at this
        omega
      subst hn'
      have e1 : u = ob := by simpa using q1.symm
      have e2 : a = p := by rw [← s.len] at q2; simpa using q2.symm
      subst e1 e2
      exact r
theorem ext_own {n : Nat} {a : Addr} {u o : HO} {st : Sto} (s : RS K g st H ι) (hu : H a = some u) (ow : Own u = true) : Ext K H ι (upd H a o) ι := by
  have ne : ∀ (b : Addr) (z : HO), H b = some z → Own z = false → b ≠ a := fun b z hz hf e => by
    rw [e, hu] at hz
    cases hz
    rw [ow] at hf
    cases hf
  exact ⟨⟨[], by simp⟩, fun b vs q => (upd_ne (ne b _ q rfl)).trans q, fun b fs q => (upd_ne (ne b _ q rfl)).trans q⟩
/-- an object of the store is changed -/
theorem RS.put {st : Sto} (s : RS K g st H ι) {n : Nat} {a : Addr} {o : HO} {ob : Ob} (ha : ι[n]? = some a) (r : RO K g (upd H a o) ι ob a) : RS K g (st.set n ob) (upd H a o) ι := by
  have hm : a ∈ ι := List.mem_of_getElem? ha
  obtain ⟨u, hu, ow⟩ := s.mem hm
  have e : Ext K H ι (upd H a o) ι := ext_own (n := n) s hu ow
  refine ⟨by simp [s.len], s.nd, fun b u q => ?_, s.new, fun m u b q1 q2 => ?_, fun p hp => e.xd _ _ (s.xds p hp)⟩
  · rw [upd_ne (fun z => by rw [z, s.new a hm] at q; cases q)]
    exact s.old b u q
  · by_cases hmn : m = n
    · subst hmn
      rw [ha] at q2
      cases q2
      have hl : m < st.length := by rw [← s.len]; exact (List.getElem?_eq_some_iff.mp ha).1
      rw [List.getElem?_set_self hl] at q1
      cases q1
      exact r
    · rw [List.getElem?_set_ne (Ne.symm hmn)] at q1
      refine (s.obj m u b q1 q2).keep e (upd_ne fun z => hmn ?_)
      subst z
      obtain ⟨l1, e1⟩ := List.getElem?_eq_some_iff.mp ha
      obtain ⟨l2, e2⟩ := List.getElem?_eq_some_iff.mp q2
      exact (List.getElem_inj s.nd).mp (e2.trans e1.symm)

/-- the slots; .exn stands where the error is that a suite holds -/
def RE (K : PySem.W.Frag) (g : Gx) (H : Hp) (ι : List Addr) (env : En) (σ : L2.St) : Prop := env.length = σ.length ∧ (∀ (i : Nat) w, env[i]? = some (some w) → w ≠ .exn → ∃ v, σ[i]? = some (some v) ∧ RV K g.H0 H ι w v) ∧ ∀ (i : Nat) a, (i, a) ∈ g.es → env[i]? = some (some .exn) → σ[i]? = some (some (.ref a))
theorem RE.mono {env : En} {σ : L2.St} (h : RE K g H ι env σ) (e : Ext K H ι H' ι') : RE K g H' ι' env σ := ⟨h.1, fun i w q n => by
  obtain ⟨v, q1, q2⟩ := h.2.1 i w q n
  exact ⟨v, q1, q2.mono e⟩, h.2.2⟩
theorem RV.noExn {H0 : Hp} {v : V} {w : Va} (r : RV K H0 H ι w v) : w ≠ .exn := fun z => by subst z; cases r
theorem RE.set {env : En} {σ : L2.St} (h : RE K g H ι env σ) {w : Va} {v : V} (i : Nat) (r : RV K g.H0 H ι w v) : RE K g H ι (env.set i (some w)) (σ.set i (some v)) := by
  have self : ∀ {u : Va}, (env.set i (some w))[i]? = some (some u) → u = w ∧ i < env.length := fun {u} q => by
    have hl : i < env.length := by
      have := (List.getElem?_eq_some_iff.mp q).1
      simpa using this
    rw [List.getElem?_set_self hl] at q
    cases q
    exact ⟨rfl, hl⟩
  refine ⟨by simp [h.1], fun j u q n => ?_, fun j a m q => ?_⟩
  · by_cases hj : j = i
    · subst hj
      obtain ⟨rfl, hl⟩ := self q
      exact ⟨v, by rw [List.getElem?_set_self (by rw [← h.1]; exact hl)], r⟩
    · rw [List.getElem?_set_ne (Ne.symm hj)] at q
      obtain ⟨v', q1, q2⟩ := h.2.1 j u q n
      exact ⟨v', by rw [List.getElem?_set_ne (Ne.symm hj)]; exact q1, q2⟩
  · by_cases hj : j = i
    · subst hj
      obtain ⟨z, _⟩ := self q
      exact absurd z.symm r.noExn
    · rw [List.getElem?_set_ne (Ne.symm hj)] at q
      rw [List.getElem?_set_ne (Ne.symm hj)]
      exact h.2.2 j a m q
theorem RE.clear {env : En} {σ : L2.St} (h : RE K g H ι env σ) (i : Nat) {x : Option V} : RE K g H ι (env.set i none) (σ.set i x) := by
  have self : ∀ {u : Va}, (env.set i none)[i]? = some (some u) → False := fun {u} q => by
    have hl : i < env.length := by
      have := (List.getElem?_eq_some_iff.mp q).1
      simpa using this
    rw [List.getElem?_set_self hl] at q
    cases q
  refine ⟨by simp [h.1], fun j u q n => ?_, fun j a m q => ?_⟩
  · by_cases hj : j = i
    · subst hj
      exact (self q).elim
    · rw [List.getElem?_set_ne (Ne.symm hj)] at q
      obtain ⟨v', q1, q2⟩ := h.2.1 j u q n
      exact ⟨v', by rw [List.getElem?_set_ne (Ne.symm hj)]; exact q1, q2⟩
  · by_cases hj : j = i
    · subst hj
      exact (self q).elim
    · rw [List.getElem?_set_ne (Ne.symm hj)] at q
      rw [List.getElem?_set_ne (Ne.symm hj)]
      exact h.2.2 j a m q
end

/-! ### what is wanted of a result -/
section
variable {K : PySem.W.Frag} {g : Gx}
abbrev Rel (α β : Type) := Hp → List Addr → α → β → Prop
def Pst {α β : Type} (K : PySem.W.Frag) (g : Gx) (rel : Rel α β) (r : Rs α) (H : Hp) (ι : List Addr) (Q : β → Hp → Prop) (E : XK) : Prop :=
  match r with
  | .ok a st => ∀ H' ι' b, Ext K H ι H' ι' → RS K g st H' ι' → rel H' ι' a b → Q b H'
  | .exc c fs st => ∀ H' ι' d fs', Ext K H ι H' ι' → RS K g st H' ι' → H' d = some (.xd fs') → PF K g H' ι' fs fs' → E (.ref (g.cls c)) (some d) H'
  | .no => False
theorem Pst.shift {α β : Type} {rel : Rel α β} {r : Rs α} {H H1 : Hp} {ι ι1 : List Addr} {Q : β → Hp → Prop} {E : XK} (h : Pst K g rel r H ι Q E) (e : Ext K H ι H1 ι1) : Pst K g rel r H1 ι1 Q E := by
  cases r with
  | ok a st => exact fun H' ι' b e' => h H' ι' b (e.trans e')
  | exc c fs st => exact fun H' ι' d fs' e' => h H' ι' d fs' (e.trans e')
  | no => exact h
theorem Pst.bind {α β α' β' : Type} {rel : Rel α β} {rel' : Rel α' β'} {r : Rs α} {f : α → Mo α'} {H : Hp} {ι : List Addr} {Q : β' → Hp → Prop} {E : XK} (h : Pst K g rel' (bnd r f) H ι Q E) :
    Pst K g rel r H ι (fun b H1 => ∃ a st1 ι1, Ext K H ι H1 ι1 ∧ RS K g st1 H1 ι1 ∧ rel H1 ι1 a b ∧ Pst K g rel' (f a st1) H1 ι1 Q E) E := by
  cases r with
  | ok a st => exact fun H' ι' b e rs rv => ⟨a, st, ι', e, rs, rv, Pst.shift (show Pst K g rel' (f a st) H ι Q E from h) e⟩
  | exc c fs st => exact h
  | no => exact h
theorem Pst.imp {α β : Type} {rel : Rel α β} {r : Rs α} {H : Hp} {ι : List Addr} {Q Q' : β → Hp → Prop} {E E' : XK} (h : Pst K g rel r H ι Q E) (hQ : ∀ b H', Q b H' → Q' b H') (hE : ∀ c d H', E c d H' → E' c d H') : Pst K g rel r H ι Q' E' := by
  cases r with
  | ok a st => exact fun H' ι' b e rs rv => hQ _ _ (h H' ι' b e rs rv)
  | exc c fs st => exact fun H' ι' d fs' e rs hd pf => hE _ _ _ (h H' ι' d fs' e rs hd pf)
  | no => exact h

/-! ### the judgements -/
def tG {α β : Type} (K : PySem.W.Frag) (g : Gx) (W : WX) (rel : Rel α β) (m : En → Mo α) : L2.St → Hp → (β → Hp → Prop) → Prop := fun σ H Q =>
  ∃ env st ι, RS K g st H ι ∧ RE K g H ι env σ ∧ Pst K g rel (m env st) H ι Q (fun c d H' => W c d σ H')
abbrev rV (K : PySem.W.Frag) (g : Gx) : Rel Va V := fun H ι w v => RV K g.H0 H ι w v
abbrev rVs (K : PySem.W.Frag) (g : Gx) : Rel (List Va) (List V) := fun H ι w v => RVs K g.H0 H ι w v
abbrev rB : Rel Bool Bool := fun _ _ a b => a = b
structure JE (X : Cx) (g : Gx) (W : WX) (e : Expr) (m : En → Mo Va) : Prop where
  pe : PE X e (tG X.K g W (rV X.K g) m)
structure JT (X : Cx) (g : Gx) (W : WX) (e : Expr) (m : En → Mo Bool) : Prop where
  pt : PT X e (tG X.K g W rB m)
structure JW (X : Cx) (g : Gx) (W : WX) (e : Expr) (m : En → Mo Bool) : Prop where
  pw : PW X e (tG X.K g W rB m)
structure JA (X : Cx) (g : Gx) (W : WX) (es : List Expr) (m : En → Mo (List Va)) : Prop where
  pa : PA X es (tG X.K g W (rVs X.K g) m)
theorem PE.imp {X : Cx} {e : Expr} {t t' : TE} (h : PE X e t) (i : ∀ σ H Q, t' σ H Q → t σ H Q) : PE X e t' := ⟨fun pins s σ H Q I q => h.run pins s σ H Q I (i σ H Q q)⟩
theorem PT.imp {X : Cx} {e : Expr} {t t' : TT} (h : PT X e t) (i : ∀ σ H Q, t' σ H Q → t σ H Q) : PT X e t' := ⟨fun pins s σ H Q I q => h.run pins s σ H Q I (i σ H Q q)⟩
theorem PW.imp {X : Cx} {e : Expr} {t t' : TT} (h : PW X e t) (i : ∀ σ H Q, t' σ H Q → t σ H Q) : PW X e t' := ⟨fun wh pins s σ H Q I q => h.run wh pins s σ H Q I (i σ H Q q)⟩
theorem PA.imp {X : Cx} {e : List Expr} {t t' : TA} (h : PA X e t) (i : ∀ σ H Q, t' σ H Q → t σ H Q) : PA X e t' := ⟨fun pos pins s σ H Q I q => h.run pos pins s σ H Q I (i σ H Q q)⟩
theorem PS.imp {X : Cx} {e : Stmt} {t t' : TS} (h : PS X e t) (i : ∀ D σ H, t' D σ H → t D σ H) : PS X e t' := ⟨fun pins s σ H D I q => h.run pins s σ H D I (i D σ H q)⟩
theorem PSs.imp {X : Cx} {e : List Stmt} {t t' : TS} (h : PSs X e t) (i : ∀ D σ H, t' D σ H → t D σ H) : PSs X e t' := ⟨fun pins s σ H D I q => h.run pins s σ H D I (i D σ H q)⟩

section
variable {X : Cx} {W : WX} {σ : L2.St} {H : Hp}
/-- a value that needs no heap -/
theorem tG_ok {α β : Type} {rel : Rel α β} {m : En → Mo α} {Q : β → Hp → Prop} {f : En → α} {b : β} (h : tG K g W rel m σ H Q) (hm : ∀ env st, m env st = .ok (f env) st)
    (hr : ∀ env st ι, RS K g st H ι → RE K g H ι env σ → rel H ι (f env) b) : Q b H := by
  obtain ⟨env, st, ι, rs, re, p⟩ := h
  rw [hm] at p
  exact p H ι b Ext.refl rs (hr env st ι rs re)
/-- the general step: first m1, then what follows -/
theorem tG_bind {α β α' β' : Type} {rel : Rel α β} {rel' : Rel α' β'} {m1 : En → Mo α} {f : En → α → Mo α'} {Q : β' → Hp → Prop} (h : tG K g W rel' (fun env st => bnd (m1 env st) (f env)) σ H Q) :
    tG K g W rel m1 σ H (fun b H1 => ∃ env a st1 ι1, RS K g st1 H1 ι1 ∧ RE K g H1 ι1 env σ ∧ rel H1 ι1 a b ∧ Pst K g rel' (f env a st1) H1 ι1 Q (fun c d H' => W c d σ H')) := by
  obtain ⟨env, st, ι, rs, re, p⟩ := h
  refine ⟨env, st, ι, rs, re, ?_⟩
  refine (Pst.bind (rel := rel) p).imp (fun b H1 q => ?_) fun _ _ _ q => q
  obtain ⟨a, st1, ι1, e, rs1, r1, p1⟩ := q
  exact ⟨env, a, st1, ι1, rs1, re.mono e, r1, p1⟩
end
end
end Sh

set_option Elab.async false
set_option linter.all false
set_option maxRecDepth 100000
set_option maxHeartbeats 4000000
namespace Sh
open PySem PySem.Spec PyProof.Rows L2

/-! ### names, constants -/
def eVar (i : Nat) : En → Mo Va := fun env st => match env[i]? with
  | some (some .exn) => .no
  | some (some w) => .ok w st
  | _ => .no
def eC (w : Va) : En → Mo Va := fun _ st => .ok w st
/-- two in a row -/
def e2 {α : Type} (op : Va → Va → Mo α) (a b : En → Mo Va) : En → Mo α := fun env st => bnd (a env st) fun x st1 => bnd (b env st1) fun y st2 => op x y st2
def e1 {α : Type} (op : Va → Mo α) (a : En → Mo Va) : En → Mo α := fun env st => bnd (a env st) op
def aNil : En → Mo (List Va) := fun _ st => .ok [] st
def aCons (a : En → Mo Va) (r : En → Mo (List Va)) : En → Mo (List Va) := fun env st => bnd (a env st) fun x st1 => bnd (r env st1) fun xs st2 => .ok (x :: xs) st2
def eA {α : Type} (op : List Va → Mo α) (a : En → Mo (List Va)) : En → Mo α := fun env st => bnd (a env st) op

def OpS (X : Cx) (g : Gx) (f : Value → Value → Sem Value) (op : Va → Va → Mo Va) : Prop :=
  OpR X f fun x y H Q => ∃ st ι w1 w2, RS X.K g st H ι ∧ RV X.K g.H0 H ι w1 x ∧ RV X.K g.H0 H ι w2 y ∧ Pst X.K g (rV X.K g) (op w1 w2 st) H ι Q (fun _ _ _ => False)
def CallS (X : Cx) (g : Gx) (f : Value) (op : List Va → Mo Va) : Prop :=
  CallR X f fun xs H Q => ∃ st ι ws, RS X.K g st H ι ∧ RVs X.K g.H0 H ι ws xs ∧ Pst X.K g (rV X.K g) (op ws st) H ι Q (fun _ _ _ => False)
/-- no error is made -/
def NoX {α : Type} (r : Rs α) : Prop := ∀ c fs st, r ≠ .exc c fs st
theorem Pst.nox {α β : Type} {K : PySem.W.Frag} {g : Gx} {rel : Rel α β} {r : Rs α} {H : Hp} {ι : List Addr} {Q : β → Hp → Prop} {E E' : XK} (n : NoX r) (h : Pst K g rel r H ι Q E) : Pst K g rel r H ι Q E' := by
  cases r with
  | ok a st => exact h
  | exc c fs st => exact absurd rfl (n c fs st)
  | no => exact h

section
variable {X : Cx} {g : Gx} {W : WX} {a b c : Expr} {ma mb mc : En → Mo Va} {pos : Pos}

theorem j_var (i : Nat) {x : Str} (hN : X.N[i]? = some x := by rfl) (hv : Vis X.env.scope x := by first | exact Or.inl rfl | exact Or.inr (Or.inl rfl) | exact Or.inr (Or.inr rfl)) (hd : (x == ("__debug__" : Str)) = false := by decide)
    (hcd : (x == ("__classdict__" : Str)) = false := by decide) : JE X g W (.Name x pos) (eVar i) := ⟨PE.imp (pe_var hN hv hd hcd) fun σ H Q h => by
  obtain ⟨env, st, ι, rs, re, p⟩ := h
  unfold eVar at p
  split at p
  · exact (show False from p).elim
  · rename_i w n e
    obtain ⟨v, q1, q2⟩ := re.2.1 i w e fun z => n z
    exact ⟨v, q1, p H ι v Ext.refl rs q2⟩
  · exact (show False from p).elim⟩
theorem j_c {e : Expr} {v : V} {w : Va} (h : PE X e (tC v)) (r : ∀ H ι, RV X.K g.H0 H ι w v) : JE X g W e (eC w) := ⟨PE.imp h fun σ H Q h => by
  obtain ⟨env, st, ι, rs, re, p⟩ := h
  exact p H ι v Ext.refl rs (r H ι)⟩
theorem j_int {i j} : JE X g W (.Constant (.int i) j pos) (eC (.int i)) := j_c pe_int fun _ _ => .int i
theorem j_bl {i j} : JE X g W (.Constant (.bool i) j pos) (eC (.bl i)) := j_c pe_bl fun _ _ => .bl i
theorem j_non {j} : JE X g W (.Constant .none j pos) (eC .non) := j_c pe_non fun _ _ => .non
theorem j_str {i j} : JE X g W (.Constant (.str i) j pos) (eC (.str i)) := j_c pe_str fun _ _ => .str i
/-- what the module's name holds -/
def GV (K : PySem.W.Frag) (mg : Str → Option Value) (x : Str) (w : Va) : Prop := ∃ u v, mg x = some u ∧ RelV v u ∧ ∀ (g : Gx) H ι, RV K g.H0 H ι w v
theorem j_glob {x : Str} {w : Va} (h : GV X.K X.mg x w) (hg : Gl X x := by rfl) (hd : (x == ("__debug__" : Str)) = false := by decide) : JE X g W (.Name x pos) (eC w) := by
  obtain ⟨u, v, hm, r, rv⟩ := h
  exact j_c (pe_glob hg hm r hd) (rv g)
/-- a built-in type as a value (for isinstance) -/
theorem j_type {x : Str} {T : String} (hm : X.mg x = none) (hv : bootBuiltins x = some (.type T)) (hg : Gl X x := by rfl) (hn : x ≠ "__name__" := by decide) (hd : (x == ("__debug__" : Str)) = false := by decide) : JE X g W (.Name x pos) (eC (.cst (.ty T))) :=
  j_c (pe_bltn (v := .ty T) hg hm hv rfl hn hd) fun _ _ => .cst _

theorem pst_e2 {α β : Type} {rel : Rel α β} {op : Va → Va → Mo α} {σ : L2.St} {H : Hp} {Q : β → Hp → Prop} (h : tG X.K g W rel (e2 op ma mb) σ H Q) :
    tG X.K g W (rV X.K g) ma σ H fun x H1 => tG X.K g W (rV X.K g) mb σ H1 fun y H2 => ∃ st ι w1 w2, RS X.K g st H2 ι ∧ RV X.K g.H0 H2 ι w1 x ∧ RV X.K g.H0 H2 ι w2 y ∧ Pst X.K g rel (op w1 w2 st) H2 ι Q (fun c d H' => W c d σ H') := by
  obtain ⟨env, st, ι, rs, re, p⟩ := h
  refine ⟨env, st, ι, rs, re, ?_⟩
  refine (Pst.bind (rel := rV X.K g) p).imp (fun x H1 q => ?_) fun _ _ _ q => q
  obtain ⟨w1, st1, ι1, ex, rs1, r1, p1⟩ := q
  refine ⟨env, st1, ι1, rs1, re.mono ex, ?_⟩
  refine (Pst.bind (rel := rV X.K g) p1).imp (fun y H2 q => ?_) fun _ _ _ q => q
  obtain ⟨w2, st2, ι2, ex2, rs2, r2, p2⟩ := q
  exact ⟨st2, ι2, w1, w2, rs2, r1.mono ex2, r2, p2⟩
theorem pst_e1 {α β : Type} {rel : Rel α β} {op : Va → Mo α} {σ : L2.St} {H : Hp} {Q : β → Hp → Prop} (h : tG X.K g W rel (e1 op ma) σ H Q) :
    tG X.K g W (rV X.K g) ma σ H fun x H1 => ∃ st ι w1, RS X.K g st H1 ι ∧ RV X.K g.H0 H1 ι w1 x ∧ Pst X.K g rel (op w1 st) H1 ι Q (fun c d H' => W c d σ H') := by
  obtain ⟨env, st, ι, rs, re, p⟩ := h
  refine ⟨env, st, ι, rs, re, ?_⟩
  refine (Pst.bind (rel := rV X.K g) p).imp (fun x H1 q => ?_) fun _ _ _ q => q
  obtain ⟨w1, st1, ι1, ex, rs1, r1, p1⟩ := q
  exact ⟨st1, ι1, w1, rs1, r1, p1⟩
theorem pst_eA {α β : Type} {rel : Rel α β} {op : List Va → Mo α} {mA : En → Mo (List Va)} {σ : L2.St} {H : Hp} {Q : β → Hp → Prop} (h : tG X.K g W rel (eA op mA) σ H Q) :
    tG X.K g W (rVs X.K g) mA σ H fun xs H1 => ∃ st ι ws, RS X.K g st H1 ι ∧ RVs X.K g.H0 H1 ι ws xs ∧ Pst X.K g rel (op ws st) H1 ι Q (fun c d H' => W c d σ H') := by
  obtain ⟨env, st, ι, rs, re, p⟩ := h
  refine ⟨env, st, ι, rs, re, ?_⟩
  refine (Pst.bind (rel := rVs X.K g) p).imp (fun x H1 q => ?_) fun _ _ _ q => q
  obtain ⟨w1, st1, ι1, ex, rs1, r1, p1⟩ := q
  exact ⟨st1, ι1, w1, rs1, r1, p1⟩
/-- the op makes no error -/
def NoX2 (op : Va → Va → Mo Va) : Prop := ∀ a b st, NoX (op a b st)
def NoXA (op : List Va → Mo Va) : Prop := ∀ a st, NoX (op a st)
theorem j_op {o : Operator} {op : Va → Va → Mo Va} (ho : OpS X g (binaryOp o) op) (n : NoX2 op) (ha : JE X g W a ma) (hb : JE X g W b mb) : JE X g W (.BinOp a o b pos) (e2 op ma mb) :=
  ⟨PE.imp (pe_op ho ha.pe hb.pe) fun σ H Q h => by
    obtain ⟨env, st, ι, rs, re, p⟩ := pst_e2 h
    refine ⟨env, st, ι, rs, re, p.imp (fun x H1 q => ?_) fun _ _ _ q => q⟩
    obtain ⟨env1, st1, ι1, rs1, re1, p1⟩ := q
    refine ⟨env1, st1, ι1, rs1, re1, p1.imp (fun y H2 q => ?_) fun _ _ _ q => q⟩
    obtain ⟨st2, ι2, w1, w2, rs2, r1, r2, p2⟩ := q
    exact ⟨st2, ι2, w1, w2, rs2, r1, r2, p2.nox (n _ _ _)⟩⟩
theorem j_cmp {o : CmpOp} {op : Va → Va → Mo Va} (ho : OpS X g (compareOp o) op) (n : NoX2 op) (ha : JE X g W a ma) (hb : JE X g W b mb) (hm : behindInMarks o b = false := by first | exact nomark _ | with_unfolding_all rfl) : JE X g W (.Compare a [o] [b] pos) (e2 op ma mb) :=
  ⟨PE.imp (pe_cmpR ho ha.pe hb.pe hm) fun σ H Q h => by
    obtain ⟨env, st, ι, rs, re, p⟩ := pst_e2 h
    refine ⟨env, st, ι, rs, re, p.imp (fun x H1 q => ?_) fun _ _ _ q => q⟩
    obtain ⟨env1, st1, ι1, rs1, re1, p1⟩ := q
    refine ⟨env1, st1, ι1, rs1, re1, p1.imp (fun y H2 q => ?_) fun _ _ _ q => q⟩
    obtain ⟨st2, ι2, w1, w2, rs2, r1, r2, p2⟩ := q
    exact ⟨st2, ι2, w1, w2, rs2, r1, r2, p2.nox (n _ _ _)⟩⟩

/-! ### tests -/
def tBl (r : Rs Va) : Rs Bool := bnd r fun w st => match w with
  | .bl b => .ok b st
  | _ => .no
/-- a test that is a comparison, and the like: its value is a bool -/
def eT (m : En → Mo Va) : En → Mo Bool := fun env st => tBl (m env st)
theorem tG_T {m : En → Mo Va} {σ : L2.St} {H : Hp} {Q : Bool → Hp → Prop} (h : tG X.K g W rB (eT m) σ H Q) : tG X.K g W (rV X.K g) m σ H fun x H1 => ∃ k, x = .bl k ∧ Q k H1 := by
  obtain ⟨env, st, ι, rs, re, p⟩ := h
  refine ⟨env, st, ι, rs, re, ?_⟩
  refine (Pst.bind (rel := rV X.K g) p).imp (fun x H1 q => ?_) fun _ _ _ q => q
  obtain ⟨w, st1, ι1, ex, rs1, r1, p1⟩ := q
  cases w with
  | bl k =>
    cases r1
    exact ⟨k, rfl, p1 H1 ι1 k Ext.refl rs1 rfl⟩
  | _ => exact (show False from p1).elim
theorem jt_cmp {o : CmpOp} {op : Va → Va → Mo Va} (ho : OpS X g (compareOp o) op) (n : NoX2 op) (ha : JE X g W a ma) (hb : JE X g W b mb) (hm : behindInMarks o b = false := by first | exact nomark _ | with_unfolding_all rfl) : JT X g W (.Compare a [o] [b] pos) (eT (e2 op ma mb)) :=
  ⟨PT.imp (pt_cmpR ho ha.pe hb.pe hm) fun σ H Q h => by
    obtain ⟨env, st, ι, rs, re, p⟩ := pst_e2 (tG_T h)
    refine ⟨env, st, ι, rs, re, p.imp (fun x H1 q => ?_) fun _ _ _ q => q⟩
    obtain ⟨env1, st1, ι1, rs1, re1, p1⟩ := q
    refine ⟨env1, st1, ι1, rs1, re1, p1.imp (fun y H2 q => ?_) fun _ _ _ q => q⟩
    obtain ⟨st2, ι2, w1, w2, rs2, r1, r2, p2⟩ := q
    exact ⟨st2, ι2, w1, w2, rs2, r1, r2, p2.nox (n _ _ _)⟩⟩
theorem jt_val {e : Expr} {m : En → Mo Va} (h : JE X g W e m) (he : ∀ whole, isTrue e X.env whole = (do let v ← whole; standAt e.pos; holding [v] (truthy v)) := by intro _; rfl) : JT X g W e (eT m) :=
  ⟨PT.imp (pt_val h.pe he) fun σ H Q q => tG_T q⟩
def eNot (m : En → Mo Bool) : En → Mo Bool := fun env st => bnd (m env st) fun b st1 => .ok (!b) st1
def eAnd (m n : En → Mo Bool) : En → Mo Bool := fun env st => bnd (m env st) fun b st1 => if b = true then n env st1 else .ok false st1
def eOr (m n : En → Mo Bool) : En → Mo Bool := fun env st => bnd (m env st) fun b st1 => if b = true then .ok true st1 else n env st1
theorem jt_not {m : En → Mo Bool} (h : JT X g W a m) : JT X g W (.UnaryOp .Not a pos) (eNot m) := ⟨PT.imp (pt_not h.pt) fun σ H Q q => by
  obtain ⟨env, st, ι, rs, re, p⟩ := q
  refine ⟨env, st, ι, rs, re, (Pst.bind (rel := rB) p).imp (fun x H1 q => ?_) fun _ _ _ q => q⟩
  obtain ⟨w, st1, ι1, ex, rs1, r1, p1⟩ := q
  obtain rfl : w = x := r1
  exact p1 H1 ι1 _ Ext.refl rs1 rfl⟩
theorem tG_and {m n : En → Mo Bool} {σ : L2.St} {H : Hp} {Q : Bool → Hp → Prop} (h : tG X.K g W rB (eAnd m n) σ H Q) : tG X.K g W rB m σ H fun c H1 => if c = true then tG X.K g W rB n σ H1 Q else Q false H1 := by
  obtain ⟨env, st, ι, rs, re, p⟩ := h
  refine ⟨env, st, ι, rs, re, (Pst.bind (rel := rB) p).imp (fun x H1 q => ?_) fun _ _ _ q => q⟩
  obtain ⟨w, st1, ι1, ex, rs1, r1, p1⟩ := q
  obtain rfl : w = x := r1
  cases w with
  | true =>
    rw [if_pos rfl] at p1 ⊢
    exact ⟨env, st1, ι1, rs1, re.mono ex, p1⟩
  | false =>
    rw [if_neg Bool.false_ne_true] at p1 ⊢
    exact p1 H1 ι1 _ Ext.refl rs1 rfl
theorem tG_or {m n : En → Mo Bool} {σ : L2.St} {H : Hp} {Q : Bool → Hp → Prop} (h : tG X.K g W rB (eOr m n) σ H Q) : tG X.K g W rB m σ H fun c H1 => if c = true then Q true H1 else tG X.K g W rB n σ H1 Q := by
  obtain ⟨env, st, ι, rs, re, p⟩ := h
  refine ⟨env, st, ι, rs, re, (Pst.bind (rel := rB) p).imp (fun x H1 q => ?_) fun _ _ _ q => q⟩
  obtain ⟨w, st1, ι1, ex, rs1, r1, p1⟩ := q
  obtain rfl : w = x := r1
  cases w with
  | false =>
    rw [if_neg Bool.false_ne_true] at p1 ⊢
    exact ⟨env, st1, ι1, rs1, re.mono ex, p1⟩
  | true =>
    rw [if_pos rfl] at p1 ⊢
    exact p1 H1 ι1 _ Ext.refl rs1 rfl
theorem jw_and1 {m : En → Mo Bool} (h : JT X g W a m) : JW X g W (.BoolOp .And [a] pos) m := ⟨pw_and1 h.pt⟩
theorem jw_or1 {m : En → Mo Bool} (h : JT X g W a m) : JW X g W (.BoolOp .Or [a] pos) m := ⟨pw_or1 h.pt⟩
theorem jw_and {m n : En → Mo Bool} {rest : List Expr} (h : JT X g W a m) (h2 : JW X g W (.BoolOp .And (b :: rest) pos) n) : JW X g W (.BoolOp .And (a :: b :: rest) pos) (eAnd m n) :=
  ⟨PW.imp (pw_and h.pt h2.pw) fun σ H Q q => tG_and q⟩
theorem jw_or {m n : En → Mo Bool} {rest : List Expr} (h : JT X g W a m) (h2 : JW X g W (.BoolOp .Or (b :: rest) pos) n) : JW X g W (.BoolOp .Or (a :: b :: rest) pos) (eOr m n) :=
  ⟨PW.imp (pw_or h.pt h2.pw) fun σ H Q q => tG_or q⟩
theorem jt_w {e : Expr} {m : En → Mo Bool} (h : JW X g W e m) : JT X g W e m := ⟨h.pw.pt⟩
/-- and, or, not as values, of bools -/
def eBl (m : En → Mo Bool) : En → Mo Va := fun env st => bnd (m env st) fun b st1 => .ok (.bl b) st1
def vAnd (m n : En → Mo Va) : En → Mo Va := fun env st => bnd (m env st) fun w st1 => match w with
  | .bl true => n env st1
  | .bl false => .ok (.bl false) st1
  | _ => .no
def vOr (m n : En → Mo Va) : En → Mo Va := fun env st => bnd (m env st) fun w st1 => match w with
  | .bl false => n env st1
  | .bl true => .ok (.bl true) st1
  | _ => .no
def vNot (m : En → Mo Va) : En → Mo Va := fun env st => bnd (m env st) fun w st1 => match w with
  | .bl b => .ok (.bl (!b)) st1
  | _ => .no
theorem j_one {o} (h : JE X g W a ma) : JE X g W (.BoolOp o [a] pos) ma := ⟨pe_one h.pe⟩
theorem j_and {rest : List Expr} (h : JE X g W a ma) (h2 : JE X g W (.BoolOp .And (b :: rest) pos) mb) : JE X g W (.BoolOp .And (a :: b :: rest) pos) (vAnd ma mb) :=
  ⟨PE.imp (pe_and h.pe h2.pe) fun σ H Q q => by
    obtain ⟨env, st, ι, rs, re, p⟩ := q
    refine ⟨env, st, ι, rs, re, (Pst.bind (rel := rV X.K g) p).imp (fun x H1 q => ?_) fun _ _ _ q => q⟩
    obtain ⟨w, st1, ι1, ex, rs1, r1, p1⟩ := q
    cases w with
    | bl k =>
      cases r1
      refine ⟨k, rfl, ?_⟩
      cases k with
      | true => exact iteT ⟨env, st1, ι1, rs1, re.mono ex, p1⟩
      | false => exact iteF (p1 H1 ι1 _ Ext.refl rs1 (.bl _))
    | _ => exact (show False from p1).elim⟩
theorem j_or {rest : List Expr} (h : JE X g W a ma) (h2 : JE X g W (.BoolOp .Or (b :: rest) pos) mb) : JE X g W (.BoolOp .Or (a :: b :: rest) pos) (vOr ma mb) :=
  ⟨PE.imp (pe_or h.pe h2.pe) fun σ H Q q => by
    obtain ⟨env, st, ι, rs, re, p⟩ := q
    refine ⟨env, st, ι, rs, re, (Pst.bind (rel := rV X.K g) p).imp (fun x H1 q => ?_) fun _ _ _ q => q⟩
    obtain ⟨w, st1, ι1, ex, rs1, r1, p1⟩ := q
    cases w with
    | bl k =>
      cases r1
      refine ⟨k, rfl, ?_⟩
      cases k with
      | false => exact iteF ⟨env, st1, ι1, rs1, re.mono ex, p1⟩
      | true => exact iteT (p1 H1 ι1 _ Ext.refl rs1 (.bl _))
    | _ => exact (show False from p1).elim⟩
theorem j_not (h : JE X g W a ma) : JE X g W (.UnaryOp .Not a pos) (vNot ma) :=
  ⟨PE.imp (pe_not h.pe) fun σ H Q q => by
    obtain ⟨env, st, ι, rs, re, p⟩ := q
    refine ⟨env, st, ι, rs, re, (Pst.bind (rel := rV X.K g) p).imp (fun x H1 q => ?_) fun _ _ _ q => q⟩
    obtain ⟨w, st1, ι1, ex, rs1, r1, p1⟩ := q
    cases w with
    | bl k =>
      cases r1
      exact ⟨k, rfl, p1 H1 ι1 _ Ext.refl rs1 (.bl _)⟩
    | _ => exact (show False from p1).elim⟩
def eIf (t : En → Mo Bool) (m n : En → Mo Va) : En → Mo Va := fun env st => bnd (t env st) fun b st1 => if b = true then m env st1 else n env st1
theorem j_if {mt : En → Mo Bool} (ht : JT X g W c mt) (ha : JE X g W a ma) (hb : JE X g W b mb) : JE X g W (.IfExp c a b pos) (eIf mt ma mb) :=
  ⟨PE.imp (pe_ifExp ht.pt ha.pe hb.pe) fun σ H Q q => by
    obtain ⟨env, st, ι, rs, re, p⟩ := q
    refine ⟨env, st, ι, rs, re, (Pst.bind (rel := rB) p).imp (fun x H1 q => ?_) fun _ _ _ q => q⟩
    obtain ⟨w, st1, ι1, ex, rs1, r1, p1⟩ := q
    obtain rfl : w = x := r1
    cases w with
    | true => exact iteT ⟨env, st1, ι1, rs1, re.mono ex, p1⟩
    | false => exact iteF ⟨env, st1, ι1, rs1, re.mono ex, p1⟩⟩
/-- a op1 b op2 c -/
def e3 (op op' : Va → Va → Mo Va) (ma mb mc : En → Mo Va) : En → Mo Va := fun env st => bnd (ma env st) fun x st1 => bnd (mb env st1) fun y st2 => bnd (op x y st2) fun z st3 => match z with
  | .bl true => bnd (mc env st3) fun w st4 => op' y w st4
  | .bl false => .ok (.bl false) st3
  | _ => .no
theorem tG_e3 {op op' : Va → Va → Mo Va} (n : NoX2 op) (n' : NoX2 op') {σ : L2.St} {H : Hp} {Q : VK} (h : tG X.K g W (rV X.K g) (e3 op op' ma mb mc) σ H Q) :
    tChain (fun x y H Q => ∃ st ι w1 w2, RS X.K g st H ι ∧ RV X.K g.H0 H ι w1 x ∧ RV X.K g.H0 H ι w2 y ∧ Pst X.K g (rV X.K g) (op w1 w2 st) H ι Q (fun _ _ _ => False))
      (fun x y H Q => ∃ st ι w1 w2, RS X.K g st H ι ∧ RV X.K g.H0 H ι w1 x ∧ RV X.K g.H0 H ι w2 y ∧ Pst X.K g (rV X.K g) (op' w1 w2 st) H ι Q (fun _ _ _ => False))
      (tG X.K g W (rV X.K g) ma) (tG X.K g W (rV X.K g) mb) (tG X.K g W (rV X.K g) mc) σ H Q := by
  obtain ⟨env, st, ι, rs, re, p⟩ := h
  refine ⟨env, st, ι, rs, re, (Pst.bind (rel := rV X.K g) p).imp (fun x H1 q => ?_) fun _ _ _ q => q⟩
  obtain ⟨w1, st1, ι1, ex1, rs1, r1, p1⟩ := q
  refine ⟨env, st1, ι1, rs1, re.mono ex1, (Pst.bind (rel := rV X.K g) p1).imp (fun y H2 q => ?_) fun _ _ _ q => q⟩
  obtain ⟨w2, st2, ι2, ex2, rs2, r2, p2⟩ := q
  refine ⟨st2, ι2, w1, w2, rs2, r1.mono ex2, r2, ?_⟩
  refine ((Pst.bind (rel := rV X.K g) p2).nox (E' := fun _ _ _ => False) (n _ _ _)).imp (fun z H3 q => ?_) fun _ _ _ q => q
  obtain ⟨w3, st3, ι3, ex3, rs3, r3, p3⟩ := q
  cases w3 with
  | bl k =>
    cases r3
    refine ⟨k, rfl, ?_⟩
    cases k with
    | false => exact iteF (p3 H3 ι3 _ Ext.refl rs3 (.bl _))
    | true =>
      refine iteT ⟨env, st3, ι3, rs3, (re.mono (ex1.trans ex2)).mono ex3, (Pst.bind (rel := rV X.K g) p3).imp (fun u H4 q => ?_) fun _ _ _ q => q⟩
      obtain ⟨w4, st4, ι4, ex4, rs4, r4, p4⟩ := q
      exact ⟨st4, ι4, w2, w4, rs4, (r2.mono ex3).mono ex4, r4, p4.nox (n' _ _ _)⟩
  | _ => exact (show False from p3).elim
theorem j_chain {o o' : CmpOp} {op op' : Va → Va → Mo Va} (ho : OpS X g (compareOp o) op) (n : NoX2 op) (ho' : OpS X g (compareOp o') op') (n' : NoX2 op') (ha : JE X g W a ma) (hb : JE X g W b mb) (hc : JE X g W c mc)
    (hm : lastMarks [o, o'] [b, c] = false := by with_unfolding_all rfl) : JE X g W (.Compare a [o, o'] [b, c] pos) (e3 op op' ma mb mc) :=
  ⟨PE.imp (pe_chain ho ho' ha.pe hb.pe hc.pe hm) fun σ H Q q => tG_e3 n n' q⟩
theorem jt_chain {o o' : CmpOp} {op op' : Va → Va → Mo Va} (ho : OpS X g (compareOp o) op) (n : NoX2 op) (ho' : OpS X g (compareOp o') op') (n' : NoX2 op') (ha : JE X g W a ma) (hb : JE X g W b mb) (hc : JE X g W c mc)
    (hm : lastMarks [o, o'] [b, c] = false := by with_unfolding_all rfl) : JT X g W (.Compare a [o, o'] [b, c] pos) (eT (e3 op op' ma mb mc)) :=
  ⟨PT.imp (pt_chain ho ho' ha.pe hb.pe hc.pe hm) fun σ H Q q => tG_e3 n n' (tG_T q)⟩

/-! ### arguments -/
theorem ja_nil : JA X g W [] aNil := ⟨PA.imp pa_nil fun σ H Q q => by
  obtain ⟨env, st, ι, rs, re, p⟩ := q
  exact p H ι _ Ext.refl rs .nil⟩
theorem ja_cons {es : List Expr} {mr : En → Mo (List Va)} (ha : JE X g W a ma) (hr : JA X g W es mr) (hs : starEach (a :: es) X.env = (false, eval a X.env) :: starEach es X.env := by rfl) : JA X g W (a :: es) (aCons ma mr) :=
  ⟨PA.imp (pa_cons ha.pe hr.pa hs) fun σ H Q q => by
    obtain ⟨env, st, ι, rs, re, p⟩ := q
    refine ⟨env, st, ι, rs, re, (Pst.bind (rel := rV X.K g) p).imp (fun x H1 q => ?_) fun _ _ _ q => q⟩
    obtain ⟨w1, st1, ι1, ex1, rs1, r1, p1⟩ := q
    refine ⟨env, st1, ι1, rs1, re.mono ex1, (Pst.bind (rel := rVs X.K g) p1).imp (fun y H2 q => ?_) fun _ _ _ q => q⟩
    obtain ⟨w2, st2, ι2, ex2, rs2, r2, p2⟩ := q
    exact p2 H2 ι2 _ Ext.refl rs2 (.cons (r1.mono ex2) r2)⟩
/-- displays -/
def opTup : List Va → Mo Va := fun ws st => if ws.length ≤ 1000 then .ok (.tup ws) st else .no
def opLst : List Va → Mo Va := fun ws st => if ws.length ≤ 1000 then .ok (.ref st.length) (st ++ [.lst ws]) else .no
theorem line1000 {n : Nat} (h : n ≤ 1000) : n ≤ sizeLine := Nat.le_of_lt (small1000 h)
theorem new_lst {st : Sto} {H : Hp} {ι : List Addr} {ws : List Va} {vs : List V} {p : Addr} (rs : RS X.K g st H ι) (r : RVs X.K g.H0 H ι ws vs) (hp : H p = none) :
    Ext X.K H ι (upd H p (.lst vs)) (ι ++ [p]) ∧ RS X.K g (st ++ [.lst ws]) (upd H p (.lst vs)) (ι ++ [p]) ∧ RV X.K g.H0 (upd H p (.lst vs)) (ι ++ [p]) (.ref st.length) (.ref p) := by
  have e : Ext X.K H ι (upd H p (.lst vs)) (ι ++ [p]) := ext_new hp [p]
  refine ⟨e, rs.push hp ⟨vs, upd_same, r.mono e⟩, .ref ?_⟩
  rw [← rs.len]
  simp
theorem new_tup {st : Sto} {H : Hp} {ι : List Addr} {ws : List Va} {vs : List V} {p : Addr} (rs : RS X.K g st H ι) (r : RVs X.K g.H0 H ι ws vs) (hp : H p = none) :
    Ext X.K H ι (upd H p (.tup vs)) ι ∧ RS X.K g st (upd H p (.tup vs)) ι ∧ RV X.K g.H0 (upd H p (.tup vs)) ι (.tup ws) (.ref p) := by
  have e : Ext X.K H ι (upd H p (.tup vs)) ι := by simpa using ext_new (K := X.K) (ι := ι) (o := .tup vs) hp []
  exact ⟨e, rs.other hp, .tup upd_same (r.mono e)⟩
theorem j_tup {es : List Expr} {m : En → Mo (List Va)} {x1 : Nat} (h : JA X g W es m) : JE X g W (.Tuple es x1 pos) (eA opTup m) := ⟨PE.imp (pe_tup h.pa) fun σ H Q q => by
  obtain ⟨env, st, ι, rs, re, p⟩ := pst_eA q
  refine ⟨env, st, ι, rs, re, p.imp (fun xs H1 q => ?_) fun _ _ _ q => q⟩
  obtain ⟨st1, ι1, ws, rs1, r1, p1⟩ := q
  unfold opTup at p1
  split at p1
  · rename_i hl
    refine ⟨line1000 (by rw [← r1.length]; exact hl), fun p hp => ?_⟩
    obtain ⟨x1, x2, x3⟩ := new_tup rs1 r1 hp
    exact p1 _ _ _ x1 x2 x3
  · exact (show False from p1).elim⟩
theorem j_lst {es : List Expr} {m : En → Mo (List Va)} (h : JA X g W es m) : JE X g W (.List es pos) (eA opLst m) := ⟨PE.imp (pe_lst h.pa) fun σ H Q q => by
  obtain ⟨env, st, ι, rs, re, p⟩ := pst_eA q
  refine ⟨env, st, ι, rs, re, p.imp (fun xs H1 q => ?_) fun _ _ _ q => q⟩
  obtain ⟨st1, ι1, ws, rs1, r1, p1⟩ := q
  unfold opLst at p1
  split at p1
  · rename_i hl
    refine ⟨line1000 (by rw [← r1.length]; exact hl), fun p hp => ?_⟩
    obtain ⟨x1, x2, x3⟩ := new_lst rs1 r1 hp
    exact p1 _ _ _ x1 x2 x3
  · exact (show False from p1).elim⟩
/-- built-ins by name -/
theorem j_callB {x : Str} {id : String} {p : Pos} {e : Expr} {es : List Expr} {op : List Va → Mo Va} {m : En → Mo (List Va)} (hc : CallS X g (.builtin id) op) (n : NoXA op) (hm : X.mg x = none) (hv : bootBuiltins x = some (.builtin id)) (ha : JA X g W (e :: es) m)
    (hg : Gl X x := by rfl) (hn : x ≠ "__name__" := by decide) (hdb : (x == ("__debug__" : Str)) = false := by decide) (hs : starEach (e :: es) X.env = (false, eval e X.env) :: starEach es X.env := by rfl) (hpl : (backTo pos (starEach es X.env)).any (·.1) = false := by rfl) :
    JE X g W (.Call (.Name x p) (e :: es) [] pos) (eA op m) := ⟨PE.imp (pe_callB hc hg hm hv ha.pa hn hdb hs hpl) fun σ H Q q => by
  obtain ⟨env, st, ι, rs, re, p⟩ := pst_eA q
  refine ⟨env, st, ι, rs, re, p.imp (fun xs H1 q => ?_) fun _ _ _ q => q⟩
  obtain ⟨st1, ι1, ws, rs1, r1, p1⟩ := q
  exact ⟨st1, ι1, ws, rs1, r1, p1.nox (n _ _)⟩⟩
theorem j_callTy {x : Str} {T : String} {p : Pos} {e : Expr} {es : List Expr} {op : List Va → Mo Va} {m : En → Mo (List Va)} (hc : CallS X g (.type T) op) (n : NoXA op) (hm : X.mg x = none) (hv : bootBuiltins x = some (.type T)) (ha : JA X g W (e :: es) m)
    (hg : Gl X x := by rfl) (hn : x ≠ "__name__" := by decide) (hdb : (x == ("__debug__" : Str)) = false := by decide) (hs : starEach (e :: es) X.env = (false, eval e X.env) :: starEach es X.env := by rfl) (hpl : (backTo pos (starEach es X.env)).any (·.1) = false := by rfl) :
    JE X g W (.Call (.Name x p) (e :: es) [] pos) (eA op m) := ⟨PE.imp (pe_callTy hc hg hm hv ha.pa hn hdb hs hpl) fun σ H Q q => by
  obtain ⟨env, st, ι, rs, re, p⟩ := pst_eA q
  refine ⟨env, st, ι, rs, re, p.imp (fun xs H1 q => ?_) fun _ _ _ q => q⟩
  obtain ⟨st1, ι1, ws, rs1, r1, p1⟩ := q
  exact ⟨st1, ι1, ws, rs1, r1, p1.nox (n _ _)⟩⟩
end
end Sh

set_option Elab.async false
set_option linter.all false
set_option maxRecDepth 100000
set_option maxHeartbeats 4000000
namespace Sh
open PySem PySem.Spec PyProof.Rows L2

/-! ### operators -/
def catW (a b : Va) (xs ys : List Va) : Va := match xs, ys with
  | [], _ => b
  | _ :: _, [] => a
  | _ :: _, _ :: _ => .tup (xs ++ ys)
def opAdd : Va → Va → Mo Va := fun a b st => match a, b with
  | .int i, .int j => .ok (.int (i + j)) st
  | .str x, .str y => if x.length + y.length ≤ 16777216 then .ok (.str (x ++ y)) st else .no
  | .tup xs, .tup ys => if xs.length + ys.length ≤ 16777216 then .ok (.tup (xs ++ ys)) st else .no
  | .ktp xs, .tup ys => if xs.length + ys.length ≤ 16777216 then .ok (catW (.ktp xs) (.tup ys) xs ys) st else .no
  | .tup xs, .ktp ys => if xs.length + ys.length ≤ 16777216 then .ok (catW (.tup xs) (.ktp ys) xs ys) st else .no
  | .ktp xs, .ktp ys => if xs.length + ys.length ≤ 16777216 then .ok (catW (.ktp xs) (.ktp ys) xs ys) st else .no
  | .ref m, .ref n => match st[m]?, st[n]? with
    | some (.lst xs), some (.lst ys) => if xs.length + ys.length ≤ 16777216 then .ok (.ref st.length) (st ++ [.lst (xs ++ ys)]) else .no
    | _, _ => .no
  | _, _ => .no
def opSub : Va → Va → Mo Va := fun a b st => match a, b with
  | .int i, .int j => .ok (.int (i - j)) st
  | _, _ => .no
def sm64 (i : Int) : Bool := decide (-(2 ^ 64) < i) && decide (i < 2 ^ 64)
def opMul : Va → Va → Mo Va := fun a b st => match a, b with
  | .int i, .int j => if sm64 i || sm64 j then .ok (.int (i * j)) st else .no
  | .ref m, .int k => match st[m]? with
    | some (.lst xs) => if -(2 ^ 63) ≤ k ∧ k < 2 ^ 63 ∧ xs.length * k.toNat ≤ 16777216 then .ok (.ref st.length) (st ++ [.lst (List.replicate k.toNat xs).flatten]) else .no
    | _ => .no
  | _, _ => .no
def opFdiv : Va → Va → Mo Va := fun a b st => match a, b with
  | .int i, .int j => if 0 < j ∧ j < 1073741824 then .ok (.int (i / j)) st else .no
  | _, _ => .no
def opMod : Va → Va → Mo Va := fun a b st => match a, b with
  | .int i, .int j => if 0 < j then .ok (.int (i % j)) st else .no
  | _, _ => .no
def opPow : Va → Va → Mo Va := fun a b st => match a, b with
  | .int i, .int j => if 0 ≤ j ∧ j ≤ 1000000 ∧ i.natAbs < 2 ^ 64 then .ok (.int (i ^ j.toNat)) st else .no
  | _, _ => .no
def opLt : Va → Va → Mo Va := fun a b st => match a, b with
  | .int i, .int j => .ok (.bl (decide (i < j))) st
  | _, _ => .no
def opGt : Va → Va → Mo Va := fun a b st => match a, b with
  | .int i, .int j => .ok (.bl (decide (j < i))) st
  | _, _ => .no
def opGe : Va → Va → Mo Va := fun a b st => match a, b with
  | .int i, .int j => .ok (.bl (decide (j ≤ i))) st
  | _, _ => .no
def opLe : Va → Va → Mo Va := fun a b st => match a, b with
  | .int i, .int j => .ok (.bl (decide (i ≤ j))) st
  | .str x, .str y => .ok (.bl (!decide (y.cps.toList < x.cps.toList))) st
  | _, _ => .no

/-! data -/
def datL (f : Va → Option PyData) : List Va → Option (List PyData)
  | [] => some []
  | w :: r => match f w, datL f r with
    | some d, some ds => some (d :: ds)
    | _, _ => none
def dat (st : Sto) : Nat → Va → Option PyData
  | 0, _ => none
  | n + 1, w => match w with
    | .non => some .none
    | .bl b => some (.bool b)
    | .int i => some (.int i)
    | .str s => some (.str s)
    | .tup ws => (datL (dat st n) ws).map .tuple
    | .scr ws => (datL (dat st n) ws).map .list
    | .ktp ws => (datL (dat st n) ws).map .tuple
    | .ref k => match st[k]? with
      | some (.lst ws) => (datL (dat st n) ws).map .list
      | _ => none
    | .cst _ => none
    | .exn => none
def flatW : Va → Bool
  | .non => true
  | .bl _ => true
  | .int _ => true
  | .str _ => true
  | _ => false
def eqW : Va → Va → Bool
  | .non, .non => true
  | .bl a, .bl b => a == b
  | .bl a, .int b => (if a then 1 else 0) == b
  | .int a, .bl b => a == (if b then 1 else 0)
  | .int a, .int b => a == b
  | .str a, .str b => a == b
  | _, _ => false
def scalW : Va → Va → Bool
  | .non, .non => true | .non, .int _ => true | .int _, .non => true | .non, .bl _ => true | .bl _, .non => true | .non, .str _ => true | .str _, .non => true
  | .int _, .int _ => true | .bl _, .bl _ => true | .str _, .str _ => true
  | .int _, .str _ => true | .str _, .int _ => true | .bl _, .str _ => true | .str _, .bl _ => true
  | _, _ => false
def opEqD (neg : Bool) : Va → Va → Mo Va := fun a b st => match dat st 66 a, dat st 66 b with
  | some d, some e => if SeqAt.shaped d && SeqAt.shaped e then .ok (.bl (xor neg (PyData.eqv d e))) st else .no
  | _, _ => .no
def opEqB (neg : Bool) : Va → Va → Mo Va := fun a b st => if scalW a b = true then .ok (.bl (xor neg (eqW a b))) st else opEqD neg a b st
abbrev opEq := opEqB false
abbrev opNe := opEqB true
def inS (x y : Str) : Bool := !(Builtin.Str.occurrences y x 0 y.length 1).isEmpty
def opInB (neg : Bool) : Va → Va → Mo Va := fun a b st => match a, b with
  | .str x, .str y => .ok (.bl (xor neg (inS x y))) st
  | x, .tup ys => if flatW x && ys.all flatW then .ok (.bl (xor neg (ys.any fun y => eqW y x))) st else .no
  | x, .ktp ys => if flatW x && ys.all flatW then .ok (.bl (xor neg (ys.any fun y => eqW y x))) st else .no
  | x, .ref n => match st[n]? with
    | some (.lst ys) => match dat st 66 x, datL (dat st 65) ys with
      | some d, some ds => if SeqAt.shaped d && SeqAt.shaped (.list ds) then .ok (.bl (xor neg (ds.any fun z => z.eqv d))) st else .no
      | _, _ => .no
    | _ => .no
  | x, .scr ys => match dat st 66 x, datL (dat st 65) ys with
      | some d, some ds => if SeqAt.shaped d && SeqAt.shaped (.list ds) then .ok (.bl (xor neg (ds.any fun z => z.eqv d))) st else .no
      | _, _ => .no
  | _, _ => .no
abbrev opIn := opInB false
abbrev opNotIn := opInB true
def opIsN : Va → Va → Mo Va := fun a b st => match b with
  | .non => match a with
    | .non => .ok (.bl true) st
    | .cst _ => .no
    | _ => .ok (.bl false) st
  | _ => .no
def opNotN : Va → Va → Mo Va := fun a b st => match b with
  | .non => match a with
    | .non => .ok (.bl false) st
    | .cst _ => .no
    | _ => .ok (.bl true) st
  | _ => .no

theorem nox_opAdd : NoX2 opAdd := by intro a b st c fs s h; unfold opAdd at h; split at h <;> (try split at h) <;> (try split at h) <;> cases h
theorem nox_opSub : NoX2 opSub := by intro a b st c fs s h; unfold opSub at h; split at h <;> cases h
theorem nox_opMul : NoX2 opMul := by intro a b st c fs s h; unfold opMul at h; split at h <;> (try split at h) <;> (try split at h) <;> cases h
theorem nox_opFdiv : NoX2 opFdiv := by intro a b st c fs s h; unfold opFdiv at h; split at h <;> (try split at h) <;> cases h
theorem nox_opMod : NoX2 opMod := by intro a b st c fs s h; unfold opMod at h; split at h <;> (try split at h) <;> cases h
theorem nox_opPow : NoX2 opPow := by intro a b st c fs s h; unfold opPow at h; split at h <;> (try split at h) <;> cases h
theorem nox_opLt : NoX2 opLt := by intro a b st c fs s h; unfold opLt at h; split at h <;> cases h
theorem nox_opGt : NoX2 opGt := by intro a b st c fs s h; unfold opGt at h; split at h <;> cases h
theorem nox_opGe : NoX2 opGe := by intro a b st c fs s h; unfold opGe at h; split at h <;> cases h
theorem nox_opLe : NoX2 opLe := by intro a b st c fs s h; unfold opLe at h; split at h <;> cases h
theorem nox_opEqB {n : Bool} : NoX2 (opEqB n) := by intro a b st c fs s h; unfold opEqB opEqD at h; split at h <;> (try split at h) <;> (try split at h) <;> cases h
theorem nox_opInB {n : Bool} : NoX2 (opInB n) := by
  intro a b st c fs s h
  unfold opInB at h
  split at h <;> (try split at h) <;> (try split at h) <;> (try split at h) <;> cases h
theorem nox_opIsN : NoX2 opIsN := by intro a b st c fs s h; unfold opIsN at h; split at h <;> (try split at h) <;> cases h
theorem nox_opNotN : NoX2 opNotN := by intro a b st c fs s h; unfold opNotN at h; split at h <;> (try split at h) <;> cases h

section
variable {X : Cx} {g : Gx}
theorem RS.list {st : Sto} {H : Hp} {ι : List Addr} {n : Nat} {ws : List Va} {v : V} (rs : RS X.K g st H ι) (r : RV X.K g.H0 H ι (.ref n) v) (e : st[n]? = some (.lst ws)) :
    ∃ a vs, v = .ref a ∧ ι[n]? = some a ∧ H a = some (.lst vs) ∧ RVs X.K g.H0 H ι ws vs := by
  cases r with
  | @ref _ a h =>
    obtain ⟨vs, h1, h2⟩ := rs.obj n _ a e h
    exact ⟨a, vs, rfl, h, h1, h2⟩
theorem le_line {n : Nat} (h : n ≤ 16777216) : n ≤ sizeLine := by rw [sizeLine_eq]; exact h
theorem sql_old {st : Sto} {H : Hp} {ι : List Addr} {a : Addr} {vs : List V} (rs : RS X.K g st H ι) (h : SqL X.K g.H0 a vs) : SqL X.K H a vs := by
  rcases h with (h | ⟨o, h⟩) | h
  · exact .inl (.inl (rs.old _ _ h))
  · exact .inl (.inr ⟨o, rs.old _ _ h⟩)
  · exact .inr h

theorem sqt_old {st : Sto} {H : Hp} {ι : List Addr} {a : Addr} {vs : List V} (rs : RS X.K g st H ι) (h : SqT X.K g.H0 a vs) : SqT X.K H a vs := by
  rcases h with (h | ⟨o, h⟩) | h
  · exact .inl (.inl (rs.old _ _ h))
  · exact .inl (.inr ⟨o, rs.old _ _ h⟩)
  · exact .inr h

theorem os_add : OpS X g (binaryOp .Add) opAdd := by
  intro pins s σ H x y v u Q I rx ry h
  obtain ⟨st, ι, w1, w2, rs, r1, r2, p⟩ := h
  unfold opAdd at p
  split at p
  · cases r1; cases r2
    exact op_add pins s σ H _ _ v u Q I rx ry ⟨_, _, rfl, rfl, p H ι _ Ext.refl rs (.int _)⟩
  · split at p
    · rename_i hl
      cases r1; cases r2
      exact op_add_str pins s σ H _ _ v u Q I rx ry ⟨_, _, rfl, rfl, le_line hl, p H ι _ Ext.refl rs (.str _)⟩
    · exact (show False from p).elim
  · split at p
    · rename_i hl
      cases r1 with
      | @tup a vs ws q1 k1 =>
        cases r2 with
        | @tup b us zs q2 k2 =>
          refine op_catA pins s σ H _ _ v u Q I rx ry ⟨a, b, vs, us, rfl, rfl, SqT.of q1, SqT.of q2, le_line (by rw [← k1.length, ← k2.length]; exact hl), fun e => ?_, fun e1 e2 => ?_, fun e1 e2 p' hp => ?_⟩
          · subst e
            cases k1
            exact p H ι _ Ext.refl rs (.tup q2 k2)
          · subst e2
            cases k2
            exact p H ι _ Ext.refl rs (by rw [List.append_nil]; exact .tup q1 k1)
          · obtain ⟨x1, x2, x3⟩ := new_tup rs (k1.append k2) hp
            exact p _ _ _ x1 x2 x3
    · exact (show False from p).elim
  · split at p
    · rename_i hl
      cases r1 with
      | @ktp a vs ws q1 k1 =>
        cases r2 with
        | @tup b us zs q2 k2 =>
          refine op_catA pins s σ H _ _ v u Q I rx ry ⟨a, b, vs, us, rfl, rfl, sqt_old rs q1, SqT.of q2, le_line (by rw [← k1.length, ← k2.length]; exact hl), fun e => ?_, fun e1 e2 => ?_, fun e1 e2 p' hp => ?_⟩
          · subst e
            cases k1
            exact p H ι _ Ext.refl rs (.tup q2 k2)
          · subst e2
            cases k2
            cases k1 with
            | nil => exact absurd rfl e1
            | cons r1' k1' => exact p H ι _ Ext.refl rs (.ktp q1 (.cons r1' k1'))
          · obtain ⟨x1, x2, x3⟩ := new_tup rs (k1.append k2) hp
            cases k1 with
            | nil => exact absurd rfl e1
            | cons r1' k1' =>
              cases k2 with
              | nil => exact absurd rfl e2
              | cons r2' k2' => exact p _ _ _ x1 x2 x3
    · exact (show False from p).elim
  · split at p
    · rename_i hl
      cases r1 with
      | @tup a vs ws q1 k1 =>
        cases r2 with
        | @ktp b us zs q2 k2 =>
          refine op_catA pins s σ H _ _ v u Q I rx ry ⟨a, b, vs, us, rfl, rfl, SqT.of q1, sqt_old rs q2, le_line (by rw [← k1.length, ← k2.length]; exact hl), fun e => ?_, fun e1 e2 => ?_, fun e1 e2 p' hp => ?_⟩
          · subst e
            cases k1
            exact p H ι _ Ext.refl rs (.ktp q2 k2)
          · subst e2
            cases k2
            cases k1 with
            | nil => exact absurd rfl e1
            | cons r1' k1' => exact p H ι _ Ext.refl rs (.tup q1 (.cons r1' k1'))
          · obtain ⟨x1, x2, x3⟩ := new_tup rs (k1.append k2) hp
            cases k1 with
            | nil => exact absurd rfl e1
            | cons r1' k1' =>
              cases k2 with
              | nil => exact absurd rfl e2
              | cons r2' k2' => exact p _ _ _ x1 x2 x3
    · exact (show False from p).elim
  · split at p
    · rename_i hl
      cases r1 with
      | @ktp a vs ws q1 k1 =>
        cases r2 with
        | @ktp b us zs q2 k2 =>
          refine op_catA pins s σ H _ _ v u Q I rx ry ⟨a, b, vs, us, rfl, rfl, sqt_old rs q1, sqt_old rs q2, le_line (by rw [← k1.length, ← k2.length]; exact hl), fun e => ?_, fun e1 e2 => ?_, fun e1 e2 p' hp => ?_⟩
          · subst e
            cases k1
            exact p H ι _ Ext.refl rs (.ktp q2 k2)
          · subst e2
            cases k2
            cases k1 with
            | nil => exact absurd rfl e1
            | cons r1' k1' => exact p H ι _ Ext.refl rs (.ktp q1 (.cons r1' k1'))
          · obtain ⟨x1, x2, x3⟩ := new_tup rs (k1.append k2) hp
            cases k1 with
            | nil => exact absurd rfl e1
            | cons r1' k1' =>
              cases k2 with
              | nil => exact absurd rfl e2
              | cons r2' k2' => exact p _ _ _ x1 x2 x3
    · exact (show False from p).elim
  · split at p
    · rename_i m n xs ys e1 e2
      split at p
      · rename_i hl
        obtain ⟨a, vs, rfl, _, h1, k1⟩ := rs.list r1 e1
        obtain ⟨b, us, rfl, _, h2, k2⟩ := rs.list r2 e2
        refine op_cat pins s σ H _ _ v u Q I rx ry ⟨a, b, vs, us, rfl, rfl, h1, h2, le_line (by rw [← k1.length, ← k2.length]; exact hl), fun p' hp => ?_⟩
        obtain ⟨x1, x2, x3⟩ := new_lst rs (k1.append k2) hp
        exact p _ _ _ x1 x2 x3
      · exact (show False from p).elim
    · exact (show False from p).elim
  · exact (show False from p).elim
theorem os_sub : OpS X g (binaryOp .Sub) opSub := by
  intro pins s σ H x y v u Q I rx ry h
  obtain ⟨st, ι, w1, w2, rs, r1, r2, p⟩ := h
  unfold opSub at p
  split at p
  · cases r1; cases r2
    exact op_sub pins s σ H _ _ v u Q I rx ry ⟨_, _, rfl, rfl, p H ι _ Ext.refl rs (.int _)⟩
  · exact (show False from p).elim
theorem os_mul : OpS X g (binaryOp .Mult) opMul := by
  intro pins s σ H x y v u Q I rx ry h
  obtain ⟨st, ι, w1, w2, rs, r1, r2, p⟩ := h
  unfold opMul at p
  split at p
  · split at p
    · rename_i i j hc
      cases r1; cases r2
      refine op_mul pins s σ H _ _ v u Q I rx ry ⟨_, _, rfl, rfl, ?_, p H ι _ Ext.refl rs (.int _)⟩
      unfold sm64 at hc
      rw [Bool.or_eq_true, Bool.and_eq_true, Bool.and_eq_true, decide_eq_true_eq, decide_eq_true_eq, decide_eq_true_eq, decide_eq_true_eq] at hc
      exact hc
    · exact (show False from p).elim
  · split at p
    · rename_i m k _ xs e1
      split at p
      · rename_i hc
        obtain ⟨a, vs, rfl, _, h1, k1⟩ := rs.list r1 e1
        cases r2
        refine op_rep pins s σ H _ _ v u Q I rx ry ⟨a, k, vs, rfl, rfl, h1, hc.1, hc.2.1, le_line (by rw [← k1.length]; exact hc.2.2), fun p' hp => ?_⟩
        have kk : RVs X.K g.H0 H ι (List.replicate k.toNat xs).flatten (List.replicate k.toNat vs).flatten := by
          clear p hc
          induction k.toNat with
          | zero => exact .nil
          | succ n ih =>
            rw [List.replicate_succ, List.replicate_succ, List.flatten_cons, List.flatten_cons]
            exact k1.append ih
        obtain ⟨x1, x2, x3⟩ := new_lst rs kk hp
        exact p _ _ _ x1 x2 x3
      · exact (show False from p).elim
    · exact (show False from p).elim
  · exact (show False from p).elim
theorem os_fdiv : OpS X g (binaryOp .FloorDiv) opFdiv := by
  intro pins s σ H x y v u Q I rx ry h
  obtain ⟨st, ι, w1, w2, rs, r1, r2, p⟩ := h
  unfold opFdiv at p
  split at p
  · split at p
    · rename_i hc
      cases r1; cases r2
      exact op_fdiv pins s σ H _ _ v u Q I rx ry ⟨_, _, rfl, rfl, hc, p H ι _ Ext.refl rs (.int _)⟩
    · exact (show False from p).elim
  · exact (show False from p).elim
theorem os_mod : OpS X g (binaryOp .Mod) opMod := by
  intro pins s σ H x y v u Q I rx ry h
  obtain ⟨st, ι, w1, w2, rs, r1, r2, p⟩ := h
  unfold opMod at p
  split at p
  · split at p
    · rename_i hc
      cases r1; cases r2
      exact op_mod pins s σ H _ _ v u Q I rx ry ⟨_, _, rfl, rfl, hc, p H ι _ Ext.refl rs (.int _)⟩
    · exact (show False from p).elim
  · exact (show False from p).elim
theorem os_pow : OpS X g (binaryOp .Pow) opPow := by
  intro pins s σ H x y v u Q I rx ry h
  obtain ⟨st, ι, w1, w2, rs, r1, r2, p⟩ := h
  unfold opPow at p
  split at p
  · split at p
    · rename_i hc
      cases r1; cases r2
      exact op_pow pins s σ H _ _ v u Q I rx ry ⟨_, _, rfl, rfl, hc, p H ι _ Ext.refl rs (.int _)⟩
    · exact (show False from p).elim
  · exact (show False from p).elim
theorem os_lt : OpS X g (compareOp .Lt) opLt := by
  intro pins s σ H x y v u Q I rx ry h
  obtain ⟨st, ι, w1, w2, rs, r1, r2, p⟩ := h
  unfold opLt at p
  split at p
  · cases r1; cases r2
    exact op_lt pins s σ H _ _ v u Q I rx ry ⟨_, _, rfl, rfl, p H ι _ Ext.refl rs (.bl _)⟩
  · exact (show False from p).elim
theorem os_gt : OpS X g (compareOp .Gt) opGt := by
  intro pins s σ H x y v u Q I rx ry h
  obtain ⟨st, ι, w1, w2, rs, r1, r2, p⟩ := h
  unfold opGt at p
  split at p
  · cases r1; cases r2
    exact op_gt pins s σ H _ _ v u Q I rx ry ⟨_, _, rfl, rfl, p H ι _ Ext.refl rs (.bl _)⟩
  · exact (show False from p).elim
theorem os_ge : OpS X g (compareOp .GtE) opGe := by
  intro pins s σ H x y v u Q I rx ry h
  obtain ⟨st, ι, w1, w2, rs, r1, r2, p⟩ := h
  unfold opGe at p
  split at p
  · cases r1; cases r2
    exact op_ge pins s σ H _ _ v u Q I rx ry ⟨_, _, rfl, rfl, p H ι _ Ext.refl rs (.bl _)⟩
  · exact (show False from p).elim
theorem os_le : OpS X g (compareOp .LtE) opLe := by
  intro pins s σ H x y v u Q I rx ry h
  obtain ⟨st, ι, w1, w2, rs, r1, r2, p⟩ := h
  unfold opLe at p
  split at p
  · cases r1; cases r2
    exact op_le pins s σ H _ _ v u Q I rx ry ⟨_, _, rfl, rfl, p H ι _ Ext.refl rs (.bl _)⟩
  · cases r1; cases r2
    exact op_le_str pins s σ H _ _ v u Q I rx ry ⟨_, _, rfl, rfl, p H ι _ Ext.refl rs (.bl _)⟩
  · exact (show False from p).elim

/-! data of the heap -/
theorem dp_all {H : Hp} {ι : List Addr} {f : Va → Option PyData} (hf : ∀ w v d, RV X.K g.H0 H ι w v → f w = some d → Dp X.K H v d) : ∀ {ws : List Va} {vs : List V} {ds : List PyData}, RVs X.K g.H0 H ι ws vs → datL f ws = some ds → DpAll X.K H vs ds
  | [], _, _, .nil, e => by cases e; exact .nil
  | w :: ws, _, _, .cons r t, e => by
    unfold datL at e
    split at e
    · rename_i d ds h1 h2
      cases e
      exact .cons (hf _ _ _ r h1) (dp_all hf t h2)
    · cases e
theorem dp_of {st : Sto} {H : Hp} {ι : List Addr} (rs : RS X.K g st H ι) : ∀ (n : Nat) (w : Va) (v : V) (d : PyData), RV X.K g.H0 H ι w v → dat st n w = some d → Dp X.K H v d
  | 0, _, _, _, _, e => by cases e
  | n + 1, w, v, d, r, e => by
    cases r with
    | non => cases e; exact .non
    | bl b => cases e; exact .bl b
    | int i => cases e; exact .int i
    | str x => cases e; exact .str x
    | @tup a vs ws h k =>
      have e' : (datL (dat st n) ws).map PyData.tuple = some d := e
      rw [Option.map_eq_some_iff] at e'
      obtain ⟨ds, e1, rfl⟩ := e'
      exact .tup (SqT.of h) (dp_all (dp_of rs n) k e1)
    | @ktp a vs ws h k =>
      have e' : (datL (dat st n) ws).map PyData.tuple = some d := e
      rw [Option.map_eq_some_iff] at e'
      obtain ⟨ds, e1, rfl⟩ := e'
      exact .tup (sqt_old rs h) (dp_all (dp_of rs n) k e1)
    | @scr a vs ws h k =>
      have e' : (datL (dat st n) ws).map PyData.list = some d := e
      rw [Option.map_eq_some_iff] at e'
      obtain ⟨ds, e1, rfl⟩ := e'
      exact .lst (sql_old rs h) (dp_all (dp_of rs n) k e1)
    | @ref m a h =>
      have e' : (match st[m]? with | some (.lst ws) => (datL (dat st n) ws).map PyData.list | _ => none) = some d := e
      split at e'
      · rename_i ws q
        rw [Option.map_eq_some_iff] at e'
        obtain ⟨ds, e1, rfl⟩ := e'
        obtain ⟨vs, h1, h2⟩ := rs.obj m _ a q h
        exact .lst (.inl (.inl h1)) (dp_all (dp_of rs n) h2 e1)
      · cases e'
    | cst v => cases e
theorem scal_of {H0 H : Hp} {ι : List Addr} {w z : Va} {x y : V} (r : RV X.K H0 H ι w x) (q : RV X.K H0 H ι z y) (h : scalW w z = true) : scal x y = true ∧ decide (x = y) = eqW w z := by
  cases r <;> first
    | exact absurd (show false = true from h) Bool.false_ne_true
    | (cases q <;> first
        | exact absurd (show false = true from h) Bool.false_ne_true
        | exact ⟨rfl, dec_int⟩
        | exact ⟨rfl, dec_bl⟩
        | exact ⟨rfl, dec_str⟩
        | exact ⟨rfl, by simp [eqW]⟩)
theorem os_eq (hu : X.A.units + 64 < cLine) : OpS X g (compareOp .Eq) opEq := by
  intro pins s σ H x y v u Q I rx ry h
  obtain ⟨st, ι, w1, w2, rs, r1, r2, p⟩ := h
  unfold opEq opEqB at p
  split at p
  · rename_i hs
    obtain ⟨s1, s2⟩ := scal_of r1 r2 hs
    rw [Bool.false_xor, ← s2] at p
    exact op_eq pins s σ H _ _ v u Q I rx ry ⟨s1, p H ι _ Ext.refl rs (.bl _)⟩
  unfold opEqD at p
  split at p
  · rename_i d e h1 h2
    split at p
    · rename_i hc
      rw [Bool.and_eq_true] at hc
      rw [Bool.false_xor] at p
      exact op_eqD hu pins s σ H _ _ v u Q I rx ry ⟨d, e, dp_of rs _ _ _ _ r1 h1, dp_of rs _ _ _ _ r2 h2, hc.1, hc.2, p H ι _ Ext.refl rs (.bl _)⟩
    · exact (show False from p).elim
  · exact (show False from p).elim
theorem os_ne (hu : X.A.units + 64 < cLine) : OpS X g (compareOp .NotEq) opNe := by
  intro pins s σ H x y v u Q I rx ry h
  obtain ⟨st, ι, w1, w2, rs, r1, r2, p⟩ := h
  unfold opNe opEqB at p
  split at p
  · rename_i hs
    obtain ⟨s1, s2⟩ := scal_of r1 r2 hs
    rw [Bool.true_xor, ← s2] at p
    exact op_ne pins s σ H _ _ v u Q I rx ry ⟨s1, p H ι _ Ext.refl rs (.bl _)⟩
  unfold opEqD at p
  split at p
  · rename_i d e h1 h2
    split at p
    · rename_i hc
      rw [Bool.and_eq_true] at hc
      rw [Bool.true_xor] at p
      exact op_neD hu pins s σ H _ _ v u Q I rx ry ⟨d, e, dp_of rs _ _ _ _ r1 h1, dp_of rs _ _ _ _ r2 h2, hc.1, hc.2, p H ι _ Ext.refl rs (.bl _)⟩
    · exact (show False from p).elim
  · exact (show False from p).elim
theorem flat_of {H : Hp} {ι : List Addr} {w : Va} {v : V} (r : RV X.K g.H0 H ι w v) (f : flatW w = true) : flatV v = true := by
  cases r <;> first | rfl | exact absurd (show false = true from f) Bool.false_ne_true
theorem flats_of {H : Hp} {ι : List Addr} : ∀ {ws : List Va} {vs : List V}, RVs X.K g.H0 H ι ws vs → ws.all flatW = true → vs.all flatV = true
  | _, _, .nil, _ => rfl
  | _, _, .cons r t, f => by
    rw [List.all_cons, Bool.and_eq_true] at f
    rw [List.all_cons, flat_of r f.1, flats_of t f.2]
    rfl
theorem eqW_of {H : Hp} {ι : List Addr} {w z : Va} {v u : V} (r : RV X.K g.H0 H ι w v) (q : RV X.K g.H0 H ι z u) (f : flatW w = true) (f' : flatW z = true) : eqV v u = eqW w z := by
  cases r <;> first
    | (cases q <;> first | rfl | exact absurd (show false = true from f') Bool.false_ne_true)
    | exact absurd (show false = true from f) Bool.false_ne_true
theorem inW_of {H : Hp} {ι : List Addr} {z : Va} {u : V} (q : RV X.K g.H0 H ι z u) (f' : flatW z = true) : ∀ {ws : List Va} {vs : List V}, RVs X.K g.H0 H ι ws vs → ws.all flatW = true → inV u vs = ws.any fun y => eqW y z
  | _, _, .nil, _ => rfl
  | w :: ws, v :: vs, .cons r t, f => by
    rw [List.all_cons, Bool.and_eq_true] at f
    show (eqV v u || inV u vs) = _
    rw [List.any_cons, eqW_of r q f.1 f', inW_of q f' t f.2]
theorem os_inB (neg : Bool) (hu : X.A.units + 65 < cLine) : OpS X g (compareOp (if neg then .NotIn else .In)) (opInB neg) := by
  intro pins s σ H x y v u Q I rx ry h
  obtain ⟨st, ι, w1, w2, rs, r1, r2, p⟩ := h
  unfold opInB at p
  split at p
  · cases r1; cases r2
    cases neg with
    | false => exact op_in_str pins s σ H _ _ v u Q I rx ry ⟨_, _, rfl, rfl, by rw [Bool.false_xor] at p; exact p H ι _ Ext.refl rs (.bl _)⟩
    | true => exact op_notin_str pins s σ H _ _ v u Q I rx ry ⟨_, _, rfl, rfl, by rw [Bool.true_xor] at p; exact p H ι _ Ext.refl rs (.bl _)⟩
  · split at p
    · rename_i ys hc
      rw [Bool.and_eq_true] at hc
      cases r2 with
      | @tup b us zs q2 k2 =>
        have e := inW_of r1 hc.1 k2 hc.2
        cases neg with
        | false => exact op_in_seq pins s σ H _ _ v u Q I rx ry ⟨b, us, rfl, .inr (SqT.of q2), flat_of r1 hc.1, flats_of k2 hc.2, by rw [Bool.false_xor] at p; rw [if_neg Bool.false_ne_true, e]; exact p H ι _ Ext.refl rs (.bl _)⟩
        | true => exact op_notIn_seq pins s σ H _ _ v u Q I rx ry ⟨b, us, rfl, .inr (SqT.of q2), flat_of r1 hc.1, flats_of k2 hc.2, by rw [Bool.true_xor] at p; rw [if_pos rfl, e]; exact p H ι _ Ext.refl rs (.bl _)⟩
    · exact (show False from p).elim
  · split at p
    · rename_i ys hc
      rw [Bool.and_eq_true] at hc
      cases r2 with
      | @ktp b us zs q2 k2 =>
        have e := inW_of r1 hc.1 k2 hc.2
        cases neg with
        | false => exact op_in_seq pins s σ H _ _ v u Q I rx ry ⟨b, us, rfl, .inr (sqt_old rs q2), flat_of r1 hc.1, flats_of k2 hc.2, by rw [Bool.false_xor] at p; rw [if_neg Bool.false_ne_true, e]; exact p H ι _ Ext.refl rs (.bl _)⟩
        | true => exact op_notIn_seq pins s σ H _ _ v u Q I rx ry ⟨b, us, rfl, .inr (sqt_old rs q2), flat_of r1 hc.1, flats_of k2 hc.2, by rw [Bool.true_xor] at p; rw [if_pos rfl, e]; exact p H ι _ Ext.refl rs (.bl _)⟩
    · exact (show False from p).elim
  · split at p
    · rename_i n ys q
      split at p
      · rename_i d ds h1 h2
        split at p
        · rename_i hc
          rw [Bool.and_eq_true] at hc
          obtain ⟨b, us, rfl, _, e2, k2⟩ := rs.list r2 q
          have dd : Dp X.K H (.ref b) (.list ds) := .lst (.inl (.inl e2)) (dp_all (dp_of rs 65) k2 h2)
          cases neg with
          | false => exact op_inD hu pins s σ H _ _ v u Q I rx ry ⟨d, ds, dp_of rs _ _ _ _ r1 h1, dd, hc.1, hc.2, by rw [Bool.false_xor] at p; exact p H ι _ Ext.refl rs (.bl _)⟩
          | true => exact op_notInD hu pins s σ H _ _ v u Q I rx ry ⟨d, ds, dp_of rs _ _ _ _ r1 h1, dd, hc.1, hc.2, by rw [Bool.true_xor] at p; exact p H ι _ Ext.refl rs (.bl _)⟩
        · exact (show False from p).elim
      · exact (show False from p).elim
    · exact (show False from p).elim
  · split at p
    · rename_i d ds h1 h2
      split at p
      · rename_i hc
        rw [Bool.and_eq_true] at hc
        cases r2 with
        | @scr b us zs q2 k2 =>
          have dd : Dp X.K H (.ref b) (.list ds) := .lst (sql_old rs q2) (dp_all (dp_of rs 65) k2 h2)
          cases neg with
          | false => exact op_inD hu pins s σ H _ _ v u Q I rx ry ⟨d, ds, dp_of rs _ _ _ _ r1 h1, dd, hc.1, hc.2, by rw [Bool.false_xor] at p; exact p H ι _ Ext.refl rs (.bl _)⟩
          | true => exact op_notInD hu pins s σ H _ _ v u Q I rx ry ⟨d, ds, dp_of rs _ _ _ _ r1 h1, dd, hc.1, hc.2, by rw [Bool.true_xor] at p; exact p H ι _ Ext.refl rs (.bl _)⟩
      · exact (show False from p).elim
    · exact (show False from p).elim
  · exact (show False from p).elim
theorem os_in (hu : X.A.units + 65 < cLine) : OpS X g (compareOp .In) opIn := os_inB false hu
theorem os_notIn (hu : X.A.units + 65 < cLine) : OpS X g (compareOp .NotIn) opNotIn := os_inB true hu
theorem os_isN : OpS X g (compareOp .Is) opIsN := by
  intro pins s σ H x y v u Q I rx ry h
  obtain ⟨st, ι, w1, w2, rs, r1, r2, p⟩ := h
  unfold opIsN at p
  split at p
  · cases r2
    refine op_isN pins s σ H _ _ v u Q I rx ry ⟨rfl, ?_⟩
    split at p
    · cases r1
      exact p H ι _ Ext.refl rs (.bl _)
    · exact (show False from p).elim
    · rename_i h1 h2
      have hx : x ≠ .non := by
        cases r1 <;> first | (intro z; cases z; done) | exact absurd rfl h1 | exact absurd rfl (h2 _)
      rw [decide_eq_false hx]
      exact p H ι _ Ext.refl rs (.bl _)
  · exact (show False from p).elim
theorem os_notN : OpS X g (compareOp .IsNot) opNotN := by
  intro pins s σ H x y v u Q I rx ry h
  obtain ⟨st, ι, w1, w2, rs, r1, r2, p⟩ := h
  unfold opNotN at p
  split at p
  · cases r2
    refine op_notN pins s σ H _ _ v u Q I rx ry ⟨rfl, ?_⟩
    split at p
    · cases r1
      exact p H ι _ Ext.refl rs (.bl _)
    · exact (show False from p).elim
    · rename_i h1 h2
      have hx : x ≠ .non := by
        cases r1 <;> first | (intro z; cases z; done) | exact absurd rfl h1 | exact absurd rfl (h2 _)
      rw [decide_eq_false hx]
      exact p H ι _ Ext.refl rs (.bl _)
  · exact (show False from p).elim
end
end Sh

set_option Elab.async false
set_option linter.all false
set_option maxRecDepth 100000
set_option maxHeartbeats 4000000
namespace Sh
open PySem PySem.Spec PyProof.Rows L2

/-! ### statements -/
inductive Fl where
  | nx (env : En) (st : Sto) | rt (w : Va) (st : Sto) | bk (env : En) (st : Sto) | ct (env : En) (st : Sto) | xc (c : Nat) (fs : List (Str × Va)) (env : En) (st : Sto) | no
abbrev Sm := En → Sto → Fl
def PstS (K : PySem.W.Frag) (g : Gx) (W : WX) (r : Fl) (H : Hp) (ι : List Addr) (D : Ends) : Prop :=
  match r with
  | .nx env st => ∀ H' ι' σ', Ext K H ι H' ι' → RS K g st H' ι' → RE K g H' ι' env σ' → D.nx σ' H'
  | .bk env st => ∀ H' ι' σ', Ext K H ι H' ι' → RS K g st H' ι' → RE K g H' ι' env σ' → D.bk σ' H'
  | .ct env st => ∀ H' ι' σ', Ext K H ι H' ι' → RS K g st H' ι' → RE K g H' ι' env σ' → D.ct σ' H'
  | .rt w st => ∀ H' ι' v, Ext K H ι H' ι' → RS K g st H' ι' → RV K g.H0 H' ι' w v → D.rt v H'
  | .xc c fs env st => ∀ H' ι' σ' d fs', Ext K H ι H' ι' → RS K g st H' ι' → RE K g H' ι' env σ' → H' d = some (.xd fs') → PF K g H' ι' fs fs' → W (.ref (g.cls c)) (some d) σ' H'
  | .no => False
def tSt (K : PySem.W.Frag) (g : Gx) (W : WX) (m : Sm) : TS := fun D σ H => ∃ env st ι, RS K g st H ι ∧ RE K g H ι env σ ∧ PstS K g W (m env st) H ι D
structure JS (X : Cx) (g : Gx) (W : WX) (s : Stmt) (m : Sm) : Prop where
  ps : PS X s (tSt X.K g W m)
structure JSs (X : Cx) (g : Gx) (W : WX) (s : List Stmt) (m : Sm) : Prop where
  pss : PSs X s (tSt X.K g W m)
section
variable {K : PySem.W.Frag} {g : Gx} {W : WX}
theorem PstS.shift {r : Fl} {H H1 : Hp} {ι ι1 : List Addr} {D : Ends} (h : PstS K g W r H ι D) (e : Ext K H ι H1 ι1) : PstS K g W r H1 ι1 D := by
  cases r with
  | nx env st => exact fun H' ι' σ' e' => h H' ι' σ' (e.trans e')
  | bk env st => exact fun H' ι' σ' e' => h H' ι' σ' (e.trans e')
  | ct env st => exact fun H' ι' σ' e' => h H' ι' σ' (e.trans e')
  | rt w st => exact fun H' ι' v e' => h H' ι' v (e.trans e')
  | xc c fs env st => exact fun H' ι' σ' d fs' e' => h H' ι' σ' d fs' (e.trans e')
  | no => exact h
end
/-- an expression's result, then .. -/
def bS {α : Type} (env : En) (r : Rs α) (f : α → Sto → Fl) : Fl :=
  match r with
  | .ok a st => f a st
  | .exc c fs st => .xc c fs env st
  | .no => .no
section
variable {K : PySem.W.Frag} {g : Gx} {W : WX}
theorem tG_bS {α β : Type} {rel : Rel α β} {m : En → Mo α} {f : En → α → Sto → Fl} {D : Ends} {σ : L2.St} {H : Hp} (h : tSt K g W (fun env st => bS env (m env st) (f env)) D σ H) :
    tG K g W rel m σ H fun b H1 => ∃ env a st1 ι1, RS K g st1 H1 ι1 ∧ RE K g H1 ι1 env σ ∧ rel H1 ι1 a b ∧ PstS K g W (f env a st1) H1 ι1 D := by
  obtain ⟨env, st, ι, rs, re, p⟩ := h
  refine ⟨env, st, ι, rs, re, ?_⟩
  show Pst K g rel (m env st) H ι _ _
  have p' : PstS K g W (bS env (m env st) (f env)) H ι D := p
  revert p'
  generalize m env st = r
  intro p'
  cases r with
  | ok a st1 => exact fun H' ι' b e rs1 r1 => ⟨env, a, st1, ι', rs1, re.mono e, r1, PstS.shift (r := f env a st1) p' e⟩
  | exc c fs st1 => exact fun H' ι' d fs' e rs1 hd pf => p' H' ι' σ d fs' e rs1 (re.mono e) hd pf
  | no => exact p'
end

def sNil : Sm := fun env st => .nx env st
def sSeq (m n : Sm) : Sm := fun env st => match m env st with
  | .nx env' st' => n env' st'
  | o => o
def sSet (i : Nat) (m : En → Mo Va) : Sm := fun env st => bS env (m env st) fun w st1 => .nx (env.set i (some w)) st1
def sRet (m : En → Mo Va) : Sm := fun env st => bS env (m env st) fun w st1 => .rt w st1
def sRetN : Sm := fun _ st => .rt .non st
def sExpr (m : En → Mo Va) : Sm := fun env st => bS env (m env st) fun _ st1 => .nx env st1
def sIf (t : En → Mo Bool) (m n : Sm) : Sm := fun env st => bS env (t env st) fun b st1 => if b = true then m env st1 else n env st1
def sPass : Sm := fun env st => .nx env st
def sBrk : Sm := fun env st => .bk env st
def sCnt : Sm := fun env st => .ct env st

section
variable {X : Cx} {g : Gx} {W : WX} {pos : Pos}
theorem js_nil : JSs X g W [] sNil := ⟨PSs.imp pss_nil fun D σ H h => by
  obtain ⟨env, st, ι, rs, re, p⟩ := h
  exact p H ι σ Ext.refl rs re⟩
theorem js_cons {s : Stmt} {r : List Stmt} {m n : Sm} (h1 : JS X g W s m) (h2 : JSs X g W r n) : JSs X g W (s :: r) (sSeq m n) := ⟨PSs.imp (pss_cons h1.ps h2.pss) fun D σ H h => by
  obtain ⟨env, st, ι, rs, re, p⟩ := h
  refine ⟨env, st, ι, rs, re, ?_⟩
  unfold sSeq at p
  revert p
  generalize m env st = q
  intro p
  cases q with
  | nx env' st' => exact fun H' ι' σ' e rs' re' => ⟨env', st', ι', rs', re', PstS.shift (r := n env' st') p e⟩
  | _ => exact p⟩
theorem js_one {s : Stmt} {m : Sm} (h : JS X g W s m) : JSs X g W [s] m := ⟨pss_one h.ps⟩
theorem js_pass : JS X g W (.Pass pos) sPass := ⟨PS.imp ps_pass fun D σ H h => by
  obtain ⟨env, st, ι, rs, re, p⟩ := h
  exact p H ι σ Ext.refl rs re⟩
theorem js_brk : JS X g W (.Break pos) sBrk := ⟨PS.imp ps_break fun D σ H h => by
  obtain ⟨env, st, ι, rs, re, p⟩ := h
  exact p H ι σ Ext.refl rs re⟩
theorem js_cnt : JS X g W (.Continue pos) sCnt := ⟨PS.imp ps_continue fun D σ H h => by
  obtain ⟨env, st, ι, rs, re, p⟩ := h
  exact p H ι σ Ext.refl rs re⟩
theorem js_doc {x j pos'} : JS X g W (.Expr (.Constant (.str x) j pos) pos') sPass := ⟨PS.imp ps_doc fun D σ H h => by
  obtain ⟨env, st, ι, rs, re, p⟩ := h
  exact p H ι σ Ext.refl rs re⟩
theorem js_ret {e : Expr} {m : En → Mo Va} (h : JE X g W e m) : JS X g W (.Return (some e) pos) (sRet m) := ⟨PS.imp (ps_ret h.pe) fun D σ H q => by
  obtain ⟨env, st, ι, rs, re, p⟩ := tG_bS (rel := rV X.K g) q
  refine ⟨env, st, ι, rs, re, p.imp (fun v H1 q => ?_) fun _ _ _ q => q⟩
  obtain ⟨env1, a, st1, ι1, rs1, re1, r1, p1⟩ := q
  exact p1 H1 ι1 v Ext.refl rs1 r1⟩
theorem js_retN : JS X g W (.Return none pos) sRetN := ⟨PS.imp ps_retN fun D σ H h => by
  obtain ⟨env, st, ι, rs, re, p⟩ := h
  exact p H ι _ Ext.refl rs .non⟩
theorem js_expr {e : Expr} {m : En → Mo Va} (h : JE X g W e m) (hs : swapsWith e none pos.line X.env = pure false := by rfl) : JS X g W (.Expr e pos) (sExpr m) := ⟨PS.imp (ps_expr h.pe hs) fun D σ H q => by
  obtain ⟨env, st, ι, rs, re, p⟩ := tG_bS (rel := rV X.K g) q
  refine ⟨env, st, ι, rs, re, p.imp (fun v H1 q => ?_) fun _ _ _ q => q⟩
  obtain ⟨env1, a, st1, ι1, rs1, re1, r1, p1⟩ := q
  exact p1 H1 ι1 σ Ext.refl rs1 re1⟩
theorem js_set (i : Nat) {x : Str} {e : Expr} {pos' : Pos} {m : En → Mo Va} (hN : X.N.Nodup) (h : JE X g W e m) (hi : X.N[i]? = some x := by rfl) (hx : Loc X.env.scope x := by first | exact Or.inl rfl | exact Or.inr rfl)
    (hs : swapsWith e (some (.Name x pos')) pos.line X.env = pure false := by rfl) (hf : X.fn x = true ∨ X.env.scope.names.lookup x = some .local := by first | exact .inl rfl | exact .inr rfl) :
    JS X g W (.Assign [.Name x pos'] e pos) (sSet i m) := ⟨PS.imp (ps_set hN hi hx h.pe hs hf) fun D σ H q => by
  obtain ⟨env, st, ι, rs, re, p⟩ := tG_bS (rel := rV X.K g) q
  refine ⟨env, st, ι, rs, re, p.imp (fun v H1 q => ?_) fun _ _ _ q => q⟩
  obtain ⟨env1, a, st1, ι1, rs1, re1, r1, p1⟩ := q
  exact p1 H1 ι1 _ Ext.refl rs1 (re1.set i r1)⟩
theorem js_if {c : Expr} {a b : List Stmt} {t : En → Mo Bool} {m n : Sm} (hc : JT X g W c t) (ha : JSs X g W a m) (hb : JSs X g W b n) : JS X g W (.If c a b pos) (sIf t m n) := ⟨PS.imp (ps_if hc.pt ha.pss hb.pss) fun D σ H q => by
  obtain ⟨env, st, ι, rs, re, p⟩ := tG_bS (rel := rB) q
  refine ⟨env, st, ι, rs, re, p.imp (fun v H1 q => ?_) fun _ _ _ q => q⟩
  obtain ⟨env1, w, st1, ι1, rs1, re1, r1, p1⟩ := q
  obtain rfl : w = v := r1
  cases w with
  | true => exact iteT ⟨env1, st1, ι1, rs1, re1, p1⟩
  | false => exact iteF ⟨env1, st1, ι1, rs1, re1, p1⟩⟩

/-! ### targets: the names of a loop, of an unpacking -/
abbrev Tg := Va → En → Option En
/-- what a target must do; own: the slots that it sets -/
abbrev TgOk (X : Cx) (g : Gx) (tg : Tg) (own : List Nat) (gt : TG) : Prop := ∀ (w : Va) (v : V) (env env' : En) (σ : L2.St) (H : Hp) (ι : List Addr) (Q : L2.St → Hp → Prop), (∃ st, RS X.K g st H ι) → RE X.K g H ι env σ → RV X.K g.H0 H ι w v → tg w env = some env' →
      (∀ σ', RE X.K g H ι env' σ' → (∀ vs : List Nat, (∀ i ∈ own, i ∈ vs) → wipe σ' vs = wipe σ vs) → Q σ' H) → gt v σ H Q
structure JG (X : Cx) (g : Gx) (t : Expr) (f : Tg) (own : List Nat) : Prop where
  ex : ∃ gt : TG, PG X t gt ∧ TgOk X g f own gt
def tgN (i : Nat) : Tg := fun w env => some (env.set i (some w))
theorem wipe_get {σ : L2.St} {vs : List Nat} {j : Nat} : (wipe σ vs)[j]? = if j ∈ vs ∧ j < σ.length then some none else σ[j]? := by
  induction vs with
  | nil => simp [wipe]
  | cons v vs ih =>
    unfold wipe
    by_cases hj : j = v
    · subst hj
      by_cases hl : j < σ.length
      · rw [List.getElem?_set_self (by rw [wipe_length]; exact hl), if_pos ⟨List.mem_cons_self, hl⟩]
      · rw [if_neg (fun h => hl h.2), List.getElem?_eq_none (by rw [List.length_set, wipe_length]; omega), List.getElem?_eq_none (by omega)]
    · rw [List.getElem?_set_ne (Ne.symm hj), ih]
      simp [hj]
theorem wipe_set {σ : L2.St} {vs : List Nat} {i : Nat} {x : Option V} (h : i ∈ vs) : wipe (σ.set i x) vs = wipe σ vs := by
  apply List.ext_getElem?
  intro j
  rw [wipe_get, wipe_get, List.length_set]
  by_cases hj : j = i
  · subst hj
    by_cases hl : j < σ.length
    · rw [if_pos ⟨h, hl⟩, if_pos ⟨h, hl⟩]
    · rw [if_neg (fun q => hl q.2), if_neg (fun q => hl q.2), List.getElem?_eq_none (by rw [List.length_set]; omega), List.getElem?_eq_none (by omega)]
  · rw [List.getElem?_set_ne (Ne.symm hj)]
theorem wipe_wipe {σ : L2.St} {vs : List Nat} : wipe (wipe σ vs) vs = wipe σ vs := by
  apply List.ext_getElem?
  intro j
  rw [wipe_get, wipe_length, wipe_get]
  split <;> rfl
theorem jg_name (i : Nat) {x : Str} (hN : X.N.Nodup) (hi : X.N[i]? = some x := by rfl) (hx : Loc X.env.scope x := by first | exact Or.inl rfl | exact Or.inr rfl) (hf : X.fn x = true ∨ X.env.scope.names.lookup x = some .local := by first | exact .inl rfl | exact .inr rfl) :
    JG X g (.Name x pos) (tgN i) [i] := ⟨_, pg_name hN hi hx hf, fun w v env env' σ H ι Q rs re r e q => by
  cases e
  exact q _ (re.set i r) fun vs h => wipe_set (h i List.mem_cons_self)⟩
end

/-! ### loops -/
/-- over items that stay -/
def forF (tg : Tg) (body : Sm) : List Va → Sm
  | [] => fun env st => .nx env st
  | w :: r => fun env st => match tg w env with
    | none => .no
    | some env1 => match body env1 st with
      | .nx env2 st2 => forF tg body r env2 st2
      | .ct env2 st2 => forF tg body r env2 st2
      | .bk env2 st2 => .nx env2 st2
      | o => o
/-- over a list of the store, as it stands at each turn -/
def forL (tg : Tg) (body : Sm) (n : Nat) : Nat → Nat → Sm
  | 0, _ => fun _ _ => .no
  | k + 1, i => fun env st => match st[n]? with
    | some (.lst ws) => match ws[i]? with
      | none => .nx env st
      | some w => match tg w env with
        | none => .no
        | some env1 => match body env1 st with
          | .nx env2 st2 => forL tg body n k (i + 1) env2 st2
          | .ct env2 st2 => forL tg body n k (i + 1) env2 st2
          | .bk env2 st2 => .nx env2 st2
          | o => o
    | _ => .no
def whileF (t : En → Mo Bool) (body : Sm) : Nat → Sm
  | 0 => fun _ _ => .no
  | k + 1 => fun env st => bS env (t env st) fun b st1 => if b = true then (match body env st1 with
      | .nx env2 st2 => whileF t body k env2 st2
      | .ct env2 st2 => whileF t body k env2 st2
      | .bk env2 st2 => .nx env2 st2
      | o => o) else .nx env st1
/-- what a for (a comprehension) goes over: items that stay, or a list of the store -/
inductive Src where
  | fix (ws : List Va) | live (n : Nat)
def iL (m : En → Mo Va) : En → Mo Src := fun env st => bnd (m env st) fun w st1 => match w with
  | .scr ws => .ok (.fix ws) st1
  | .ref n => match st1[n]? with
    | some (.lst _) => .ok (.live n) st1
    | _ => .no
  | _ => .no
def iT (m : En → Mo Va) : En → Mo Src := fun env st => bnd (m env st) fun w st1 => match w with
  | .tup ws => .ok (.fix ws) st1
  | .ktp ws => .ok (.fix ws) st1
  | _ => .no
def rangeW (lo : Int) (n : Nat) : List Va := (List.range n).map fun (k : Nat) => Va.int (lo + (k : Int))
def iR1 (m : En → Mo (List Va)) : En → Mo Src := fun env st => bnd (m env st) fun ws st1 => match ws with
  | [.int j] => if -(2 ^ 62) ≤ j ∧ j < 2 ^ 62 then .ok (.fix (rangeW 0 j.toNat)) st1 else .no
  | _ => .no
def iR2 (m : En → Mo (List Va)) : En → Mo Src := fun env st => bnd (m env st) fun ws st1 => match ws with
  | [.int i, .int j] => if -(2 ^ 62) ≤ i ∧ i < 2 ^ 62 ∧ -(2 ^ 62) ≤ j ∧ j < 2 ^ 62 then .ok (.fix (rangeW i (j - i).toNat)) st1 else .no
  | _ => .no
def signsW (x : Str) : List Va := x.cps.toList.map fun c => Va.str ⟨#[c]⟩
def iS (m : En → Mo Va) : En → Mo Src := fun env st => bnd (m env st) fun w st1 => match w with
  | .str x => .ok (.fix (signsW x)) st1
  | _ => .no
def sFor (src : En → Mo Src) (tg : Tg) (body : Sm) : Sm := fun env st => bS env (src env st) fun s st1 => match s with
  | .fix ws => forF tg body ws env st1
  | .live n => match st1[n]? with
    | some (.lst ws) => forL tg body n (ws.length + 1) 0 env st1
    | _ => .no
def sWhile (t : En → Mo Bool) (body : Sm) (k : Nat) : Sm := whileF t body k

/-- the iterator J yields the items all, one by one; G: what must stay -/
structure Fix (K : PySem.W.Frag) (g : Gx) (J : It) (all : List Va) (G : Hp → List Addr → Prop) : Prop where
  mono : ∀ H ι H' ι', Ext K H ι H' ι' → (∀ b o, g.H0 b = some o → H' b = some o) → G H ι → G H' ι'
  stop : ∀ H ι, G H ι → J.stop all.length H
  go : ∀ (i : Nat) H ι, G H ι → i < all.length → J.go i H
  yld : ∀ (i : Nat) H ι x H' st, RS K g st H ι → G H ι → J.yld i H x H' → Ext K H ι H' ι ∧ RS K g st H' ι ∧ ∀ w, all[i]? = some w → RV K g.H0 H' ι w x
def rI' (K : PySem.W.Frag) (g : Gx) : Rel Src It := fun H ι s J => match s with
  | .fix ws => ∃ G, Fix K g J ws G ∧ G H ι
  | .live n => ∃ a, ι[n]? = some a ∧ J = Itl K a
structure JI (X : Cx) (g : Gx) (W : WX) (tg iter : Expr) (m : En → Mo Src) : Prop where
  ex : ∃ wi : TI, PI X tg iter wi ∧ ∀ σ H R, tG X.K g W (rI' X.K g) m σ H R → wi σ H R
section
variable {X : Cx} {g : Gx} {W : WX} {pos : Pos} {tg : Expr}
theorem ji_of {iter : Expr} {wi : TI} {m : En → Mo Src} (h : PI X tg iter wi) (i : ∀ σ H R, tG X.K g W (rI' X.K g) m σ H R → wi σ H R) : JI X g W tg iter m := ⟨wi, h, i⟩
theorem fix_tup {K : PySem.W.Frag} {a : Addr} {vs : List V} {ws : List Va} : Fix K g (Itt K a) ws (fun H ι => H a = some (.tup vs) ∧ RVs K g.H0 H ι ws vs) where
  mono := fun H ι H' ι' e _ q => ⟨e.tup _ _ q.1, q.2.mono e⟩
  stop := fun H ι q => ⟨vs, SqT.of q.1, Nat.le_of_eq q.2.length.symm⟩
  go := fun i H ι q hl => by
    obtain ⟨v, e, _⟩ := q.2.get (List.getElem?_eq_getElem hl)
    exact ⟨vs, v, SqT.of q.1, e⟩
  yld := fun i H ι x H' st rs q y => by
    obtain ⟨rfl, hx⟩ := y
    refine ⟨Ext.refl, rs, fun w ew => ?_⟩
    obtain ⟨v, e, rv⟩ := q.2.get ew
    have := hx vs (SqT.of q.1)
    rw [e] at this
    cases this
    exact rv
theorem sqt_keep {K : PySem.W.Frag} {H0 H : Hp} {a : Addr} {vs : List V} (old : ∀ b o, H0 b = some o → H b = some o) (h : SqT K H0 a vs) : SqT K H a vs := by
  rcases h with (h | ⟨o, h⟩) | h
  · exact .inl (.inl (old _ _ h))
  · exact .inl (.inr ⟨o, old _ _ h⟩)
  · exact .inr h
theorem sql_keep {K : PySem.W.Frag} {H0 H : Hp} {a : Addr} {vs : List V} (old : ∀ b o, H0 b = some o → H b = some o) (h : SqL K H0 a vs) : SqL K H a vs := by
  rcases h with (h | ⟨o, h⟩) | h
  · exact .inl (.inl (old _ _ h))
  · exact .inl (.inr ⟨o, old _ _ h⟩)
  · exact .inr h
theorem fix_ktp {K : PySem.W.Frag} {a : Addr} {vs : List V} {ws : List Va} (sq : SqT K g.H0 a vs) : Fix K g (Itt K a) ws (fun H ι => SqT K H a vs ∧ RVs K g.H0 H ι ws vs) where
  mono := fun H ι H' ι' e old q => ⟨sqt_keep old sq, q.2.mono e⟩
  stop := fun H ι q => ⟨vs, q.1, Nat.le_of_eq q.2.length.symm⟩
  go := fun i H ι q hl => by
    obtain ⟨v, e, _⟩ := q.2.get (List.getElem?_eq_getElem hl)
    exact ⟨vs, v, q.1, e⟩
  yld := fun i H ι x H' st rs q y => by
    obtain ⟨rfl, hx⟩ := y
    refine ⟨Ext.refl, rs, fun w ew => ?_⟩
    obtain ⟨v, e, rv⟩ := q.2.get ew
    have := hx vs q.1
    rw [e] at this
    cases this
    exact rv
theorem fix_scr {K : PySem.W.Frag} {a : Addr} {vs : List V} {ws : List Va} (sq : SqL K g.H0 a vs) : Fix K g (Itl K a) ws (fun H ι => SqL K H a vs ∧ RVs K g.H0 H ι ws vs) where
  mono := fun H ι H' ι' e old q => ⟨sql_keep old sq, q.2.mono e⟩
  stop := fun H ι q => ⟨vs, q.1, Nat.le_of_eq q.2.length.symm⟩
  go := fun i H ι q hl => by
    obtain ⟨v, e, _⟩ := q.2.get (List.getElem?_eq_getElem hl)
    exact ⟨vs, v, q.1, e⟩
  yld := fun i H ι x H' st rs q y => by
    obtain ⟨rfl, hx⟩ := y
    refine ⟨Ext.refl, rs, fun w ew => ?_⟩
    obtain ⟨v, e, rv⟩ := q.2.get ew
    have := hx vs q.1
    rw [e] at this
    cases this
    exact rv
theorem rangeW_length (lo : Int) (n : Nat) : (rangeW lo n).length = n := by simp [rangeW]
theorem rangeW_get {lo : Int} {n i : Nat} {w : Va} (h : (rangeW lo n)[i]? = some w) : w = .int (lo + (i : Int)) ∧ i < n := by
  unfold rangeW at h
  rw [List.getElem?_map] at h
  by_cases hi : i < n
  · rw [List.getElem?_range hi] at h
    cases h
    exact ⟨rfl, hi⟩
  · rw [List.getElem?_eq_none (by simpa using hi)] at h
    cases h
theorem fix_rg {K : PySem.W.Frag} {lo : Int} {n : Nat} : Fix K g (Itr lo n) (rangeW lo n) (fun _ _ => True) where
  mono := fun _ _ _ _ _ _ _ => True.intro
  stop := fun H ι _ => by rw [rangeW_length]; exact Nat.le_refl n
  go := fun i H ι _ hl => by rw [rangeW_length] at hl; exact hl
  yld := fun i H ι x H' st rs _ y => by
    obtain ⟨rfl, rfl⟩ := y
    refine ⟨Ext.refl, rs, fun w ew => ?_⟩
    obtain ⟨rfl, _⟩ := rangeW_get ew
    exact .int _
theorem signsW_length (x : Str) : (signsW x).length = x.cps.size := by simp [signsW]
theorem fix_str {K : PySem.W.Frag} {x : Str} : Fix K g (Its x) (signsW x) (fun _ _ => True) where
  mono := fun _ _ _ _ _ _ _ => True.intro
  stop := fun H ι _ => by rw [signsW_length]; exact Nat.le_refl _
  go := fun i H ι _ hl => by rw [signsW_length] at hl; exact hl
  yld := fun i H ι v H' st rs _ y => by
    obtain ⟨rfl, c, ec, rfl⟩ := y
    refine ⟨Ext.refl, rs, fun w ew => ?_⟩
    unfold signsW at ew
    rw [List.getElem?_map, Array.getElem?_toList, ec] at ew
    cases ew
    exact .str _
theorem ji_tup {iter : Expr} {m : En → Mo Va} (hi : JE X g W iter m) : JI X g W tg iter (iT m) := ji_of (pi_tup hi.pe) fun σ H R q => by
  obtain ⟨env, st, ι, rs, re, p⟩ := q
  refine ⟨env, st, ι, rs, re, (Pst.bind (rel := rV X.K g) p).imp (fun x H1 q => ?_) fun _ _ _ q => q⟩
  obtain ⟨w, st1, ι1, ex, rs1, r1, p1⟩ := q
  cases w with
  | tup ws =>
    cases r1 with
    | @tup a vs _ sq k1 => exact ⟨a, rfl, ⟨vs, SqT.of sq⟩, p1 H1 ι1 (Itt X.K a) Ext.refl rs1 ⟨_, fix_tup, sq, k1⟩⟩
  | ktp ws =>
    cases r1 with
    | @ktp a vs _ sq k1 => exact ⟨a, rfl, ⟨vs, sqt_old rs1 sq⟩, p1 H1 ι1 (Itt X.K a) Ext.refl rs1 ⟨_, fix_ktp sq, sqt_old rs1 sq, k1⟩⟩
  | _ => exact (show False from p1).elim
theorem ji_list {iter : Expr} {m : En → Mo Va} (hi : JE X g W iter m) : JI X g W tg iter (iL m) := ji_of (pi_list hi.pe) fun σ H R q => by
  obtain ⟨env, st, ι, rs, re, p⟩ := q
  refine ⟨env, st, ι, rs, re, (Pst.bind (rel := rV X.K g) p).imp (fun x H1 q => ?_) fun _ _ _ q => q⟩
  obtain ⟨w, st1, ι1, ex, rs1, r1, p1⟩ := q
  cases w with
  | scr ws =>
    cases r1 with
    | @scr a vs _ sq k1 => exact ⟨a, rfl, ⟨vs, sql_old rs1 sq⟩, p1 H1 ι1 (Itl X.K a) Ext.refl rs1 ⟨_, fix_scr sq, sql_old rs1 sq, k1⟩⟩
  | ref n =>
    cases r1 with
    | @ref _ a ha =>
      dsimp only at p1
      split at p1
      · rename_i ws e
        obtain ⟨vs, h3, k1⟩ := rs1.obj n _ a e ha
        exact ⟨a, rfl, ⟨vs, .inl (.inl h3)⟩, p1 H1 ι1 (Itl X.K a) Ext.refl rs1 ⟨a, ha, rfl⟩⟩
      · exact (show False from p1).elim
  | _ => exact (show False from p1).elim
theorem ji_rg1 {a : Expr} {m : En → Mo (List Va)} {pp pc : Pos} (hm : X.mg "range" = none) (hi : JA X g W [a] m) (hg : Gl X "range" := by rfl) (hs1 : starEach [a] X.env = [(false, eval a X.env)] := by rfl) : JI X g W tg (.Call (.Name "range" pp) [a] [] pc) (iR1 m) := ji_of (pi_range1 hg hm hi.pa hs1) fun σ H R q => by
  obtain ⟨env, st, ι, rs, re, p⟩ := q
  refine ⟨env, st, ι, rs, re, (Pst.bind (rel := rVs X.K g) p).imp (fun x H1 q => ?_) fun _ _ _ q => q⟩
  obtain ⟨w, st1, ι1, ex, rs1, r1, p1⟩ := q
  split at p1
  · rename_i j
    split at p1
    · rename_i hc
      cases r1 with
      | cons ra rb =>
        cases ra; cases rb
        exact ⟨j, rfl, hc.1, hc.2, p1 H1 ι1 _ Ext.refl rs1 ⟨_, fix_rg, True.intro⟩⟩
    · exact (show False from p1).elim
  · exact (show False from p1).elim
theorem ji_rg2 {a a2 : Expr} {m : En → Mo (List Va)} {pp pc : Pos} (hm : X.mg "range" = none) (hi : JA X g W [a, a2] m) (hg : Gl X "range" := by rfl) (hs1 : starEach [a, a2] X.env = [(false, eval a X.env), (false, eval a2 X.env)] := by rfl) (hs2 : starEach [a2] X.env = [(false, eval a2 X.env)] := by rfl) : JI X g W tg (.Call (.Name "range" pp) [a, a2] [] pc) (iR2 m) := ji_of (pi_range2 hg hm hi.pa hs1 hs2) fun σ H R q => by
  obtain ⟨env, st, ι, rs, re, p⟩ := q
  refine ⟨env, st, ι, rs, re, (Pst.bind (rel := rVs X.K g) p).imp (fun x H1 q => ?_) fun _ _ _ q => q⟩
  obtain ⟨w, st1, ι1, ex, rs1, r1, p1⟩ := q
  split at p1
  · rename_i i j
    split at p1
    · rename_i hc
      cases r1 with
      | cons ra rb =>
        cases rb with
        | cons rb rc =>
          cases ra; cases rb; cases rc
          exact ⟨i, j, rfl, hc, p1 H1 ι1 _ Ext.refl rs1 ⟨_, fix_rg, True.intro⟩⟩
    · exact (show False from p1).elim
  · exact (show False from p1).elim
theorem ji_str {iter : Expr} {m : En → Mo Va} (hi : JE X g W iter m) : JI X g W tg iter (iS m) := ji_of (pi_str hi.pe) fun σ H R q => by
  obtain ⟨env, st, ι, rs, re, p⟩ := q
  refine ⟨env, st, ι, rs, re, (Pst.bind (rel := rV X.K g) p).imp (fun x H1 q => ?_) fun _ _ _ q => q⟩
  obtain ⟨w, st1, ι1, ex, rs1, r1, p1⟩ := q
  cases w with
  | str x =>
    cases r1
    exact ⟨x, rfl, p1 H1 ι1 _ Ext.refl rs1 ⟨_, fix_str, True.intro⟩⟩
  | _ => exact (show False from p1).elim
end

section
variable {X : Cx} {g : Gx} {W : WX} {pos : Pos}
abbrev Loop (X : Cx) (g : Gx) (W : WX) (J : It) (gt : TG) (body : Sm) (D : Ends) (σ : L2.St) (H : Hp) : Prop := ∃ Wl : Nat → Nat → L2.St → Hp → Prop, (∃ m, Wl 0 m σ H) ∧ ∀ i m σ H, Wl i m σ H →
      (J.stop i H ∧ D.nx σ H) ∨ (J.go i H ∧ ∃ N : L2.St → Hp → Prop, (∀ σ' H', N σ' H' → ∃ m', m' < m ∧ Wl (i + 1) m' σ' H') ∧ ∀ x H', J.yld i H x H' → gt x σ H' fun σ2 H2 => tSt X.K g W body { D with nx := N, ct := N, bk := D.nx } σ2 H2)
theorem for_fix {J : It} {gt : TG} {tg : Tg} {body : Sm} {D : Ends} {own : List Nat} (hg : TgOk X g tg own gt) {all : List Va} {G : Hp → List Addr → Prop} (F : Fix X.K g J all G)
    {env : En} {st : Sto} {ι : List Addr} {σ : L2.St} {H : Hp} (rs : RS X.K g st H ι) (re : RE X.K g H ι env σ) (G0 : G H ι) (p : PstS X.K g W (forF tg body all env st) H ι D) : Loop X g W J gt body D σ H := by
  refine ⟨fun i m σ H => m = all.length - i ∧ i ≤ all.length ∧ ∃ env st ι, RS X.K g st H ι ∧ RE X.K g H ι env σ ∧ G H ι ∧ PstS X.K g W (forF tg body (all.drop i) env st) H ι D, ⟨all.length, by simp, Nat.zero_le _, env, st, ι, rs, re, G0, by rw [List.drop_zero]; exact p⟩, ?_⟩
  rintro i m σ H ⟨rfl, hi, env, st, ι, rs, re, G1, p⟩
  by_cases hlt : i < all.length
  · refine .inr ⟨F.go i H ι G1 hlt, fun σ' H' => i + 1 ≤ all.length ∧ ∃ env st ι, RS X.K g st H' ι ∧ RE X.K g H' ι env σ' ∧ G H' ι ∧ PstS X.K g W (forF tg body (all.drop (i + 1)) env st) H' ι D, fun σ' H' q => ⟨all.length - (i + 1), by omega, rfl, q.1, q.2⟩, fun x H' y => ?_⟩
    obtain ⟨e0, rs', hr⟩ := F.yld i H ι x H' st rs G1 y
    rw [List.drop_eq_getElem_cons hlt] at p
    have rv := hr _ (List.getElem?_eq_getElem hlt)
    have G2 := F.mono _ _ _ _ e0 rs'.old G1
    unfold forF at p
    split at p
    · exact (show False from p).elim
    · rename_i env1 e1
      refine hg _ x env env1 σ _ ι _ ⟨_, rs'⟩ (re.mono e0) rv e1 fun σ' re' _ => ⟨env1, st, ι, rs', re', ?_⟩
      refine PstS.shift ?_ e0
      revert p
      generalize body env1 st = r
      intro p
      cases r with
      | nx env2 st2 => exact fun H2 ι2 σ2 e rs2 re2 => ⟨hlt, env2, st2, ι2, rs2, re2, F.mono _ _ _ _ e rs2.old G1, PstS.shift (r := forF tg body (all.drop (i + 1)) env2 st2) p e⟩
      | ct env2 st2 => exact fun H2 ι2 σ2 e rs2 re2 => ⟨hlt, env2, st2, ι2, rs2, re2, F.mono _ _ _ _ e rs2.old G1, PstS.shift (r := forF tg body (all.drop (i + 1)) env2 st2) p e⟩
      | bk env2 st2 => exact p
      | rt w st2 => exact p
      | xc c fs env2 st2 => exact p
      | no => exact p
  · have e : i = all.length := by omega
    subst e
    refine .inl ⟨F.stop H ι G1, ?_⟩
    rw [List.drop_length] at p
    exact p H ι σ Ext.refl rs re
theorem for_live {a : Addr} {n : Nat} {gt : TG} {tg : Tg} {body : Sm} {D : Ends} {own : List Nat} (hg : TgOk X g tg own gt) {k : Nat}
    {env : En} {st : Sto} {ι : List Addr} {σ : L2.St} {H : Hp} (rs : RS X.K g st H ι) (re : RE X.K g H ι env σ) (ha : ι[n]? = some a) (p : PstS X.K g W (forL tg body n k 0 env st) H ι D) : Loop X g W (Itl X.K a) gt body D σ H := by
  refine ⟨fun i m σ H => ∃ env st ι, RS X.K g st H ι ∧ RE X.K g H ι env σ ∧ ι[n]? = some a ∧ PstS X.K g W (forL tg body n m i env st) H ι D, ⟨k, env, st, ι, rs, re, ha, p⟩, ?_⟩
  rintro i m σ H ⟨env, st, ι, rs, re, ha, p⟩
  cases m with
  | zero => exact (show False from p).elim
  | succ m =>
    unfold forL at p
    split at p
    · rename_i ws q
      obtain ⟨vs, h1, k1⟩ := rs.obj n _ a q ha
      have sl : SqL X.K H a vs := .inl (.inl h1)
      split at p
      · rename_i e
        refine .inl ⟨⟨vs, sl, ?_⟩, p H ι σ Ext.refl rs re⟩
        rw [← k1.length]
        exact List.getElem?_eq_none_iff.mp e
      · rename_i w e
        obtain ⟨v, e', rv⟩ := k1.get e
        refine .inr ⟨⟨vs, v, sl, e'⟩, fun σ' H' => ∃ env st ι, RS X.K g st H' ι ∧ RE X.K g H' ι env σ' ∧ ι[n]? = some a ∧ PstS X.K g W (forL tg body n m (i + 1) env st) H' ι D, fun σ' H' q => ⟨m, Nat.lt_succ_self m, q⟩, fun x H' y => ?_⟩
        obtain ⟨rfl, hx⟩ := y
        have ex := hx vs sl
        rw [e'] at ex
        cases ex
        split at p
        · exact (show False from p).elim
        · rename_i env1 e1
          refine hg _ _ env env1 σ _ ι _ ⟨_, rs⟩ re rv e1 fun σ' re' _ => ⟨env1, st, ι, rs, re', ?_⟩
          revert p
          generalize body env1 st = r
          intro p
          cases r with
          | nx env2 st2 => exact fun H2 ι2 σ2 e rs2 re2 => ⟨env2, st2, ι2, rs2, re2, e.get ha, PstS.shift (r := forL tg body n m (i + 1) env2 st2) p e⟩
          | ct env2 st2 => exact fun H2 ι2 σ2 e rs2 re2 => ⟨env2, st2, ι2, rs2, re2, e.get ha, PstS.shift (r := forL tg body n m (i + 1) env2 st2) p e⟩
          | bk env2 st2 => exact p
          | rt w st2 => exact p
          | xc c fs env2 st2 => exact p
          | no => exact p
    · exact (show False from p).elim
theorem js_for {t iter : Expr} {b : List Stmt} {tg : Tg} {m : En → Mo Src} {body : Sm} {own : List Nat} (hp : PassesOwn (model X.prog X.w) X.A X.env X.xe) (hc : X.calm = true) (hi : JI X g W t iter m) (ht : JG X g t tg own) (hb : JSs X g W b body)
    (hs : ∀ x, foldedSetIterable iter X.env x = pure x := by intro _; rfl) : JS X g W (.For t iter b [] pos) (sFor m tg body) := by
  obtain ⟨gt, h1, h2⟩ := ht.ex
  obtain ⟨wi, i1, i2⟩ := hi.ex
  refine ⟨PS.imp (ps_for hp hc i1 h1 hb.pss hs) fun D σ H q => i2 σ H _ ?_⟩
  obtain ⟨env, st, ι, rs, re, p⟩ := tG_bS (rel := rI' X.K g) q
  refine ⟨env, st, ι, rs, re, p.imp (fun J H1 q => ?_) fun _ _ _ q => q⟩
  obtain ⟨env1, s, st1, ι1, rs1, re1, r1, p1⟩ := q
  cases s with
  | fix ws =>
    obtain ⟨G, F, G0⟩ := r1
    exact for_fix h2 F rs1 re1 G0 p1
  | live n =>
    obtain ⟨a, ha, rfl⟩ := r1
    dsimp only at p1
    split at p1
    · exact for_live h2 rs1 re1 ha p1
    · exact (show False from p1).elim
theorem js_while {c : Expr} {b : List Stmt} {t : En → Mo Bool} {body : Sm} (k : Nat) (hp : PassesOwn (model X.prog X.w) X.A X.env X.xe) (hc : JT X g W c t) (hb : JSs X g W b body) : JS X g W (.While c b [] pos) (sWhile t body k) := by
  refine ⟨PS.imp (ps_while hp hc.pt hb.pss) fun D σ H q => ?_⟩
  obtain ⟨env, st, ι, rs, re, p⟩ := q
  refine ⟨fun m σ H => ∃ env st ι, RS X.K g st H ι ∧ RE X.K g H ι env σ ∧ PstS X.K g W (whileF t body m env st) H ι D, ⟨k, env, st, ι, rs, re, p⟩, ?_⟩
  intro m σ H h
  cases m with
  | zero =>
    obtain ⟨env, st, ι, rs, re, p⟩ := h
    exact (show False from p).elim
  | succ m =>
    have h' : tSt X.K g W (whileF t body (m + 1)) D σ H := h
    unfold whileF at h'
    obtain ⟨env, st, ι, rs, re, p⟩ := tG_bS (rel := rB) h'
    refine ⟨env, st, ι, rs, re, p.imp (fun v H1 q => ?_) fun _ _ _ q => q⟩
    obtain ⟨env1, w, st1, ι1, rs1, re1, r1, p1⟩ := q
    obtain rfl : w = v := r1
    cases w with
    | false => exact iteF (p1 H1 ι1 σ Ext.refl rs1 re1)
    | true =>
      refine iteT ⟨fun σ' H' => ∃ env st ι, RS X.K g st H' ι ∧ RE X.K g H' ι env σ' ∧ PstS X.K g W (whileF t body m env st) H' ι D, fun σ' H' q => ⟨m, Nat.lt_succ_self m, q⟩, env1, st1, ι1, rs1, re1, ?_⟩
      rw [if_pos rfl] at p1
      revert p1
      generalize body env1 st1 = r
      intro p1
      cases r with
      | nx env2 st2 => exact fun H2 ι2 σ2 e rs2 re2 => ⟨env2, st2, ι2, rs2, re2, PstS.shift (r := whileF t body m env2 st2) p1 e⟩
      | ct env2 st2 => exact fun H2 ι2 σ2 e rs2 re2 => ⟨env2, st2, ι2, rs2, re2, PstS.shift (r := whileF t body m env2 st2) p1 e⟩
      | bk env2 st2 => exact p1
      | rt w st2 => exact p1
      | xc c fs env2 st2 => exact p1
      | no => exact p1
end
end Sh

set_option Elab.async false
set_option linter.all false
set_option maxRecDepth 100000
set_option maxHeartbeats 4000000
namespace Sh
open PySem PySem.Spec PyProof.Rows L2

/-! ### subscripts, slices -/
def opIx : Va → Va → Mo Va := fun a b st => match a, b with
  | .tup ws, .int i => match atI ws i with
    | some w => .ok w st
    | none => .no
  | .scr ws, .int i => match atI ws i with
    | some w => .ok w st
    | none => .no
  | .ktp ws, .int i => match atI ws i with
    | some w => .ok w st
    | none => .no
  | .str x, .int i => if x.length ≤ 16777216 then (match atI x.cps.toList i with
    | some c => .ok (.str ⟨#[c]⟩) st
    | none => .no) else .no
  | .ref n, .int i => match st[n]? with
    | some (.lst ws) => match atI ws i with
      | some w => .ok w st
      | none => .no
    | _ => .no
  | _, _ => .no
/-- the items of a part -/
def cutW (xs : List Va) (lo hi : Option Int) : List Va := (xs.drop (HT.sIx xs.length 0 lo)).take (HT.sIx xs.length xs.length hi - HT.sIx xs.length 0 lo)
def opSl (lo hi : Option Int) : Va → Mo Va := fun a st => match a with
  | .tup ws => .ok (.tup (cutW ws lo hi)) st
  | .ktp ws => if HT.sIx ws.length 0 lo = 0 ∧ HT.sIx ws.length ws.length hi = ws.length then .ok (.ktp ws) st else .ok (.tup (cutW ws lo hi)) st
  | .str x => if x.length ≤ 16777216 then .ok (.str (cutS x lo hi)) st else .no
  | .scr ws => .ok (.ref st.length) (st ++ [.lst (cutW ws lo hi)])
  | .ref n => match st[n]? with
    | some (.lst ws) => .ok (.ref st.length) (st ++ [.lst (cutW ws lo hi)])
    | _ => .no
  | _ => .no
def oNone : En → Mo (Option Int) := fun _ st => .ok none st
def oSome (m : En → Mo Va) : En → Mo (Option Int) := fun env st => bnd (m env st) fun w st1 => match w with
  | .int i => .ok (some i) st1
  | _ => .no
def eSl (m : En → Mo Va) (lo hi : En → Mo (Option Int)) : En → Mo Va := fun env st => bnd (m env st) fun w st1 => bnd (lo env st1) fun l st2 => bnd (hi env st2) fun h st3 => opSl l h w st3
section
variable {X : Cx} {g : Gx} {W : WX} {pos : Pos}
theorem at_rv {H0 H : Hp} {ι : List Addr} {ws : List Va} {vs : List V} {i : Int} {w : Va} (k : RVs X.K H0 H ι ws vs) (e : atI ws i = some w) : ∃ v, atI vs i = some v ∧ RV X.K H0 H ι w v := by
  unfold atI at e ⊢
  rw [← k.length]
  cases q : ixN ws.length i with
  | none => rw [q] at e; cases e
  | some j =>
    rw [q] at e
    exact k.get (i := j) e
theorem j_ix {a b : Expr} {ma mb : En → Mo Va} (ha : JE X g W a ma) (hb : JE X g W b mb) (hs : PlainIx b := by exact fun _ _ => rfl) : JE X g W (.Subscript a b pos) (e2 opIx ma mb) := ⟨PE.imp (pe_ix (IxR.or ix_tup (IxR.or ix_list ix_str)) ha.pe hb.pe hs) fun σ H Q h => by
  obtain ⟨env, st, ι, rs, re, p⟩ := pst_e2 h
  refine ⟨env, st, ι, rs, re, p.imp (fun x H1 q => ?_) fun _ _ _ q => q⟩
  obtain ⟨env1, st1, ι1, rs1, re1, p1⟩ := q
  refine ⟨env1, st1, ι1, rs1, re1, p1.imp (fun y H2 q => ?_) fun _ _ _ q => q⟩
  obtain ⟨st2, ι2, w1, w2, rs2, r1, r2, p2⟩ := q
  unfold opIx at p2
  split at p2
  · split at p2
    · rename_i w e
      cases r2
      cases r1 with
      | @tup a vs _ sq k1 =>
        obtain ⟨v, e', rv⟩ := at_rv k1 e
        exact .inl ⟨a, vs, _, v, rfl, rfl, SqT.of sq, e', p2 H2 ι2 v Ext.refl rs2 rv⟩
    · exact (show False from p2).elim
  · split at p2
    · rename_i w e
      cases r2
      cases r1 with
      | @scr a vs _ sq k1 =>
        obtain ⟨v, e', rv⟩ := at_rv k1 e
        exact .inr (.inl ⟨a, vs, _, v, rfl, rfl, sql_old rs2 sq, e', p2 H2 ι2 v Ext.refl rs2 rv⟩)
    · exact (show False from p2).elim
  · split at p2
    · rename_i w e
      cases r2
      cases r1 with
      | @ktp a vs _ sq k1 =>
        obtain ⟨v, e', rv⟩ := at_rv k1 e
        exact .inl ⟨a, vs, _, v, rfl, rfl, sqt_old rs2 sq, e', p2 H2 ι2 v Ext.refl rs2 rv⟩
    · exact (show False from p2).elim
  · split at p2
    · rename_i hl
      split at p2
      · rename_i c e
        cases r2
        cases r1
        exact .inr (.inr ⟨_, _, c, rfl, rfl, le_line hl, e, p2 H2 ι2 _ Ext.refl rs2 (.str _)⟩)
      · exact (show False from p2).elim
    · exact (show False from p2).elim
  · split at p2
    · rename_i n i _ ws e0
      split at p2
      · rename_i w e
        obtain ⟨a, vs, rfl, _, h1, k1⟩ := rs2.list r1 e0
        cases r2
        obtain ⟨v, e', rv⟩ := at_rv k1 e
        exact .inr (.inl ⟨a, vs, _, v, rfl, rfl, .inl (.inl h1), e', p2 H2 ι2 v Ext.refl rs2 rv⟩)
      · exact (show False from p2).elim
    · exact (show False from p2).elim
  · exact (show False from p2).elim⟩
structure JO (X : Cx) (g : Gx) (W : WX) (e : Option Expr) (m : En → Mo (Option Int)) : Prop where
  po : PO X e (tG X.K g W (fun _ _ a b => a = b) m)
theorem PO.imp {X : Cx} {e : Option Expr} {t t' : TO} (h : PO X e t) (i : ∀ σ H Q, t' σ H Q → t σ H Q) : PO X e t' := ⟨fun pins s σ H Q I q => h.run pins s σ H Q I (i σ H Q q)⟩
theorem jo_none : JO X g W none oNone := ⟨PO.imp po_none fun σ H Q h => by
  obtain ⟨env, st, ι, rs, re, p⟩ := h
  exact p H ι none Ext.refl rs rfl⟩
theorem jo_some {e : Expr} {m : En → Mo Va} (h : JE X g W e m) : JO X g W (some e) (oSome m) := ⟨PO.imp (po_some h.pe) fun σ H Q q => by
  obtain ⟨env, st, ι, rs, re, p⟩ := q
  refine ⟨env, st, ι, rs, re, (Pst.bind (rel := rV X.K g) p).imp (fun x H1 q => ?_) fun _ _ _ q => q⟩
  obtain ⟨w, st1, ι1, ex, rs1, r1, p1⟩ := q
  cases w with
  | int i =>
    cases r1
    exact ⟨i, rfl, p1 H1 ι1 _ Ext.refl rs1 rfl⟩
  | _ => exact (show False from p1).elim⟩
theorem cut_rv {H0 H : Hp} {ι : List Addr} {ws : List Va} {vs : List V} (lo hi : Option Int) (k : RVs X.K H0 H ι ws vs) : RVs X.K H0 H ι (cutW ws lo hi) (cutV vs lo hi) := by
  unfold cutW cutV
  rw [← k.length]
  exact (k.drop _).take _
theorem j_sl {e : Expr} {lo hi : Option Expr} {m : En → Mo Va} {ml mh : En → Mo (Option Int)} {p2 : Pos} (he : JE X g W e m) (hl : JO X g W lo ml) (hh : JO X g W hi mh) : JE X g W (.Subscript e (.Slice lo hi none p2) pos) (eSl m ml mh) :=
  ⟨PE.imp (pe_slice (SlR.or sl_tupA (SlR.or sl_list sl_str)) he.pe hl.po hh.po) fun σ H Q q => by
    obtain ⟨env, st, ι, rs, re, p⟩ := q
    refine ⟨env, st, ι, rs, re, (Pst.bind (rel := rV X.K g) p).imp (fun x H1 q => ?_) fun _ _ _ q => q⟩
    obtain ⟨w, st1, ι1, ex, rs1, r1, p1⟩ := q
    refine ⟨env, st1, ι1, rs1, re.mono ex, (Pst.bind (rel := fun _ _ a b => a = b) p1).imp (fun l H2 q => ?_) fun _ _ _ q => q⟩
    obtain ⟨lw, st2, ι2, ex2, rs2, el, q2⟩ := q
    refine ⟨env, st2, ι2, rs2, (re.mono ex).mono ex2, (Pst.bind (rel := fun _ _ a b => a = b) q2).imp (fun h H3 q => ?_) fun _ _ _ q => q⟩
    obtain ⟨hw, st3, ι3, ex3, rs3, eh, q3⟩ := q
    obtain rfl : lw = l := el
    obtain rfl : hw = h := eh
    have r3 := (r1.mono ex2).mono ex3
    unfold opSl at q3
    split at q3
    · cases r3 with
      | @tup a vs ws sq k1 =>
        have k2 := cut_rv lw hw k1
        refine .inl ⟨a, vs, rfl, SqT.of sq, fun hz => ?_, fun _ p' hp => ?_⟩
        · refine q3 H3 ι3 _ Ext.refl rs3 (.tup sq ?_)
          have e : cutV vs lw hw = vs := by
            unfold cutV
            rw [hz.1, hz.2, List.drop_zero, Nat.sub_zero, List.take_length]
          rw [e] at k2
          exact k2
        · obtain ⟨x1, x2, x3⟩ := new_tup rs3 k2 hp
          exact q3 _ _ _ x1 x2 x3
    · rename_i ws0
      cases r3 with
      | @ktp a vs ws sq k1 =>
        have k2 := cut_rv lw hw k1
        refine .inl ⟨a, vs, rfl, sqt_old rs3 sq, fun hz => ?_, fun hz p' hp => ?_⟩
        · rw [← k1.length] at hz
          rw [if_pos hz] at q3
          exact q3 H3 ι3 _ Ext.refl rs3 (.ktp sq k1)
        · rw [← k1.length] at hz
          rw [if_neg hz] at q3
          obtain ⟨x1, x2, x3⟩ := new_tup rs3 k2 hp
          exact q3 _ _ _ x1 x2 x3
    · split at q3
      · rename_i hl'
        cases r3
        exact .inr (.inr ⟨_, rfl, le_line hl', q3 H3 ι3 _ Ext.refl rs3 (.str _)⟩)
      · exact (show False from q3).elim
    · cases r3 with
      | @scr a vs ws sq k1 =>
        refine .inr (.inl ⟨a, vs, rfl, sql_old rs3 sq, fun p' hp => ?_⟩)
        obtain ⟨x1, x2, x3⟩ := new_lst rs3 (cut_rv lw hw k1) hp
        exact q3 _ _ _ x1 x2 x3
    · split at q3
      · rename_i n _ ws e0
        obtain ⟨a, vs, rfl, _, h1, k1⟩ := rs3.list r3 e0
        refine .inr (.inl ⟨a, vs, rfl, .inl (.inl h1), fun p' hp => ?_⟩)
        obtain ⟨x1, x2, x3⟩ := new_lst rs3 (cut_rv lw hw k1) hp
        exact q3 _ _ _ x1 x2 x3
      · exact (show False from q3).elim
    · exact (show False from q3).elim⟩

/-! ### unary, built-in functions -/
def opNeg : Va → Mo Va := fun a st => match a with
  | .int i => .ok (.int (-i)) st
  | _ => .no
theorem j_neg {a : Expr} {ma : En → Mo Va} (ha : JE X g W a ma) : JE X g W (.UnaryOp .USub a pos) (e1 opNeg ma) := ⟨PE.imp (pe_un un_neg ha.pe) fun σ H Q h => by
  obtain ⟨env, st, ι, rs, re, p⟩ := pst_e1 h
  refine ⟨env, st, ι, rs, re, p.imp (fun x H1 q => ?_) fun _ _ _ q => q⟩
  obtain ⟨st1, ι1, w1, rs1, r1, p1⟩ := q
  cases w1 with
  | int i =>
    cases r1
    exact ⟨i, rfl, p1 H1 ι1 _ Ext.refl rs1 (.int _)⟩
  | _ => exact (show False from p1).elim⟩
def cLen : List Va → Mo Va := fun ws st => match ws with
  | [.tup xs] => .ok (.int xs.length) st
  | [.scr xs] => .ok (.int xs.length) st
  | [.ktp xs] => .ok (.int xs.length) st
  | [.str x] => if x.length ≤ 16777216 then .ok (.int x.length) st else .no
  | [.ref n] => match st[n]? with
    | some (.lst xs) => .ok (.int xs.length) st
    | _ => .no
  | _ => .no
theorem nox_cLen : NoXA cLen := by intro a st c fs s h; unfold cLen at h; split at h <;> (try split at h) <;> cases h
theorem cs_len : CallS X g (.builtin "len") cLen := by
  intro pins s σ H xs us Q I r h
  obtain ⟨st, ι, ws, rs, rv, p⟩ := h
  unfold cLen at p
  split at p
  · cases rv with
    | cons ra rb =>
      cases rb
      cases ra with
      | @tup a vs _ sq k1 => exact call_len pins s σ H _ us Q I r ⟨_, _, rfl, .inr ⟨vs, SqT.of sq, rfl⟩, by rw [← k1.length]; exact p H ι _ Ext.refl rs (.int _)⟩
  · cases rv with
    | cons ra rb =>
      cases rb
      cases ra with
      | @scr a vs _ sq k1 => exact call_len pins s σ H _ us Q I r ⟨_, _, rfl, .inl ⟨vs, sql_old rs sq, rfl⟩, by rw [← k1.length]; exact p H ι _ Ext.refl rs (.int _)⟩
  · cases rv with
    | cons ra rb =>
      cases rb
      cases ra with
      | @ktp a vs _ sq k1 => exact call_len pins s σ H _ us Q I r ⟨_, _, rfl, .inr ⟨vs, sqt_old rs sq, rfl⟩, by rw [← k1.length]; exact p H ι _ Ext.refl rs (.int _)⟩
  · split at p
    · rename_i hl
      cases rv with
      | cons ra rb =>
        cases rb
        cases ra
        exact call_len pins s σ H _ us Q I r ⟨_, _, rfl, ⟨le_line hl, rfl⟩, p H ι _ Ext.refl rs (.int _)⟩
    · exact (show False from p).elim
  · split at p
    · rename_i n _ ys e0
      cases rv with
      | cons ra rb =>
        cases rb
        obtain ⟨a, vs, rfl, _, h1, k1⟩ := rs.list ra e0
        exact call_len pins s σ H _ us Q I r ⟨_, _, rfl, .inl ⟨vs, .inl (.inl h1), rfl⟩, by rw [← k1.length]; exact p H ι _ Ext.refl rs (.int _)⟩
    · exact (show False from p).elim
  · exact (show False from p).elim
def cAbs : List Va → Mo Va := fun ws st => match ws with
  | [.int i] => .ok (.int (if i < 0 then -i else i)) st
  | _ => .no
theorem nox_cAbs : NoXA cAbs := by intro a st c fs s h; unfold cAbs at h; split at h <;> cases h
theorem cs_abs : CallS X g (.builtin "abs") cAbs := by
  intro pins s σ H xs us Q I r h
  obtain ⟨st, ι, ws, rs, rv, p⟩ := h
  unfold cAbs at p
  split at p
  · cases rv with
    | cons ra rb =>
      cases rb
      cases ra
      exact call_abs pins s σ H _ us Q I r ⟨_, rfl, p H ι _ Ext.refl rs (.int _)⟩
  · exact (show False from p).elim
def cMax : List Va → Mo Va := fun ws st => match ws with
  | [.int i, .int j] => .ok (.int (if j > i then j else i)) st
  | _ => .no
def cMin : List Va → Mo Va := fun ws st => match ws with
  | [.int i, .int j] => .ok (.int (if j < i then j else i)) st
  | _ => .no
theorem nox_cMax : NoXA cMax := by intro a st c fs s h; unfold cMax at h; split at h <;> cases h
theorem nox_cMin : NoXA cMin := by intro a st c fs s h; unfold cMin at h; split at h <;> cases h
theorem cs_max (hc : X.calm = true) : CallS X g (.builtin "max") cMax := by
  intro pins s σ H xs us Q I r h
  obtain ⟨st, ι, ws, rs, rv, p⟩ := h
  unfold cMax at p
  split at p
  · cases rv with
    | cons ra rb =>
      cases rb with
      | cons rb rc =>
        cases rc
        cases ra
        cases rb
        exact call_max2 hc pins s σ H _ us Q I r ⟨_, _, rfl, p H ι _ Ext.refl rs (.int _)⟩
  · exact (show False from p).elim
theorem cs_min (hc : X.calm = true) : CallS X g (.builtin "min") cMin := by
  intro pins s σ H xs us Q I r h
  obtain ⟨st, ι, ws, rs, rv, p⟩ := h
  unfold cMin at p
  split at p
  · cases rv with
    | cons ra rb =>
      cases rb with
      | cons rb rc =>
        cases rc
        cases ra
        cases rb
        exact call_min2 hc pins s σ H _ us Q I r ⟨_, _, rfl, p H ι _ Ext.refl rs (.int _)⟩
  · exact (show False from p).elim
def cInt : List Va → Mo Va := fun ws st => match ws with
  | [.int i] => .ok (.int i) st
  | [.bl k] => .ok (.int (if k then 1 else 0)) st
  | [.str x] => match PySem.intText? x with
    | some n => if x.length ≤ 640 then .ok (.int n) st else .no
    | none => .no
  | _ => .no
theorem nox_cInt : NoXA cInt := by intro a st c fs s h; unfold cInt at h; split at h <;> (try split at h) <;> (try split at h) <;> cases h
theorem cs_int : CallS X g (.type "int") cInt := by
  intro pins s σ H xs us Q I r h
  obtain ⟨st, ι, ws, rs, rv, p⟩ := h
  unfold cInt at p
  split at p
  · cases rv with
    | cons ra rb =>
      cases rb
      cases ra
      exact call_int1 pins s σ H _ us Q I r (.inl ⟨_, rfl, p H ι _ Ext.refl rs (.int _)⟩)
  · cases rv with
    | cons ra rb =>
      cases rb
      cases ra
      exact call_int1 pins s σ H _ us Q I r (.inr ⟨_, rfl, p H ι _ Ext.refl rs (.int _)⟩)
  · split at p
    · rename_i n e
      split at p
      · rename_i hl
        cases rv with
        | cons ra rb =>
          cases rb
          cases ra
          exact call_int_str pins s σ H _ us Q I r ⟨_, _, rfl, e, hl, p H ι _ Ext.refl rs (.int _)⟩
      · exact (show False from p).elim
    · exact (show False from p).elim
  · exact (show False from p).elim
def cStr : List Va → Mo Va := fun ws st => match ws with
  | [.int i] => if i.natAbs.log2 < 1920 then .ok (.str (Str.ofString (toString i))) st else .no
  | _ => .no
theorem nox_cStr : NoXA cStr := by intro a st c fs s h; unfold cStr at h; split at h <;> (try split at h) <;> cases h
theorem cs_str : CallS X g (.type "str") cStr := by
  intro pins s σ H xs us Q I r h
  obtain ⟨st, ι, ws, rs, rv, p⟩ := h
  unfold cStr at p
  split at p
  · split at p
    · rename_i hl
      cases rv with
      | cons ra rb =>
        cases rb
        cases ra
        exact call_str_int pins s σ H _ us Q I r ⟨_, rfl, hl, p H ι _ Ext.refl rs (.str _)⟩
    · exact (show False from p).elim
  · exact (show False from p).elim
/-- all, any of a list of bools -/
def blsW : List Va → Option (List Bool)
  | [] => some []
  | .bl b :: r => (blsW r).map (b :: ·)
  | _ :: _ => none
theorem blsW_rv {H0 H : Hp} {ι : List Addr} : ∀ {ws : List Va} {bs : List Bool} {vs : List V}, blsW ws = some bs → RVs X.K H0 H ι ws vs → vs = bs.map V.bl
  | [], _, _, e, .nil => by cases e; rfl
  | .bl b :: ws, _, _, e, .cons r t => by
    have e' : (blsW ws).map (b :: ·) = _ := e
    rw [Option.map_eq_some_iff] at e'
    obtain ⟨bs, e1, rfl⟩ := e'
    cases r
    rw [blsW_rv e1 t]
    rfl
  | .non :: ws, _, _, e, _ => by cases e
  | .int _ :: ws, _, _, e, _ => by cases e
  | .str _ :: ws, _, _, e, _ => by cases e
  | .tup _ :: ws, _, _, e, _ => by cases e
  | .scr _ :: ws, _, _, e, _ => by cases e
  | .ktp _ :: ws, _, _, e, _ => by cases e
  | .ref _ :: ws, _, _, e, _ => by cases e
  | .cst _ :: ws, _, _, e, _ => by cases e
  | .exn :: ws, _, _, e, _ => by cases e
def cAll : List Va → Mo Va := fun ws st => match ws with
  | [.ref n] => match st[n]? with
    | some (.lst xs) => match blsW xs with
      | some bs => .ok (.bl (bs.all id)) st
      | none => .no
    | _ => .no
  | _ => .no
def cAny : List Va → Mo Va := fun ws st => match ws with
  | [.ref n] => match st[n]? with
    | some (.lst xs) => match blsW xs with
      | some bs => .ok (.bl (bs.any id)) st
      | none => .no
    | _ => .no
  | _ => .no
theorem nox_cAll : NoXA cAll := by intro a st c fs s h; unfold cAll at h; split at h <;> (try split at h) <;> (try split at h) <;> cases h
theorem nox_cAny : NoXA cAny := by intro a st c fs s h; unfold cAny at h; split at h <;> (try split at h) <;> (try split at h) <;> cases h
theorem cs_all (hc : X.calm = true) : CallS X g (.builtin "all") cAll := by
  intro pins s σ H xs us Q I r h
  obtain ⟨st, ι, ws, rs, rv, p⟩ := h
  unfold cAll at p
  split at p
  · split at p
    · rename_i n _ ys e0
      split at p
      · rename_i bs e1
        cases rv with
        | cons ra rb =>
          cases rb
          obtain ⟨a, vs, rfl, _, h1, k1⟩ := rs.list ra e0
          have := blsW_rv e1 k1
          subst this
          exact cr_all hc pins s σ H _ us Q I r ⟨a, bs, rfl, .inl (.inl h1), p H ι _ Ext.refl rs (.bl _)⟩
      · exact (show False from p).elim
    · exact (show False from p).elim
  · exact (show False from p).elim
theorem cs_any (hc : X.calm = true) : CallS X g (.builtin "any") cAny := by
  intro pins s σ H xs us Q I r h
  obtain ⟨st, ι, ws, rs, rv, p⟩ := h
  unfold cAny at p
  split at p
  · split at p
    · rename_i n _ ys e0
      split at p
      · rename_i bs e1
        cases rv with
        | cons ra rb =>
          cases rb
          obtain ⟨a, vs, rfl, _, h1, k1⟩ := rs.list ra e0
          have := blsW_rv e1 k1
          subst this
          exact cr_any hc pins s σ H _ us Q I r ⟨a, bs, rfl, .inl (.inl h1), p H ι _ Ext.refl rs (.bl _)⟩
      · exact (show False from p).elim
    · exact (show False from p).elim
  · exact (show False from p).elim
/-- list(x), tuple(x) -/
def cList : List Va → Mo Va := fun ws st => match ws with
  | [.tup xs] => .ok (.ref st.length) (st ++ [.lst xs])
  | [.ktp xs] => .ok (.ref st.length) (st ++ [.lst xs])
  | [.scr xs] => .ok (.ref st.length) (st ++ [.lst xs])
  | [.ref n] => match st[n]? with
    | some (.lst xs) => .ok (.ref st.length) (st ++ [.lst xs])
    | _ => .no
  | _ => .no
def cTuple : List Va → Mo Va := fun ws st => match ws with
  | [.tup xs] => .ok (.tup xs) st
  | [.ktp xs] => .ok (.ktp xs) st
  | [.scr xs] => .ok (.tup xs) st
  | [.ref n] => match st[n]? with
    | some (.lst xs) => .ok (.tup xs) st
    | _ => .no
  | _ => .no
theorem nox_cList : NoXA cList := by intro a st c fs s h; unfold cList at h; split at h <;> (try split at h) <;> cases h
theorem nox_cTuple : NoXA cTuple := by intro a st c fs s h; unfold cTuple at h; split at h <;> (try split at h) <;> cases h
theorem cs_list : CallS X g (.type "list") cList := by
  intro pins s σ H xs us Q I r h
  obtain ⟨st, ι, ws, rs, rv, p⟩ := h
  unfold cList at p
  split at p
  · cases rv with
    | cons ra rb =>
      cases rb
      cases ra with
      | @tup a vs _ sq k1 =>
        refine call_list_of pins s σ H _ us Q I r ⟨a, vs, rfl, .inr (SqT.of sq), fun p' hp => ?_⟩
        obtain ⟨x1, x2, x3⟩ := new_lst rs k1 hp
        exact p _ _ _ x1 x2 x3
  · cases rv with
    | cons ra rb =>
      cases rb
      cases ra with
      | @ktp a vs _ sq k1 =>
        refine call_list_of pins s σ H _ us Q I r ⟨a, vs, rfl, .inr (sqt_old rs sq), fun p' hp => ?_⟩
        obtain ⟨x1, x2, x3⟩ := new_lst rs k1 hp
        exact p _ _ _ x1 x2 x3
  · cases rv with
    | cons ra rb =>
      cases rb
      cases ra with
      | @scr a vs _ sq k1 =>
        refine call_list_of pins s σ H _ us Q I r ⟨a, vs, rfl, .inl (sql_old rs sq), fun p' hp => ?_⟩
        obtain ⟨x1, x2, x3⟩ := new_lst rs k1 hp
        exact p _ _ _ x1 x2 x3
  · split at p
    · rename_i n _ ys e0
      cases rv with
      | cons ra rb =>
        cases rb
        obtain ⟨a, vs, rfl, _, h1, k1⟩ := rs.list ra e0
        refine call_list_of pins s σ H _ us Q I r ⟨a, vs, rfl, .inl (.inl (.inl h1)), fun p' hp => ?_⟩
        obtain ⟨x1, x2, x3⟩ := new_lst rs k1 hp
        exact p _ _ _ x1 x2 x3
    · exact (show False from p).elim
  · exact (show False from p).elim
theorem cs_tuple : CallS X g (.type "tuple") cTuple := by
  intro pins s σ H xs us Q I r h
  obtain ⟨st, ι, ws, rs, rv, p⟩ := h
  unfold cTuple at p
  split at p
  · cases rv with
    | cons ra rb =>
      cases rb
      cases ra with
      | @tup a vs _ sq k1 => exact call_tuple_of pins s σ H _ us Q I r ⟨a, vs, rfl, .inr ⟨SqT.of sq, p H ι _ Ext.refl rs (.tup sq k1)⟩⟩
  · cases rv with
    | cons ra rb =>
      cases rb
      cases ra with
      | @ktp a vs _ sq k1 => exact call_tuple_of pins s σ H _ us Q I r ⟨a, vs, rfl, .inr ⟨sqt_old rs sq, p H ι _ Ext.refl rs (.ktp sq k1)⟩⟩
  · cases rv with
    | cons ra rb =>
      cases rb
      cases ra with
      | @scr a vs _ sq k1 =>
        refine call_tuple_of pins s σ H _ us Q I r ⟨a, vs, rfl, .inl ⟨sql_old rs sq, fun p' hp => ?_⟩⟩
        obtain ⟨x1, x2, x3⟩ := new_tup rs k1 hp
        exact p _ _ _ x1 x2 x3
  · split at p
    · rename_i n _ ys e0
      cases rv with
      | cons ra rb =>
        cases rb
        obtain ⟨a, vs, rfl, _, h1, k1⟩ := rs.list ra e0
        refine call_tuple_of pins s σ H _ us Q I r ⟨a, vs, rfl, .inl ⟨.inl (.inl h1), fun p' hp => ?_⟩⟩
        obtain ⟨x1, x2, x3⟩ := new_tup rs k1 hp
        exact p _ _ _ x1 x2 x3
    · exact (show False from p).elim
  · exact (show False from p).elim
end
end Sh

set_option Elab.async false
set_option linter.all false
set_option maxRecDepth 100000
set_option maxHeartbeats 4000000
namespace Sh
open PySem PySem.Spec PyProof.Rows L2

/-! ### isinstance of plain values, built-in classes -/
def tyW (st : Sto) : Va → Option String
  | .non => some "NoneType"
  | .bl _ => some "bool"
  | .int _ => some "int"
  | .str _ => some "str"
  | .tup _ => some "tuple"
  | .ktp _ => some "tuple"
  | .scr _ => some "list"
  | .ref n => match st[n]? with
    | some (.lst _) => some "list"
    | some (.dct _) => some "dict"
    | _ => none
  | _ => none
def isiB (t T : String) : Option Bool :=
  if T = "int" then (if t = "int" ∨ t = "bool" then some true else if t = "NoneType" ∨ t = "str" ∨ t = "tuple" ∨ t = "list" ∨ t = "dict" then some false else none)
  else if T = "bool" then (if t = "bool" then some true else if t = "NoneType" ∨ t = "int" ∨ t = "str" ∨ t = "tuple" ∨ t = "list" ∨ t = "dict" then some false else none)
  else if T = "str" then (if t = "str" then some true else if t = "NoneType" ∨ t = "int" ∨ t = "bool" ∨ t = "tuple" ∨ t = "list" ∨ t = "dict" then some false else none)
  else if T = "tuple" then (if t = "tuple" then some true else if t = "NoneType" ∨ t = "int" ∨ t = "bool" ∨ t = "str" ∨ t = "list" ∨ t = "dict" then some false else none)
  else if T = "list" then (if t = "list" then some true else if t = "NoneType" ∨ t = "int" ∨ t = "bool" ∨ t = "str" ∨ t = "tuple" ∨ t = "dict" then some false else none)
  else if T = "dict" then (if t = "dict" then some true else if t = "NoneType" ∨ t = "int" ∨ t = "bool" ∨ t = "str" ∨ t = "tuple" ∨ t = "list" then some false else none)
  else none
theorem isiB_kit {t T : String} {b : Bool} (h : isiB t T = some b) : kitB t T = some b := by
  unfold isiB at h
  split at h
  · rename_i e; subst e
    split at h
    · rename_i q; cases h; rcases q with q | q <;> subst q <;> decide +kernel
    · split at h
      · rename_i q; cases h; rcases q with q | q | q | q | q <;> subst q <;> decide +kernel
      · cases h
  · split at h
    · rename_i e; subst e
      split at h
      · rename_i q; cases h; subst q; decide +kernel
      · split at h
        · rename_i q; cases h; rcases q with q | q | q | q | q | q <;> subst q <;> decide +kernel
        · cases h
    · split at h
      · rename_i e; subst e
        split at h
        · rename_i q; cases h; subst q; decide +kernel
        · split at h
          · rename_i q; cases h; rcases q with q | q | q | q | q | q <;> subst q <;> decide +kernel
          · cases h
      · split at h
        · rename_i e; subst e
          split at h
          · rename_i q; cases h; subst q; decide +kernel
          · split at h
            · rename_i q; cases h; rcases q with q | q | q | q | q | q <;> subst q <;> decide +kernel
            · cases h
        · split at h
          · rename_i e; subst e
            split at h
            · rename_i q; cases h; subst q; decide +kernel
            · split at h
              · rename_i q; cases h; rcases q with q | q | q | q | q | q <;> subst q <;> decide +kernel
              · cases h
          · split at h
            · rename_i e; subst e
              split at h
              · rename_i q; cases h; subst q; decide +kernel
              · split at h
                · rename_i q; cases h; rcases q with q | q | q | q | q | q <;> subst q <;> decide +kernel
                · cases h
            · cases h
def cIsi : List Va → Mo Va := fun ws st => match ws with
  | [w, .cst (.ty T)] => match tyW st w with
    | some t => match isiB t T with
      | some b => .ok (.bl b) st
      | none => .no
    | none => .no
  | _ => .no
theorem nox_cIsi : NoXA cIsi := by intro a st c fs s h; unfold cIsi at h; split at h <;> (try split at h) <;> (try split at h) <;> cases h
section
variable {X : Cx} {g : Gx} {W : WX} {pos : Pos}
theorem ty_of {st : Sto} {H : Hp} {ι : List Addr} {w : Va} {v : V} {t : String} (rs : RS X.K g st H ι) (r : RV X.K g.H0 H ι w v) (e : tyW st w = some t) : TyX X.K H v (.type t) := by
  cases r with
  | non => cases e; exact .base .non
  | bl b => cases e; exact .base (.bl b)
  | int i => cases e; exact .base (.int i)
  | str x => cases e; exact .base (.str x)
  | tup h k => cases e; exact .base (.tup h)
  | scr h k =>
    cases e
    rcases sql_old rs h with (h | ⟨o, h⟩) | ⟨o, _, _, h1, h2, _⟩
    · exact .base (.lst h)
    · exact .base (.frz h)
    · exact .kList h1 h2
  | ktp h k =>
    cases e
    rcases sqt_old rs h with (h | ⟨o, h⟩) | ⟨o, _, _, h1, h2, _⟩
    · exact .base (.tup h)
    · exact .fTuple h
    · exact .kTuple h1 h2
  | @ref n a h =>
    have e' : (match st[n]? with | some (.lst _) => some "list" | some (.dct _) => some "dict" | _ => none) = some t := e
    split at e'
    · rename_i ws q
      cases e'
      obtain ⟨vs, h1, _⟩ := rs.obj n _ a q h
      exact .base (.lst h1)
    · rename_i ws q
      cases e'
      obtain ⟨vs, h1, _⟩ := rs.obj n _ a q h
      exact .base (.dK h1)
    · cases e'
  | cst v => cases e
theorem cs_isi : CallS X g (.builtin "isinstance") cIsi := by
  intro pins s σ H xs us Q I r h
  obtain ⟨st, ι, ws, rs, rv, p⟩ := h
  unfold cIsi at p
  split at p
  · split at p
    · rename_i t e1
      split at p
      · rename_i b e2
        cases rv with
        | cons ra rb =>
          cases rb with
          | cons rb rc =>
            cases rc
            cases rb
            exact call_isi pins s σ H _ us Q I r ⟨_, _, .type t, .type _, b, rfl, .ty _, ty_of rs ra e1, kit_ty (isiB_kit e2), p H ι _ Ext.refl rs (.bl _)⟩
      · exact (show False from p).elim
    · exact (show False from p).elim
  · exact (show False from p).elim

/-! ### methods of texts and lists -/
def MetS (X : Cx) (g : Gx) (id : String) (op : Va → List Va → Mo Va) : Prop :=
  MtR X id fun x xs H Q => ∃ st ι w ws, RS X.K g st H ι ∧ RV X.K g.H0 H ι w x ∧ RVs X.K g.H0 H ι ws xs ∧ Pst X.K g (rV X.K g) (op w ws st) H ι Q (fun _ _ _ => False)
def isT (T : String) (st : Sto) : Va → Bool
  | .str _ => decide (T = "str")
  | .scr _ => decide (T = "list")
  | .ref n => match st[n]? with
    | some (.lst _) => decide (T = "list")
    | some (.dct _) => decide (T = "dict")
    | _ => false
  | _ => false
theorem isT_ok {T : String} {st : Sto} {H : Hp} {ι : List Addr} {w : Va} {v : V} (rs : RS X.K g st H ι) (r : RV X.K g.H0 H ι w v) (e : isT T st w = true) : tyV X.K T v H := by
  cases r with
  | str x =>
    have e' : T = "str" := of_decide_eq_true e
    exact e'
  | scr h k => exact .inl ⟨of_decide_eq_true e, _, sql_old rs h⟩
  | @ref n a h =>
    have e' : (match st[n]? with | some (.lst _) => decide (T = "list") | some (.dct _) => decide (T = "dict") | _ => false) = true := e
    split at e'
    · rename_i ws q
      obtain ⟨vs, h1, _⟩ := rs.obj n _ a q h
      exact .inl ⟨of_decide_eq_true e', _, .inl (.inl h1)⟩
    · rename_i ws q
      obtain ⟨vs, h1, _⟩ := rs.obj n _ a q h
      exact .inr (.inr (.inl ⟨of_decide_eq_true e', .inl ⟨_, h1⟩⟩))
    · cases e'
  | _ => cases e
def eMt (T : String) (op : Va → List Va → Mo Va) (m : En → Mo Va) (ma : En → Mo (List Va)) : En → Mo Va := fun env st => bnd (m env st) fun w st1 => if isT T st1 w = true then bnd (ma env st1) fun ws st2 => op w ws st2 else .no
def NoXM (op : Va → List Va → Mo Va) : Prop := ∀ w ws st, NoX (op w ws st)
theorem j_mt {o e : Expr} {es : List Expr} {T id : String} {name : Str} {apos cpos : Pos} {op : Va → List Va → Mo Va} {m : En → Mo Va} {ma : En → Mo (List Va)} (h1 : PlainAttrs T) (h2 : Slot T name id) (h3 : typeOf (.builtin id) = pure (.type "method_descriptor"))
    (hm : MetS X g id op) (n : NoXM op) (ho : JE X g W o m) (ha : JA X g W (e :: es) ma) (q1 : attributeBase o name X.env (eval o X.env) = eval o X.env := by rfl)
    (q2 : ((backTo cpos (starEach (e :: es) X.env)).all (fun x => !x.1) && (backToKw cpos (keywordEach [] X.env)).all (fun x => x.1.isSome) && decide ((e :: es).length + ([] : List Keyword).length + (if ([] : List Keyword).isEmpty = true then 0 else 1) < 30)) = true := by rfl)
    (q3 : (apos.endLine == cpos.line) = true := by rfl) (q4 : starEach (e :: es) X.env = (false, eval e X.env) :: starEach es X.env := by rfl) (q5 : (backTo cpos (starEach es X.env)).any (·.1) = false := by rfl) :
    JE X g W (.Call (.Attribute o name apos) (e :: es) [] cpos) (eMt T op m ma) := ⟨PE.imp (pe_bm h1 h2 h3 hm ho.pe ha.pa q1 q2 q3 q4 q5) fun σ H Q q => by
  obtain ⟨env, st, ι, rs, re, p⟩ := q
  refine ⟨env, st, ι, rs, re, (Pst.bind (rel := rV X.K g) p).imp (fun x H1 q => ?_) fun _ _ _ q => q⟩
  obtain ⟨w, st1, ι1, ex, rs1, r1, p1⟩ := q
  split at p1
  · rename_i hT
    refine ⟨isT_ok rs1 r1 hT, env, st1, ι1, rs1, re.mono ex, (Pst.bind (rel := rVs X.K g) p1).imp (fun xs H2 q => ?_) fun _ _ _ q => q⟩
    obtain ⟨ws, st2, ι2, ex2, rs2, r2, p2⟩ := q
    exact ⟨st2, ι2, w, ws, rs2, r1.mono ex2, r2, p2.nox (n _ _ _)⟩
  · exact (show False from p1).elim⟩
theorem j_mt0 {o : Expr} {T id : String} {name : Str} {apos cpos : Pos} {op : Va → List Va → Mo Va} {m : En → Mo Va} (h1 : PlainAttrs T) (h2 : Slot T name id) (h3 : typeOf (.builtin id) = pure (.type "method_descriptor"))
    (hm : MetS X g id op) (n : NoXM op) (ho : JE X g W o m) (q1 : attributeBase o name X.env (eval o X.env) = eval o X.env := by rfl) (q3 : (apos.endLine == cpos.line) = true := by rfl) :
    JE X g W (.Call (.Attribute o name apos) [] [] cpos) (eMt T op m aNil) := ⟨PE.imp (pe_bm0 h1 h2 h3 hm ho.pe q1 q3) fun σ H Q q => by
  obtain ⟨env, st, ι, rs, re, p⟩ := q
  refine ⟨env, st, ι, rs, re, (Pst.bind (rel := rV X.K g) p).imp (fun x H1 q => ?_) fun _ _ _ q => q⟩
  obtain ⟨w, st1, ι1, ex, rs1, r1, p1⟩ := q
  split at p1
  · rename_i hT
    exact ⟨isT_ok rs1 r1 hT, st1, ι1, w, [], rs1, r1, .nil, Pst.nox (n w [] st1) (show Pst X.K g (rV X.K g) (op w [] st1) H1 ι1 Q _ from p1)⟩
  · exact (show False from p1).elim⟩
def strsW (ys : List Str) : List Va := ys.map Va.str
theorem strs_rv {H0 H : Hp} {ι : List Addr} : ∀ ys : List Str, RVs X.K H0 H ι (strsW ys) (ys.map V.str)
  | [] => .nil
  | y :: ys => .cons (.str y) (strs_rv ys)
def mSplit : Va → List Va → Mo Va := fun w ws st => match w, ws with
  | .str a, [.str b] => if (b.length == 0) = false ∧ a.length + 2 ≤ 16777216 then .ok (.ref st.length) (st ++ [.lst (strsW (Txt.split a b))]) else .no
  | _, _ => .no
theorem nox_mSplit : NoXM mSplit := by intro a b st c fs s h; unfold mSplit at h; split at h <;> (try split at h) <;> cases h
theorem ms_split : MetS X g "str.split" mSplit := by
  intro pins s σ H x xs v us Q I rx rxs h
  obtain ⟨st, ι, w, ws, rs, rw', rv, p⟩ := h
  unfold mSplit at p
  split at p
  · split at p
    · rename_i hc
      cases rw'
      cases rv with
      | cons ra rb =>
        cases rb
        cases ra
        refine mt_split pins s σ H _ _ v us Q I rx rxs ⟨_, _, rfl, rfl, hc.1, le_line hc.2, fun p' hp => ?_⟩
        obtain ⟨x1, x2, x3⟩ := new_lst rs (strs_rv (X := X) (H0 := g.H0) (ι := ι) (H := H) _) hp
        exact p _ _ _ x1 x2 x3
    · exact (show False from p).elim
  · exact (show False from p).elim
def unstr : List Va → Option (List Str)
  | [] => some []
  | .str x :: r => (unstr r).map (x :: ·)
  | _ :: _ => none
theorem unstr_eq : ∀ {ws : List Va} {ys : List Str}, unstr ws = some ys → ws = strsW ys
  | [], _, e => by cases e; rfl
  | .str x :: ws, _, e => by
    have e' : (unstr ws).map (x :: ·) = _ := e
    rw [Option.map_eq_some_iff] at e'
    obtain ⟨ys, e1, rfl⟩ := e'
    rw [unstr_eq e1]
    rfl
  | .non :: _, _, e => by cases e
  | .bl _ :: _, _, e => by cases e
  | .int _ :: _, _, e => by cases e
  | .tup _ :: _, _, e => by cases e
  | .scr _ :: _, _, e => by cases e
  | .ktp _ :: _, _, e => by cases e
  | .ref _ :: _, _, e => by cases e
  | .cst _ :: _, _, e => by cases e
  | .exn :: _, _, e => by cases e
theorem strs_inv {H0 H : Hp} {ι : List Addr} : ∀ {ys : List Str} {vs : List V}, RVs X.K H0 H ι (strsW ys) vs → vs = ys.map V.str
  | [], _, .nil => rfl
  | y :: ys, _, .cons r t => by
    cases r
    rw [strs_inv t]
    rfl
def mJoin : Va → List Va → Mo Va := fun w ws st => match w, ws with
  | .str a, [.ref n] => match st[n]? with
    | some (.lst xs) => match unstr xs with
      | some ys => if (ys.map (·.length)).sum + ys.length * a.length ≤ 16777216 then .ok (.str (Txt.join a ys)) st else .no
      | none => .no
    | _ => .no
  | _, _ => .no
theorem nox_mJoin : NoXM mJoin := by intro a b st c fs s h; unfold mJoin at h; split at h <;> (try split at h) <;> (try split at h) <;> (try split at h) <;> cases h
theorem ms_join : MetS X g "str.join" mJoin := by
  intro pins s σ H x xs v us Q I rx rxs h
  obtain ⟨st, ι, w, ws, rs, rw', rv, p⟩ := h
  unfold mJoin at p
  split at p
  · split at p
    · rename_i n _ zs e0
      split at p
      · rename_i ys e1
        split at p
        · rename_i hl
          cases rw'
          cases rv with
          | cons ra rb =>
            cases rb
            obtain ⟨a, vs, rfl, _, h1, k1⟩ := rs.list ra e0
            rw [unstr_eq e1] at k1
            rw [strs_inv k1] at h1
            exact mt_join pins s σ H _ _ v us Q I rx rxs ⟨_, a, ys, rfl, rfl, .inl (.inl (.inl h1)), hl, p H ι _ Ext.refl rs (.str _)⟩
        · exact (show False from p).elim
      · exact (show False from p).elim
    · exact (show False from p).elim
  · exact (show False from p).elim
def mAppend : Va → List Va → Mo Va := fun w ws st => match w, ws with
  | .ref n, [y] => match st[n]? with
    | some (.lst xs) => if xs.length < 16777216 then .ok .non (st.set n (.lst (xs ++ [y]))) else .no
    | _ => .no
  | _, _ => .no
theorem nox_mAppend : NoXM mAppend := by intro a b st c fs s h; unfold mAppend at h; split at h <;> (try split at h) <;> (try split at h) <;> cases h
theorem lt_line {n : Nat} (h : n < 16777216) : n < sizeLine := by rw [sizeLine_eq]; exact h
/-- a list of the store is changed -/
theorem put_lst {st : Sto} {H : Hp} {ι : List Addr} {n : Nat} {a : Addr} {ws : List Va} {vs : List V} (rs : RS X.K g st H ι) (ha : ι[n]? = some a) (r : RVs X.K g.H0 H ι ws vs) :
    Ext X.K H ι (upd H a (.lst vs)) ι ∧ RS X.K g (st.set n (.lst ws)) (upd H a (.lst vs)) ι := by
  obtain ⟨u, hu, ow⟩ := rs.mem (List.mem_of_getElem? ha)
  have e : Ext X.K H ι (upd H a (.lst vs)) ι := ext_own (n := n) rs hu ow
  exact ⟨e, rs.put ha ⟨vs, upd_same, r.mono e⟩⟩
theorem ms_append : MetS X g "list.append" mAppend := by
  intro pins s σ H x xs v us Q I rx rxs h
  obtain ⟨st, ι, w, ws, rs, rw', rv, p⟩ := h
  unfold mAppend at p
  split at p
  · split at p
    · rename_i n y _ zs e0
      split at p
      · rename_i hl
        obtain ⟨a, vs, rfl, ha, h1, k1⟩ := rs.list rw' e0
        cases rv with
        | cons ra rb =>
          cases rb
          refine mt_append pins s σ H _ _ v us Q I rx rxs ⟨a, vs, _, rfl, rfl, h1, lt_line (by rw [← k1.length]; exact hl), ?_⟩
          obtain ⟨x1, x2⟩ := put_lst rs ha (k1.append (.cons ra .nil))
          exact p _ _ _ x1 x2 .non
      · exact (show False from p).elim
    · exact (show False from p).elim
  · exact (show False from p).elim
def mExtend : Va → List Va → Mo Va := fun w ws st => match w, ws with
  | .ref n, [.ref m] => match st[n]?, st[m]? with
    | some (.lst xs), some (.lst ys) => if xs.length + ys.length ≤ 16777216 then .ok .non (st.set n (.lst (xs ++ ys))) else .no
    | _, _ => .no
  | _, _ => .no
theorem nox_mExtend : NoXM mExtend := by intro a b st c fs s h; unfold mExtend at h; split at h <;> (try split at h) <;> (try split at h) <;> cases h
theorem ms_extend : MetS X g "list.extend" mExtend := by
  intro pins s σ H x xs v us Q I rx rxs h
  obtain ⟨st, ι, w, ws, rs, rw', rv, p⟩ := h
  unfold mExtend at p
  split at p
  · split at p
    · rename_i n m _ _ zs ys e0 e1
      split at p
      · rename_i hl
        obtain ⟨a, vs, rfl, ha, h1, k1⟩ := rs.list rw' e0
        cases rv with
        | cons ra rb =>
          cases rb
          obtain ⟨b, us', rfl, hb, h2, k2⟩ := rs.list ra e1
          refine mt_extend pins s σ H _ _ v us Q I rx rxs ⟨a, b, vs, us', rfl, rfl, h1, h2, le_line (by rw [← k1.length, ← k2.length]; exact hl), ?_⟩
          obtain ⟨x1, x2⟩ := put_lst rs ha (k1.append k2)
          exact p _ _ _ x1 x2 .non
      · exact (show False from p).elim
    · exact (show False from p).elim
  · exact (show False from p).elim
def mPop : Va → List Va → Mo Va := fun w ws st => match w, ws with
  | .ref n, [] => match st[n]? with
    | some (.lst xs) => match xs[xs.length - 1]? with
      | some y => .ok y (st.set n (.lst xs.dropLast))
      | none => .no
    | _ => .no
  | _, _ => .no
theorem nox_mPop : NoXM mPop := by intro a b st c fs s h; unfold mPop at h; split at h <;> (try split at h) <;> (try split at h) <;> cases h
theorem RVs.dropLast {K : PySem.W.Frag} {H0 H : Hp} {ι : List Addr} {ws : List Va} {vs : List V} (k : RVs K H0 H ι ws vs) : RVs K H0 H ι ws.dropLast vs.dropLast := by
  rw [List.dropLast_eq_take, List.dropLast_eq_take, k.length]
  exact k.take _
theorem ms_pop : MetS X g "list.pop" mPop := by
  intro pins s σ H x xs v us Q I rx rxs h
  obtain ⟨st, ι, w, ws, rs, rw', rv, p⟩ := h
  unfold mPop at p
  split at p
  · split at p
    · rename_i n _ zs e0
      split at p
      · rename_i y e1
        obtain ⟨a, vs, rfl, ha, h1, k1⟩ := rs.list rw' e0
        cases rv
        obtain ⟨y', e2, ry⟩ := k1.get e1
        rw [k1.length] at e2
        refine mt_pop pins s σ H _ _ v us Q I rx rxs ⟨a, vs, y', rfl, rfl, h1, e2, ?_⟩
        obtain ⟨x1, x2⟩ := put_lst rs ha k1.dropLast
        exact p _ _ _ x1 x2 (ry.mono x1)
      · exact (show False from p).elim
    · exact (show False from p).elim
  · exact (show False from p).elim

/-! ### attributes of instances -/
def eFld (cs : List Nat) (f : Str) (m : En → Mo Va) : En → Mo Va := fun env st => bnd (m env st) fun w st1 => match w with
  | .ref n => match st1[n]? with
    | some (.ins c fs) => if c ∈ cs then (match fs.lookup f with
      | some x => .ok x st1
      | none => .no) else .no
    | _ => .no
  | _ => .no
theorem pf_lookup {H : Hp} {ι : List Addr} {f : Str} : ∀ {fs : List (Str × Va)} {fs' : List (Str × V)} {x : Va}, PF X.K g H ι fs fs' → fs.lookup f = some x → ∃ v, fs'.lookup f = some v ∧ RV X.K g.H0 H ι x v
  | _, _, _, .nil, e => by cases e
  | (k, y) :: fs, (k', y') :: fs', x, .cons r t, e => by
    obtain ⟨r1, r2⟩ := r
    have r1' : k = k' := r1
    subst r1'
    rw [List.lookup_cons] at e ⊢
    cases h : (f == k) with
    | true =>
      rw [h] at e
      cases e
      exact ⟨_, rfl, r2⟩
    | false =>
      rw [h] at e
      exact pf_lookup t e
/-- what is asked of a class of the program: its attributes are plain -/
def FldOk (K : PySem.W.Frag) (g : Gx) (cs : List Nat) (f : Str) : Prop := ∀ c ∈ cs, Cls K (g.cls c) ∧ NoAttr K (g.cls c) f
theorem j_fld {o : Expr} {f : Str} {cs : List Nat} {m : En → Mo Va} (hf : FldOk X.K g cs f) (ho : JE X g W o m) (hb : attributeBase o f X.env (eval o X.env) = eval o X.env := by rfl) : JE X g W (.Attribute o f pos) (eFld cs f m) := ⟨PE.imp (pe_fld ho.pe hb) fun σ H Q q => by
  obtain ⟨env, st, ι, rs, re, p⟩ := q
  refine ⟨env, st, ι, rs, re, (Pst.bind (rel := rV X.K g) p).imp (fun x H1 q => ?_) fun _ _ _ q => q⟩
  obtain ⟨w, st1, ι1, ex, rs1, r1, p1⟩ := q
  cases w with
  | ref n =>
    cases r1 with
    | @ref _ a ha =>
      dsimp only at p1
      split at p1
      · rename_i c fs e0
        split at p1
        · rename_i hc
          split at p1
          · rename_i x e1
            obtain ⟨dx, fs', h1, k1⟩ := rs1.obj n _ a e0 ha
            obtain ⟨v, e2, rv⟩ := pf_lookup k1 e1
            exact ⟨a, _, dx, fs', v, rfl, h1, (hf c hc).1, (hf c hc).2, e2, p1 H1 ι1 v Ext.refl rs1 rv⟩
          · exact (show False from p1).elim
        · exact (show False from p1).elim
      · exact (show False from p1).elim
  | _ => exact (show False from p1).elim⟩
def putW (f : Str) (v : Va) : List (Str × Va) → List (Str × Va)
  | [] => [(f, v)]
  | (k, x) :: r => if k = f then (k, v) :: r else (k, x) :: putW f v r
theorem pf_put {H : Hp} {ι : List Addr} {f : Str} {x : Va} {v : V} (r : RV X.K g.H0 H ι x v) : ∀ {fs : List (Str × Va)} {fs' : List (Str × V)}, PF X.K g H ι fs fs' → PF X.K g H ι (putW f x fs) (putF f v fs')
  | _, _, .nil => .cons ⟨rfl, r⟩ .nil
  | (k, y) :: fs, (k', y') :: fs', .cons q t => by
    obtain ⟨q1, q2⟩ := q
    have q1' : k = k' := q1
    subst q1'
    unfold putW putF
    by_cases h : k = f
    · rw [if_pos h, if_pos h]
      exact .cons ⟨rfl, r⟩ t
    · rw [if_neg h, if_neg h]
      exact .cons ⟨rfl, q2⟩ (pf_put r t)
theorem pf_length {H : Hp} {ι : List Addr} {κ : Type} : ∀ {fs : List (κ × Va)} {fs' : List (κ × V)}, PF X.K g H ι fs fs' → fs.length = fs'.length := fun h => Paired.length h
def fldT (cs : List Nat) (f : Str) (env : En) (y : Va) : Va → Sto → Fl := fun w st2 => match w with
  | .ref n => match st2[n]? with
    | some (.ins c fs) => if c ∈ cs ∧ fs.length < 1000 then .nx env (st2.set n (.ins c (putW f y fs))) else .no
    | _ => .no
  | _ => .no
def sFld (cs : List Nat) (f : Str) (mo mv : En → Mo Va) : Sm := fun env st => bS env (mv env st) fun y st1 => bS env (mo env st1) (fldT cs f env y)
theorem put_ins {st : Sto} {H : Hp} {ι : List Addr} {n c : Nat} {a dx : Addr} {fs : List (Str × Va)} {fs' : List (Str × V)} (rs : RS X.K g st H ι) (ha : ι[n]? = some a) (r : PF X.K g H ι fs fs') :
    Ext X.K H ι (upd H a (.ins (g.cls c) dx fs')) ι ∧ RS X.K g (st.set n (.ins c fs)) (upd H a (.ins (g.cls c) dx fs')) ι := by
  obtain ⟨u, hu, ow⟩ := rs.mem (List.mem_of_getElem? ha)
  have e : Ext X.K H ι (upd H a (.ins (g.cls c) dx fs')) ι := ext_own (n := n) rs hu ow
  exact ⟨e, rs.put ha ⟨dx, fs', upd_same, PF.mono e r⟩⟩
theorem js_fld {o value : Expr} {f : Str} {pos' : Pos} {cs : List Nat} {mo mv : En → Mo Va} (hf : FldOk X.K g cs f) (ho : JE X g W o mo) (hv : JE X g W value mv) (hs : swapsWith value (some (.Attribute o f pos')) pos.line X.env = pure false := by rfl) :
    JS X g W (.Assign [.Attribute o f pos'] value pos) (sFld cs f mo mv) := ⟨PS.imp (ps_fld ho.pe hv.pe hs) fun D σ H q => by
  obtain ⟨env, st, ι, rs, re, p⟩ := tG_bS (rel := rV X.K g) q
  refine ⟨env, st, ι, rs, re, p.imp (fun y H1 q => ?_) fun _ _ _ q => q⟩
  obtain ⟨env1, wy, st1, ι1, rs1, re1, ry, p1⟩ := q
  refine ⟨env1, st1, ι1, rs1, re1, ?_⟩
  have p1' : PstS X.K g W (bS env1 (mo env1 st1) (fldT cs f env1 wy)) H1 ι1 D := p1
  revert p1'
  show PstS X.K g W (bS env1 (mo env1 st1) (fldT cs f env1 wy)) H1 ι1 D → Pst X.K g (rV X.K g) (mo env1 st1) H1 ι1 _ _
  clear p1
  generalize mo env1 st1 = r
  intro p1
  cases r with
  | no => exact p1
  | exc c fs st2 => exact fun H' ι' d fs' e rs' hd pf => p1 H' ι' σ d fs' e rs' (re1.mono e) hd pf
  | ok w st2 =>
    intro H2 ι2 x e2 rs2 r2
    have p2 : PstS X.K g W (fldT cs f env1 wy w st2) H2 ι2 D := PstS.shift (r := fldT cs f env1 wy w st2) p1 e2
    unfold fldT at p2
    cases w with
    | ref n =>
      cases r2 with
      | @ref _ a ha =>
        dsimp only at p2
        split at p2
        · rename_i c fs e0
          split at p2
          · rename_i hc
            obtain ⟨dx, fs', h1, k1⟩ := rs2.obj n _ a e0 ha
            refine ⟨a, _, dx, fs', rfl, h1, (hf c hc.1).1, (hf c hc.1).2, by rw [← pf_length (X := X) (g := g) k1]; exact hc.2, ?_⟩
            obtain ⟨x1, x2⟩ := put_ins (c := c) (dx := dx) rs2 ha (pf_put (f := f) (ry.mono e2) k1)
            exact p2 _ _ σ x1 x2 ((re1.mono e2).mono x1)
          · exact (show False from p2).elim
        · exact (show False from p2).elim
    | _ => exact (show False from p2).elim⟩
/-- self.f += e, ints -/
def augT (f : Str) (env : En) (n c : Nat) (i : Int) : Va → Sto → Fl := fun y st2 => match y with
  | .int j => match st2[n]? with
    | some (.ins c' fs') => if c' = c ∧ fs'.length < 1000 then .nx env (st2.set n (.ins c' (putW f (.int (i + j)) fs'))) else .no
    | _ => .no
  | _ => .no
def sAugF (cs : List Nat) (f : Str) (mo mv : En → Mo Va) : Sm := fun env st => bS env (mo env st) fun w st1 => match w with
  | .ref n => match st1[n]? with
    | some (.ins c fs) => if c ∈ cs then (match fs.lookup f with
      | some (.int i) => bS env (mv env st1) (augT f env n c i)
      | _ => .no) else .no
    | _ => .no
  | _ => .no
theorem js_augF {o value : Expr} {f : Str} {tpos : Pos} {cs : List Nat} {mo mv : En → Mo Va} (hf : FldOk X.K g cs f) (ho : JE X g W o mo) (hv : JE X g W value mv) : JS X g W (.AugAssign (.Attribute o f tpos) .Add value pos) (sAugF cs f mo mv) := ⟨PS.imp (ps_fldaug ho.pe hv.pe in_add) fun D σ H q => by
  obtain ⟨env, st, ι, rs, re, p⟩ := tG_bS (rel := rV X.K g) q
  refine ⟨env, st, ι, rs, re, p.imp (fun x H1 q => ?_) fun _ _ _ q => q⟩
  obtain ⟨env1, w, st1, ι1, rs1, re1, r1, p1⟩ := q
  cases w with
  | ref n =>
    cases r1 with
    | @ref _ a ha =>
      dsimp only at p1
      split at p1
      · rename_i c fs e0
        split at p1
        · rename_i hc
          split at p1
          · rename_i i e1
            obtain ⟨dx, fs', h1, k1⟩ := rs1.obj n _ a e0 ha
            obtain ⟨v, e2, rv⟩ := pf_lookup k1 e1
            cases rv
            refine ⟨a, _, dx, fs', _, rfl, h1, (hf c hc).1, (hf c hc).2, e2, env1, st1, ι1, rs1, re1, ?_⟩
            revert p1
            show PstS X.K g W (bS env1 (mv env1 st1) (augT f env1 n c i)) H1 ι1 D → Pst X.K g (rV X.K g) (mv env1 st1) H1 ι1 _ _
            generalize mv env1 st1 = r
            intro p1
            cases r with
            | no => exact (show False from p1).elim
            | exc c fs st2 => exact fun H' ι' d fs' e rs' hd pf => p1 H' ι' σ d fs' e rs' (re1.mono e) hd pf
            | ok y st2 =>
              intro H2 ι2 vy e3 rs2 r2
              have p2 : PstS X.K g W (augT f env1 n c i y st2) H2 ι2 D := PstS.shift (r := augT f env1 n c i y st2) p1 e3
              unfold augT at p2
              cases y with
              | int j =>
                cases r2
                dsimp only at p2
                split at p2
                · rename_i c' fs2 e4
                  split at p2
                  · rename_i hc'
                    obtain ⟨rfl, hl⟩ := hc'
                    obtain ⟨dx2, fs2', h2, k2⟩ := rs2.obj n _ a e4 (e3.get ha)
                    refine ⟨i, j, rfl, rfl, dx2, fs2', h2, by rw [← pf_length (X := X) (g := g) k2]; exact hl, ?_⟩
                    obtain ⟨x1, x2⟩ := put_ins (c := c') (dx := dx2) rs2 (e3.get ha) (pf_put (f := f) (RV.int (i + j)) k2)
                    exact p2 _ _ σ x1 x2 ((re1.mono e3).mono x1)
                  · exact (show False from p2).elim
                · exact (show False from p2).elim
              | _ => exact (show False from p2).elim
          · exact (show False from p1).elim
        · exact (show False from p1).elim
      · exact (show False from p1).elim
  | _ => exact (show False from p1).elim⟩
end
end Sh

set_option Elab.async false
set_option linter.all false
set_option maxRecDepth 100000
set_option maxHeartbeats 4000000
namespace Sh
open PySem PySem.Spec PyProof.Rows L2

/-! ### defs: the promise that a def does what a plain function does -/
abbrev Fn := List Va → Mo Va
def spM (K : PySem.W.Frag) (g : Gx) (n : Nat) (F : Fn) : Sp := fun vs H Q E => ∃ ws st ι, ws.length = n ∧ RS K g st H ι ∧ RVs K g.H0 H ι ws vs ∧ Pst K g (rV K g) (F ws st) H ι Q E
/-- a def of the text, callable: at most k calls deep -/
structure DefOk (P : Program) (w : World) (K : PySem.W.Frag) (mg : Str → Option Value) (base : Heap) (g : Gx) (k : Nat) (x : Str) (n : Nat) (F : Fn) : Prop where
  ex : ∃ (f : Addr) (fd : FuncData) (ps : List Str), FnOk P w K mg base (L2.CX P w) k f fd ps (spM K g n F) ∧ ps.length = n ∧ Binds K fd ps [] ∧ mg x = some (.ref f) ∧ PySem.W.keepIn K (.ref f) = true
/-- .. with defaults for the last parameters -/
structure DefOkD (P : Program) (w : World) (K : PySem.W.Frag) (mg : Str → Option Value) (base : Heap) (g : Gx) (k : Nat) (x : Str) (n : Nat) (dws : List Va) (F : Fn) : Prop where
  ex : ∃ (f : Addr) (fd : FuncData) (ps : List Str) (ds : List Value) (dvs : List V), FnOk P w K mg base (L2.CX P w) k f fd ps (spM K g n F) ∧ ps.length = n ∧ Binds K fd ps ds ∧ Vals dvs ds ∧ (∀ H ι, RVs K g.H0 H ι dws dvs) ∧ mg x = some (.ref f) ∧ PySem.W.keepIn K (.ref f) = true
/-- a method of the class c -/
structure MethOk (P : Program) (w : World) (K : PySem.W.Frag) (mg : Str → Option Value) (base : Heap) (g : Gx) (k : Nat) (c : Nat) (m : Str) (n : Nat) (F : Fn) : Prop where
  ex : ∃ (f : Addr) (fd : FuncData) (ps : List Str), FnOk P w K mg base (L2.CX P w) k f fd ps (spM K g n F) ∧ ps.length = n ∧ Binds K fd ps [] ∧ Meth K (g.cls c) m f
  cl : Cls K (g.cls c)
/-- a class that is made by its __init__ -/
structure MakeOk (P : Program) (w : World) (K : PySem.W.Frag) (mg : Str → Option Value) (base : Heap) (g : Gx) (k : Nat) (c : Nat) (x : Str) (n : Nat) (F : Fn) : Prop where
  ex : ∃ (f : Addr) (fd : FuncData) (ps : List Str), FnOk P w K mg base (L2.CX P w) k f fd ps (spM K g n F) ∧ ps.length = n ∧ Binds K fd ps [] ∧ Mk K (g.cls c) f ∧ mg x = some (.ref (g.cls c))
def lenOk (n : Nat) (F : Fn) : Fn := fun ws st => if ws.length = n then F ws st else .no
section
variable {X : Cx} {g : Gx} {W : WX} {pos : Pos}
theorem j_call {k n : Nat} {F : Fn} {x : Str} {p : Pos} {e : Expr} {es : List Expr} {m : En → Mo (List Va)} (D : DefOk X.prog X.w X.K X.mg X.base g k x n F) (hr : Room k X.A) (tk : Takes X W) (ha : JA X g W (e :: es) m) (hg : Gl X x := by rfl)
    (hdb : (x == ("__debug__" : Str)) = false := by decide) (he : starEach (e :: es) X.env = (false, eval e X.env) :: starEach es X.env := by rfl) (hpl : (backTo pos (starEach es X.env)).any (·.1) = false := by rfl) :
    JE X g W (.Call (.Name x p) (e :: es) [] pos) (eA (lenOk n F) m) := by
  obtain ⟨f, fd, ps, h1, h2, h3, h4, h5⟩ := D.ex
  refine ⟨PE.imp (pe_callS h1 hr hg h4 h5 h3 (fun σ => passAt tk σ) ha.pa hdb he hpl) fun σ H Q q => ?_⟩
  obtain ⟨env, st, ι, rs, re, p⟩ := pst_eA q
  refine ⟨env, st, ι, rs, re, p.imp (fun xs H1 q => ?_) fun _ _ _ q => q⟩
  obtain ⟨st1, ι1, ws, rs1, r1, p1⟩ := q
  unfold lenOk at p1
  split at p1
  · rename_i hl
    exact ⟨ws, st1, ι1, hl, rs1, r1, p1⟩
  · exact (show False from p1).elim
theorem j_callD {k n : Nat} {F : Fn} {dws : List Va} {x : Str} {p : Pos} {e : Expr} {es : List Expr} {m : En → Mo (List Va)} (D : DefOkD X.prog X.w X.K X.mg X.base g k x n dws F) (hr : Room k X.A) (tk : Takes X W) (ha : JA X g W (e :: es) m) (hg : Gl X x := by rfl)
    (hdb : (x == ("__debug__" : Str)) = false := by decide) (he : starEach (e :: es) X.env = (false, eval e X.env) :: starEach es X.env := by rfl) (hpl : (backTo pos (starEach es X.env)).any (·.1) = false := by rfl) :
    JE X g W (.Call (.Name x p) (e :: es) [] pos) (eA (fun ws => lenOk n F (ws ++ dws)) m) := by
  obtain ⟨f, fd, ps, ds, dvs, h1, h2, h3, hd, hw, h4, h5⟩ := D.ex
  refine ⟨PE.imp (pe_callSD h1 hr hg h4 h5 h3 hd (fun σ => passAt tk σ) ha.pa hdb he hpl) fun σ H Q q => ?_⟩
  obtain ⟨env, st, ι, rs, re, p⟩ := pst_eA q
  refine ⟨env, st, ι, rs, re, p.imp (fun xs H1 q => ?_) fun _ _ _ q => q⟩
  obtain ⟨st1, ι1, ws, rs1, r1, p1⟩ := q
  unfold lenOk at p1
  split at p1
  · rename_i hl
    exact ⟨ws ++ dws, st1, ι1, hl, rs1, r1.append (hw _ _), p1⟩
  · exact (show False from p1).elim
theorem pe_call0E {CX : CXT} {k : Nat} {f : Addr} {fd : FuncData} {ps : List Str} {sp : Sp} {E : L2.St → XK} {x : Str} {p : Pos} (F : FnOk X.prog X.w X.K X.mg X.base CX k f fd ps sp) (hr : Room k X.A) (hg : Gl X x) (hm : X.mg x = some (.ref f)) (hk : PySem.W.keepIn X.K (.ref f) = true)
    (hb : Binds X.K fd ps []) (hx : ∀ σ, PassesAt CX X σ (E σ)) (hdb : (x == ("__debug__" : Str)) = false) : PE X (.Call (.Name x p) [] [] pos) (fun σ H Q => sp [] H Q (E σ)) :=
  ⟨fun pins s σ H Q I h => wpAny_Call_Name_kw (ld_glob I hg hm (PySem.W.callWith_K0 I.kIn hk (run_fnS (us := []) F hr hb (hx σ) I .nil h)) hdb)⟩
theorem j_call0 {k : Nat} {F : Fn} {x : Str} {p : Pos} (D : DefOk X.prog X.w X.K X.mg X.base g k x 0 F) (hr : Room k X.A) (tk : Takes X W) (hg : Gl X x := by rfl)
    (hdb : (x == ("__debug__" : Str)) = false := by decide) : JE X g W (.Call (.Name x p) [] [] pos) (eA (lenOk 0 F) aNil) := by
  obtain ⟨f, fd, ps, h1, h2, h3, h4, h5⟩ := D.ex
  refine ⟨PE.imp (pe_call0E h1 hr hg h4 h5 h3 (fun σ => passAt tk σ) hdb) fun σ H Q q => ?_⟩
  obtain ⟨env, st, ι, rs, re, p⟩ := q
  exact ⟨[], st, ι, rfl, rs, .nil, p⟩
theorem pe_methE {pl : Sem Bool} {CX : CXT} {k : Nat} {C f : Addr} {fd : FuncData} {ps : List Str} {sp : Sp} {E : L2.St → XK} {o e : Expr} {es : List Expr} {ta : TE} {t : TA} {m : Str} {apos : Pos} (ho : PE X o ta) (c : Cls X.K C) (hm : Meth X.K C m f)
    (F : FnOk X.prog X.w X.K X.mg X.base CX k f fd ps sp) (hr : Room k X.A) (hb : Binds X.K fd ps []) (hx : ∀ σ, PassesAt CX X σ (E σ)) (ha : PA X (e :: es) t)
    (hst : starEach (e :: es) X.env = (false, eval e X.env) :: starEach es X.env) (hpl : (backTo pos (starEach es X.env)).any (·.1) = false)
    (ht : eval (.Call (.Attribute o m apos) (e :: es) [] pos) X.env = (do
      let ov ← eval o X.env
      standAt apos.atName
      let (f, first) ← holding [ov] (getMethod ov m pl)
      callWith pos f first (backTo pos (starEach (e :: es) X.env)) (backToKw pos (keywordEach [] X.env)))) :
    PE X (.Call (.Attribute o m apos) (e :: es) [] pos) (fun σ H Q => ta σ H fun x H1 => ∃ a dx fs, x = .ref a ∧ H1 a = some (.ins C dx fs) ∧ fs.lookup m = none ∧ t σ H1 fun vs H2 => sp (x :: vs) H2 Q (E σ)) := by
  refine ⟨fun pins s σ H Q I h => PySem.W.methodCall_KW (pl := pl) (thn (ho.run pins s σ H _ I h) fun u s1 hu => ?_) ht⟩
  obtain ⟨x, H1, I1, rx, a, dx, fs, ex, ea, l, q⟩ := hu
  subst ex
  obtain rfl : u = Value.ref a := rx
  refine getmeth_ok I1 ea c hm l (PySem.W.callWith_K (first := [.ref a]) (h₀ := X.base) I.ok.mod.kin hm.kp (thn (ha.run pos pins s1 σ H1 _ I1 q) fun us s2 hv => ?_) hst hpl)
  obtain ⟨vs, H2, I2, r, q2⟩ := hv
  exact ⟨I2.kIn, run_fnS (us := .ref a :: us) (vs := .ref a :: vs) F hr hb (hx σ) I2 (.cons rfl r) q2⟩
theorem pe_methE0 {pl : Sem Bool} {CX : CXT} {k : Nat} {C f : Addr} {fd : FuncData} {ps : List Str} {sp : Sp} {E : L2.St → XK} {o : Expr} {ta : TE} {m : Str} {apos : Pos} (ho : PE X o ta) (c : Cls X.K C) (hm : Meth X.K C m f)
    (F : FnOk X.prog X.w X.K X.mg X.base CX k f fd ps sp) (hr : Room k X.A) (hb : Binds X.K fd ps []) (hx : ∀ σ, PassesAt CX X σ (E σ))
    (ht : eval (.Call (.Attribute o m apos) [] [] pos) X.env = (do
      let ov ← eval o X.env
      standAt apos.atName
      let (f, first) ← holding [ov] (getMethod ov m pl)
      callWith pos f first (backTo pos (starEach [] X.env)) (backToKw pos (keywordEach [] X.env)))) :
    PE X (.Call (.Attribute o m apos) [] [] pos) (fun σ H Q => ta σ H fun x H1 => ∃ a dx fs, x = .ref a ∧ H1 a = some (.ins C dx fs) ∧ fs.lookup m = none ∧ sp [x] H1 Q (E σ)) := by
  refine ⟨fun pins s σ H Q I h => PySem.W.methodCall_KW (pl := pl) (thn (ho.run pins s σ H _ I h) fun u s1 hu => ?_) ht⟩
  obtain ⟨x, H1, I1, rx, a, dx, fs, ex, ea, l, q⟩ := hu
  subst ex
  obtain rfl : u = Value.ref a := rx
  exact getmeth_ok I1 ea c hm l (PySem.W.callWith_K0 (first := [.ref a]) I1.kIn hm.kp (run_fnS (us := [.ref a]) (vs := [.ref a]) F hr hb (hx σ) I1 (.cons rfl .nil) q))
/-- o.m(..), o of the class c -/
def isIns (c : Nat) (m : Str) (st : Sto) : Va → Bool
  | .ref n => match st[n]? with
    | some (.ins c' fs) => decide (c' = c) && (fs.lookup m).isNone
    | _ => false
  | _ => false
theorem pf_none {H : Hp} {ι : List Addr} {f : Str} : ∀ {fs : List (Str × Va)} {fs' : List (Str × V)}, PF X.K g H ι fs fs' → fs.lookup f = none → fs'.lookup f = none
  | _, _, .nil, _ => rfl
  | (k, y) :: fs, (k', y') :: fs', .cons r t, e => by
    obtain ⟨r1, r2⟩ := r
    have r1' : k = k' := r1
    subst r1'
    rw [List.lookup_cons] at e ⊢
    cases h : (f == k) with
    | true =>
      rw [h] at e
      cases e
    | false =>
      rw [h] at e
      exact pf_none t e
theorem isIns_ok {c : Nat} {m : Str} {st : Sto} {H : Hp} {ι : List Addr} {w : Va} {v : V} (rs : RS X.K g st H ι) (r : RV X.K g.H0 H ι w v) (e : isIns c m st w = true) : ∃ a dx fs, v = .ref a ∧ H a = some (.ins (g.cls c) dx fs) ∧ fs.lookup m = none := by
  cases r with
  | @ref n a h =>
    have e' : (match st[n]? with | some (.ins c' fs) => decide (c' = c) && (fs.lookup m).isNone | _ => false) = true := e
    split at e'
    · rename_i c' fs q
      rw [Bool.and_eq_true, decide_eq_true_eq] at e'
      obtain ⟨rfl, e2⟩ := e'
      obtain ⟨dx, fs', h1, k1⟩ := rs.obj n _ a q h
      exact ⟨a, dx, fs', rfl, h1, pf_none k1 (Option.isNone_iff_eq_none.mp e2)⟩
    · cases e'
  | _ => cases e
def eMeth (c : Nat) (m : Str) (n : Nat) (F : Fn) (mo : En → Mo Va) (ma : En → Mo (List Va)) : En → Mo Va := fun env st => bnd (mo env st) fun w st1 => if isIns c m st1 w = true then bnd (ma env st1) fun ws st2 => lenOk n F (w :: ws) st2 else .no
theorem j_meth {pl : Sem Bool} {k n c : Nat} {F : Fn} {m : Str} {apos : Pos} {o e : Expr} {es : List Expr} {mo : En → Mo Va} {ma : En → Mo (List Va)} (D : MethOk X.prog X.w X.K X.mg X.base g k c m n F) (hr : Room k X.A) (tk : Takes X W) (ho : JE X g W o mo) (ha : JA X g W (e :: es) ma)
    (hst : starEach (e :: es) X.env = (false, eval e X.env) :: starEach es X.env := by rfl) (hpl : (backTo pos (starEach es X.env)).any (·.1) = false := by rfl)
    (ht : eval (.Call (.Attribute o m apos) (e :: es) [] pos) X.env = (do
      let ov ← eval o X.env
      standAt apos.atName
      let (f, first) ← holding [ov] (getMethod ov m pl)
      callWith pos f first (backTo pos (starEach (e :: es) X.env)) (backToKw pos (keywordEach [] X.env))) := by rfl) :
    JE X g W (.Call (.Attribute o m apos) (e :: es) [] pos) (eMeth c m n F mo ma) := by
  obtain ⟨f, fd, ps, h1, h2, h3, h4⟩ := D.ex
  refine ⟨PE.imp (pe_methE (pl := pl) ho.pe D.cl h4 h1 hr h3 (fun σ => passAt tk σ) ha.pa hst hpl ht) fun σ H Q q => ?_⟩
  obtain ⟨env, st, ι, rs, re, p⟩ := q
  refine ⟨env, st, ι, rs, re, (Pst.bind (rel := rV X.K g) p).imp (fun x H1 q => ?_) fun _ _ _ q => q⟩
  obtain ⟨w, st1, ι1, ex, rs1, r1, p1⟩ := q
  split at p1
  · rename_i hi
    obtain ⟨a, dx, fs, q1, q2, q3⟩ := isIns_ok rs1 r1 hi
    refine ⟨a, dx, fs, q1, q2, q3, env, st1, ι1, rs1, re.mono ex, (Pst.bind (rel := rVs X.K g) p1).imp (fun xs H2 q => ?_) fun _ _ _ q => q⟩
    obtain ⟨ws, st2, ι2, ex2, rs2, r2, p2⟩ := q
    unfold lenOk at p2
    split at p2
    · rename_i hl
      exact ⟨w :: ws, st2, ι2, hl, rs2, .cons (r1.mono ex2) r2, p2⟩
    · exact (show False from p2).elim
  · exact (show False from p1).elim
theorem j_meth0 {pl : Sem Bool} {k n c : Nat} {F : Fn} {m : Str} {apos : Pos} {o : Expr} {mo : En → Mo Va} (D : MethOk X.prog X.w X.K X.mg X.base g k c m n F) (hr : Room k X.A) (tk : Takes X W) (ho : JE X g W o mo)
    (ht : eval (.Call (.Attribute o m apos) [] [] pos) X.env = (do
      let ov ← eval o X.env
      standAt apos.atName
      let (f, first) ← holding [ov] (getMethod ov m pl)
      callWith pos f first (backTo pos (starEach [] X.env)) (backToKw pos (keywordEach [] X.env))) := by rfl) :
    JE X g W (.Call (.Attribute o m apos) [] [] pos) (eMeth c m n F mo aNil) := by
  obtain ⟨f, fd, ps, h1, h2, h3, h4⟩ := D.ex
  refine ⟨PE.imp (pe_methE0 (pl := pl) ho.pe D.cl h4 h1 hr h3 (fun σ => passAt tk σ) ht) fun σ H Q q => ?_⟩
  obtain ⟨env, st, ι, rs, re, p⟩ := q
  refine ⟨env, st, ι, rs, re, (Pst.bind (rel := rV X.K g) p).imp (fun x H1 q => ?_) fun _ _ _ q => q⟩
  obtain ⟨w, st1, ι1, ex, rs1, r1, p1⟩ := q
  split at p1
  · rename_i hi
    obtain ⟨a, dx, fs, q1, q2, q3⟩ := isIns_ok rs1 r1 hi
    refine ⟨a, dx, fs, q1, q2, q3, ?_⟩
    have p2 : Pst X.K g (rV X.K g) (lenOk n F [w] st1) H1 ι1 Q (fun c d H' => W c d σ H') := p1
    unfold lenOk at p2
    split at p2
    · rename_i hl
      exact ⟨[w], st1, ι1, hl, rs1, .cons r1 .nil, p2⟩
    · exact (show False from p2).elim
  · exact (show False from p1).elim
/-- C(..): its __init__ makes no error -/
def opMake (c n : Nat) (F : Fn) : Fn := fun ws st => match lenOk n F (.ref st.length :: ws) (st ++ [.ins c []]) with
  | .ok .non st2 => .ok (.ref st.length) st2
  | _ => .no
theorem j_make {k n c : Nat} {F : Fn} {x : Str} {p : Pos} {e : Expr} {es : List Expr} {m : En → Mo (List Va)} (D : MakeOk X.prog X.w X.K X.mg X.base g k c x n F) (hr : Room (k + 1) X.A) (ha : JA X g W (e :: es) m) (hg : Gl X x := by rfl)
    (hdb : (x == ("__debug__" : Str)) = false := by decide) (he : starEach (e :: es) X.env = (false, eval e X.env) :: starEach es X.env := by rfl) (hpl : (backTo pos (starEach es X.env)).any (·.1) = false := by rfl) :
    JE X g W (.Call (.Name x p) (e :: es) [] pos) (eA (opMake c n F) m) := by
  obtain ⟨f, fd, ps, h1, h2, h3, h4, h5⟩ := D.ex
  refine ⟨PE.imp (pe_make (dvs := []) h4 h1 hr hg h5 h3 .nil passL ha.pa hdb he hpl) fun σ H Q q => ?_⟩
  obtain ⟨env, st, ι, rs, re, p⟩ := pst_eA q
  refine ⟨env, st, ι, rs, re, p.imp (fun xs H1 q => ?_) fun _ _ _ q => q⟩
  obtain ⟨st1, ι1, ws, rs1, r1, p1⟩ := q
  intro x dx nx ndx nex
  have rs2 : RS X.K g st1 (upd H1 dx (.own x)) ι1 := rs1.other ndx
  have e1 : Ext X.K H1 ι1 (upd H1 dx (.own x)) ι1 := by simpa using ext_new (K := X.K) (ι := ι1) (o := HO.own x) ndx []
  have nx2 : upd H1 dx (.own x) x = none := by rw [upd_ne (Ne.symm nex)]; exact nx
  have e2 : Ext X.K (upd H1 dx (.own x)) ι1 (upd (upd H1 dx (.own x)) x (.ins (g.cls c) dx [])) (ι1 ++ [x]) := ext_new nx2 [x]
  have rs3 : RS X.K g (st1 ++ [.ins c []]) (upd (upd H1 dx (.own x)) x (.ins (g.cls c) dx [])) (ι1 ++ [x]) := rs2.push nx2 ⟨dx, [], upd_same, .nil⟩
  have r3 : RV X.K g.H0 (upd (upd H1 dx (.own x)) x (.ins (g.cls c) dx [])) (ι1 ++ [x]) (.ref st1.length) (.ref x) := .ref (by rw [← rs1.len]; simp)
  rw [List.append_nil]
  unfold opMake lenOk at p1
  by_cases hl : (Va.ref st1.length :: ws).length = n
  · rw [if_pos hl] at p1
    refine ⟨Va.ref st1.length :: ws, _, _, hl, rs3, .cons r3 (r1.mono (e1.trans e2)), ?_⟩
    revert p1
    generalize F (Va.ref st1.length :: ws) (st1 ++ [.ins c []]) = r
    intro p1
    cases r with
    | no => exact (show False from p1).elim
    | exc c' fs st2 => exact (show False from p1).elim
    | ok w st2 =>
      cases w with
      | non =>
        intro H' ι' v e3 rs4 rv
        cases rv
        exact ⟨rfl, p1 H' ι' _ ((e1.trans e2).trans e3) rs4 (r3.mono e3)⟩
      | _ => exact (show False from p1).elim
  · rw [if_neg hl] at p1
    exact (show False from p1).elim

/-! ### a def's body -/
def runF (n : Nat) (m : Sm) (N : Nat) : Fn := fun ws st => match m (ws.map some ++ List.replicate (N - n) none) st with
  | .nx _ st2 => .ok .non st2
  | .rt w st2 => .ok w st2
  | .xc c fs _ st2 => .exc c fs st2
  | _ => .no
theorem re_start {K : PySem.W.Frag} {H : Hp} {ι : List Addr} {ws : List Va} {vs : List V} {N : List Str} {n k : Nat} (hk : N.length = k) (hn : ws.length = n) (r : RVs K g.H0 H ι ws vs) : RE K g H ι (ws.map some ++ List.replicate (k - n) none) (L2.start N vs) := by
  subst hk
  have hl := r.length
  have at_ : ∀ {i : Nat} {w : Va}, (ws.map some ++ List.replicate (N.length - n) none)[i]? = some (some w) → ws[i]? = some w ∧ i < ws.length := fun {i w} e => by
    by_cases hi : i < ws.length
    · rw [List.getElem?_append_left (by simpa using hi), List.getElem?_map] at e
      cases q : ws[i]? with
      | none => rw [q] at e; cases e
      | some u => rw [q] at e; cases e; exact ⟨rfl, hi⟩
    · rw [List.getElem?_append_right (by simpa using Nat.le_of_not_lt hi), List.getElem?_replicate] at e
      split at e <;> cases e
  refine ⟨by unfold L2.start; simp [hl, ← hn], fun i w e _ => ?_, fun i a _ e => ?_⟩
  · obtain ⟨q, hi⟩ := at_ e
    obtain ⟨v, q1, q2⟩ := r.get q
    refine ⟨v, ?_, q2⟩
    unfold L2.start
    rw [List.getElem?_append_left (by simpa [← hl] using hi), List.getElem?_map, q1]
    rfl
  · obtain ⟨q, _⟩ := at_ e
    obtain ⟨v, q1, q2⟩ := r.get q
    exact absurd rfl q2.noExn
theorem fn_body {P : Program} {w : World} {K : PySem.W.Frag} {mg : Str → Option Value} {base : Heap} {x qual : Str} {st : Stmt} {f : Addr} {fd : FuncData} {N ps : List Str} {k n : Nat} {m : Sm} {L : Nat} (F : Fun K x qual st f fd) (S : FnScope N ps (defScope st)) (hn : ps.length = n) (hL : N.length = L)
    (hbody : ∀ (cdv : Value) (A : Around) (outer : List Env) (s : Shared) (H : Hp) (E : XK), Room k (A.deeper (envOfC qual (defScope st) s.heap.objs.size f cdv)) →
      JSs (cxOf (L2.CX P w) P w K mg base N qual (defScope st) f cdv A outer s H E) g (fun c d _ H' => E c d H') (defBody st) m) : FnOk P w K mg base (L2.CX P w) (k + 1) f fd ps (spM K g n (runF n m L)) := by
  refine F.okX S (fun vs H Q E h => ?_) (fun cdv A outer s H vs Q E hr h => ⟨_, (hbody cdv A outer s H E hr).pss, ?_⟩)
  · obtain ⟨ws, st, ι, h1, h2, h3, h4⟩ := h
    rw [← h3.length, h1, hn]
  · obtain ⟨ws, st, ι, h1, h2, h3, h4⟩ := h
    refine ⟨_, st, ι, h2, re_start hL h1 h3, ?_⟩
    revert h4
    unfold runF
    generalize m (ws.map some ++ List.replicate (L - n) none) st = r
    intro h4
    cases r with
    | nx env st2 => exact fun H' ι' σ' e rs re => h4 H' ι' .non e rs .non
    | rt w st2 => exact h4
    | xc c fs env st2 => exact fun H' ι' σ' d fs' e rs re hd pf => h4 H' ι' d fs' e rs hd pf
    | bk env st2 => exact (show False from h4).elim
    | ct env st2 => exact (show False from h4).elim
    | no => exact h4
end
end Sh

set_option Elab.async false
set_option linter.all false
set_option maxRecDepth 100000
set_option maxHeartbeats 4000000
namespace Sh
open PySem PySem.Spec PyProof.Rows L2

/-! ### comprehensions -/
/-- the reading of a target of one name, of several names -/
def gNames : List Nat → TGs
  | [] => gNil
  | i :: r => gCons (gName i) (gNames r)
def gTgt (K : PySem.W.Frag) : List Nat → TG
  | [i] => gName i
  | ix => gTup K ix.length (gNames ix)
def wipeE (env : En) : List Nat → En
  | [] => env
  | v :: vs => (wipeE env vs).set v none
/-- y goes to the end of the list n -/
def pushT (n : Nat) (y : Va) (st : Sto) : Option Sto := match st[n]? with
  | some (.lst acc) => if acc.length < 16777216 then some (st.set n (.lst (acc ++ [y]))) else none
  | _ => none
/-- no error may leave a comprehension -/
def nex {α : Type} (r : Rs α) : Rs α := match r with
  | .ok a st => .ok a st
  | _ => .no
/-- one turn of a comprehension: the store behind it -/
def compT (tg : Tg) (t : En → Mo Bool) (e : En → Mo Va) (n : Nat) (w : Va) (env : En) : Mo Unit := fun st => match tg w env with
  | none => .no
  | some env1 => bnd (nex (t env1 st)) fun b st1 => if b = true then bnd (nex (e env1 st1)) fun y st2 => (match pushT n y st2 with
      | some st3 => .ok () st3
      | none => .no) else .ok () st1
def compF (tg : Tg) (t : En → Mo Bool) (e : En → Mo Va) (n : Nat) (env : En) : List Va → Mo Va
  | [] => fun st => .ok (.ref n) st
  | w :: r => fun st => bnd (compT tg t e n w env st) fun _ st1 => compF tg t e n env r st1
def compL (tg : Tg) (t : En → Mo Bool) (e : En → Mo Va) (n : Nat) (env : En) (m : Nat) : Nat → Nat → Mo Va
  | 0, _ => fun _ => .no
  | k + 1, i => fun st => match st[m]? with
    | some (.lst ws) => match ws[i]? with
      | none => .ok (.ref n) st
      | some w => bnd (compT tg t e n w env st) fun _ st1 => compL tg t e n env m k (i + 1) st1
    | _ => .no
def compS (tg : Tg) (t : En → Mo Bool) (e : En → Mo Va) (own : List Nat) (env : En) : Src → Mo Va := fun s st => match s with
  | .fix ws => compF tg t e st.length (wipeE env own) ws (st ++ [.lst []])
  | .live m => match st[m]? with
    | some (.lst ws) => compL tg t e st.length (wipeE env own) m (ws.length + 1) 0 (st ++ [.lst []])
    | _ => .no
def eLc (src : En → Mo Src) (tg : Tg) (t : En → Mo Bool) (e : En → Mo Va) (own : List Nat) : En → Mo Va := fun env st => bnd (src env st) (compS tg t e own env)
def cYes : En → Mo Bool := fun _ st => .ok true st
structure JC (X : Cx) (g : Gx) (ifs : List Expr) (m : En → Mo Bool) : Prop where
  pts : PTs X ifs (tG X.K g (fun _ _ _ _ => False) rB m)
theorem PTs.imp {X : Cx} {ifs : List Expr} {t t' : TT} (h : PTs X ifs t) (i : ∀ σ H Q, t' σ H Q → t σ H Q) : PTs X ifs t' := ⟨fun pins s σ H Q I q => h.run pins s σ H Q I (i σ H Q q)⟩
abbrev W0 : WX := fun _ _ _ _ => False
section
variable {X : Cx} {g : Gx} {W : WX} {pos : Pos}
theorem jc_nil : JC X g [] cYes := ⟨PTs.imp pts_nil fun σ H Q h => by
  obtain ⟨env, st, ι, rs, re, p⟩ := h
  exact p H ι true Ext.refl rs rfl⟩
theorem jc_one {c : Expr} {m : En → Mo Bool} (h : JT X g W0 c m) : JC X g [c] m := ⟨pts_one h.pt⟩
theorem re_wipe {K : PySem.W.Frag} {H : Hp} {ι : List Addr} {env : En} {σ : L2.St} (h : RE K g H ι env σ) : ∀ vs : List Nat, RE K g H ι (wipeE env vs) (wipe σ vs)
  | [] => h
  | v :: vs => (re_wipe h vs).clear v
theorem pushT_ok {K : PySem.W.Frag} {H : Hp} {ι : List Addr} {st st' : Sto} {n : Nat} {D : Addr} {y : Va} {v : V} (rs : RS K g st H ι) (ha : ι[n]? = some D) (r : RV K g.H0 H ι y v) (h : pushT n y st = some st') :
    ∃ acc, H D = some (.lst acc) ∧ acc.length < sizeLine ∧ Ext K H ι (upd H D (.lst (acc ++ [v]))) ι ∧ RS K g st' (upd H D (.lst (acc ++ [v]))) ι := by
  unfold pushT at h
  split at h
  · rename_i acc e
    split at h
    · rename_i hl
      cases h
      obtain ⟨vs, h1, k1⟩ := rs.obj n _ D e ha
      obtain ⟨u, hu, ow⟩ := rs.mem (List.mem_of_getElem? ha)
      have e1 : Ext K H ι (upd H D (.lst (vs ++ [v]))) ι := ext_own (n := n) rs hu ow
      refine ⟨vs, h1, lt_line (by rw [← k1.length]; exact hl), e1, rs.put ha ⟨vs ++ [v], upd_same, (k1.append (.cons r .nil)).mono e1⟩⟩
    · cases h
  · cases h
/-- what one turn asks -/
theorem comp_turn {tg : Tg} {t : En → Mo Bool} {e : En → Mo Va} {n : Nat} {own vs : List Nat} {gt : TG} {tt : TT} {te : TE} {α β : Type} {rel : Rel α β} {f : Mo α} {Q : β → Hp → Prop} {E : XK} (hg : TgOk X g tg own gt) (hown : ∀ i ∈ own, i ∈ vs)
    (htt : ∀ σ H Q, tG X.K g W0 rB t σ H Q → tt σ H Q) (hte : ∀ σ H Q, tG X.K g W0 (rV X.K g) e σ H Q → te σ H Q)
    {env : En} {st : Sto} {ι ι0 : List Addr} {σ : L2.St} {H H0 : Hp} {D : Addr} {w : Va} {v : V} {N : Hp → Prop} (rs : RS X.K g st H ι) (re : RE X.K g H ι (wipeE env vs) (wipe σ vs)) (rv : RV X.K g.H0 H ι w v) (ha : ι[n]? = some D)
    (p : Pst X.K g rel (bnd (compT tg t e n w (wipeE env vs) st) fun _ st1 => f st1) H ι Q E)
    (hN : ∀ st2 H2 ι2, Ext X.K H ι H2 ι2 → RS X.K g st2 H2 ι2 → Pst X.K g rel (f st2) H2 ι2 Q E → N H2) :
    gt v (wipe σ vs) H fun σ2 H2 => wipe σ2 vs = wipe (wipe σ vs) vs ∧ tt σ2 H2 fun b H3 => if b = true then te σ2 H3 fun y H4 => ∃ acc, H4 D = some (.lst acc) ∧ acc.length < sizeLine ∧ N (upd H4 D (.lst (acc ++ [y]))) else N H3 := by
  unfold compT at p
  cases q : tg w (wipeE env vs) with
  | none => rw [q] at p; exact (show False from p).elim
  | some env1 =>
    rw [q] at p
    refine hg w v (wipeE env vs) env1 _ H ι _ ⟨_, rs⟩ re rv q fun σ2 re2 hw => ⟨hw vs hown, htt _ _ _ ⟨env1, st, ι, rs, re2, ?_⟩⟩
    dsimp only at p
    cases q1 : t env1 st with
    | no => rw [q1] at p; exact p
    | exc c fs st1 => rw [q1] at p; exact (show False from p).elim
    | ok b st1 =>
      rw [q1] at p
      intro H3 ι3 b' ex3 rs3 eb
      obtain rfl : b = b' := eb
      cases b with
      | false =>
        refine iteF (hN st1 H3 ι3 ex3 rs3 (Pst.shift (r := f st1) p ex3))
      | true =>
        refine iteT (hte _ _ _ ⟨env1, st1, ι3, rs3, re2.mono ex3, ?_⟩)
        have p1 : Pst X.K g rel (bnd (bnd (nex (e env1 st1)) fun y st2 => (match pushT n y st2 with | some st3 => (Rs.ok () st3 : Rs Unit) | none => .no)) fun _ st1 => f st1) H ι Q E := p
        cases q2 : e env1 st1 with
        | no => rw [q2] at p1; exact p1
        | exc c fs st2 => rw [q2] at p1; exact (show False from p1).elim
        | ok y st2 =>
          rw [q2] at p1
          intro H4 ι4 vy ex4 rs4 ry
          cases q3 : pushT n y st2 with
          | none =>
            have p2 : Pst X.K g rel (bnd (match pushT n y st2 with | some st3 => (Rs.ok () st3 : Rs Unit) | none => .no) fun _ st1 => f st1) H ι Q E := p1
            rw [q3] at p2
            exact (show False from p2).elim
          | some st3 =>
            have p2 : Pst X.K g rel (bnd (match pushT n y st2 with | some st3 => (Rs.ok () st3 : Rs Unit) | none => .no) fun _ st1 => f st1) H ι Q E := p1
            rw [q3] at p2
            obtain ⟨acc, h1, h2, ex5, rs5⟩ := pushT_ok rs4 (ex4.get (ex3.get ha)) ry q3
            exact ⟨acc, h1, h2, hN st3 _ ι4 ((ex3.trans ex4).trans ex5) rs5 (Pst.shift (r := f st3) p2 ((ex3.trans ex4).trans ex5))⟩
/-- a comprehension's loop -/
theorem lc_fix {J : It} {tg : Tg} {t : En → Mo Bool} {e : En → Mo Va} {own vs : List Nat} {gt : TG} {tt : TT} {te : TE} (hg : TgOk X g tg own gt) (hown : ∀ i ∈ own, i ∈ vs)
    (htt : ∀ σ H Q, tG X.K g W0 rB t σ H Q → tt σ H Q) (hte : ∀ σ H Q, tG X.K g W0 (rV X.K g) e σ H Q → te σ H Q) {all : List Va} {G : Hp → List Addr → Prop} (F : Fix X.K g J all G)
    {env : En} {st : Sto} {ι : List Addr} {σ : L2.St} {H : Hp} {D : Addr} {n : Nat} {Q : VK} {E : XK} (rs : RS X.K g st H ι) (re : RE X.K g H ι env σ) (G0 : G H ι) (ha : ι[n]? = some D) (p : Pst X.K g (rV X.K g) (compF tg t e n (wipeE env vs) all st) H ι Q E) :
    ∃ Wl : Nat → Nat → Hp → Prop, (∃ m, Wl 0 m H) ∧ ∀ i m H, Wl i m H → (J.stop i H ∧ Q (.ref D) H) ∨ (J.go i H ∧ ∃ N : Hp → Prop, (∀ H', N H' → ∃ m', m' < m ∧ Wl (i + 1) m' H') ∧ ∀ x H', J.yld i H x H' →
      gt x (wipe σ vs) H' fun σ2 H2 => wipe σ2 vs = wipe σ vs ∧ tt σ2 H2 fun b H3 => if b = true then te σ2 H3 fun y H4 => ∃ acc, H4 D = some (.lst acc) ∧ acc.length < sizeLine ∧ N (upd H4 D (.lst (acc ++ [y]))) else N H3) := by
  refine ⟨fun i m H => m = all.length - i ∧ i ≤ all.length ∧ ∃ st ι, RS X.K g st H ι ∧ RE X.K g H ι env σ ∧ G H ι ∧ ι[n]? = some D ∧ Pst X.K g (rV X.K g) (compF tg t e n (wipeE env vs) (all.drop i) st) H ι Q E, ⟨all.length, by simp, Nat.zero_le _, st, ι, rs, re, G0, ha, by rw [List.drop_zero]; exact p⟩, ?_⟩
  rintro i m H ⟨rfl, hi, st, ι, rs, re, G1, ha, p⟩
  by_cases hlt : i < all.length
  · refine .inr ⟨F.go i H ι G1 hlt, fun H' => i + 1 ≤ all.length ∧ ∃ st ι, RS X.K g st H' ι ∧ RE X.K g H' ι env σ ∧ G H' ι ∧ ι[n]? = some D ∧ Pst X.K g (rV X.K g) (compF tg t e n (wipeE env vs) (all.drop (i + 1)) st) H' ι Q E, fun H' q => ⟨all.length - (i + 1), by omega, rfl, q.1, q.2⟩, fun x H' y => ?_⟩
    obtain ⟨e0, rs', hr⟩ := F.yld i H ι x H' st rs G1 y
    rw [List.drop_eq_getElem_cons hlt] at p
    have rv := hr _ (List.getElem?_eq_getElem hlt)
    unfold compF at p
    have q := comp_turn (rel := rV X.K g) (f := compF tg t e n (wipeE env vs) (all.drop (i + 1))) (N := fun H' => i + 1 ≤ all.length ∧ ∃ st ι, RS X.K g st H' ι ∧ RE X.K g H' ι env σ ∧ G H' ι ∧ ι[n]? = some D ∧ Pst X.K g (rV X.K g) (compF tg t e n (wipeE env vs) (all.drop (i + 1)) st) H' ι Q E)
      (ι0 := ι) (H0 := H) hg hown htt hte rs' (re_wipe (re.mono e0) vs) rv (e0.get ha) (Pst.shift p e0) fun st2 H2 ι2 ex rs2 p2 => ⟨hlt, st2, ι2, rs2, (re.mono e0).mono ex, F.mono _ _ _ _ (e0.trans ex) rs2.old G1, ex.get (e0.get ha), p2⟩
    rw [wipe_wipe] at q
    exact q
  · have e : i = all.length := by omega
    subst e
    refine .inl ⟨F.stop H ι G1, ?_⟩
    rw [List.drop_length] at p
    exact p H ι _ Ext.refl rs (.ref ha)
theorem lc_live {a : Addr} {k0 : Nat} {m0 : Nat} {tg : Tg} {t : En → Mo Bool} {e : En → Mo Va} {own vs : List Nat} {gt : TG} {tt : TT} {te : TE} (hg : TgOk X g tg own gt) (hown : ∀ i ∈ own, i ∈ vs)
    (htt : ∀ σ H Q, tG X.K g W0 rB t σ H Q → tt σ H Q) (hte : ∀ σ H Q, tG X.K g W0 (rV X.K g) e σ H Q → te σ H Q)
    {env : En} {st : Sto} {ι : List Addr} {σ : L2.St} {H : Hp} {D : Addr} {n : Nat} {Q : VK} {E : XK} (rs : RS X.K g st H ι) (re : RE X.K g H ι env σ) (hm : ι[m0]? = some a) (ha : ι[n]? = some D) (p : Pst X.K g (rV X.K g) (compL tg t e n (wipeE env vs) m0 k0 0 st) H ι Q E) :
    ∃ Wl : Nat → Nat → Hp → Prop, (∃ m, Wl 0 m H) ∧ ∀ i m H, Wl i m H → ((Itl X.K a).stop i H ∧ Q (.ref D) H) ∨ ((Itl X.K a).go i H ∧ ∃ N : Hp → Prop, (∀ H', N H' → ∃ m', m' < m ∧ Wl (i + 1) m' H') ∧ ∀ x H', (Itl X.K a).yld i H x H' →
      gt x (wipe σ vs) H' fun σ2 H2 => wipe σ2 vs = wipe σ vs ∧ tt σ2 H2 fun b H3 => if b = true then te σ2 H3 fun y H4 => ∃ acc, H4 D = some (.lst acc) ∧ acc.length < sizeLine ∧ N (upd H4 D (.lst (acc ++ [y]))) else N H3) := by
  refine ⟨fun i m H => ∃ st ι, RS X.K g st H ι ∧ RE X.K g H ι env σ ∧ ι[m0]? = some a ∧ ι[n]? = some D ∧ Pst X.K g (rV X.K g) (compL tg t e n (wipeE env vs) m0 m i st) H ι Q E, ⟨k0, st, ι, rs, re, hm, ha, p⟩, ?_⟩
  rintro i m H ⟨st, ι, rs, re, hm, ha, p⟩
  cases m with
  | zero => exact (show False from p).elim
  | succ m =>
    unfold compL at p
    split at p
    · rename_i ws q
      obtain ⟨us, h1, k1⟩ := rs.obj m0 _ a q hm
      have sl : SqL X.K H a us := .inl (.inl h1)
      split at p
      · rename_i e'
        refine .inl ⟨⟨us, sl, ?_⟩, p H ι _ Ext.refl rs (.ref ha)⟩
        rw [← k1.length]
        exact List.getElem?_eq_none_iff.mp e'
      · rename_i w e'
        obtain ⟨v, e2, rv⟩ := k1.get e'
        refine .inr ⟨⟨us, v, sl, e2⟩, fun H' => ∃ st ι, RS X.K g st H' ι ∧ RE X.K g H' ι env σ ∧ ι[m0]? = some a ∧ ι[n]? = some D ∧ Pst X.K g (rV X.K g) (compL tg t e n (wipeE env vs) m0 m (i + 1) st) H' ι Q E, fun H' q => ⟨m, Nat.lt_succ_self m, q⟩, fun x H' y => ?_⟩
        obtain ⟨rfl, hx⟩ := y
        have ex := hx us sl
        rw [e2] at ex
        cases ex
        have q := comp_turn (rel := rV X.K g) (f := compL tg t e n (wipeE env vs) m0 m (i + 1)) (N := fun H' => ∃ st ι, RS X.K g st H' ι ∧ RE X.K g H' ι env σ ∧ ι[m0]? = some a ∧ ι[n]? = some D ∧ Pst X.K g (rV X.K g) (compL tg t e n (wipeE env vs) m0 m (i + 1) st) H' ι Q E)
          (ι0 := ι) (H0 := H') hg hown htt hte rs (re_wipe re vs) rv ha p fun st2 H2 ι2 ex rs2 p2 => ⟨st2, ι2, rs2, re.mono ex, ex.get hm, ex.get ha, p2⟩
        rw [wipe_wipe] at q
        exact q
    · exact (show False from p).elim
/-- what tLc asks -/
theorem lc_all {tg : Tg} {src : En → Mo Src} {t : En → Mo Bool} {e : En → Mo Va} {own : List Nat} {wi : TI} {gt : TG} {tt : TT} {te : TE} (hi : ∀ σ H R, tG X.K g W (rI' X.K g) src σ H R → wi σ H R) (hg : TgOk X g tg own gt)
    (htt : ∀ σ H Q, tG X.K g W0 rB t σ H Q → tt σ H Q) (hte : ∀ σ H Q, tG X.K g W0 (rV X.K g) e σ H Q → te σ H Q) {σ : L2.St} {H : Hp} {Q : VK} (h : tG X.K g W (rV X.K g) (eLc src tg t e own) σ H Q) : tLc wi gt tt te own σ H Q := by
  obtain ⟨env, st, ι, rs, re, p⟩ := h
  refine hi σ H _ ⟨env, st, ι, rs, re, (Pst.bind (rel := rI' X.K g) p).imp (fun J H1 q => ?_) fun _ _ _ q => q⟩
  obtain ⟨s, st1, ι1, ex, rs1, r1, p1⟩ := q
  intro D hD
  have nl := new_lst (X := X) (ws := []) (vs := []) rs1 .nil hD
  have hn : (ι1 ++ [D])[st1.length]? = some D := by rw [← rs1.len]; simp
  have re2 := (re.mono ex).mono nl.1
  cases s with
  | fix ws =>
    obtain ⟨G, F, G0⟩ := r1
    exact lc_fix (E := fun c d H' => W c d σ H') hg (fun _ h => h) htt hte F nl.2.1 re2 (F.mono _ _ _ _ nl.1 nl.2.1.old G0) hn (Pst.shift (r := compF tg t e st1.length (wipeE env own) ws (st1 ++ [.lst []])) p1 nl.1)
  | live m =>
    obtain ⟨a, ha, rfl⟩ := r1
    have p2 : Pst X.K g (rV X.K g) (compS tg t e own env (.live m) st1) H1 ι1 Q (fun c d H' => W c d σ H') := p1
    unfold compS at p2
    dsimp only at p2
    split at p2
    · exact lc_live (E := fun c d H' => W c d σ H') hg (fun _ h => h) htt hte nl.2.1 re2 (nl.1.get ha) hn (Pst.shift p2 nl.1)
    · exact (show False from p2).elim
theorem tgN_ok (i : Nat) : TgOk X g (tgN i) [i] (gTgt X.K [i]) := fun w v env env' σ H ι Q rs re r e q => by
  cases e
  exact q _ (re.set i r) fun vs h => wipe_set (h i List.mem_cons_self)
/-- several names at once -/
def setAll (env : En) : List Nat → List Va → En
  | i :: ix, w :: ws => setAll (env.set i (some w)) ix ws
  | _, _ => env
def tgT (ix : List Nat) : Tg := fun w env => match w with
  | .tup ws => if ws.length = ix.length then some (setAll env ix ws) else none
  | .ktp ws => if ws.length = ix.length then some (setAll env ix ws) else none
  | _ => none
theorem names_ok {H : Hp} {ι : List Addr} {Q : L2.St → Hp → Prop} : ∀ {ix : List Nat} {ws : List Va} {us : List V} {env : En} {σ : L2.St}, RE X.K g H ι env σ → RVs X.K g.H0 H ι ws us → ws.length = ix.length →
    (∀ σ', RE X.K g H ι (setAll env ix ws) σ' → (∀ vs : List Nat, (∀ i ∈ ix, i ∈ vs) → wipe σ' vs = wipe σ vs) → Q σ' H) → gNames ix us σ H Q
  | [], [], _, env, σ, re, .nil, _, q => ⟨rfl, q σ re fun _ _ => rfl⟩
  | [], _ :: _, _, _, _, _, _, h, _ => by cases h
  | _ :: _, [], _, _, _, _, _, h, _ => by cases h
  | i :: ix, w :: ws, u :: us, env, σ, re, .cons r t, h, q => by
    refine ⟨u, us, rfl, ?_⟩
    refine names_ok (re.set i r) t (by simpa using h) fun σ' re' hw => q σ' re' fun vs hv => ?_
    rw [hw vs (fun j hj => hv j (List.mem_cons_of_mem _ hj)), wipe_set (hv i List.mem_cons_self)]
theorem tgT_ok' (ix : List Nat) : TgOk X g (tgT ix) ix (gTup X.K ix.length (gNames ix)) := fun w v env env' σ H ι Q rs re r e q => by
  unfold tgT at e
  split at e
  · split at e
    · rename_i hl
      cases e
      cases r with
      | @tup a us ws h k => exact ⟨a, us, rfl, SqT.of h, by rw [← k.length]; exact hl, names_ok re k hl q⟩
    · cases e
  · split at e
    · rename_i hl
      cases e
      cases r with
      | @ktp a us ws h k =>
        obtain ⟨st, rs⟩ := rs
        exact ⟨a, us, rfl, sqt_old rs h, by rw [← k.length]; exact hl, names_ok re k hl q⟩
    · cases e
  · cases e
theorem tgT_ok (i j : Nat) (ix : List Nat) : TgOk X g (tgT (i :: j :: ix)) (i :: j :: ix) (gTgt X.K (i :: j :: ix)) := tgT_ok' _
theorem j_lc {elt tgt iter : Expr} {ifs : List Expr} {scope : Scope} {own : List (Str × Nat)} {src : En → Mo Src} {tg : Tg} {t : En → Mo Bool} {e : En → Mo Va} (hc : X.calm = true) (hN : X.N.Nodup) (hi : JI X g W tgt iter src) (hb : BlkOk X.N X.env.scope scope own)
    (hg : ∀ (s : Shared) (H : Hp) (C : Addr) (cl : List (Str × Addr)) (fp : List Addr), PG (X.blk s H scope (compEnvC scope cl C X.env) fp) tgt (gTgt X.K (own.map (·.2)))) (hgt : TgOk X g tg (own.map (·.2)) (gTgt X.K (own.map (·.2))))
    (ht : ∀ (s : Shared) (H : Hp) (C : Addr) (cl : List (Str × Addr)) (fp : List Addr), JC (X.blk s H scope (compEnvC scope cl C X.env) fp) g ifs t)
    (he : ∀ (s : Shared) (H : Hp) (C : Addr) (cl : List (Str × Addr)) (fp : List Addr), JE (X.blk s H scope (compEnvC scope cl C X.env) fp) g W0 elt e) (hs : ∀ x, foldedSetIterable iter X.env x = pure x := by intro _; rfl) :
    JE X g W (.ListComp elt [⟨tgt, iter, ifs, 0⟩] scope pos) (eLc src tg t e (own.map (·.2))) := by
  obtain ⟨wi, i1, i2⟩ := hi.ex
  exact ⟨PE.imp (pe_lc hc hN i1 hb hg (fun s H C cl fp => (ht s H C cl fp).pts) (fun s H C cl fp => (he s H C cl fp).pe) hs) fun σ H Q q => lc_all i2 hgt (fun _ _ _ q => q) (fun _ _ _ q => q) q⟩
theorem js_setLc (i : Nat) {y : Str} {py spos : Pos} {elt tgt iter : Expr} {ifs : List Expr} {scope : Scope} {own : List (Str × Nat)} {src : En → Mo Src} {tg : Tg} {t : En → Mo Bool} {e : En → Mo Va} (hc : X.calm = true) (hN : X.N.Nodup) (hi : JI X g W tgt iter src) (hb : BlkOk X.N X.env.scope scope own)
    (hg : ∀ (s : Shared) (H : Hp) (C : Addr) (cl : List (Str × Addr)) (fp : List Addr), PG (X.blk s H scope (compEnvC scope cl C X.env) fp) tgt (gTgt X.K (own.map (·.2)))) (hgt : TgOk X g tg (own.map (·.2)) (gTgt X.K (own.map (·.2))))
    (ht : ∀ (s : Shared) (H : Hp) (C : Addr) (cl : List (Str × Addr)) (fp : List Addr), JC (X.blk s H scope (compEnvC scope cl C X.env) fp) g ifs t)
    (he : ∀ (s : Shared) (H : Hp) (C : Addr) (cl : List (Str × Addr)) (fp : List Addr), JE (X.blk s H scope (compEnvC scope cl C X.env) fp) g W0 elt e)
    (hy : X.N[i]? = some y := by rfl) (hl : X.env.scope.names.lookup y = some .local := by rfl) (hsw : swapsWith (.ListComp elt [⟨tgt, iter, ifs, 0⟩] scope pos) (some (.Name y py)) spos.line X.env = pure true := by first | rfl | exact sw_true rfl rfl rfl (by decide +kernel)) (hs : ∀ x, foldedSetIterable iter X.env x = pure x := by intro _; rfl) :
    JS X g W (.Assign [.Name y py] (.ListComp elt [⟨tgt, iter, ifs, 0⟩] scope pos) spos) (sSet i (eLc src tg t e (own.map (·.2)))) := by
  obtain ⟨wi, i1, i2⟩ := hi.ex
  refine ⟨PS.imp (ps_setLc (tt := tG X.K g W0 rB t) (te := tG X.K g W0 (rV X.K g) e) hc hN hy hl hsw i1 hb hg (fun s H C cl fp => (ht s H C cl fp).pts) (fun s H C cl fp => (he s H C cl fp).pe) hs) fun D σ H q => ?_⟩
  have q1 := tG_bS (rel := rV X.K g) q
  have q2 : tG X.K g W (rV X.K g) (eLc src tg t e (own.map (·.2))) σ H (fun x H1 => gName i x σ H1 D.nx) := by
    obtain ⟨env, st, ι, rs, re, p⟩ := q1
    refine ⟨env, st, ι, rs, re, p.imp (fun v H1 q => ?_) fun _ _ _ q => q⟩
    obtain ⟨env1, a, st1, ι1, rs1, re1, r1, p1⟩ := q
    exact p1 H1 ι1 _ Ext.refl rs1 (re1.set i r1)
  exact lc_all i2 hgt (fun _ _ _ q => q) (fun _ _ _ q => q) q2

/-! ### unpacking, xs[i] = v -/
theorem jg_tup {es : List Expr} {ix : List Nat} {k : Nat} (hc : X.calm = true) (h : PGs X es (gNames ix)) (hn : (assignEach es X.env).length = ix.length := by rfl) (hst : (assignEach es X.env).findIdx? (·.1) = none := by rfl) : JG X g (.Tuple es k pos) (tgT ix) ix :=
  ⟨_, pg_tup hc h hn hst, tgT_ok' ix⟩
def sUnp (tg : Tg) (m : En → Mo Va) : Sm := fun env st => bS env (m env st) fun w st1 => match tg w env with
  | some env1 => .nx env1 st1
  | none => .no
theorem js_unp {t e : Expr} {tg : Tg} {own : List Nat} {m : En → Mo Va} (hg : JG X g t tg own) (h : JE X g W e m) (h1 : swapsWithSole [t] e pos.line X.env = pure false := by rfl) (h2 : swappedStores [t] e X.env = pure none := by rfl)
    (h3 : (assignEach [t] X.env).map (·.2) = [assign t X.env] := by rfl) : JS X g W (.Assign [t] e pos) (sUnp tg m) := by
  obtain ⟨gt, g1, g2⟩ := hg.ex
  refine ⟨PS.imp (ps_asg h.pe g1 h1 h2 h3) fun D σ H q => ?_⟩
  obtain ⟨env, st, ι, rs, re, p⟩ := tG_bS (rel := rV X.K g) q
  refine ⟨env, st, ι, rs, re, p.imp (fun v H1 q => ?_) fun _ _ _ q => q⟩
  obtain ⟨env1, a, st1, ι1, rs1, re1, r1, p1⟩ := q
  cases q : tg a env1 with
  | none => rw [q] at p1; exact (show False from p1).elim
  | some env2 =>
    rw [q] at p1
    exact g2 a v env1 env2 σ H1 ι1 _ ⟨_, rs1⟩ re1 r1 q fun σ' re' _ => p1 H1 ι1 σ' Ext.refl rs1 re'
def itemT (env : En) (y o : Va) : Va → Sto → Fl := fun i st => match o, i with
  | .ref n, .int k => match st[n]? with
    | some (.lst ws) => match ixN ws.length k with
      | some j => .nx env (st.set n (.lst (ws.set j y)))
      | none => .no
    | _ => .no
  | _, _ => .no
def itemS (mi : En → Mo Va) (env : En) (y : Va) : Va → Sto → Fl := fun o st => bS env (mi env st) (itemT env y o)
def sItem (mo mi mv : En → Mo Va) : Sm := fun env st => bS env (mv env st) fun y st1 => bS env (mo env st1) (itemS mi env y)
theorem js_item {o i value : Expr} {p2 : Pos} {mo mi mv : En → Mo Va} (ho : JE X g W o mo) (hi : JE X g W i mi) (hv : JE X g W value mv)
    (hsub : ∀ (v : Value), assign (.Subscript o i p2) X.env v = (do
      let ov ← holding [v] (eval o X.env)
      let iv ← holding [v, ov] (eval i X.env)
      standAt p2
      holding [v, ov, iv] (setItem ov iv v)
      release [v, ov, iv] []) := by intro _; rfl)
    (h1 : swapsWithSole [.Subscript o i p2] value pos.line X.env = pure false := by rfl) (h2 : swappedStores [.Subscript o i p2] value X.env = pure none := by rfl) (h3 : (assignEach [.Subscript o i p2] X.env).map (·.2) = [assign (.Subscript o i p2) X.env] := by rfl) :
    JS X g W (.Assign [.Subscript o i p2] value pos) (sItem mo mi mv) := by
  refine ⟨PS.imp (ps_asg hv.pe (pg_sub ho.pe hi.pe set_list hsub) h1 h2 h3) fun D σ H q => ?_⟩
  obtain ⟨env, st, ι, rs, re, p⟩ := tG_bS (rel := rV X.K g) q
  refine ⟨env, st, ι, rs, re, p.imp (fun v H1 q => ?_) fun _ _ _ q => q⟩
  obtain ⟨env1, y, st1, ι1, rs1, re1, ry, p1⟩ := q
  refine ⟨env1, st1, ι1, rs1, re1, ?_⟩
  revert p1
  show PstS X.K g W (bS env1 (mo env1 st1) (itemS mi env1 y)) H1 ι1 D → Pst X.K g (rV X.K g) (mo env1 st1) H1 ι1 _ _
  generalize mo env1 st1 = r
  intro p1
  cases r with
  | no => exact p1
  | exc c fs st2 => exact fun H' ι' d fs' e rs' hd pf => p1 H' ι' σ d fs' e rs' (re1.mono e) hd pf
  | ok w st2 =>
    intro H2 ι2 x e2 rs2 r2
    have p2 : PstS X.K g W (bS env1 (mi env1 st2) (itemT env1 y w)) H2 ι2 D := PstS.shift (r := bS env1 (mi env1 st2) (itemT env1 y w)) p1 e2
    refine ⟨env1, st2, ι2, rs2, re1.mono e2, ?_⟩
    revert p2
    show PstS X.K g W (bS env1 (mi env1 st2) (itemT env1 y w)) H2 ι2 D → Pst X.K g (rV X.K g) (mi env1 st2) H2 ι2 _ _
    generalize mi env1 st2 = r'
    intro p2
    cases r' with
    | no => exact p2
    | exc c fs st3 => exact fun H' ι' d fs' e rs' hd pf => p2 H' ι' σ d fs' e rs' ((re1.mono e2).mono e) hd pf
    | ok iw st3 =>
      intro H3 ι3 xi e3 rs3 r3
      have p3 : PstS X.K g W (itemT env1 y w iw st3) H3 ι3 D := PstS.shift (r := itemT env1 y w iw st3) p2 e3
      unfold itemT at p3
      split at p3
      · split at p3
        · rename_i n k _ ws e0
          split at p3
          · rename_i j ej
            obtain ⟨a, vs, rfl, ha, hh, k1⟩ := rs3.list (r2.mono e3) e0
            cases r3
            rw [k1.length] at ej
            refine ⟨a, vs, k, j, rfl, rfl, hh, ej, ?_⟩
            obtain ⟨x1, x2⟩ := put_lst rs3 ha (RVs.set ((ry.mono e2).mono e3) j k1)
            exact p3 _ _ σ x1 x2 (((re1.mono e2).mono e3).mono x1)
          · exact (show False from p3).elim
        · exact (show False from p3).elim
      · exact (show False from p3).elim
end
end Sh

set_option Elab.async false
set_option linter.all false
set_option maxRecDepth 100000
set_option maxHeartbeats 4000000
namespace Sh
open PySem PySem.Spec PyProof.Rows L2
/-! ### the law's end -/
/-- the law, from the heap at its entry -/
def spLaw (K : PySem.W.Frag) (F : Fn) : Sp := fun vs H Q E => ∃ (a : Addr) (ns : List Int), vs = [.ref a] ∧ SqL K H a (ns.map V.int) ∧ (∃ st, F [.scr (ns.map Va.int)] [] = .ok (.bl true) st) ∧ ∀ H', Q (.bl true) H'
theorem law_in {K : PySem.W.Frag} {cls : Nat → Addr} {F : Fn} {vs : List V} {H : Hp} {Q : VK} {E : XK} (q : spLaw K F vs H Q E) : spM K ⟨cls, H, [], []⟩ 1 F vs H Q E := by
  obtain ⟨a, ns, rfl, hs, ⟨st, e⟩, q⟩ := q
  have hints : ∀ ns : List Int, RVs K H H [] (ns.map Va.int) (ns.map V.int) := fun ns => by
    induction ns with
    | nil => exact .nil
    | cons n r ih => exact .cons (.int n) ih
  refine ⟨[.scr (ns.map Va.int)], [], [], rfl, ⟨rfl, List.nodup_nil, fun _ _ q => q, fun _ q => absurd q List.not_mem_nil, fun n o a q => by simp at q, fun p q => absurd q List.not_mem_nil⟩, .cons (.scr hs (hints ns)) .nil, ?_⟩
  rw [e]
  intro H' ι' b _ _ r
  cases r
  exact q H'
theorem law_fn {P : Program} {w : World} {K : PySem.W.Frag} {mg : Str → Option Value} {base : Heap} {k : Nat} {f : Addr} {fd : FuncData} {ps : List Str} {F : Fn} (cls : Nat → Addr) (h : ∀ H0 : Hp, FnOk P w K mg base (L2.CX P w) k f fd ps (spM K ⟨cls, H0, [], []⟩ 1 F)) :
    FnOk P w K mg base (L2.CX P w) k f fd ps (spLaw K F) :=
  ⟨fun vs H Q E q => (h H).len vs H Q E (law_in q), fun A outer s H args us vs Q E hr he hb hv q => (h H).run A outer s H args us vs Q E hr he hb hv (law_in q)⟩
theorem law_sp {K : PySem.W.Frag} {F : Fn} {H : Hp} {a : Addr} {ns : List Int} (hs : SqL K H a (ns.map V.int)) (h : ∃ st, F [.scr (ns.map Va.int)] [] = .ok (.bl true) st) : spLaw K F [.ref a] H (fun v _ => v = .bl true) fun _ _ _ => False :=
  ⟨a, ns, rfl, hs, h, fun _ => rfl⟩
theorem cx_end {P : Program} {w : World} {H : Hp} {s s' : Shared} {e : Value} (h : L2.CX P w [] H s (fun _ _ _ => False) e s') : False := by
  obtain ⟨_, _, _, _, _, _, _, _, _, _, _, _, z⟩ := h
  exact z
/-! ### what the module's names hold -/
theorem gv_int {K : PySem.W.Frag} {mg : Str → Option Value} {x : Str} {i : Int} {t : Tok} (h : mg x = some (.int i t)) : GV K mg x (.int i) := ⟨_, .int i, h, ⟨t, rfl⟩, fun _ _ _ => .int i⟩
theorem gv_str {K : PySem.W.Frag} {mg : Str → Option Value} {x s : Str} {t : Tok} (h : mg x = some (.str s t)) : GV K mg x (.str s) := ⟨_, .str s, h, ⟨t, rfl⟩, fun _ _ _ => .str s⟩
def flatEq : Va → Value → Option V
  | .int i, .int j _ => if i = j then some (.int i) else none
  | .str x, .str y _ => if x = y then some (.str x) else none
  | .bl b, .bool c => if b = c then some (.bl b) else none
  | .non, .none => some .non
  | _, _ => none
def flatEqs : List Va → List Value → Option (List V)
  | [], [] => some []
  | w :: ws, v :: vs => match flatEq w v, flatEqs ws vs with
    | some x, some xs => some (x :: xs)
    | _, _ => none
  | _, _ => none
theorem flatEq_ok {K : PySem.W.Frag} {H0 H : Hp} {ι : List Addr} {w : Va} {u : Value} {x : V} (h : flatEq w u = some x) : RelV x u ∧ RV K H0 H ι w x := by
  unfold flatEq at h
  split at h
  · split at h
    · rename_i e; subst e; cases h; exact ⟨⟨_, rfl⟩, .int _⟩
    · cases h
  · split at h
    · rename_i e; subst e; cases h; exact ⟨⟨_, rfl⟩, .str _⟩
    · cases h
  · split at h
    · rename_i e; subst e; cases h; exact ⟨rfl, .bl _⟩
    · cases h
  · cases h; exact ⟨rfl, .non⟩
  · cases h
theorem flatEqs_ok {K : PySem.W.Frag} : ∀ {ws : List Va} {us : List Value} {xs : List V}, flatEqs ws us = some xs → Vals xs us ∧ ∀ H0 H ι, RVs K H0 H ι ws xs
  | [], [], _, h => by cases h; exact ⟨.nil, fun _ _ _ => .nil⟩
  | [], _ :: _, _, h => by cases h
  | _ :: _, [], _, h => by cases h
  | w :: ws, u :: us, _, h => by
    unfold flatEqs at h
    split at h
    · rename_i x xs h1 h2
      cases h
      obtain ⟨q1, q2⟩ := flatEqs_ok (K := K) h2
      exact ⟨.cons (flatEq_ok (K := K) (H0 := fun _ => none) (H := fun _ => none) (ι := []) h1).1 q1, fun H0 H ι => .cons (flatEq_ok h1).2 (q2 H0 H ι)⟩
    · cases h
def ktpOk (o : Obj) (ws : List Va) : Bool := (o.cls == .type "tuple") && match o.data with
  | .seq its _ => decide (its.size ≤ 16777216) && (flatEqs ws its.toList).isSome
  | _ => false
theorem gv_ktp {K : PySem.W.Frag} {mg : Str → Option Value} {x : Str} {a : Addr} {o : Obj} {ws : List Va} (h : mg x = some (.ref a)) (l : K.lookup a = some o) (q : ktpOk o ws = true) : GV K mg x (.ktp ws) := by
  unfold ktpOk at q
  rw [Bool.and_eq_true] at q
  obtain ⟨q1, q2⟩ := q
  split at q2
  · rename_i its n e
    rw [Bool.and_eq_true, decide_eq_true_eq] at q2
    obtain ⟨q2, q3⟩ := q2
    obtain ⟨xs, e3⟩ := Option.isSome_iff_exists.mp q3
    obtain ⟨r1, r2⟩ := flatEqs_ok (K := K) e3
    exact ⟨_, .ref a, h, rfl, fun g H ι => .ktp (.inr ⟨o, its, n, l, eq_of_beq q1, e, le_line q2, r1⟩) (r2 _ _ _)⟩
  · cases q2
/-! ### what the top has made of a class -/
theorem fldOk_nil {K : PySem.W.Frag} {g : Gx} {f : Str} : FldOk K g [] f := fun c h => absurd h List.not_mem_nil
theorem fldOk_cons {K : PySem.W.Frag} {g : Gx} {f : Str} {c : Nat} {cs : List Nat} (h : Cls K (g.cls c)) (n : NoAttr K (g.cls c) f) (r : FldOk K g cs f) : FldOk K g (c :: cs) f := fun d hd => by
  rcases List.mem_cons.mp hd with rfl | hd
  · exact ⟨h, n⟩
  · exact r d hd
end Sh

set_option Elab.async false
set_option linter.all false
set_option maxRecDepth 100000
set_option maxHeartbeats 4000000
namespace Sh
open PySem PySem.Spec PyProof.Rows L2
/-! ### running plain programs: the equations -/
theorem qInt (n : Bool) (i j : Int) (st : Sto) : opEqB n (.int i) (.int j) st = .ok (.bl (xor n (i == j))) st := rfl
theorem qStr (n : Bool) (i j : Str) (st : Sto) : opEqB n (.str i) (.str j) st = .ok (.bl (xor n (i == j))) st := rfl
theorem qBl (n : Bool) (i j : Bool) (st : Sto) : opEqB n (.bl i) (.bl j) st = .ok (.bl (xor n (i == j))) st := rfl
theorem map_nat_inj : ∀ {a b : List Char}, a.map Char.toNat = b.map Char.toNat → a = b
  | [], [], _ => rfl
  | [], _ :: _, h => by simp at h
  | _ :: _, [], h => by simp at h
  | c :: r, d :: q, h => by
    simp only [List.map_cons, List.cons.injEq] at h
    rw [Char.toNat_inj.mp h.1, map_nat_inj h.2]
theorem ofString_inj {x y : String} (h : Str.ofString x = Str.ofString y) : x = y := by
  rw [Str.ofString_eq_toList, Str.ofString_eq_toList] at h
  have h1 : x.toList.map Char.toNat = y.toList.map Char.toNat := by simpa using congrArg (fun s : Str => s.cps.toList) h
  exact String.toList_inj.mp (map_nat_inj h1)
theorem str_eq (x y : String) : (Str.ofString x = Str.ofString y) = (x = y) := propext ⟨ofString_inj, fun h => by rw [h]⟩
theorem str_beq (x y : String) : (Str.ofString x == Str.ofString y) = (x == y) := by
  by_cases h : x = y
  · subst h; simp
  · have h' : ¬ Str.ofString x = Str.ofString y := fun e => h (ofString_inj e)
    rw [beq_eq_false_iff_ne.mpr h, beq_eq_false_iff_ne.mpr h']
/-- a loop by what stays true -/
theorem forF_inv {tg : Tg} {body : Sm} (P : En → Sto → Prop) : ∀ {ws : List Va}, (∀ w ∈ ws, ∀ env st, P env st → ∃ env1, tg w env = some env1 ∧ ∃ env2 st2, (body env1 st = .nx env2 st2 ∨ body env1 st = .ct env2 st2) ∧ P env2 st2) →
    ∀ {env : En} {st : Sto}, P env st → ∃ env' st', forF tg body ws env st = .nx env' st' ∧ P env' st'
  | [], _, env, st, p => ⟨env, st, rfl, p⟩
  | w :: ws, h, env, st, p => by
    obtain ⟨env1, e1, env2, st2, e2, p2⟩ := h w List.mem_cons_self env st p
    obtain ⟨env3, st3, e3, p3⟩ := forF_inv P (ws := ws) (fun u hu => h u (List.mem_cons_of_mem _ hu)) p2
    refine ⟨env3, st3, ?_, p3⟩
    unfold forF
    rw [e1]
    dsimp only
    rcases e2 with e2 | e2
    · rw [e2]; exact e3
    · rw [e2]; exact e3
theorem rangeW_mem {lo : Int} {n : Nat} {w : Va} (h : w ∈ rangeW lo n) : ∃ k : Nat, k < n ∧ w = .int (lo + (k : Int)) := by
  unfold rangeW at h
  obtain ⟨k, hk, e⟩ := List.mem_map.mp h
  exact ⟨k, List.mem_range.mp hk, e.symm⟩
theorem atI_map {α β : Type} (f : α → β) (xs : List α) (i : Int) : atI (xs.map f) i = (atI xs i).map f := by
  unfold atI
  rw [List.length_map]
  cases ixN xs.length i with
  | none => rfl
  | some j => simp
theorem atI_nat' {α : Type} (xs : List α) (k : Nat) : atI xs (k : Int) = xs[k]? := by
  unfold atI ixN
  rw [if_pos (Int.natCast_nonneg k)]
  by_cases h : (k : Int) < xs.length
  · rw [if_pos h]
    simp
  · rw [if_neg h]
    simp
    omega
theorem run_rt {n N : Nat} {m : Sm} {ws : List Va} {st st2 : Sto} {w : Va} (env : En) (he : ws.map some ++ List.replicate (N - n) none = env) (h : m env st = .rt w st2) : runF n m N ws st = .ok w st2 := by
  unfold runF
  rw [he, h]
theorem run_nx {n N : Nat} {m : Sm} {ws : List Va} {st st2 : Sto} {env2 : En} (env : En) (he : ws.map some ++ List.replicate (N - n) none = env) (h : m env st = .nx env2 st2) : runF n m N ws st = .ok .non st2 := by
  unfold runF
  rw [he, h]
theorem run_xc {n N c : Nat} {fs : List (Str × Va)} {m : Sm} {ws : List Va} {st st2 : Sto} {env2 : En} (env : En) (he : ws.map some ++ List.replicate (N - n) none = env) (h : m env st = .xc c fs env2 st2) : runF n m N ws st = .exc c fs st2 := by
  unfold runF
  rw [he, h]
theorem seq_nx {m n : Sm} {env env' : En} {st st' : Sto} (h : m env st = .nx env' st') : sSeq m n env st = n env' st' := by
  unfold sSeq
  rw [h]
theorem seq_rt {m n : Sm} {env : En} {st st' : Sto} {w : Va} (h : m env st = .rt w st') : sSeq m n env st = .rt w st' := by
  unfold sSeq
  rw [h]
theorem seq_xc {m n : Sm} {env env' : En} {st st' : Sto} {c : Nat} {fs : List (Str × Va)} (h : m env st = .xc c fs env' st') : sSeq m n env st = .xc c fs env' st' := by
  unfold sSeq
  rw [h]
theorem iR1_ok {m : En → Mo (List Va)} {env : En} {st st1 : Sto} {j : Int} (h : m env st = .ok [.int j] st1) (h0 : -(2 ^ 62) ≤ j) (h1 : j < 2 ^ 62) : iR1 m env st = .ok (.fix (rangeW 0 j.toNat)) st1 := by
  unfold iR1
  rw [h]
  exact if_pos ⟨h0, h1⟩
end Sh

set_option Elab.async false
set_option linter.all false
set_option maxRecDepth 100000
set_option maxHeartbeats 4000000
namespace Sh
open PySem PySem.Spec PyProof.Rows L2 TL
/-! ### tools for the plain layer -/
theorem get_mid {α : Type} (st : List α) (a : α) (r : List α) : (st ++ a :: r)[st.length]? = some a := by simp
theorem set_mid {α : Type} (st : List α) (a b : α) (r : List α) : (st ++ a :: r).set st.length b = st ++ b :: r := by simp [List.set_append]
theorem get_off {α : Type} (st r : List α) (k : Nat) : (st ++ r)[st.length + k]? = r[k]? := by
  rw [List.getElem?_append_right (by omega), Nat.add_sub_cancel_left]
theorem get_off0 {α : Type} (st r : List α) : (st ++ r)[st.length]? = r[0]? := get_off st r 0
theorem get_old {α : Type} {st t : List α} {n : Nat} {x : α} (h : st[n]? = some x) : (st ++ t)[n]? = some x := by
  rw [List.getElem?_append_left (List.getElem?_eq_some_iff.mp h).1]
  exact h
/-- a loop over items, by a word of the place -/
theorem forF_idx {tg : Tg} {body : Sm} (P : Nat → En → Sto → Prop) : ∀ {ws : List Va} {k : Nat}, (∀ i w, ws[i]? = some w → ∀ env st, P (k + i) env st → ∃ env1, tg w env = some env1 ∧ ∃ env2 st2, (body env1 st = .nx env2 st2 ∨ body env1 st = .ct env2 st2) ∧ P (k + i + 1) env2 st2) →
    ∀ {env : En} {st : Sto}, P k env st → ∃ env' st', forF tg body ws env st = .nx env' st' ∧ P (k + ws.length) env' st'
  | [], k, _, env, st, p => ⟨env, st, rfl, p⟩
  | w :: ws, k, h, env, st, p => by
    obtain ⟨env1, e1, env2, st2, e2, p2⟩ := h 0 w rfl env st p
    obtain ⟨env3, st3, e3, p3⟩ := forF_idx P (ws := ws) (k := k + 1) (fun i u hu env st q => by
      have := h (i + 1) u hu env st (by rw [show k + (i + 1) = k + 1 + i by omega]; exact q)
      rw [show k + (i + 1) + 1 = k + 1 + i + 1 by omega] at this
      exact this) p2
    refine ⟨env3, st3, ?_, by rw [show k + (w :: ws).length = k + 1 + ws.length by simp; omega]; exact p3⟩
    unfold forF
    rw [e1]
    dsimp only
    rcases e2 with e2 | e2
    · rw [e2]; exact e3
    · rw [e2]; exact e3
/-- a comprehension over items: an item each, the store grows -/
theorem compF_ok {e : En → Mo Va} {i : Nat} {env : En} {st0 : Sto} (R : Va → Va → Prop) : ∀ {ws : List Va}, (∀ w ∈ ws, ∀ t : Sto, ∃ y x, e (env.set i (some w)) (st0 ++ t) = .ok y (st0 ++ t ++ x) ∧ R w y) →
    ∀ (acc : List Va) (t : Sto), acc.length + ws.length ≤ 16777216 → ∃ ys x, compF (tgN i) cYes e st0.length env ws (st0 ++ .lst acc :: t) = .ok (.ref st0.length) (st0 ++ .lst (acc ++ ys) :: (t ++ x)) ∧ Paired R ws ys
  | [], _, acc, t, _ => ⟨[], [], by simp [compF], .nil⟩
  | w :: ws, h, acc, t, hl => by
    obtain ⟨y, x, e1, r⟩ := h w List.mem_cons_self (.lst acc :: t)
    obtain ⟨ys, x2, e2, r2⟩ := compF_ok R (ws := ws) (fun u hu => h u (List.mem_cons_of_mem _ hu)) (acc ++ [y]) (t ++ x) (by simp at hl ⊢; omega)
    refine ⟨y :: ys, x ++ x2, ?_, .cons r r2⟩
    have ha : acc.length < 16777216 := by simp at hl; omega
    have e1' : e (env.set i (some w)) (st0 ++ Ob.lst acc :: t) = .ok y (st0 ++ Ob.lst acc :: (t ++ x)) := by rw [e1]; simp
    have g1 : (st0 ++ Ob.lst acc :: (t ++ x))[st0.length]? = some (Ob.lst acc) := get_mid _ _ _
    have s1 : (st0 ++ Ob.lst acc :: (t ++ x)).set st0.length (Ob.lst (acc ++ [y])) = st0 ++ Ob.lst (acc ++ [y]) :: (t ++ x) := set_mid _ _ _ _
    unfold compF compT
    simp only [tgN, cYes, nex, bnd, e1', if_true, pushT, g1, ha, s1]
    rw [e2]
    simp [List.append_assoc]
/-- the same over a list of the store, which stays -/
theorem compL_ok {e : En → Mo Va} {i : Nat} {env : En} {st0 : Sto} {m : Nat} {all : List Va} (R : Va → Va → Prop) (hm : st0[m]? = some (.lst all)) (h : ∀ w ∈ all, ∀ t : Sto, ∃ y x, e (env.set i (some w)) (st0 ++ t) = .ok y (st0 ++ t ++ x) ∧ R w y) :
    ∀ (k j : Nat) (acc : List Va) (t : Sto), j ≤ all.length → all.length - j < k → acc.length + (all.length - j) ≤ 16777216 → ∃ ys x, compL (tgN i) cYes e st0.length env m k j (st0 ++ .lst acc :: t) = .ok (.ref st0.length) (st0 ++ .lst (acc ++ ys) :: (t ++ x)) ∧ Paired R (all.drop j) ys
  | 0, j, acc, t, _, h2, _ => by omega
  | k + 1, j, acc, t, h1, h2, hl => by
    have gm : (st0 ++ Ob.lst acc :: t)[m]? = some (.lst all) := get_old hm
    unfold compL
    by_cases hj : j < all.length
    · rw [List.drop_eq_getElem_cons hj]
      obtain ⟨y, x, e1, r⟩ := h all[j] (List.getElem_mem hj) (.lst acc :: t)
      have ha : acc.length < 16777216 := by omega
      obtain ⟨ys, x2, e2, r2⟩ := compL_ok R hm h k (j + 1) (acc ++ [y]) (t ++ x) (by omega) (by omega) (by rw [List.length_append, List.length_singleton]; omega)
      refine ⟨y :: ys, x ++ x2, ?_, .cons r r2⟩
      have e1' : e (env.set i (some all[j])) (st0 ++ Ob.lst acc :: t) = .ok y (st0 ++ Ob.lst acc :: (t ++ x)) := by rw [e1]; simp
      have g1 : (st0 ++ Ob.lst acc :: (t ++ x))[st0.length]? = some (Ob.lst acc) := get_mid _ _ _
      have s1 : (st0 ++ Ob.lst acc :: (t ++ x)).set st0.length (Ob.lst (acc ++ [y])) = st0 ++ Ob.lst (acc ++ [y]) :: (t ++ x) := set_mid _ _ _ _
      rw [gm]
      dsimp only
      rw [List.getElem?_eq_getElem hj]
      dsimp only
      unfold compT
      simp only [tgN, cYes, nex, bnd, e1', if_true, pushT, g1, ha, s1]
      rw [e2]
      simp [List.append_assoc]
    · refine ⟨[], [], ?_, ?_⟩
      · rw [gm]
        dsimp only
        rw [List.getElem?_eq_none (by omega)]
        simp
      · rw [List.drop_eq_nil_of_le (by omega)]
        exact .nil
/-- a comprehension over a list of the store / over written items -/
theorem eLc_live {src : En → Mo Src} {e : En → Mo Va} {i m : Nat} {env : En} {st st0 : Sto} {all : List Va} (R : Va → Va → Prop) (hs : src env st = .ok (.live m) st0) (hm : st0[m]? = some (.lst all)) (hl : all.length ≤ 16777216)
    (h : ∀ w ∈ all, ∀ t : Sto, ∃ y x, e ((env.set i none).set i (some w)) (st0 ++ t) = .ok y (st0 ++ t ++ x) ∧ R w y) :
    ∃ ys x, eLc src (tgN i) cYes e [i] env st = .ok (.ref st0.length) (st0 ++ .lst ys :: x) ∧ Paired R all ys := by
  obtain ⟨ys, x, e1, r⟩ := compL_ok (e := e) (i := i) (env := env.set i none) R hm h (all.length + 1) 0 [] [] (Nat.zero_le _) (by omega) (by simpa using hl)
  refine ⟨ys, x, ?_, by simpa using r⟩
  unfold eLc
  rw [hs]
  show compS (tgN i) cYes e [i] env (.live m) st0 = _
  unfold compS
  dsimp only
  rw [hm]
  dsimp only
  simpa [wipeE] using e1
theorem eLc_fix {src : En → Mo Src} {e : En → Mo Va} {i : Nat} {env : En} {st st0 : Sto} {all : List Va} (R : Va → Va → Prop) (hs : src env st = .ok (.fix all) st0) (hl : all.length ≤ 16777216)
    (h : ∀ w ∈ all, ∀ t : Sto, ∃ y x, e ((env.set i none).set i (some w)) (st0 ++ t) = .ok y (st0 ++ t ++ x) ∧ R w y) :
    ∃ ys x, eLc src (tgN i) cYes e [i] env st = .ok (.ref st0.length) (st0 ++ .lst ys :: x) ∧ Paired R all ys := by
  obtain ⟨ys, x, e1, r⟩ := compF_ok (e := e) (i := i) (env := env.set i none) (st0 := st0) R h [] [] (by simpa using hl)
  refine ⟨ys, x, ?_, r⟩
  unfold eLc
  rw [hs]
  show compS (tgN i) cYes e [i] env (.fix all) st0 = _
  unfold compS
  dsimp only
  simpa [wipeE] using e1
/-- in -/
theorem inS_one (c : Nat) (y : Str) : inS ⟨#[c]⟩ y = decide (c ∈ tl y) := PySem.StrLaws.found_one y c
theorem mem_joinL {S : List Nat} {c : Nat} : ∀ {ps : List (List Nat)}, c ∈ joinL S ps → c ∈ S ∨ ∃ p ∈ ps, c ∈ p
  | [], h => by cases h
  | [p], h => .inr ⟨p, List.mem_singleton.mpr rfl, h⟩
  | p :: q :: r, h => by
    rcases List.mem_append.mp h with h | h
    · exact .inr ⟨p, List.mem_cons_self, h⟩
    · rcases List.mem_append.mp h with h | h
      · exact .inl h
      · rcases mem_joinL h with h | ⟨z, hz, h⟩
        · exact .inl h
        · exact .inr ⟨z, List.mem_cons_of_mem _ hz, h⟩
theorem mem_cutS {x : Str} {lo hi : Option Int} {c : Nat} (h : c ∈ tl (cutS x lo hi)) : c ∈ tl x := List.mem_of_mem_drop (List.mem_of_mem_take h)
theorem atI_in {α : Type} {xs : List α} {i : Int} (h0 : 0 ≤ i) (h1 : i < xs.length) : ∃ x, atI xs i = some x ∧ x ∈ xs := by
  obtain ⟨k, rfl⟩ : ∃ k : Nat, i = (k : Int) := ⟨i.toNat, by omega⟩
  rw [atI_nat']
  have hk : k < xs.length := by omega
  exact ⟨xs[k], List.getElem?_eq_getElem hk, List.getElem_mem hk⟩

theorem seq_step {m n : Sm} {env env' : En} {st st' : Sto} {r : Fl} (h : m env st = .nx env' st') (h2 : n env' st' = r) : sSeq m n env st = r := by rw [seq_nx h]; exact h2
theorem seq_ret {m n : Sm} {env : En} {st st' : Sto} {w : Va} (h : m env st = .rt w st') : sSeq m n env st = .rt w st' := seq_rt h
theorem set_step {i : Nat} {m : En → Mo Va} {env : En} {st st' : Sto} {w : Va} (h : m env st = .ok w st') : sSet i m env st = .nx (env.set i (some w)) st' := by
  unfold sSet
  rw [h]
  rfl
theorem ret_step {m : En → Mo Va} {env : En} {st st' : Sto} {w : Va} (h : m env st = .ok w st') : sRet m env st = .rt w st' := by
  unfold sRet
  rw [h]
  rfl
theorem if_t {t : En → Mo Bool} {m n : Sm} {env : En} {st st' : Sto} (h : t env st = .ok true st') : sIf t m n env st = m env st' := by
  unfold sIf
  rw [h]
  rfl
theorem if_f {t : En → Mo Bool} {m n : Sm} {env : En} {st st' : Sto} (h : t env st = .ok false st') : sIf t m n env st = n env st' := by
  unfold sIf
  rw [h]
  rfl
theorem paired_length {α β : Type} {R : α → β → Prop} : ∀ {xs : List α} {ys : List β}, Paired R xs ys → xs.length = ys.length
  | _, _, .nil => rfl
  | _, _, .cons _ t => by rw [List.length_cons, List.length_cons, paired_length t]
theorem paired_right {α β γ : Type} {R : α → β → Prop} (f : γ → β) (G : α → γ → Prop) (h : ∀ a b, R a b → ∃ c, b = f c ∧ G a c) : ∀ {xs : List α} {ys : List β}, Paired R xs ys → ∃ zs : List γ, ys = zs.map f ∧ Paired G xs zs
  | _, _, .nil => ⟨[], rfl, .nil⟩
  | _, _, .cons r t => by
    obtain ⟨zs, e, p⟩ := paired_right f G h t
    obtain ⟨c, e1, g1⟩ := h _ _ r
    exact ⟨c :: zs, by rw [e, e1]; rfl, .cons g1 p⟩
theorem paired_all {α β : Type} {R : α → β → Prop} {P : β → Prop} (h : ∀ a b, R a b → P b) : ∀ {xs : List α} {ys : List β}, Paired R xs ys → ∀ y ∈ ys, P y
  | _, _, .nil, _, hy => absurd hy List.not_mem_nil
  | _, _, .cons r t, y, hy => by
    rcases List.mem_cons.mp hy with e | hy
    · subst e; exact h _ _ r
    · exact paired_all h t y hy
theorem unstr_map : ∀ zs : List Str, unstr (zs.map Va.str) = some zs
  | [] => rfl
  | z :: r => by
    show (unstr (r.map Va.str)).map (z :: ·) = _
    rw [unstr_map r]
    rfl
theorem joinL_nil_length : ∀ ps : List (List Nat), (joinL [] ps).length = (ps.map List.length).sum
  | [] => rfl
  | [p] => by simp [joinL]
  | p :: q :: r => by
    show (p ++ ([] ++ joinL [] (q :: r))).length = _
    rw [List.nil_append, List.length_append, joinL_nil_length (q :: r)]
    simp

/-- a loop that looks at every item and may stop -/
theorem forF_scan {i : Nat} {body : Sm} {env : En} {st : Sto} {v : Va} (p : Va → Bool) : ∀ {ws : List Va}, (∀ w ∈ ws, p w = true → body (env.set i (some w)) st = .nx (env.set i (some w)) st) → (∀ w ∈ ws, p w = false → body (env.set i (some w)) st = .rt v st) →
    ∀ z, (ws.all p = true → ∃ z', forF (tgN i) body ws (env.set i z) st = .nx (env.set i z') st) ∧ (ws.all p = false → forF (tgN i) body ws (env.set i z) st = .rt v st)
  | [], _, _, z => ⟨fun _ => ⟨z, rfl⟩, fun h => by simp at h⟩
  | w :: ws, h1, h2, z => by
    have ih := forF_scan p (ws := ws) (fun u hu => h1 u (List.mem_cons_of_mem _ hu)) (fun u hu => h2 u (List.mem_cons_of_mem _ hu)) (some w)
    have e : (env.set i z).set i (some w) = env.set i (some w) := by rw [List.set_set]
    cases hp : p w with
    | true =>
      have hb := h1 w List.mem_cons_self hp
      rw [List.all_cons, hp, Bool.true_and]
      have e2 : forF (tgN i) body (w :: ws) (env.set i z) st = forF (tgN i) body ws (env.set i (some w)) st := by
        rw [forF]
        simp only [tgN, e, hb]
      rw [e2]
      exact ih
    | false =>
      have hb := h2 w List.mem_cons_self hp
      rw [List.all_cons, hp, Bool.false_and]
      refine ⟨fun h => (Bool.false_ne_true h).elim, fun _ => ?_⟩
      rw [forF]
      simp only [tgN, e, hb]
theorem paired_eq {α β : Type} {f : α → β} : ∀ {xs : List α} {ys : List β}, Paired (fun a b => b = f a) xs ys → ys = xs.map f
  | _, _, .nil => rfl
  | _, _, .cons r t => by rw [r, paired_eq t]; rfl
theorem blsW_map : ∀ bs : List Bool, blsW (bs.map Va.bl) = some bs
  | [] => rfl
  | b :: r => by
    show (blsW (r.map Va.bl)).map (b :: ·) = _
    rw [blsW_map r]
    rfl
/-- lists of texts as data -/
theorem datL_strs (st : Sto) (n : Nat) : ∀ ys : List Str, datL (dat st (n + 1)) (ys.map Va.str) = some (ys.map PyData.str)
  | [] => rfl
  | y :: r => by
    rw [List.map_cons, datL, datL_strs st n r]
    rfl
theorem canLay_strs : ∀ ys : List Str, (∀ y ∈ ys, PySem.PyData.strOk y = true) → PyData.canLayAll0 (ys.map PyData.str) = true
  | [], _ => rfl
  | y :: r, h => by
    simp only [List.map_cons, PyData.canLayAll0, PyData.canLay0, canLay_strs r fun z hz => h z (List.mem_cons_of_mem _ hz), h y List.mem_cons_self, Bool.and_self]
theorem depth_strs : ∀ ys : List Str, PyData.depthAll (ys.map PyData.str) = 0
  | [] => rfl
  | y :: r => by simp [PyData.depthAll, PyData.depth, depth_strs r]
theorem shaped_strs (ys : List Str) (h : ∀ y ∈ ys, PySem.PyData.strOk y = true) : SeqAt.shaped (.list (ys.map PyData.str)) = true := by
  simp [SeqAt.shaped, PyData.canLay0, PyData.depth, canLay_strs ys h, depth_strs]
theorem eqv_strs : ∀ xs ys : List Str, PyData.eqvAll (xs.map PyData.str) (ys.map PyData.str) = decide (xs = ys)
  | [], [] => by simp [PyData.eqvAll]
  | [], _ :: _ => by simp [PyData.eqvAll]
  | _ :: _, [] => by simp [PyData.eqvAll]
  | a :: r, b :: t => by
    simp only [List.map_cons, PyData.eqvAll, PyData.eqv, eqv_strs r t]
    by_cases h : a = b <;> by_cases h' : r = t <;> simp [h, h']
theorem any_strs (w : Str) : ∀ ys : List Str, ((ys.map PyData.str).any fun z => z.eqv (.str w)) = ys.any (· == w)
  | [] => rfl
  | y :: r => by rw [List.map_cons, List.any_cons, List.any_cons, any_strs w r]; rfl
theorem any_eqW (w : Str) : ∀ ys : List Str, ((ys.map Va.str).any fun y => eqW y (.str w)) = ys.any (· == w)
  | [] => rfl
  | y :: r => by rw [List.map_cons, List.any_cons, List.any_cons, any_eqW w r]; rfl
theorem flat_strs : ∀ ys : List Str, (ys.map Va.str).all flatW = true
  | [] => rfl
  | y :: r => by rw [List.map_cons, List.all_cons, flat_strs r]; rfl
theorem in_ktp (neg : Bool) (w : Str) (ys : List Str) (st : Sto) : opInB neg (.str w) (.ktp (ys.map Va.str)) st = .ok (.bl (xor neg (ys.any (· == w)))) st := by
  unfold opInB
  dsimp only
  rw [flat_strs, any_eqW]
  rfl
theorem in_lst (neg : Bool) (w : Str) (ys : List Str) (n : Nat) (st : Sto) (h : st[n]? = some (.lst (ys.map Va.str))) (hw : PySem.PyData.strOk w = true) (hy : ∀ y ∈ ys, PySem.PyData.strOk y = true) : opInB neg (.str w) (.ref n) st = .ok (.bl (xor neg (ys.any (· == w)))) st := by
  unfold opInB
  dsimp only
  rw [h]
  dsimp only
  rw [datL_strs]
  show (if (SeqAt.shaped (.str w) && SeqAt.shaped (.list (ys.map PyData.str))) = true then _ else _) = _
  rw [shaped_strs ys hy, any_strs]
  have : SeqAt.shaped (.str w) = true := by simp [SeqAt.shaped, PyData.canLay0, PyData.depth, hw]
  rw [this]
  rfl

theorem dat_strs {st : Sto} {n k : Nat} {ys : List Str} (h : st[n]? = some (.lst (ys.map Va.str))) : dat st (k + 2) (.ref n) = some (.list (ys.map PyData.str)) := by
  unfold dat
  dsimp only
  rw [h]
  dsimp only
  rw [datL_strs]
  rfl
theorem eq_strs (neg : Bool) {st : Sto} {m n : Nat} {xs ys : List Str} (hm : st[m]? = some (.lst (xs.map Va.str))) (hn : st[n]? = some (.lst (ys.map Va.str))) (hx : ∀ y ∈ xs, PySem.PyData.strOk y = true) (hy : ∀ y ∈ ys, PySem.PyData.strOk y = true) :
    opEqB neg (.ref m) (.ref n) st = .ok (.bl (xor neg (decide (xs = ys)))) st := by
  show opEqD neg (.ref m) (.ref n) st = _
  unfold opEqD
  rw [dat_strs hm, dat_strs hn]
  dsimp only
  rw [shaped_strs xs hx, shaped_strs ys hy]
  show Rs.ok (Va.bl (xor neg (PyData.eqv (.list _) (.list _)))) st = _
  rw [PyData.eqv, eqv_strs]
end Sh

set_option Elab.async false
set_option linter.all false
set_option maxRecDepth 100000
set_option maxHeartbeats 4000000
/-! raise, try .. except .. as, for own exceptions that keep one argument. -/
namespace Sh
open PySem PySem.Spec PyProof.Rows L2

/-! ### an exception is made -/
def XArg (v : V) : Prop := (∃ i : Int, v = .int i ∧ i.natAbs.log2 < 1920) ∨ ∃ s : Str, v = .str s ∧ s.length ≤ 1000
def spX (K : PySem.W.Frag) (C : Addr) (f : Str) : Sp := fun vs H Q E => ∃ a v, vs = [.ref a, v] ∧ OexC K C ∧ PySem.W.findIn K (.ref C) f = some none ∧ H a = some (exo a C none) ∧ XArg v ∧
  ∀ d, H d = none → d ≠ a → Q .non (upd (upd H d (exd d [(f, v)])) a (exo a C (some d)))
/-- what is asked of the base class, whose __init__ is ValueError's -/
structure XBase (K : PySem.W.Frag) (mg : Str → Option Value) (x : Str) (B : Addr) (mc : Value) : Prop where
  nm : mg x = some (.ref B)
  ga : PySem.W.specialIn K (.ref B) "__getattribute__" = some (some (.builtin "type.__getattribute__"))
  rd : PySem.W.readsIn K B mc = true
  ini : PySem.W.findCls K (.ref B) mc "__init__" = some (.val (.builtin "ValueError.__init__"))
section
variable {X : Cx} {e : Expr} {es : List Expr} {ta : TA} {p1 p2 pos : Pos}
theorem pe_ebase {pl : Sem Bool} {x : Str} {B : Addr} {mc : Value} (b : XBase X.K X.mg x B mc) (ha : PA X (e :: es) ta) (hg : Gl X x := by rfl) (hdb : (x == ("__debug__" : Str)) = false := by decide)
    (hc : eval (.Call (.Attribute (.Name x p1) "__init__" p2) (e :: es) [] pos) X.env = (do
      let ov ← eval (.Name x p1) X.env
      standAt p2.atName
      let (f, first) ← holding [ov] (getMethod ov "__init__" pl)
      callWith pos f first (backTo pos (starEach (e :: es) X.env)) (backToKw pos (keywordEach [] X.env))) := by rfl)
    (he : starEach (e :: es) X.env = (false, eval e X.env) :: starEach es X.env := by rfl) (hpl : (backTo pos (starEach es X.env)).any (·.1) = false := by rfl) :
    PE X (.Call (.Attribute (.Name x p1) "__init__" p2) (e :: es) [] pos) (tVeI X.K ta) := by
  refine ⟨fun pins s σ H Q I h => ?_⟩
  refine PySem.W.methodCall_KW (ld_glob I hg b.nm ?_ hdb) hc
  refine PySem.W.method_cls I.kIn b.ga (PySem.W.cls_value I.kIn b.rd b.ini (by decide +kernel) ?_)
  show wpAny _ _ (callWith pos (Value.builtin "ValueError.__init__") [] (backTo pos (starEach (e :: es) X.env)) []) _ _ _
  refine PyProof.Rows.callWith_method1 (thn (ha.run pos pins _ σ H _ (I.tok _) h) fun us s1 ⟨vs, H1, I1, r1, a, C, ws, ev, hl, T, ea, q⟩ => ?_) he hpl
  subst ev
  cases r1 with
  | @cons _ u0 _ ur ra rw' =>
    obtain rfl : u0 = Value.ref a := ra
    have hlen : ur.length ≤ sizeLine := by
      rw [← Paired.length rw', sizeLine_eq]
      omega
    exact oinit_ok T I1 ea hlen fun s' J => ⟨.non, H1, J, rfl, q⟩
end
theorem str_len (a b : Str) : (a ++ b).length = a.length + b.length := by
  show (a.cps ++ b.cps).size = a.cps.size + b.cps.size
  exact Array.size_append
theorem empty_app (a : Str) : (Str.empty ++ a).length = a.length := by
  rw [str_len]
  show 0 + _ = _
  omega
theorem int_len {n : Int} (h : n.natAbs.log2 < 1920) : (Str.ofString (toString n)).length ≤ 100000 := by
  have e := int_text_length_le (k := 1920) (by decide) h
  rw [PySem.ofString_length]
  omega
/-- one part {v} of an f-string -/
theorem fmt_arg {v : V} {σ : L2.St} {H : Hp} {i : Nat} {acc : Str} {N : Str → Hp → Prop} (hx : XArg v) (e : σ[i]? = some (some v)) (ha : acc.length ≤ 1000) (h : ∀ s : Str, s.length ≤ 100000 → N (acc ++ s) H) : tFmt (tVar i) σ H fun x H1 => ∃ y : Str, x = .str y ∧ (acc ++ y).length ≤ sizeLine ∧ N (acc ++ y) H1 := by
  refine ⟨v, e, ?_⟩
  rcases hx with ⟨n, rfl, hn⟩ | ⟨s, rfl, hs⟩
  · have hl : (Str.ofString (toString n)).length ≤ 100000 := int_len hn
    exact .inr ⟨n, rfl, hn, _, rfl, by rw [str_len, sizeLine_eq]; omega, h _ hl⟩
  · exact .inl ⟨s, rfl, by rw [sizeLine_eq]; omega, s, rfl, by rw [str_len, sizeLine_eq]; omega, h s (by omega)⟩

/-- f'a{v}b', f'a{v}' -/
theorem js3_ok {v : V} {σ : L2.St} {H : Hp} {i : Nat} {a b : Str} {Q : Str → Hp → Prop} (hx : XArg v) (e : σ[i]? = some (some v)) (ha : a.length ≤ 1000) (hb : b.length ≤ 1000) (h : ∀ s : Str, Q s H) : tJs [tC (.str a), tFmt (tVar i), tC (.str b)] Str.empty σ H Q := by
  refine ⟨a, rfl, by rw [empty_app, sizeLine_eq]; omega, fmt_arg (N := fun s H => tJs [tC (.str b)] s σ H Q) hx e (by rw [empty_app]; exact ha) fun s hs => ⟨b, rfl, by rw [str_len, str_len, empty_app, sizeLine_eq]; omega, h _⟩⟩
theorem js2_ok {v : V} {σ : L2.St} {H : Hp} {i : Nat} {a : Str} {Q : Str → Hp → Prop} (hx : XArg v) (e : σ[i]? = some (some v)) (ha : a.length ≤ 1000) (h : ∀ s : Str, Q s H) : tJs [tC (.str a), tFmt (tVar i)] Str.empty σ H Q := by
  refine ⟨a, rfl, by rw [empty_app, sizeLine_eq]; omega, fmt_arg (N := fun s H => Q s H) hx e (by rw [empty_app]; exact ha) fun s hs => h _⟩
/-- what the body of such an __init__ asks -/
theorem xi_ok {K : PySem.W.Frag} {C : Addr} {f : Str} {vs : List V} {H : Hp} {Q : VK} {E : XK} {N : List Str} {ts : List TE} (h : spX K C f vs H Q E) (hN : N.length = 2)
    (hj : ∀ (v : V) (σ : L2.St) (H : Hp) (Q : Str → Hp → Prop), XArg v → σ[1]? = some (some v) → (∀ s : Str, Q s H) → tJs ts Str.empty σ H Q) :
    (tSeq (tDrop (tVeI K (tCons (tVar 0) (tCons (fun σ H Q => tJs ts Str.empty σ H fun out H1 => Q (.str out) H1) tNil)))) (tOst K f (tVar 0) (tVar 1))) { nx := fun _ H' => Q .non H', rt := Q } (start N vs) H := by
  obtain ⟨a, v, rfl, T, no, ha, hx, hq⟩ := h
  have e0 : (start N [V.ref a, v])[0]? = some (some (.ref a)) := rfl
  have e1 : (start N [V.ref a, v])[1]? = some (some v) := rfl
  refine ⟨.ref a, e0, ?_⟩
  refine hj v _ H _ hx e1 fun s => ?_
  refine ⟨a, C, [.str s], rfl, by simp, T, ha, ?_⟩
  exact ⟨v, e1, .ref a, e0, a, C, rfl, T, no, .inl ⟨ha, fun d hd hne => hq d hd hne⟩⟩

/-! ### raise C(v) -/
structure ExOk (P : Program) (w : World) (K : PySem.W.Frag) (mg : Str → Option Value) (base : Heap) (g : Gx) (k : Nat) (c : Nat) (x f : Str) : Prop where
  ox : OexC K (g.cls c)
  no : PySem.W.findIn K (.ref (g.cls c)) f = some none
  ini : ∃ (fI : Addr) (fd : FuncData) (ps : List Str), PySem.W.findIn K (.ref (g.cls c)) "__init__" = some (some (.ref fI)) ∧ PySem.W.typeIn K (.ref fI) = some (.type "function") ∧ FnOk P w K mg base (L2.CX P w) k fI fd ps (spX K (g.cls c) f) ∧ Binds K fd ps []
  nm : mg x = some (.ref (g.cls c))
def xArgW : Va → Bool
  | .int i => decide (i.natAbs.log2 < 1920)
  | .str s => decide (s.length ≤ 1000)
  | _ => false
theorem xArg_is {K : PySem.W.Frag} {H0 H : Hp} {ι : List Addr} {w : Va} {v : V} (r : RV K H0 H ι w v) (h : xArgW w = true) : XArg v := by
  cases r with
  | int i => exact .inl ⟨i, rfl, of_decide_eq_true h⟩
  | str s => exact .inr ⟨s, rfl, of_decide_eq_true h⟩
  | _ => cases h
def sRaise (c : Nat) (f : Str) (m : En → Mo Va) : Sm := fun env st => bS env (m env st) fun w st1 => if xArgW w = true then .xc c [(f, w)] env st1 else .no
section
variable {X : Cx} {g : Gx} {W : WX} {pos : Pos}
theorem js_raise {k c : Nat} {x f : Str} {p pos' : Pos} {e : Expr} {m : En → Mo Va} (D : ExOk X.prog X.w X.K X.mg X.base g k c x f) (hc : X.calm = true) (hr : Room (k + 1) X.A) (tk : Takes X W) (h : JE X g W e m) (hg : Gl X x := by rfl)
    (hdb : (x == ("__debug__" : Str)) = false := by decide) (he : starEach [e] X.env = [(false, eval e X.env)] := by rfl) (hpl : (backTo pos (starEach [] X.env)).any (·.1) = false := by rfl) :
    JS X g W (.Raise (some (.Call (.Name x p) [e] [] pos)) none pos') (sRaise c f m) := by
  obtain ⟨fI, fd, ps, h1, h2, h3, h4⟩ := D.ini
  refine ⟨PS.imp (ps_raise hc tk (pmk_oex (dvs := []) (ds := []) D.ox h1 h2 h3 hr h4 .nil passL hg D.nm (pa_cons h.pe pa_nil he) hdb he hpl)) fun Dn σ H q => ?_⟩
  obtain ⟨env, st, ι, rs, re, p⟩ := tG_bS (rel := rV X.K g) q
  refine ⟨env, st, ι, rs, re, p.imp (fun v H1 q => ?_) fun _ _ _ q => q⟩
  obtain ⟨env1, wv, st1, ι1, rs1, re1, r1, p1⟩ := q
  split at p1
  · rename_i hx
    refine ⟨by simp, fun a ha => ?_⟩
    refine ⟨a, v, rfl, D.ox, D.no, upd_same, xArg_is r1 hx, fun d hd hne => ⟨rfl, d, [(f, v)], upd_same, ?_, ?_, ?_⟩⟩
    · rw [upd_ne hne, upd_same]
    · rw [upd_ne hne] at hd; exact hd
    · have hd1 : H1 d = none := by rw [upd_ne hne] at hd; exact hd
      have e : upd (del (upd (upd (upd H1 a (exo a (g.cls c) none)) d (exd d [(f, v)])) a (exo a (g.cls c) (some d))) a) d (.xd [(f, v)]) = upd H1 d (.xd [(f, v)]) := by
        funext b
        by_cases hb : b = d
        · subst hb; rw [upd_same, upd_same]
        · rw [upd_ne hb, upd_ne hb]
          by_cases ha' : b = a
          · subst ha'; rw [del_same, ha]
          · rw [del_ne ha', upd_ne ha', upd_ne hb, upd_ne ha']
      rw [e]
      have ex : Ext X.K H1 ι1 (upd H1 d (.xd [(f, v)])) ι1 := by simpa using ext_new (K := X.K) (ι := ι1) (o := HO.xd [(f, v)]) hd1 []
      exact p1 _ _ σ d [(f, v)] ex (rs1.other hd1) (re1.mono ex) upd_same (.cons ⟨rfl, r1.mono ex⟩ .nil)
  · exact (show False from p1).elim
end

end Sh

set_option Elab.async false
set_option linter.all false
set_option maxRecDepth 100000
set_option maxHeartbeats 4000000
namespace Sh
open PySem PySem.Spec PyProof.Rows L2
open L2H (RoomH PinOk cxH inv_startH)

/-! ### calls out of a suite: defs that raise nothing inside -/
structure FnQ (P : Program) (w : World) (K : PySem.W.Frag) (mg : Str → Option Value) (base : Heap) (CX : CXT) (k : Nat) (f : Addr) (fd : FuncData) (ps : List Str) (sp : Sp) : Prop where
  len : ∀ vs H Q E, sp vs H Q E → vs.length = ps.length
  run : ∀ (A : Around) (outer : List Env) (s : Shared) (H : Hp) (us : List Value) (vs : List V) (Q : VK) (E : XK) (pin : Addr × Obj), RoomH k A → PinOk outer H s pin → Env0 P w K mg base A outer s H → BindsTo s fd ⟨us, []⟩ (ps.zip us) → Vals vs us → sp vs H Q E →
    codeAny (model P w) A (.call (.ref f) ⟨us, []⟩) (CR CX outer P w H s Q E) s
section
variable {P : Program} {w : World} {K : PySem.W.Frag} {mg : Str → Option Value} {base : Heap} {CX : CXT} {x qual : Str} {st : Stmt} {f : Addr} {fd : FuncData} {N ps : List Str} {k : Nat} {sp : Sp}
theorem fnQ_of (F : Fun K x qual st f fd) (S : FnScope N ps (defScope st)) (len : ∀ vs H Q E, sp vs H Q E → vs.length = ps.length)
    (body : ∀ (cdv : Value) (A : Around) (outer : List Env) (s : Shared) (H : Hp) (vs : List V) (Q : VK) (E : XK) (pin : Addr × Obj), RoomH k (A.deeper (envOfC qual (defScope st) s.heap.objs.size f cdv)) → sp vs H Q E →
      ∃ t, PSs (cxH CX P w K mg base N qual (defScope st) f cdv A outer s H E pin) (defBody st) t ∧ t { nx := fun _ H' => Q .non H', rt := Q } (L2.start N vs) H) :
    FnQ P w K mg base CX (k + 1) f fd ps sp := by
  obtain ⟨oc, od, kV, doc, pm, an, cdv, ct, osl, rfl, lk, hcd⟩ := F.ex
  refine ⟨len, fun A outer s H us vs Q E pin room hpin e0 bd rv hsp => ?_⟩
  have hl := len _ _ _ _ hsp
  have KX : K.In s.heap := e0.mod.kin.keeps fun b o e => (e0.bs b o e).1
  have lim : s.heap.NoLimit := e0.mod.nolimit.keeps fun b o e => (e0.bs b o e).1
  have kinds : ∀ y ∈ ps.zip us, (defScope st).names.lookup y.1 = some .local ∨ ((defScope st).names.lookup y.1 = some .cell ∧ ((cellsFrom (s.heap.objs.size + 1) (defScope st).names []).lookup y.1).isSome = true) := by
    rintro ⟨n, v⟩ hy
    exact (S.par n (List.of_mem_zip hy).1).imp id fun q => ⟨q, PySem.W.cellsFrom_some _ _ _ (.inl q)⟩
  have step := fun (Q' : List (Str × Value) → Prop) (h : Q' (ps.zip us)) => h
  refine codeAny_call_function room.depth (KX _ _ lk) rfl S.co S.gen rfl (PySem.W.codeRec_of KX hcd) (bd _ _ _ _ (wpAny_newFunctionEnv_cells S.kind kinds fun env he s1 ic => ?_))
  subst he
  refine ⟨lim.keeps ic.toInCall.keep, codeAny_func ?_⟩
  obtain ⟨t, ht, hq⟩ := body cdv A outer s H vs Q E pin (room.deeper _) hsp
  have J0 := inv_startH (CX := CX) (P := P) (w := w) (K := K) (mg := mg) (base := base) (E := E) S hpin e0 hl rv ic
  refine wpAny_mono (ht.run [] s1 (L2.start N vs) H _ J0 hq) (fun fl s' hs => ?_) fun _ _ z => z
  cases fl with
  | ret u => obtain ⟨v, σ', H', J, r', q⟩ := hs; exact ⟨v, H', J.os, J.bare, J.base, J.hok, r', q⟩
  | next => obtain ⟨σ', H', J, q⟩ := hs; exact ⟨.non, H', J.os, J.bare, J.base, J.hok, rfl, q⟩
  | brk => obtain ⟨_, _, _, q⟩ := hs; exact q.elim
  | cont => obtain ⟨_, _, _, q⟩ := hs; exact q.elim
end
structure DefQ (P : Program) (w : World) (K : PySem.W.Frag) (mg : Str → Option Value) (base : Heap) (g : Gx) (k : Nat) (x : Str) (n : Nat) (F : Fn) : Prop where
  ex : ∃ (f : Addr) (fd : FuncData) (ps : List Str), FnQ P w K mg base (L2.CX P w) k f fd ps (spM K g n F) ∧ ps.length = n ∧ Binds K fd ps [] ∧ mg x = some (.ref f) ∧ PySem.W.keepIn K (.ref f) = true
theorem fnQ_body {P : Program} {w : World} {K : PySem.W.Frag} {mg : Str → Option Value} {base : Heap} {g : Gx} {x qual : Str} {st : Stmt} {f : Addr} {fd : FuncData} {N ps : List Str} {k n : Nat} {m : Sm} {L : Nat} (F : Fun K x qual st f fd) (S : FnScope N ps (defScope st)) (hn : ps.length = n) (hL : N.length = L)
    (hbody : ∀ (cdv : Value) (A : Around) (outer : List Env) (s : Shared) (H : Hp) (E : XK) (pin : Addr × Obj), RoomH k (A.deeper (envOfC qual (defScope st) s.heap.objs.size f cdv)) →
      JSs (cxH (L2.CX P w) P w K mg base N qual (defScope st) f cdv A outer s H E pin) g (fun c d _ H' => E c d H') (defBody st) m) : FnQ P w K mg base (L2.CX P w) (k + 1) f fd ps (spM K g n (runF n m L)) := by
  refine fnQ_of F S (fun vs H Q E h => ?_) (fun cdv A outer s H vs Q E pin hr h => ⟨_, (hbody cdv A outer s H E pin hr).pss, ?_⟩)
  · obtain ⟨ws, st, ι, h1, h2, h3, h4⟩ := h
    rw [← h3.length, h1, hn]
  · obtain ⟨ws, st, ι, h1, h2, h3, h4⟩ := h
    refine ⟨_, st, ι, h2, re_start hL h1 h3, ?_⟩
    revert h4
    unfold runF
    generalize m (ws.map some ++ List.replicate (L - n) none) st = r
    intro h4
    cases r with
    | nx env st2 => exact fun H' ι' σ' e rs re => h4 H' ι' .non e rs .non
    | rt w st2 => exact h4
    | xc c fs env st2 => exact fun H' ι' σ' d fs' e rs re hd pf => h4 H' ι' d fs' e rs hd pf
    | bk env st2 => exact (show False from h4).elim
    | ct env st2 => exact (show False from h4).elim
    | no => exact h4

/-! ### inside a suite -/
/-- what stands while a suite runs: the error at a, its dict d -/
abbrev Gx.sx (g : Gx) (i : Nat) (a d : Addr) (fs : List (Str × V)) : Gx := { g with xs := (d, fs) :: g.xs, es := (i, a) :: g.es }
def vX : Va → V
  | .int i => .int i
  | .str s => .str s
  | _ => .non
abbrev xFs (fs : List (Str × Va)) : List (Str × V) := fs.map fun p => (p.1, vX p.2)
section
variable {K : PySem.W.Frag} {g : Gx} {i : Nat} {a d : Addr} {fs : List (Str × V)}
theorem RS.toS {st : Sto} {H : Hp} {ι : List Addr} (rs : RS K g st H ι) (h : H d = some (.xd fs)) : RS K (g.sx i a d fs) st H ι :=
  ⟨rs.len, rs.nd, rs.old, rs.new, fun n o b q1 q2 => by have := rs.obj n o b q1 q2; cases o <;> exact this, fun p hp => by
    rcases List.mem_cons.mp hp with e | hp
    · subst e; exact h
    · exact rs.xds p hp⟩
theorem RS.ofS {st : Sto} {H : Hp} {ι : List Addr} (rs : RS K (g.sx i a d fs) st H ι) : RS K g st H ι :=
  ⟨rs.len, rs.nd, rs.old, rs.new, fun n o b q1 q2 => by have := rs.obj n o b q1 q2; cases o <;> exact this, fun p hp => rs.xds p (List.mem_cons_of_mem _ hp)⟩
theorem RS.xdS {st : Sto} {H : Hp} {ι : List Addr} (rs : RS K (g.sx i a d fs) st H ι) : H d = some (.xd fs) := rs.xds (d, fs) List.mem_cons_self
/-- calls in a suite: the promise is the same -/
theorem spM_sx {n : Nat} {F : Fn} {vs : List V} {H : Hp} {Q : VK} {E : XK} (h : spM K (g.sx i a d fs) n F vs H Q E) : spM K g n F vs H Q E := by
  obtain ⟨ws, st, ι, h1, rs, h3, p⟩ := h
  refine ⟨ws, st, ι, h1, rs.ofS, h3, ?_⟩
  have hd := rs.xdS
  revert p
  cases F ws st with
  | ok w st2 => exact fun p H' ι' b e rs' r => p H' ι' b e (rs'.toS (e.xd _ _ hd)) r
  | exc c fs2 st2 => exact fun p H' ι' d' fs' e rs' hd' pf => p H' ι' d' fs' e (rs'.toS (e.xd _ _ hd)) hd' pf
  | no => exact fun p => p
end
/-- facts of the error's class that a suite asks -/
structure XcOk (K : PySem.W.Frag) (C : Addr) : Prop where
  xf : XfC K C
  ec : ExcC K C
def eXf (i : Nat) (fs : List (Str × Va)) (f : Str) : En → Mo Va := fun env st => match env[i]? with
  | some (some .exn) => (match fs.lookup f with
    | some w => .ok w st
    | none => .no)
  | _ => .no
def eXi (i : Nat) (b : Bool) : En → Mo Va := fun env st => match env[i]? with
  | some (some .exn) => .ok (.bl b) st
  | _ => .no
theorem xFs_lookup {f : Str} : ∀ {fs : List (Str × Va)} {w : Va}, fs.lookup f = some w → (xFs fs).lookup f = some (vX w)
  | [], _, e => by cases e
  | (k, y) :: fs, w, e => by
    show List.lookup f ((k, vX y) :: xFs fs) = _
    rw [List.lookup_cons] at e ⊢
    cases h : (f == k) with
    | true => rw [h] at e; cases e; rfl
    | false => rw [h] at e; exact xFs_lookup e
theorem vX_rv {K : PySem.W.Frag} {H0 H : Hp} {ι : List Addr} {w : Va} (h : xArgW w = true) : RV K H0 H ι w (vX w) := by
  cases w with
  | int i => exact .int i
  | str s => exact .str s
  | _ => cases h
theorem xFs_mem {f : Str} : ∀ {fs : List (Str × Va)} {w : Va}, (fs.all fun p => xArgW p.2) = true → fs.lookup f = some w → xArgW w = true
  | [], _, _, e => by cases e
  | (k, y) :: fs, w, h, e => by
    rw [List.all_cons, Bool.and_eq_true] at h
    rw [List.lookup_cons] at e
    cases q : (f == k) with
    | true => rw [q] at e; cases e; exact h.1
    | false => rw [q] at e; exact xFs_mem h.2 e
section
variable {X : Cx} {g : Gx} {i c : Nat} {a d : Addr} {oe : Obj} {fs : List (Str × Va)} {pn : List (Addr × Obj)} {x : Str} {pos p0 : Pos}
theorem jx_fld {f : Str} (hz : Zc (.ref (g.cls c)) (some d) oe) (hf : ∃ vs, oe.data = .fields vs) (hfs : (fs.all fun p => xArgW p.2) = true) (T : XfC X.K (g.cls c)) (hno : PySem.W.findIn X.K (.ref (g.cls c)) f = some none)
    (hv : PE (X.suite a ((a, oe) :: pn)) (.Name x p0) (tVar i)) (hb : attributeBase (.Name x p0) f X.env (eval (.Name x p0) X.env) = eval (.Name x p0) X.env := by rfl) :
    JE (X.suite a ((a, oe) :: pn)) (g.sx i a d (xFs fs)) W0 (.Attribute (.Name x p0) f pos) (eXf i fs f) := ⟨PE.imp (pe_xf (cls := .ref (g.cls c)) (d := some d) T hno hz hf hv hb) fun σ H Q q => by
  obtain ⟨env, st, ι, rs, re, p⟩ := q
  unfold eXf at p
  split at p
  · rename_i e
    split at p
    · rename_i w el
      exact ⟨.ref a, re.2.2 i a List.mem_cons_self e, rfl, rfl, d, xFs fs, vX w, rfl, rs.xdS, xFs_lookup el, p H ι _ Ext.refl rs (vX_rv (xFs_mem hfs el))⟩
    · exact (show False from p).elim
  · exact (show False from p).elim⟩
/-- the object, for isinstance -/
theorem exc_inst {pins : List (Addr × Obj)} {σ : L2.St} {H : Hp} {s : Shared} {fs' : List (Str × V)} {C : Addr} (I : Inv (X.suite a ((a, oe) :: pn)) pins σ H s) (hz : Zc (.ref C) (some d) oe) (hf : ∃ vs, oe.data = .fields vs) (hd : H d = some (.xd fs')) : ∃ od, PySem.W.InstAt s.heap a oe C (some od) := by
  obtain ⟨ha, _⟩ := I.pin (a, oe) (List.mem_append_left _ List.mem_cons_self)
  obtain ⟨vs, hv⟩ := hf
  obtain ⟨mA, hns, _⟩ := (show ObjOk X.prog X.w H s.heap d (.xd fs') from I.hok d _ hd)
  obtain ⟨od, ho, _⟩ := lookIn_ns hns
  exact ⟨od, ha, hz.1, by unfold PySem.W.notCls; rw [hv] <;> rfl, by rw [hz.2]; exact ho⟩
def rIsX (a d : Addr) (b : Bool) (cv : V) : List V → Hp → VK → Prop := fun xs H Q => xs = [.ref a, cv] ∧ (∃ fs', H d = some (.xd fs')) ∧ Q (.bl b) H
theorem call_isX {C : Addr} {b : Bool} {cv : V} {u : Value} (E : ExcC X.K C) (hz : Zc (.ref C) (some d) oe) (hf : ∃ vs, oe.data = .fields vs) (hu : ∀ z, RelV cv z → z = u) (hk : PySem.W.kitOne X.K (.ref C) u = some b) : CallR (X.suite a ((a, oe) :: pn)) (.builtin "isinstance") (rIsX a d b cv) := by
  intro pins s σ H xs us Q I r h
  obtain ⟨rfl, ⟨fs', hd⟩, q⟩ := h
  cases r with
  | cons rx rr =>
    cases rr with
    | cons rt rr =>
      cases rr
      cases rx
      have e := hu _ rt
      subst e
      obtain ⟨od, J⟩ := exc_inst I hz hf hd
      have hcl : (PySem.W.clsIn X.K C).isSome = true := by
        obtain ⟨cd, hc, _⟩ := PySem.W.any_some E.hd
        rw [hc]
        rfl
      exact PySem.W.kia_one (PySem.W.kitx_exc hcl E.hg E.hk E.hs E.ha E.hn E.ht E.hm) I.kIn J hk (fun z => nomatch z) fun tk => ⟨.bl b, H, I.kept (t' := tk) fun _ _ z => z, rfl, q⟩
/-- isinstance(e, C) -/
theorem jx_is {b : Bool} {ce : Expr} {cv : V} {u : Value} {p1 : Pos} (E : ExcC X.K (g.cls c)) (hz : Zc (.ref (g.cls c)) (some d) oe) (hf : ∃ vs, oe.data = .fields vs) (hu : ∀ z, RelV cv z → z = u) (hk : PySem.W.kitOne X.K (.ref (g.cls c)) u = some b)
    (hm : X.mg "isinstance" = none) (hv : PE (X.suite a ((a, oe) :: pn)) (.Name x p0) (tVar i)) (hc : PE (X.suite a ((a, oe) :: pn)) ce (tC cv)) (hbt : bootBuiltins "isinstance" = some (.builtin "isinstance")) (hg : Gl (X.suite a ((a, oe) :: pn)) "isinstance" := by rfl)
    (h1 : starEach [.Name x p0, ce] X.env = (false, eval (.Name x p0) X.env) :: starEach [ce] X.env := by rfl) (h2 : starEach [ce] X.env = [(false, eval ce X.env)] := by rfl) (h3 : (backTo pos (starEach [ce] X.env)).any (·.1) = false := by rfl) :
    JE (X.suite a ((a, oe) :: pn)) (g.sx i a d (xFs fs)) W0 (.Call (.Name "isinstance" p1) [.Name x p0, ce] [] pos) (eXi i b) := ⟨PE.imp (pe_callB (call_isX E hz hf hu hk) hg hm hbt (pa_cons hv (pa_cons hc pa_nil h2) h1) (by decide) (by decide) h1 h3) fun σ H Q q => by
  obtain ⟨env, st, ι, rs, re, p⟩ := q
  unfold eXi at p
  split at p
  · rename_i e
    exact ⟨.ref a, re.2.2 i a List.mem_cons_self e, rfl, ⟨_, rs.xdS⟩, p H ι _ Ext.refl rs (.bl _)⟩
  · exact (show False from p).elim⟩
def rIsXT (a d : Addr) (b : Bool) (cvs : List V) : List V → Hp → VK → Prop := fun xs H Q => ∃ tp, xs = [.ref a, .ref tp] ∧ H tp = some (.tup cvs) ∧ (∃ fs', H d = some (.xd fs')) ∧ Q (.bl b) H
theorem cls_vals : ∀ {cvs : List Addr} {us : List Value}, Vals (cvs.map V.ref) us → us = cvs.map Value.ref
  | [], _, h => by cases h; rfl
  | c :: cvs, _, h => by
    rw [List.map_cons] at h
    cases h with
    | cons r t =>
      have e := cls_vals t
      rw [e, List.map_cons]
      rw [show _ = Value.ref c from r]
theorem call_isXT {C : Addr} {b : Bool} {cvs : List Addr} (E : ExcC X.K C) (hz : Zc (.ref C) (some d) oe) (hf : ∃ vs, oe.data = .fields vs) (hk : PySem.W.kitAny X.K (.ref C) (cvs.map Value.ref) = some b) : CallR (X.suite a ((a, oe) :: pn)) (.builtin "isinstance") (rIsXT a d b (cvs.map V.ref)) := by
  intro pins s σ H xs us Q I r h
  obtain ⟨tp, rfl, hT, ⟨fs', hd⟩, q⟩ := h
  cases r with
  | cons rx rr =>
    cases rr with
    | cons rt rr =>
      cases rr
      cases rx
      cases rt
      obtain ⟨od, J⟩ := exc_inst I hz hf hd
      have hcl : (PySem.W.clsIn X.K C).isSome = true := by
        obtain ⟨cd, hc, _⟩ := PySem.W.any_some E.hd
        rw [hc]
        rfl
      obtain ⟨_, its, rv, o, h1, h2, n, h3⟩ := (show ObjOk X.prog X.w H s.heap tp (.tup (cvs.map V.ref)) from I.hok tp _ hT)
      have e3 := cls_vals rv
      obtain ⟨oc, od', dt, sl⟩ := o
      simp only at h2 h3
      subst h2 h3
      exact PySem.W.kia_tup (PySem.W.kitx_exc hcl E.hg E.hk E.hs E.ha E.hn E.ht E.hm) I.kIn J h1 (by rw [e3]; exact hk) (fun z => nomatch z) fun tk => ⟨.bl b, H, I.kept (t' := tk) fun _ _ z => z, rfl, q⟩
/-- names of classes in a row -/
structure PCs (X : Cx) (es : List Expr) (cvs : List Addr) : Prop where
  pa : PA X es (fun _ H Q => Q (cvs.map V.ref) H)
theorem PA.imp' {es : List Expr} {t t' : TA} (h : PA X es t) (i : ∀ σ H Q, t' σ H Q → t σ H Q) : PA X es t' := ⟨fun pos pins s σ H Q I q => h.run pos pins s σ H Q I (i σ H Q q)⟩
theorem pcs_nil : PCs X [] [] := ⟨PA.imp' pa_nil fun σ H Q q => q⟩
theorem pcs_cons {y : Str} {C : Addr} {es : List Expr} {cvs : List Addr} (hm : X.mg y = some (.ref C)) (r : PCs X es cvs) (hg : Gl X y := by rfl) (hd : (y == ("__debug__" : Str)) = false := by decide) (hs : starEach (.Name y p0 :: es) X.env = (false, eval (.Name y p0) X.env) :: starEach es X.env := by rfl) :
    PCs X (.Name y p0 :: es) (C :: cvs) := ⟨PA.imp' (pa_cons (pe_glob (v := .ref C) hg hm rfl hd) r.pa hs) fun σ H Q q => q⟩
theorem jx_isT {b : Bool} {es : List Expr} {cvs : List Addr} {x1 : Nat} {p1 p2 : Pos} (E : ExcC X.K (g.cls c)) (hz : Zc (.ref (g.cls c)) (some d) oe) (hf : ∃ vs, oe.data = .fields vs) (hk : PySem.W.kitAny X.K (.ref (g.cls c)) (cvs.map Value.ref) = some b) (hl : cvs.length ≤ 1000)
    (hm : X.mg "isinstance" = none) (hv : PE (X.suite a ((a, oe) :: pn)) (.Name x p0) (tVar i)) (hc : PCs (X.suite a ((a, oe) :: pn)) es cvs) (hbt : bootBuiltins "isinstance" = some (.builtin "isinstance")) (hg : Gl (X.suite a ((a, oe) :: pn)) "isinstance" := by rfl)
    (h1 : starEach [.Name x p0, .Tuple es x1 p2] X.env = (false, eval (.Name x p0) X.env) :: starEach [.Tuple es x1 p2] X.env := by rfl) (h2 : starEach [.Tuple es x1 p2] X.env = [(false, eval (.Tuple es x1 p2) X.env)] := by rfl) (h3 : (backTo pos (starEach [.Tuple es x1 p2] X.env)).any (·.1) = false := by rfl) :
    JE (X.suite a ((a, oe) :: pn)) (g.sx i a d (xFs fs)) W0 (.Call (.Name "isinstance" p1) [.Name x p0, .Tuple es x1 p2] [] pos) (eXi i b) := ⟨PE.imp (pe_callB (call_isXT E hz hf hk) hg hm hbt (pa_cons hv (pa_cons (pe_tup hc.pa) pa_nil h2) h1) (by decide) (by decide) h1 h3) fun σ H Q q => by
  obtain ⟨env, st, ι, rs, re, p⟩ := q
  unfold eXi at p
  split at p
  · rename_i e
    refine ⟨.ref a, re.2.2 i a List.mem_cons_self e, ?_⟩
    show (cvs.map V.ref).length ≤ sizeLine ∧ _
    refine ⟨by rw [List.length_map, sizeLine_eq]; omega, fun tp hp => ?_⟩
    have ex : Ext X.K H ι (upd H tp (.tup (cvs.map V.ref))) ι := by simpa using ext_new (K := X.K) (ι := ι) (o := HO.tup (cvs.map V.ref)) hp []
    exact ⟨tp, rfl, upd_same, ⟨_, (rs.other hp).xdS⟩, p _ ι _ ex (rs.other hp) (.bl _)⟩
  · exact (show False from p).elim⟩
/-- a def called in a suite -/
theorem jx_call {k n : Nat} {F : Fn} {y : Str} {p : Pos} {e : Expr} {es : List Expr} {m : En → Mo (List Va)} {gs : Gx} {fs' : List (Str × V)} (hgs : gs = g.sx i a d fs') (D : DefQ X.prog X.w X.K X.mg X.base g k y n F) (hr : Room k X.A) (ha : JA (X.suite a ((a, oe) :: pn)) gs W0 (e :: es) m)
    (hg : Gl (X.suite a ((a, oe) :: pn)) y := by rfl) (hdb : (y == ("__debug__" : Str)) = false := by decide) (he : starEach (e :: es) X.env = (false, eval e X.env) :: starEach es X.env := by rfl) (hpl : (backTo pos (starEach es X.env)).any (·.1) = false := by rfl) :
    JE (X.suite a ((a, oe) :: pn)) gs W0 (.Call (.Name y p) (e :: es) [] pos) (eA (lenOk n F) m) := by
  subst hgs
  obtain ⟨f, fd, ps, h1, h2, h3, h4, h5⟩ := D.ex
  have hpe : PE (X.suite a ((a, oe) :: pn)) (.Call (.Name y p) (e :: es) [] pos) (tCallS (spM X.K g n F) (fun _ => E0) (tG X.K (g.sx i a d fs') W0 (rVs X.K (g.sx i a d fs')) m)) := by
    refine ⟨fun pins s σ H Q I h => ?_⟩
    refine wpAny_Call_Name_kw (ld_glob I hg h4 ?_ hdb)
    refine PySem.W.callWith_K (h₀ := X.base) I.ok.mod.kin h5 (thn (ha.pa.run pos pins s σ H _ I h) fun us s1 hh => ?_) he hpl
    obtain ⟨vs, H1, I1, rv, q⟩ := hh
    refine ⟨I1.kIn, ?_⟩
    have hl : us.length = ps.length := by rw [← rv.length]; exact h1.len _ _ _ _ q
    have bd := h3 s1 us I1.kIn (by rw [List.append_nil]; exact hl)
    rw [List.append_nil] at bd
    have P1 := I1.pin (a, oe) (List.mem_append_left _ List.mem_cons_self)
    have hpin : PinOk (X.suite a ((a, oe) :: pn)).stack H1 s1 (a, oe) := ⟨P1.1, P1.2.1, fun hm => (List.mem_cons.mp (I1.stkSub a hm)).elim P1.2.2.1 P1.2.2.2.1, P1.2.2.2.2⟩
    refine wpAny_call (codeAny_mono (h1.run (X.A.mark (some (.ref a))) X.stack s1 H1 us vs Q E0 (a, oe) ⟨hr.dp, hr.un⟩ hpin I1.env0 bd rv q) fun r s' hq => ?_)
    cases r with
    | error er => exact passL pins σ _ _ er s' I1 hq
    | ok fl =>
      cases fl with
      | ret u => exact I1.after hq
      | next => exact hq.elim
      | brk => exact hq.elim
      | cont => exact hq.elim
  exact ⟨PE.imp hpe fun σ H Q q => by
    obtain ⟨env, st, ι, rs, re, p⟩ := pst_eA q
    refine ⟨env, st, ι, rs, re, p.imp (fun xs H1 q => ?_) fun _ _ _ q => q⟩
    obtain ⟨st1, ι1, ws, rs1, r1, p1⟩ := q
    unfold lenOk at p1
    split at p1
    · rename_i hl
      exact spM_sx ⟨ws, st1, ι1, hl, rs1, r1, p1⟩
    · exact (show False from p1).elim⟩
end

/-! ### the statement -/
def sTry (i : Nat) (rs cs : List Nat) (body : Sm) (suite : Nat → List (Str × Va) → Sm) : Sm := fun env st => match body env st with
  | .xc c fs env1 st1 => if c ∈ rs ∧ (fs.all fun p => xArgW p.2) = true then (if c ∈ cs then (match suite c fs (env1.set i (some .exn)) st1 with
      | .nx env2 st2 => .nx (env2.set i none) st2
      | .bk env2 st2 => .bk (env2.set i none) st2
      | .ct env2 st2 => .ct (env2.set i none) st2
      | .rt w st2 => .rt w st2
      | _ => .no) else .xc c fs env1 st1) else .no
  | o => o
theorem xFs_pf {K : PySem.W.Frag} {g : Gx} {H : Hp} {ι : List Addr} : ∀ {fs : List (Str × Va)} {fs' : List (Str × V)}, PF K g H ι fs fs' → (fs.all fun p => xArgW p.2) = true → fs' = xFs fs
  | [], _, .nil, _ => rfl
  | (k, w) :: fs, (k', v) :: fs', .cons q t, h => by
    rw [List.all_cons, Bool.and_eq_true] at h
    obtain ⟨q1, q2⟩ := q
    have q1' : k = k' := q1
    subst q1'
    have hw := h.1
    rw [xFs_pf t h.2]
    cases q2 with
    | int i => rfl
    | str s => rfl
    | _ => cases hw
section
variable {X : Cx} {g : Gx} {W : WX} {pos pos' np : Pos} {x n : Str} {i : Nat} {body suite : List Stmt} {b₀ : Stmt} {rs cs : List Nat}
theorem RE.exn {K : PySem.W.Frag} {H : Hp} {ι : List Addr} {env : En} {σ : L2.St} {a d : Addr} {fs : List (Str × V)} (h : RE K g H ι env σ) (hes : g.es = []) : RE K (g.sx i a d fs) H ι (env.set i (some .exn)) (σ.set i (some (.ref a))) := by
  refine ⟨by simp [h.1], fun j u q n => ?_, fun j b m q => ?_⟩
  · by_cases hj : j = i
    · subst hj
      have hl : j < env.length := by
        have := (List.getElem?_eq_some_iff.mp q).1
        simpa using this
      rw [List.getElem?_set_self hl] at q
      cases q
      exact absurd rfl n
    · rw [List.getElem?_set_ne (Ne.symm hj)] at q
      obtain ⟨v', q1, q2⟩ := h.2.1 j u q n
      exact ⟨v', by rw [List.getElem?_set_ne (Ne.symm hj)]; exact q1, q2⟩
  · rcases List.mem_cons.mp m with e | m
    · cases e
      have hl : i < env.length := by
        have := (List.getElem?_eq_some_iff.mp q).1
        simpa using this
      rw [List.getElem?_set_self (by rw [← h.1]; exact hl)]
    · rw [hes] at m
      cases m
theorem RE.unexn {K : PySem.W.Frag} {H : Hp} {ι : List Addr} {env : En} {σ : L2.St} {a d : Addr} {fs : List (Str × V)} (h : RE K (g.sx i a d fs) H ι env σ) (hes : g.es = []) : RE K g H ι (env.set i none) (σ.set i none) :=
  RE.clear (g := g) ⟨h.1, h.2.1, fun j b m => by rw [hes] at m; cases m⟩ i
theorem js_try {mb : Sm} {ms : Nat → List (Str × Va) → Sm} {cE : Value} (hes : g.es = []) (hs : X.stack = X.env :: X.outer) (hf : X.env.frame = some X.env.locals) (hN : X.N.Nodup) (hi : X.N[i]? = some n) (hln : X.env.kindOf n = some .local) (hc : Names X x cE) (tk : Takes X W)
    (hex : ∀ c ∈ rs, PySem.W.exmOne X.K (.ref (g.cls c)) cE = some (decide (c ∈ cs)))
    (hb : ∀ (W' : WX) (pn : List (Addr × Obj)) (xe : Value → Shared → Prop), Takes (X.tr pn xe) W' → PassesOwn (model X.prog X.w) X.A X.env xe → JSs (X.tr pn xe) g W' body mb)
    (hsu : ∀ (a : Addr) (oe : Obj) (c : Nat) (fs : List (Str × Va)) (d : Addr) (pn : List (Addr × Obj)), c ∈ rs → c ∈ cs → (fs.all fun p => xArgW p.2) = true → Zc (.ref (g.cls c)) (some d) oe → (∃ vs, oe.data = .fields vs) → JSs (X.suite a ((a, oe) :: pn)) (g.sx i a d (xFs fs)) W0 (b₀ :: suite) (ms c fs)) :
    JS X g W (.Try body [.ExceptHandler (some (.Name x np)) (some n) (b₀ :: suite) pos'] [] [] pos) (sTry i rs cs mb ms) := by
  refine ⟨PS.imp (ps_try_as (tb := fun W' => tSt X.K g W' mb) (Wout := W)
    (ts := fun a cls dd D σ H => ∃ (c : Nat) (fs : List (Str × Va)) (d : Addr), c ∈ rs ∧ c ∈ cs ∧ (fs.all fun p => xArgW p.2) = true ∧ cls = .ref (g.cls c) ∧ dd = some d ∧ tSt X.K (g.sx i a d (xFs fs)) W0 (ms c fs) D σ H)
    hs hf hN hi hln hc tk (fun W' pn xe tk' pe => (hb W' pn xe tk' pe).pss) (fun a oe cls dd pn hz hfl => ⟨fun pins s σ H D I q => ?_⟩)) fun D σ H q => ?_⟩
  · obtain ⟨c, fs, d, h1, h2, h3, rfl, rfl, q⟩ := q
    exact (hsu a oe c fs d pn h1 h2 h3 hz hfl).pss.run pins s σ H D I q
  · obtain ⟨env, st, ι, rs', re, p⟩ := q
    refine ⟨env, st, ι, rs', re, ?_⟩
    unfold sTry at p
    revert p
    generalize mb env st = r
    intro p
    cases r with
    | nx env1 st1 => exact p
    | rt w st1 => exact p
    | bk env1 st1 => exact p
    | ct env1 st1 => exact p
    | no => exact p
    | xc c fs env1 st1 =>
      intro H1 ι1 σ1 d fs' e1 rs1 re1 hd pf
      dsimp only at p
      split at p
      · rename_i hc'
        obtain ⟨hr, hfl⟩ := hc'
        have efs := xFs_pf pf hfl
        subst efs
        refine ⟨_, hex c hr, fun hb a ha => ?_, fun hb => ?_⟩
        · have hcs : c ∈ cs := of_decide_eq_true hb
          rw [if_pos hcs] at p
          refine ⟨c, fs, d, hr, hcs, hfl, rfl, rfl, env1.set i (some .exn), st1, ι1, rs1.toS hd, RE.exn re1 hes, ?_⟩
          revert p
          generalize ms c fs (env1.set i (some .exn)) st1 = r
          intro p
          cases r with
          | nx env2 st2 => exact fun H2 ι2 σ2 e2 rs2 re2 => p H2 ι2 _ (e1.trans e2) rs2.ofS (RE.unexn re2 hes)
          | bk env2 st2 => exact fun H2 ι2 σ2 e2 rs2 re2 => p H2 ι2 _ (e1.trans e2) rs2.ofS (RE.unexn re2 hes)
          | ct env2 st2 => exact fun H2 ι2 σ2 e2 rs2 re2 => p H2 ι2 _ (e1.trans e2) rs2.ofS (RE.unexn re2 hes)
          | rt w st2 => exact fun H2 ι2 v e2 rs2 r2 => p H2 ι2 v (e1.trans e2) rs2.ofS r2
          | xc c2 fs2 env2 st2 => exact (show False from p).elim
          | no => exact p
        · have hcs : ¬ c ∈ cs := of_decide_eq_false hb
          rw [if_neg hcs] at p
          exact p H1 ι1 σ1 d _ e1 rs1 re1 hd pf
      · exact (show False from p).elim
end
end Sh

set_option Elab.async false
set_option linter.all false
set_option maxRecDepth 100000
set_option maxHeartbeats 4000000
/-! dicts, enumerate of a list, == of own objects, isinstance of own classes -/
namespace Sh
open PySem PySem.Spec PyProof.Rows L2

def keyW : Va → Option Key
  | .int i => some (.inl i)
  | .str s => some (.inr s)
  | _ => none
def keysW : List Va → Option (List Key)
  | [] => some []
  | w :: r => match keyW w, keysW r with
    | some k, some ks => some (k :: ks)
    | _, _ => none
def lookW {κ : Type} [DecidableEq κ] (kvs : List (κ × Va)) (k : κ) : Option Va := (kvs.find? fun kv => decide (kv.1 = k)).map (·.2)
def putKW {κ : Type} [DecidableEq κ] (kvs : List (κ × Va)) (k : κ) (w : Va) : List (κ × Va) :=
  if (kvs.any fun kv => decide (kv.1 = k)) = true then kvs.map (fun kv => if kv.1 = k then (kv.1, w) else kv) else kvs ++ [(k, w)]
section
variable {K : PySem.W.Frag} {g : Gx} {H : Hp} {ι : List Addr}
theorem keyW_rv {H0 : Hp} {w : Va} {v : V} {k : Key} (r : RV K H0 H ι w v) (e : keyW w = some k) : v = kV k := by
  cases r with
  | int i => cases e; rfl
  | str s => cases e; rfl
  | _ => cases e
theorem keysW_rv {H0 : Hp} : ∀ {ws : List Va} {vs : List V} {ks : List Key}, RVs K H0 H ι ws vs → keysW ws = some ks → vs = ks.map kV
  | [], _, _, .nil, e => by cases e; rfl
  | w :: ws, _, _, .cons r t, e => by
    unfold keysW at e
    split at e
    · rename_i k ks h1 h2
      cases e
      rw [keyW_rv r h1, keysW_rv t h2]
      rfl
    · cases e
variable {κ : Type} [DecidableEq κ]
theorem pf_look (k : κ) : ∀ {kvs : List (κ × Va)} {kvs' : List (κ × V)}, PF K g H ι kvs kvs' → match lookW kvs k with
    | some w => ∃ v, valV kvs' k = some v ∧ RV K g.H0 H ι w v
    | none => valV kvs' k = none
  | _, _, .nil => rfl
  | (a, w) :: kvs, (b, v) :: kvs', .cons r t => by
    obtain ⟨r1, r2⟩ := r
    have r1' : a = b := r1
    subst r1'
    by_cases h : a = k
    · subst h
      have e : lookW ((a, w) :: kvs) a = some w := by simp [lookW]
      rw [e]
      exact ⟨v, valV_pos rfl, r2⟩
    · have e : lookW ((a, w) :: kvs) k = lookW kvs k := by simp [lookW, List.find?_cons, h]
      rw [e]
      have ih := pf_look k t
      rw [valV_neg h]
      exact ih
theorem pf_any (k : κ) : ∀ {kvs : List (κ × Va)} {kvs' : List (κ × V)}, PF K g H ι kvs kvs' → (kvs.any fun kv => decide (kv.1 = k)) = kvs'.any fun kv => decide (kv.1 = k)
  | _, _, .nil => rfl
  | (a, w) :: kvs, (b, v) :: kvs', .cons r t => by
    obtain ⟨r1, r2⟩ := r
    have r1' : a = b := r1
    subst r1'
    rw [List.any_cons, List.any_cons, pf_any k t]
theorem pf_repl (k : κ) {w : Va} {v : V} (r : RV K g.H0 H ι w v) : ∀ {kvs : List (κ × Va)} {kvs' : List (κ × V)}, PF K g H ι kvs kvs' → PF K g H ι (kvs.map fun kv => if kv.1 = k then (kv.1, w) else kv) (kvs'.map fun kv => if kv.1 = k then (kv.1, v) else kv)
  | _, _, .nil => .nil
  | (a, w') :: kvs, (b, v') :: kvs', .cons q t => by
    obtain ⟨r1, r2⟩ := q
    have r1' : a = b := r1
    subst r1'
    rw [List.map_cons, List.map_cons]
    refine .cons ?_ (pf_repl k r t)
    by_cases h : a = k
    · show ((if a = k then (a, w) else (a, w')).1 = (if a = k then (a, v) else (a, v')).1) ∧ _
      rw [if_pos h, if_pos h]
      exact ⟨rfl, r⟩
    · show ((if a = k then (a, w) else (a, w')).1 = (if a = k then (a, v) else (a, v')).1) ∧ _
      rw [if_neg h, if_neg h]
      exact ⟨rfl, r2⟩
theorem pf_snoc {k : κ} {w : Va} {v : V} (r : RV K g.H0 H ι w v) : ∀ {kvs : List (κ × Va)} {kvs' : List (κ × V)}, PF K g H ι kvs kvs' → PF K g H ι (kvs ++ [(k, w)]) (kvs' ++ [(k, v)])
  | _, _, .nil => .cons ⟨rfl, r⟩ .nil
  | _ :: _, _ :: _, .cons q t => .cons q (pf_snoc r t)
theorem pf_putK {k : κ} {w : Va} {v : V} (r : RV K g.H0 H ι w v) {kvs : List (κ × Va)} {kvs' : List (κ × V)} (h : PF K g H ι kvs kvs') : PF K g H ι (putKW kvs k w) (putK kvs' k v) := by
  unfold putKW putK
  rw [pf_any k h]
  split
  · exact pf_repl k r h
  · exact pf_snoc r h
end

/-! ### xs[i], d[k] -/
def opIxA : Va → Va → Mo Va := fun a b st => match a with
  | .ref n => match st[n]? with
    | some (.dct kvs) => match keyW b with
      | some k => match lookW kvs k with
        | some w => .ok w st
        | none => .no
      | none => .no
    | some (.dtp kvs) => match b with
      | .tup ws => match keysW ws with
        | some ks => match lookW kvs ks with
          | some w => .ok w st
          | none => .no
        | none => .no
      | _ => .no
    | _ => opIx (.ref n) b st
  | w => opIx w b st
section
variable {X : Cx} {g : Gx} {W : WX} {pos : Pos}
theorem ix_dict (hu : X.A.units + 1 < cLine) : IxR X (fun x y H Q => ∃ a v, x = .ref a ∧ DGet H a y (some v) ∧ Q v H) := by
  intro value slice pins s σ H x y v u Q I rx ry h hs
  obtain ⟨a, z, rfl, dg, q⟩ := h
  cases rx
  have hT := dict_typeIs I dg
  unfold subscriptTail
  refine wpAny_bind ?_
  rw [getitemInPython_of_ne hT.not_modules]
  refine wpAny_bind (wpAny_specialOf hT PySem.F.slot_dict_getitem.lookup ?_)
  have fin : wpAny (model X.prog X.w) X.A (subscripted slice false (.ref a) u) (fun r s₃ => wpAny (model X.prog X.w) X.A (letTemporaryGo value (.ref a) r >>= fun _ => pure r) (EP X pins σ Q) X.xe s₃) X.xe s := by
    rw [hs]
    exact wpAny_operating (wpAny_mono (d_getItem hu I dg ry fun w' s3 I3 rw' => (show EP X pins σ Q w' s3 from ⟨z, H, I3, rw', q⟩)) (fun r s₃ h₃ => wpAny_bind (wpAny_letTemporaryGo (wpAny_pure h₃))) fun _ _ x => x)
  first
    | exact wpAny_pure (wpAny_bind fin)
    | exact wpAny_bind (wpAny_pure (wpAny_bind fin))
    | exact wpAny_bind fin
theorem dget_of {st : Sto} {H : Hp} {ι : List Addr} {n : Nat} {x : V} (rs : RS X.K g st H ι) (r : RV X.K g.H0 H ι (.ref n) x) : ∃ a, x = .ref a ∧ ∀ o, st[n]? = some o → RO X.K g H ι o a := by
  cases r with
  | @ref _ a ha => exact ⟨a, rfl, fun o e => rs.obj n o a e ha⟩
theorem j_ixA {a b : Expr} {ma mb : En → Mo Va} (hu : X.A.units + 64 < cLine) (ha : JE X g W a ma) (hb : JE X g W b mb) (hs : PlainIx b := by exact fun _ _ => rfl) : JE X g W (.Subscript a b pos) (e2 opIxA ma mb) := ⟨PE.imp (pe_ix (IxR.or (IxR.or ix_tup (IxR.or ix_list ix_str)) (ix_dict (by omega))) ha.pe hb.pe hs) fun σ H Q h => by
  obtain ⟨env, st, ι, rs, re, p⟩ := pst_e2 h
  refine ⟨env, st, ι, rs, re, p.imp (fun x H1 q => ?_) fun _ _ _ q => q⟩
  obtain ⟨env1, st1, ι1, rs1, re1, p1⟩ := q
  refine ⟨env1, st1, ι1, rs1, re1, p1.imp (fun y H2 q => ?_) fun _ _ _ q => q⟩
  obtain ⟨st2, ι2, w1, w2, rs2, r1, r2, p2⟩ := q
  have seq : Pst X.K g (rV X.K g) (opIx w1 w2 st2) H2 ι2 Q (fun c d H' => W c d σ H') → (rIxT X.K x y H2 Q ∨ (rIxL X.K x y H2 Q ∨ rIxS x y H2 Q)) := fun p2 => by
    unfold opIx at p2
    split at p2
    · cases r1 with
      | @tup a vs ws sq k1 =>
        cases r2
        split at p2
        · rename_i w e
          obtain ⟨v, ev, rv⟩ := at_rv k1 e
          exact .inl ⟨a, vs, _, v, rfl, rfl, SqT.of sq, ev, p2 H2 ι2 _ Ext.refl rs2 rv⟩
        · exact (show False from p2).elim
    · cases r1 with
      | @scr a vs ws sq k1 =>
        cases r2
        split at p2
        · rename_i w e
          obtain ⟨v, ev, rv⟩ := at_rv k1 e
          exact .inr (.inl ⟨a, vs, _, v, rfl, rfl, sql_old rs2 sq, ev, p2 H2 ι2 _ Ext.refl rs2 rv⟩)
        · exact (show False from p2).elim
    · cases r1 with
      | @ktp a vs ws sq k1 =>
        cases r2
        split at p2
        · rename_i w e
          obtain ⟨v, ev, rv⟩ := at_rv k1 e
          exact .inl ⟨a, vs, _, v, rfl, rfl, sqt_old rs2 sq, ev, p2 H2 ι2 _ Ext.refl rs2 rv⟩
        · exact (show False from p2).elim
    · split at p2
      · rename_i hl
        cases r1
        cases r2
        split at p2
        · rename_i c e
          exact .inr (.inr ⟨_, _, c, rfl, rfl, le_line hl, e, p2 H2 ι2 _ Ext.refl rs2 (.str _)⟩)
        · exact (show False from p2).elim
      · exact (show False from p2).elim
    · cases r2
      split at p2
      · rename_i n i _ ws e0
        obtain ⟨a, vs, rfl, _, h1, k1⟩ := rs2.list r1 e0
        split at p2
        · rename_i w e
          obtain ⟨v, ev, rv⟩ := at_rv k1 e
          exact .inr (.inl ⟨a, vs, _, v, rfl, rfl, .inl (.inl h1), ev, p2 H2 ι2 _ Ext.refl rs2 rv⟩)
        · exact (show False from p2).elim
      · exact (show False from p2).elim
    · exact (show False from p2).elim
  unfold opIxA at p2
  split at p2
  · rename_i n
    obtain ⟨a, rfl, ho⟩ := dget_of rs2 r1
    split at p2
    · rename_i kvs e0
      obtain ⟨kvs', h1, k1⟩ := ho _ e0
      split at p2
      · rename_i k ek
        have ev := keyW_rv r2 ek
        subst ev
        have hl := pf_look k k1
        split at p2
        · rename_i w el
          rw [el] at hl
          obtain ⟨v, hv, rv⟩ := hl
          exact .inr ⟨a, v, rfl, by rw [← hv]; exact DGet.k h1, p2 H2 ι2 _ Ext.refl rs2 rv⟩
        · exact (show False from p2).elim
      · exact (show False from p2).elim
    · rename_i kvs e0
      obtain ⟨kvs', h1, k1⟩ := ho _ e0
      split at p2
      · rename_i ws
        cases r2 with
        | @tup b us _ sq k2 =>
          split at p2
          · rename_i ks ek
            have ev := keysW_rv k2 ek
            subst ev
            have hl := pf_look ks k1
            split at p2
            · rename_i w el
              rw [el] at hl
              obtain ⟨v, hv, rv⟩ := hl
              exact .inr ⟨a, v, rfl, by rw [← hv]; exact DGet.t h1 sq, p2 H2 ι2 _ Ext.refl rs2 rv⟩
            · exact (show False from p2).elim
          · exact (show False from p2).elim
      · exact (show False from p2).elim
    · exact .inl (seq p2)
  · exact .inl (seq p2)⟩

/-! ### d[k] = v, xs[i] = v -/
theorem set_dict (hu : X.A.units + 1 < cLine) : PSet X (fun o i v H Q => ∃ a H', o = .ref a ∧ DPut H a i v H' ∧ Q H') := by
  intro pins s σ H o i v ov iv u Q I ro ri rv h
  obtain ⟨a, H', rfl, dp, q⟩ := h
  cases ro
  exact d_setItem hu I dp ri rv fun s' I' => ⟨H', I', q⟩
theorem PSet.or {t t' : TSet} (h : PSet X t) (h' : PSet X t') : PSet X (fun o i v H Q => t o i v H Q ∨ t' o i v H Q) := by
  intro pins s σ H o i v ov iv u Q I ro ri rv q
  rcases q with q | q
  · exact h pins s σ H o i v ov iv u Q I ro ri rv q
  · exact h' pins s σ H o i v ov iv u Q I ro ri rv q
def itemTA (env : En) (y o : Va) : Va → Sto → Fl := fun i st => match o with
  | .ref n => match st[n]? with
    | some (.dct kvs) => match keyW i with
      | some k => if kvs.length < 16777216 then .nx env (st.set n (.dct (putKW kvs k y))) else .no
      | none => .no
    | some (.dtp kvs) => match i with
      | .tup ws => match keysW ws with
        | some ks => if kvs.length < 16777216 then .nx env (st.set n (.dtp (putKW kvs ks y))) else .no
        | none => .no
      | _ => .no
    | _ => itemT env y (.ref n) i st
  | _ => .no
def itemSA (mi : En → Mo Va) (env : En) (y : Va) : Va → Sto → Fl := fun o st => bS env (mi env st) (itemTA env y o)
def sItemA (mo mi mv : En → Mo Va) : Sm := fun env st => bS env (mv env st) fun y st1 => bS env (mo env st1) (itemSA mi env y)
theorem put_dct {st : Sto} {H : Hp} {ι : List Addr} {n : Nat} {a : Addr} {kvs : List (Key × Va)} {kvs' : List (Key × V)} (rs : RS X.K g st H ι) (ha : ι[n]? = some a) (r : PF X.K g H ι kvs kvs') :
    Ext X.K H ι (upd H a (.dK kvs')) ι ∧ RS X.K g (st.set n (.dct kvs)) (upd H a (.dK kvs')) ι := by
  obtain ⟨u, hu, ow⟩ := rs.mem (List.mem_of_getElem? ha)
  have e : Ext X.K H ι (upd H a (.dK kvs')) ι := ext_own (n := n) rs hu ow
  exact ⟨e, rs.put ha ⟨kvs', upd_same, PF.mono e r⟩⟩
theorem put_dtp {st : Sto} {H : Hp} {ι : List Addr} {n : Nat} {a : Addr} {kvs : List (List Key × Va)} {kvs' : List (List Key × V)} (rs : RS X.K g st H ι) (ha : ι[n]? = some a) (r : PF X.K g H ι kvs kvs') :
    Ext X.K H ι (upd H a (.dT kvs')) ι ∧ RS X.K g (st.set n (.dtp kvs)) (upd H a (.dT kvs')) ι := by
  obtain ⟨u, hu, ow⟩ := rs.mem (List.mem_of_getElem? ha)
  have e : Ext X.K H ι (upd H a (.dT kvs')) ι := ext_own (n := n) rs hu ow
  exact ⟨e, rs.put ha ⟨kvs', upd_same, PF.mono e r⟩⟩
theorem js_itemA {o i value : Expr} {p2 : Pos} {mo mi mv : En → Mo Va} (hu : X.A.units + 64 < cLine) (ho : JE X g W o mo) (hi : JE X g W i mi) (hv : JE X g W value mv)
    (hsub : ∀ (v : Value), assign (.Subscript o i p2) X.env v = (do
      let ov ← holding [v] (eval o X.env)
      let iv ← holding [v, ov] (eval i X.env)
      standAt p2
      holding [v, ov, iv] (setItem ov iv v)
      release [v, ov, iv] []) := by intro _; rfl)
    (h1 : swapsWithSole [.Subscript o i p2] value pos.line X.env = pure false := by rfl) (h2 : swappedStores [.Subscript o i p2] value X.env = pure none := by rfl) (h3 : (assignEach [.Subscript o i p2] X.env).map (·.2) = [assign (.Subscript o i p2) X.env] := by rfl) :
    JS X g W (.Assign [.Subscript o i p2] value pos) (sItemA mo mi mv) := by
  refine ⟨PS.imp (ps_asg hv.pe (pg_sub ho.pe hi.pe (PSet.or set_list (set_dict (by omega))) hsub) h1 h2 h3) fun D σ H q => ?_⟩
  obtain ⟨env, st, ι, rs, re, p⟩ := tG_bS (rel := rV X.K g) q
  refine ⟨env, st, ι, rs, re, p.imp (fun v H1 q => ?_) fun _ _ _ q => q⟩
  obtain ⟨env1, y, st1, ι1, rs1, re1, ry, p1⟩ := q
  refine ⟨env1, st1, ι1, rs1, re1, ?_⟩
  revert p1
  show PstS X.K g W (bS env1 (mo env1 st1) (itemSA mi env1 y)) H1 ι1 D → Pst X.K g (rV X.K g) (mo env1 st1) H1 ι1 _ _
  generalize mo env1 st1 = r
  intro p1
  cases r with
  | no => exact p1
  | exc c fs st2 => exact fun H' ι' d fs' e rs' hd pf => p1 H' ι' σ d fs' e rs' (re1.mono e) hd pf
  | ok w st2 =>
    intro H2 ι2 x e2 rs2 r2
    have p2 : PstS X.K g W (bS env1 (mi env1 st2) (itemTA env1 y w)) H2 ι2 D := PstS.shift (r := bS env1 (mi env1 st2) (itemTA env1 y w)) p1 e2
    refine ⟨env1, st2, ι2, rs2, re1.mono e2, ?_⟩
    revert p2
    show PstS X.K g W (bS env1 (mi env1 st2) (itemTA env1 y w)) H2 ι2 D → Pst X.K g (rV X.K g) (mi env1 st2) H2 ι2 _ _
    generalize mi env1 st2 = r'
    intro p2
    cases r' with
    | no => exact p2
    | exc c fs st3 => exact fun H' ι' d fs' e rs' hd pf => p2 H' ι' σ d fs' e rs' ((re1.mono e2).mono e) hd pf
    | ok iw st3 =>
      intro H3 ι3 xi e3 rs3 r3
      have p3 : PstS X.K g W (itemTA env1 y w iw st3) H3 ι3 D := PstS.shift (r := itemTA env1 y w iw st3) p2 e3
      have ry3 := (ry.mono e2).mono e3
      have re3 := (re1.mono e2).mono e3
      unfold itemTA at p3
      split at p3
      · rename_i n
        have r23 := r2.mono e3
        obtain ⟨a, rfl, ho'⟩ := dget_of rs3 r23
        have ha : ι3[n]? = some a := by cases r23 with | ref h => exact h
        split at p3
        · rename_i kvs e0
          obtain ⟨kvs', hh, k1⟩ := ho' _ e0
          split at p3
          · rename_i k ek
            have ev := keyW_rv r3 ek
            subst ev
            split at p3
            · rename_i hl
              obtain ⟨x1, x2⟩ := put_dct rs3 ha (pf_putK (k := k) ry3 k1)
              exact .inr ⟨a, _, rfl, DPut.k hh (lt_line (by rw [← pf_length (X := X) k1]; exact hl)), p3 _ _ σ x1 x2 (re3.mono x1)⟩
            · exact (show False from p3).elim
          · exact (show False from p3).elim
        · rename_i kvs e0
          obtain ⟨kvs', hh, k1⟩ := ho' _ e0
          split at p3
          · rename_i ws
            cases r3 with
            | @tup b us _ sq k2 =>
              split at p3
              · rename_i ks ek
                have ev := keysW_rv k2 ek
                subst ev
                split at p3
                · rename_i hl
                  obtain ⟨x1, x2⟩ := put_dtp rs3 ha (pf_putK (k := ks) ry3 k1)
                  exact .inr ⟨a, _, rfl, DPut.t hh sq (lt_line (by rw [← pf_length (X := X) k1]; exact hl)), p3 _ _ σ x1 x2 (re3.mono x1)⟩
                · exact (show False from p3).elim
              · exact (show False from p3).elim
          · exact (show False from p3).elim
        · unfold itemT at p3
          split at p3
          · split at p3
            · rename_i n' k heq _ ws e0
              cases heq
              split at p3
              · rename_i j ej
                obtain ⟨vs, hh, k1⟩ := ho' _ e0
                cases r3
                rw [k1.length] at ej
                refine .inl ⟨a, vs, k, j, rfl, rfl, hh, ej, ?_⟩
                obtain ⟨x1, x2⟩ := put_lst rs3 ha (RVs.set ry3 j k1)
                exact p3 _ _ σ x1 x2 (re3.mono x1)
              · exact (show False from p3).elim
            · exact (show False from p3).elim
          · exact (show False from p3).elim
      · exact (show False from p3).elim

/-! ### displays of dicts -/
def eNewK : En → Mo Va := fun _ st => .ok (.ref st.length) (st ++ [.dct []])
def eNewT : En → Mo Va := fun _ st => .ok (.ref st.length) (st ++ [.dtp []])
theorem new_dct {st : Sto} {H : Hp} {ι : List Addr} {p : Addr} (rs : RS X.K g st H ι) (hp : H p = none) :
    Ext X.K H ι (upd H p (.dK [])) (ι ++ [p]) ∧ RS X.K g (st ++ [.dct []]) (upd H p (.dK [])) (ι ++ [p]) ∧ RV X.K g.H0 (upd H p (.dK [])) (ι ++ [p]) (.ref st.length) (.ref p) := by
  have e : Ext X.K H ι (upd H p (.dK [])) (ι ++ [p]) := ext_new hp [p]
  refine ⟨e, rs.push hp ⟨[], upd_same, .nil⟩, .ref ?_⟩
  rw [← rs.len]
  simp
theorem j_newK : JE X g W (.Dict [] [] pos) eNewK := ⟨PE.imp pe_dnewK fun σ H Q q => by
  obtain ⟨env, st, ι, rs, re, p⟩ := q
  intro a ha
  obtain ⟨x1, x2, x3⟩ := new_dct rs ha
  exact p _ _ _ x1 x2 x3⟩
theorem j_newT : JE X g W (.Dict [] [] pos) eNewT := ⟨PE.imp pe_dnewT fun σ H Q q => by
  obtain ⟨env, st, ι, rs, re, p⟩ := q
  intro a ha
  have e : Ext X.K H ι (upd H a (.dT [])) (ι ++ [a]) := ext_new ha [a]
  exact p _ _ _ e (rs.push ha ⟨[], upd_same, .nil⟩) (.ref (by rw [← rs.len]; simp))⟩
abbrev PW2 := List (Va × Va)
def dpNil : En → Mo PW2 := fun _ st => .ok [] st
def dpCons (a b : En → Mo Va) (r : En → Mo PW2) : En → Mo PW2 := fun env st => bnd (a env st) fun x st1 => bnd (b env st1) fun y st2 => bnd (r env st2) fun ps st3 => .ok ((x, y) :: ps) st3
def toKvs : PW2 → Option (List (Key × Va))
  | [] => some []
  | (x, y) :: r => match keyW x, toKvs r with
    | some k, some ks => some ((k, y) :: ks)
    | _, _ => none
def mergeW (kvs more : List (Key × Va)) : List (Key × Va) := more.foldl (fun acc kv => putKW acc kv.1 kv.2) kvs
def eDisp (m : En → Mo PW2) : En → Mo Va := fun env st => bnd (m env (st ++ [.dct []])) fun ps st2 => match toKvs ps, st2[st.length]? with
  | some kvs, some (.dct []) => if kvs.length ≤ 15 then .ok (.ref st.length) (st2.set st.length (.dct (mergeW [] kvs))) else .no
  | _, _ => .no
abbrev rPs (K : PySem.W.Frag) (g : Gx) : Rel PW2 (List (V × V)) := fun H ι ps qs => Paired (fun p q => RV K g.H0 H ι p.1 q.1 ∧ RV K g.H0 H ι p.2 q.2) ps qs
structure JP (X : Cx) (g : Gx) (W : WX) (pos : Pos) (ks : List (Option Expr)) (vs : List Expr) (m : En → Mo PW2) : Prop where
  ex : ∃ trs, PPs X pos ks vs trs ∧ ∀ σ H Q, tG X.K g W (rPs X.K g) m σ H Q → tPairs trs σ H Q
theorem rPs_mono {H H' : Hp} {ι ι' : List Addr} (e : Ext X.K H ι H' ι') {ps : PW2} {qs : List (V × V)} (h : rPs X.K g H ι ps qs) : rPs X.K g H' ι' ps qs := Paired.mapP h fun _ _ q => ⟨q.1.mono e, q.2.mono e⟩
theorem jp_nil : JP X g W pos [] [] dpNil := ⟨[], pps_nil, fun σ H Q q => by
  obtain ⟨env, st, ι, rs, re, p⟩ := q
  exact p H ι _ Ext.refl rs .nil⟩
theorem jp_cons {k v : Expr} {ks : List (Option Expr)} {vs : List Expr} {ma mb : En → Mo Va} {mr : En → Mo PW2} (ha : JE X g W k ma) (hb : JE X g W v mb) (hr : JP X g W pos ks vs mr) : JP X g W pos (some k :: ks) (v :: vs) (dpCons ma mb mr) := by
  obtain ⟨trs, h1, h2⟩ := hr.ex
  refine ⟨_, pps_cons ha.pe hb.pe h1, fun σ H Q q => ?_⟩
  obtain ⟨env, st, ι, rs, re, p⟩ := q
  refine ⟨env, st, ι, rs, re, (Pst.bind (rel := rV X.K g) p).imp (fun x H1 q => ?_) fun _ _ _ q => q⟩
  obtain ⟨w1, st1, ι1, ex1, rs1, r1, p1⟩ := q
  refine ⟨env, st1, ι1, rs1, re.mono ex1, (Pst.bind (rel := rV X.K g) p1).imp (fun y H2 q => ?_) fun _ _ _ q => q⟩
  obtain ⟨w2, st2, ι2, ex2, rs2, r2, p2⟩ := q
  refine h2 σ H2 _ ⟨env, st2, ι2, rs2, (re.mono ex1).mono ex2, (Pst.bind (rel := rPs X.K g) p2).imp (fun ps H3 q => ?_) fun _ _ _ q => q⟩
  obtain ⟨ws, st3, ι3, ex3, rs3, r3, p3⟩ := q
  exact p3 H3 ι3 _ Ext.refl rs3 (.cons ⟨(r1.mono ex2).mono ex3, r2.mono ex3⟩ r3)
theorem kvs_of {H : Hp} {ι : List Addr} : ∀ {ps : PW2} {qs : List (V × V)} {kvs : List (Key × Va)}, rPs X.K g H ι ps qs → toKvs ps = some kvs → ∃ kvs' : List (Key × V), qs = kvs'.map (fun kv => (kV kv.1, kv.2)) ∧ PF X.K g H ι kvs kvs'
  | [], _, _, .nil, e => by cases e; exact ⟨[], rfl, .nil⟩
  | (x, y) :: ps, (u, v) :: qs, _, .cons r t, e => by
    unfold toKvs at e
    split at e
    · rename_i k ks h1 h2
      cases e
      obtain ⟨kvs', e1, e2⟩ := kvs_of t h2
      refine ⟨(k, v) :: kvs', ?_, .cons ⟨rfl, r.2⟩ e2⟩
      rw [e1, List.map_cons]
      have : u = kV k := keyW_rv r.1 h1
      rw [this]
    · cases e
theorem merge_pf {H : Hp} {ι : List Addr} : ∀ {more : List (Key × Va)} {more' : List (Key × V)} {kvs : List (Key × Va)} {kvs' : List (Key × V)}, PF X.K g H ι more more' → PF X.K g H ι kvs kvs' → PF X.K g H ι (mergeW kvs more) (mergeK kvs' more')
  | _, _, _, _, .nil, h => h
  | (k, w) :: more, (k', v) :: more', kvs, kvs', .cons r t, h => by
    obtain ⟨r1, r2⟩ := r
    have r1' : k = k' := r1
    subst r1'
    exact merge_pf (kvs := putKW kvs k w) (kvs' := putK kvs' k v) t (pf_putK r2 h)
theorem j_disp {ks : List (Option Expr)} {vs : List Expr} {m : En → Mo PW2} (h : JP X g W pos ks vs m) (h1 : ks.all (·.isSome) = true := by rfl) (h2 : ks.length = vs.length := by rfl) (h3 : ks ≠ [] := by intro z; cases z) (h4 : ks.length ≤ 15 := by decide) : JE X g W (.Dict ks vs pos) (eDisp m) := by
  obtain ⟨trs, i1, i2⟩ := h.ex
  refine ⟨PE.imp (pe_disp i1 h1 h2 h3 h4) fun σ H Q q => ?_⟩
  obtain ⟨env, st, ι, rs, re, p⟩ := q
  intro a ha
  obtain ⟨x1, x2, x3⟩ := new_dct rs ha
  refine i2 σ _ _ ⟨env, st ++ [.dct []], ι ++ [a], x2, re.mono x1, ?_⟩
  refine (Pst.bind (rel := rPs X.K g) (Pst.shift p x1)).imp (fun qs H2 q => ?_) fun _ _ _ q => q
  obtain ⟨ps, st2, ι2, ex2, rs2, r2, p2⟩ := q
  split at p2
  · rename_i kvs e1 e2
    split at p2
    · rename_i hl
      obtain ⟨kvs', eq, pf⟩ := kvs_of r2 e1
      have ha2 : ι2[st.length]? = some a := by
        cases x3 with
        | ref h => exact ex2.get h
      obtain ⟨ys, hy, yp⟩ := rs2.obj _ _ a e2 ha2
      cases yp
      obtain ⟨y1, y2⟩ := put_dct rs2 ha2 (merge_pf pf .nil)
      exact ⟨hy, kvs', eq, by rw [← pf_length (X := X) pf]; exact hl, p2 _ _ _ y1 y2 (.ref ha2)⟩
    · exact (show False from p2).elim
  · exact (show False from p2).elim

/-! ### isinstance(x, C), C a class of the program, x an object of one of its kinds -/
structure IsOk (K : PySem.W.Frag) (C : Addr) : Prop where
  cl : Cls K C
  ha : PySem.W.findIn K (.ref C) "__class__" = some (some (.builtin "object.__class__"))
  hn : PySem.W.specialIn K (.builtin "object.__class__") "__get__" = some (some (.builtin "getset_descriptor.__get__"))
  ht : PySem.W.takesIn K (.builtin "object.__class__") = some true
  hm : PySem.W.mroIn K C (.type "object") = some true
/-- tbl: the answers for the classes of objects; other values: none -/
def cIsC (tbl : List (Nat × Bool)) : List Va → Mo Va := fun ws st => match ws with
  | [.ref n] => match st[n]? with
    | some (.ins c _) => match tbl.lookup c with
      | some b => .ok (.bl b) st
      | none => .no
    | _ => .no
  | _ => .no
def IsTbl (K : PySem.W.Frag) (g : Gx) (C : Addr) (tbl : List (Nat × Bool)) : Prop := ∀ c b, tbl.lookup c = some b → IsOk K (g.cls c) ∧ PySem.W.kitOne K (.ref (g.cls c)) (.ref C) = some b
theorem j_isC {x : Str} {C : Addr} {tbl : List (Nat × Bool)} {p p1 : Pos} {e : Expr} {m : En → Mo Va} (hT : IsTbl X.K g C tbl) (hC : X.mg x = some (.ref C)) (hm : X.mg "isinstance" = none) (hv : bootBuiltins "isinstance" = some (.builtin "isinstance")) (h : JE X g W e m) (hgx : Gl X x := by rfl) (hd : (x == ("__debug__" : Str)) = false := by decide)
    (hg : Gl X "isinstance" := by rfl) (h1 : starEach [e, .Name x p1] X.env = (false, eval e X.env) :: starEach [.Name x p1] X.env := by rfl) (h2 : starEach [.Name x p1] X.env = [(false, eval (.Name x p1) X.env)] := by rfl) (h3 : (backTo pos (starEach [.Name x p1] X.env)).any (·.1) = false := by rfl) :
    JE X g W (.Call (.Name "isinstance" p) [e, .Name x p1] [] pos) (eA (cIsC tbl) (aCons m aNil)) := ⟨PE.imp (pe_callB call_isi hg hm hv (pa_cons h.pe (pa_cons (pe_glob (v := .ref C) hgx hC rfl hd) pa_nil h2) h1) (by decide) (by decide) h1 h3) fun σ H Q q => by
  obtain ⟨env, st, ι, rs, re, p⟩ := q
  have p' : Pst X.K g (rV X.K g) (bnd (m env st) fun w st1 => cIsC tbl [w] st1) H ι Q (fun c d H' => W c d σ H') := by
    have e : eA (cIsC tbl) (aCons m aNil) env st = bnd (m env st) fun w st1 => cIsC tbl [w] st1 := by
      unfold eA aCons aNil
      cases m env st <;> rfl
    rw [← e]
    exact p
  refine ⟨env, st, ι, rs, re, (Pst.bind (rel := rV X.K g) p').imp (fun v H1 q => ?_) fun _ _ _ q => q⟩
  obtain ⟨w, st1, ι1, ex, rs1, r1, p1⟩ := q
  unfold cIsC at p1
  split at p1
  · rename_i n heq
    cases heq
    split at p1
    · rename_i c fs e0
      split at p1
      · rename_i b eb
        obtain ⟨a, rfl, ho⟩ := dget_of rs1 r1
        obtain ⟨dx, fs', hh, _⟩ := ho _ e0
        obtain ⟨k1, k2⟩ := hT c b eb
        exact ⟨.ref a, .ref C, _, _, b, rfl, .own _, .base (.ins hh k1.cl k1.ha k1.hn k1.ht k1.hm), k2, p1 H1 ι1 _ Ext.refl rs1 (.bl _)⟩
      · exact (show False from p1).elim
    · exact (show False from p1).elim
  · exact (show False from p1).elim⟩
end
end Sh

set_option Elab.async false
set_option linter.all false
set_option maxRecDepth 100000
set_option maxHeartbeats 4000000
namespace Sh
open PySem PySem.Spec PyProof.Rows L2

/-! ### for i, x in enumerate(xs), xs a list -/
def forE (tg : Tg) (body : Sm) (n : Nat) : Nat → Nat → Sm
  | 0, _ => fun _ _ => .no
  | k + 1, i => fun env st => match st[n]? with
    | some (.lst ws) => match ws[i]? with
      | none => .nx env st
      | some w => match tg (.tup [.int (i : Nat), w]) env with
        | none => .no
        | some env1 => match body env1 st with
          | .nx env2 st2 => forE tg body n k (i + 1) env2 st2
          | .ct env2 st2 => forE tg body n k (i + 1) env2 st2
          | .bk env2 st2 => .nx env2 st2
          | o => o
    | _ => .no
def sForE (m : En → Mo Va) (tg : Tg) (body : Sm) : Sm := fun env st => bS env (m env st) fun w st1 => match w with
  | .ref n => match st1[n]? with
    | some (.lst ws) => forE tg body n (ws.length + 1) 0 env st1
    | _ => .no
  | _ => .no
section
variable {X : Cx} {g : Gx} {W : WX} {pos : Pos}
theorem for_enum {a : Addr} {n : Nat} {gt : TG} {tg : Tg} {body : Sm} {D : Ends} {own : List Nat} (hg : TgOk X g tg own gt) {k : Nat}
    {env : En} {st : Sto} {ι : List Addr} {σ : L2.St} {H : Hp} (rs : RS X.K g st H ι) (re : RE X.K g H ι env σ) (ha : ι[n]? = some a) (p : PstS X.K g W (forE tg body n k 0 env st) H ι D) : Loop X g W (Ite X.K a) gt body D σ H := by
  refine ⟨fun i m σ H => ∃ env st ι, RS X.K g st H ι ∧ RE X.K g H ι env σ ∧ ι[n]? = some a ∧ PstS X.K g W (forE tg body n m i env st) H ι D, ⟨k, env, st, ι, rs, re, ha, p⟩, ?_⟩
  rintro i m σ H ⟨env, st, ι, rs, re, ha, p⟩
  cases m with
  | zero => exact (show False from p).elim
  | succ m =>
    unfold forE at p
    split at p
    · rename_i ws q
      obtain ⟨vs, h1, k1⟩ := rs.obj n _ a q ha
      have sl : SqL X.K H a vs := .inl (.inl h1)
      split at p
      · rename_i e
        refine .inl ⟨⟨vs, sl, ?_⟩, p H ι σ Ext.refl rs re⟩
        rw [← k1.length]
        exact List.getElem?_eq_none_iff.mp e
      · rename_i w e
        obtain ⟨v, e', rv⟩ := k1.get e
        refine .inr ⟨⟨vs, v, sl, e'⟩, fun σ' H' => ∃ env st ι, RS X.K g st H' ι ∧ RE X.K g H' ι env σ' ∧ ι[n]? = some a ∧ PstS X.K g W (forE tg body n m (i + 1) env st) H' ι D, fun σ' H' q => ⟨m, Nat.lt_succ_self m, q⟩, fun x H' y => ?_⟩
        obtain ⟨T, x', rfl, hT, rfl, hx⟩ := y
        have ex := hx vs sl
        rw [e'] at ex
        cases ex
        have e0 : Ext X.K H ι (upd H T (.tup [.int (i : Nat), v])) ι := by simpa using ext_new (K := X.K) (ι := ι) (o := HO.tup [.int (i : Nat), v]) hT []
        have rs' : RS X.K g st (upd H T (.tup [.int (i : Nat), v])) ι := rs.other hT
        have rt : RV X.K g.H0 (upd H T (.tup [.int (i : Nat), v])) ι (.tup [.int (i : Nat), w]) (.ref T) := .tup upd_same (.cons (.int _) (.cons (rv.mono e0) .nil))
        split at p
        · exact (show False from p).elim
        · rename_i env1 e1
          refine hg _ _ env env1 σ _ ι _ ⟨_, rs'⟩ (re.mono e0) rt e1 fun σ' re' _ => ⟨env1, st, ι, rs', re', ?_⟩
          refine PstS.shift ?_ e0
          revert p
          generalize body env1 st = r
          intro p
          cases r with
          | nx env2 st2 => exact fun H2 ι2 σ2 e rs2 re2 => ⟨env2, st2, ι2, rs2, re2, e.get ha, PstS.shift (r := forE tg body n m (i + 1) env2 st2) p e⟩
          | ct env2 st2 => exact fun H2 ι2 σ2 e rs2 re2 => ⟨env2, st2, ι2, rs2, re2, e.get ha, PstS.shift (r := forE tg body n m (i + 1) env2 st2) p e⟩
          | bk env2 st2 => exact p
          | rt w st2 => exact p
          | xc c fs env2 st2 => exact p
          | no => exact p
    · exact (show False from p).elim
theorem js_forE {elts : List Expr} {kk : Nat} {tpos p pc : Pos} {e : Expr} {b : List Stmt} {tg : Tg} {m : En → Mo Va} {body : Sm} {own : List Nat} (hp : PassesOwn (model X.prog X.w) X.A X.env X.xe) (hc : X.calm = true) (hm : X.mg "enumerate" = none) (hi : JE X g W e m) (ht : JG X g (.Tuple elts kk tpos) tg own) (hb : JSs X g W b body)
    (hg : Gl X "enumerate" := by rfl) (hs1 : starEach [e] X.env = [(false, eval e X.env)] := by rfl) (hs : ∀ x, foldedSetIterable (.Call (.Name "enumerate" p) [e] [] pc) X.env x = pure x := by intro _; rfl) : JS X g W (.For (.Tuple elts kk tpos) (.Call (.Name "enumerate" p) [e] [] pc) b [] pos) (sForE m tg body) := by
  obtain ⟨gt, h1, h2⟩ := ht.ex
  refine ⟨PS.imp (ps_for hp hc (pi_enum hg hm (pa_cons hi.pe pa_nil hs1) hs1) h1 hb.pss hs) fun D σ H q => ?_⟩
  obtain ⟨env, st, ι, rs, re, p⟩ := tG_bS (rel := rV X.K g) q
  refine ⟨env, st, ι, rs, re, p.imp (fun x H1 q => ?_) fun _ _ _ q => q⟩
  obtain ⟨env1, w, st1, ι1, rs1, re1, r1, p1⟩ := q
  cases w with
  | ref n =>
    cases r1 with
    | @ref _ a ha =>
      dsimp only at p1
      split at p1
      · rename_i ws e0
        obtain ⟨vs, h3, k1⟩ := rs1.obj n _ a e0 ha
        exact ⟨a, vs, rfl, .inl (.inl h3), for_enum h2 rs1 re1 ha p1⟩
      · exact (show False from p1).elim
  | _ => exact (show False from p1).elim

/-! ### a == b, objects of one own class whose __eq__ compares two fields -/
theorem RS.heap {K : PySem.W.Frag} {st : Sto} {H H' : Hp} {ι : List Addr} (rs : RS K g st H ι) (e : L2.Ext H H') : Ext K H ι H' ι ∧ RS K g st H' ι := by
  have ex : Ext K H ι H' ι := ⟨⟨[], by simp⟩, fun a vs h => e _ _ h, fun a vs h => e _ _ h⟩
  refine ⟨ex, rs.len, rs.nd, fun b o h => e _ _ (rs.old b o h), rs.new, fun n o a q1 q2 => ?_, fun p hp => e _ _ (rs.xds p hp)⟩
  have h := rs.obj n o a q1 q2
  cases o with
  | lst ws => obtain ⟨vs, q, r⟩ := h; exact ⟨vs, e _ _ q, r.mono ex⟩
  | dct ws => obtain ⟨vs, q, r⟩ := h; exact ⟨vs, e _ _ q, PF.mono ex r⟩
  | dtp ws => obtain ⟨vs, q, r⟩ := h; exact ⟨vs, e _ _ q, PF.mono ex r⟩
  | ins c fs => obtain ⟨dx, vs, q, r⟩ := h; exact ⟨dx, vs, e _ _ q, PF.mono ex r⟩
def R2F (K : PySem.W.Frag) (C : Addr) (f1 f2 : Str) (a b : Addr) (H : Hp) : Prop := ∃ dx dy fs gs x1 y1 x2 y2 d1 e1 d2 e2, H a = some (.ins C dx fs) ∧ H b = some (.ins C dy gs) ∧ fs.lookup f1 = some x1 ∧ gs.lookup f1 = some y1 ∧ fs.lookup f2 = some x2 ∧ gs.lookup f2 = some y2 ∧
  Dp K H x1 d1 ∧ Dp K H y1 e1 ∧ Dp K H x2 d2 ∧ Dp K H y2 e2 ∧ SeqAt.shaped d1 = true ∧ SeqAt.shaped e1 = true ∧ SeqAt.shaped d2 = true ∧ SeqAt.shaped e2 = true ∧ PyData.eqv d1 e1 = true ∧ PyData.eqv d2 e2 = true
def REq (K : PySem.W.Frag) (C : Addr) (f1 f2 : Str) (a b : Addr) (H : Hp) : Prop := ∀ H', L2.Ext H H' → R2F K C f1 f2 a b H'
structure EqOk (P : Program) (w : World) (K : PySem.W.Frag) (mg : Str → Option Value) (base : Heap) (g : Gx) (k : Nat) (c : Nat) (f1 f2 : Str) : Prop where
  ex : ∃ (f : Addr) (fd : FuncData) (ps : List Str), FnOk P w K mg base (L2.CX P w) k f fd ps (spEq (REq K (g.cls c) f1 f2)) ∧ Binds K fd ps [] ∧ PySem.W.findIn K (.ref (g.cls c)) "__eq__" = some (some (.ref f)) ∧ PySem.W.isFn K (.ref f) = true
def opEq2 (c : Nat) (f1 f2 : Str) : Va → Va → Mo Va := fun a b st => match a, b with
  | .ref m, .ref n => match st[m]?, st[n]? with
    | some (.ins c1 fs), some (.ins c2 gs) => if c1 = c ∧ c2 = c then (match fs.lookup f1, gs.lookup f1, fs.lookup f2, gs.lookup f2 with
      | some x1, some y1, some x2, some y2 => (match dat st 66 x1, dat st 66 y1, dat st 66 x2, dat st 66 y2 with
        | some d1, some e1, some d2, some e2 => if (SeqAt.shaped d1 && SeqAt.shaped e1 && SeqAt.shaped d2 && SeqAt.shaped e2 && PyData.eqv d1 e1 && PyData.eqv d2 e2) = true then .ok (.bl true) st else .no
        | _, _, _, _ => .no)
      | _, _, _, _ => .no) else .no
    | _, _ => .no
  | _, _ => .no
theorem nox_opEq2 {c : Nat} {f1 f2 : Str} : NoX2 (opEq2 c f1 f2) := by
  intro a b st c fs s h
  unfold opEq2 at h
  split at h <;> (try split at h) <;> (try split at h) <;> (try split at h) <;> (try split at h) <;> (try split at h) <;> cases h
theorem os_eq2 {k c : Nat} {f1 f2 : Str} (D : EqOk X.prog X.w X.K X.mg X.base g k c f1 f2) (hr : Room k X.A) : OpS X g (compareOp .Eq) (opEq2 c f1 f2) := by
  intro pins s σ H x y v u Q I rx ry h
  obtain ⟨st, ι, w1, w2, rs, r1, r2, p⟩ := h
  obtain ⟨f, fd, ps, h1, h2, h3, h4⟩ := D.ex
  unfold opEq2 at p
  split at p
  · rename_i m n
    obtain ⟨a, rfl, ho1⟩ := dget_of rs r1
    obtain ⟨b, rfl, ho2⟩ := dget_of rs r2
    split at p
    · rename_i c1 fs c2 gs e1 e2
      split at p
      · rename_i hc
        obtain ⟨rfl, rfl⟩ := hc
        obtain ⟨dx, fs', ha, k1⟩ := ho1 _ e1
        obtain ⟨dy, gs', hb, k2⟩ := ho2 _ e2
        split at p
        · rename_i x1 y1 x2 y2 l1 l2 l3 l4
          obtain ⟨vx1, m1, q1⟩ := pf_lookup (X := X) k1 l1
          obtain ⟨vy1, m2, q2⟩ := pf_lookup (X := X) k2 l2
          obtain ⟨vx2, m3, q3⟩ := pf_lookup (X := X) k1 l3
          obtain ⟨vy2, m4, q4⟩ := pf_lookup (X := X) k2 l4
          split at p
          · rename_i d1 d1' d2 d2' t1 t2 t3 t4
            split at p
            · rename_i hs
              simp only [Bool.and_eq_true] at hs
              obtain ⟨⟨⟨⟨⟨s1, s2⟩, s3⟩, s4⟩, s5⟩, s6⟩ := hs
              have R : REq X.K (g.cls c2) f1 f2 a b H := fun H' e => by
                obtain ⟨ex, rs'⟩ := rs.heap e
                exact ⟨dx, dy, fs', gs', vx1, vy1, vx2, vy2, d1, d1', d2, d2', e _ _ ha, e _ _ hb, m1, m2, m3, m4, dp_of rs' _ _ _ _ (q1.mono ex) t1, dp_of rs' _ _ _ _ (q2.mono ex) t2, dp_of rs' _ _ _ _ (q3.mono ex) t3, dp_of rs' _ _ _ _ (q4.mono ex) t4, s1, s2, s3, s4, s5, s6⟩
              refine op_eqG (rcG_ins h1 h3 h4 h2 passL) hr pins s σ H _ _ v u Q I rx ry ⟨⟨a, b, dx, dy, fs', gs', rfl, rfl, ha, hb, R⟩, fun H' e => ?_⟩
              obtain ⟨ex, rs'⟩ := rs.heap e
              exact p H' ι _ ex rs' (.bl _)
            · exact (show False from p).elim
          · exact (show False from p).elim
        · exact (show False from p).elim
      · exact (show False from p).elim
    · exact (show False from p).elim
  · exact (show False from p).elim

/-! ### what is never reached -/
def eNo {α : Type} : En → Mo α := fun _ _ => .no
def sNo : Sm := fun _ _ => .no
theorem js_no {s : Stmt} : JS X g W s sNo := ⟨⟨fun pins s σ H D I q => by
  obtain ⟨env, st, ι, rs, re, p⟩ := q
  exact (show False from p).elim⟩⟩
theorem je_no {e : Expr} : JE X g W e eNo := ⟨⟨fun pins s σ H Q I q => by
  obtain ⟨env, st, ι, rs, re, p⟩ := q
  exact (show False from p).elim⟩⟩
theorem jt_no {e : Expr} : JT X g W e eNo := ⟨⟨fun pins s σ H Q I q => by
  obtain ⟨env, st, ι, rs, re, p⟩ := q
  exact (show False from p).elim⟩⟩
/-- a def that is never called -/
theorem fn_no {P : Program} {w : World} {K : PySem.W.Frag} {mg : Str → Option Value} {base : Heap} {k n : Nat} {f : Addr} {fd : FuncData} {ps : List Str} {g : Gx} (hn : ps.length = n) : FnOk P w K mg base (L2.CX P w) k f fd ps (spM K g n (fun _ _ => .no)) :=
  ⟨fun vs H Q E h => by
    obtain ⟨ws, st, ι, h1, rs, h3, p⟩ := h
    exact (show False from p).elim, fun A outer s H args us vs Q E hr e0 b r h => by
    obtain ⟨ws, st, ι, h1, rs, h3, p⟩ := h
    exact (show False from p).elim⟩
end
end Sh

set_option Elab.async false
set_option linter.all false
set_option maxRecDepth 100000
set_option maxHeartbeats 4000000
/-! The value layer: plain functions whose lists are values, not places. -/
namespace Vl
open PySem PySem.Spec PyProof.Rows L2 Sh

inductive D where
  | non | bl (b : Bool) | int (i : Int) | str (s : Str) | tup (xs : List D) | lst (xs : List D) | scr (xs : List D) | dct (kvs : List (D × D)) | dtp (kvs : List (D × D)) | ins (c : Nat) (fs : List (Str × D)) | cst (v : V)
instance : Inhabited D := ⟨.non⟩
def keyD : Key → D
  | .inl i => .int i
  | .inr s => .str s
mutual
inductive Is (st : Sto) (F : Nat → Prop) : Va → D → Prop
  | non : Is st F .non .non
  | bl (b : Bool) : Is st F (.bl b) (.bl b)
  | int (i : Int) : Is st F (.int i) (.int i)
  | str (s : Str) : Is st F (.str s) (.str s)
  | cst (v : V) : Is st F (.cst v) (.cst v)
  | tup {ws : List Va} {ds : List D} : IsL st F ws ds → Is st F (.tup ws) (.tup ds)
  | ktp {ws : List Va} {ds : List D} : IsL st F ws ds → Is st F (.ktp ws) (.tup ds)
  | scr {ws : List Va} {ds : List D} : IsL st F ws ds → Is st F (.scr ws) (.scr ds)
  | ref {n : Nat} {ws : List Va} {ds : List D} : ¬ F n → st[n]? = some (.lst ws) → IsL st F ws ds → Is st F (.ref n) (.lst ds)
  | dct {n : Nat} {ws : List (Key × Va)} {ds : List (D × D)} : ¬ F n → st[n]? = some (.dct ws) → IsK st F ws ds → Is st F (.ref n) (.dct ds)
  | dtp {n : Nat} {ws : List (List Key × Va)} {ds : List (D × D)} : ¬ F n → st[n]? = some (.dtp ws) → IsT st F ws ds → Is st F (.ref n) (.dtp ds)
  | ins {n c : Nat} {ws : List (Str × Va)} {ds : List (Str × D)} : ¬ F n → st[n]? = some (.ins c ws) → IsF st F ws ds → Is st F (.ref n) (.ins c ds)
inductive IsL (st : Sto) (F : Nat → Prop) : List Va → List D → Prop
  | nil : IsL st F [] []
  | cons {w : Va} {d : D} {ws : List Va} {ds : List D} : Is st F w d → IsL st F ws ds → IsL st F (w :: ws) (d :: ds)
inductive IsK (st : Sto) (F : Nat → Prop) : List (Key × Va) → List (D × D) → Prop
  | nil : IsK st F [] []
  | cons {k : Key} {w : Va} {d : D} {ws : List (Key × Va)} {ds : List (D × D)} : Is st F w d → IsK st F ws ds → IsK st F ((k, w) :: ws) ((keyD k, d) :: ds)
inductive IsT (st : Sto) (F : Nat → Prop) : List (List Key × Va) → List (D × D) → Prop
  | nil : IsT st F [] []
  | cons {k : List Key} {w : Va} {d : D} {ws : List (List Key × Va)} {ds : List (D × D)} : Is st F w d → IsT st F ws ds → IsT st F ((k, w) :: ws) ((.tup (k.map keyD), d) :: ds)
inductive IsF (st : Sto) (F : Nat → Prop) : List (Str × Va) → List (Str × D) → Prop
  | nil : IsF st F [] []
  | cons {k : Str} {w : Va} {d : D} {ws : List (Str × Va)} {ds : List (Str × D)} : Is st F w d → IsF st F ws ds → IsF st F ((k, w) :: ws) ((k, d) :: ds)
end
theorem lt_of_get {α : Type} {l : List α} {n : Nat} {o : α} (h : l[n]? = some o) : n < l.length := (List.getElem?_eq_some_iff.mp h).1
section
variable {st st' : Sto} {F F' : Nat → Prop}
mutual
theorem Is.mono (k : ∀ n o, ¬ F n → st[n]? = some o → st'[n]? = some o) (f : ∀ n, n < st.length → F' n → F n) : ∀ {w : Va} {d : D}, Is st F w d → Is st' F' w d
  | _, _, .non => .non
  | _, _, .bl b => .bl b
  | _, _, .int i => .int i
  | _, _, .str s => .str s
  | _, _, .cst v => .cst v
  | _, _, .tup h => .tup (IsL.mono k f h)
  | _, _, .ktp h => .ktp (IsL.mono k f h)
  | _, _, .scr h => .scr (IsL.mono k f h)
  | _, _, .ref a b h => .ref (fun q => a (f _ (lt_of_get b) q)) (k _ _ a b) (IsL.mono k f h)
  | _, _, .dct a b h => .dct (fun q => a (f _ (lt_of_get b) q)) (k _ _ a b) (IsK.mono k f h)
  | _, _, .dtp a b h => .dtp (fun q => a (f _ (lt_of_get b) q)) (k _ _ a b) (IsT.mono k f h)
  | _, _, .ins a b h => .ins (fun q => a (f _ (lt_of_get b) q)) (k _ _ a b) (IsF.mono k f h)
theorem IsL.mono (k : ∀ n o, ¬ F n → st[n]? = some o → st'[n]? = some o) (f : ∀ n, n < st.length → F' n → F n) : ∀ {w : List Va} {d : List D}, IsL st F w d → IsL st' F' w d
  | _, _, .nil => .nil
  | _, _, .cons h t => .cons (Is.mono k f h) (IsL.mono k f t)
theorem IsK.mono (k : ∀ n o, ¬ F n → st[n]? = some o → st'[n]? = some o) (f : ∀ n, n < st.length → F' n → F n) : ∀ {w : List (Key × Va)} {d : List (D × D)}, IsK st F w d → IsK st' F' w d
  | _, _, .nil => .nil
  | _, _, .cons h t => .cons (Is.mono k f h) (IsK.mono k f t)
theorem IsT.mono (k : ∀ n o, ¬ F n → st[n]? = some o → st'[n]? = some o) (f : ∀ n, n < st.length → F' n → F n) : ∀ {w : List (List Key × Va)} {d : List (D × D)}, IsT st F w d → IsT st' F' w d
  | _, _, .nil => .nil
  | _, _, .cons h t => .cons (Is.mono k f h) (IsT.mono k f t)
theorem IsF.mono (k : ∀ n o, ¬ F n → st[n]? = some o → st'[n]? = some o) (f : ∀ n, n < st.length → F' n → F n) : ∀ {w : List (Str × Va)} {d : List (Str × D)}, IsF st F w d → IsF st' F' w d
  | _, _, .nil => .nil
  | _, _, .cons h t => .cons (Is.mono k f h) (IsF.mono k f t)
end
end
/-- what stands at a place -/
inductive ObIs (st : Sto) (F : Nat → Prop) (n : Nat) : D → Prop
  | lst {ws : List Va} {ds : List D} : st[n]? = some (.lst ws) → IsL st F ws ds → ObIs st F n (.lst ds)
  | dct {ws : List (Key × Va)} {ds : List (D × D)} : st[n]? = some (.dct ws) → IsK st F ws ds → ObIs st F n (.dct ds)
  | dtp {ws : List (List Key × Va)} {ds : List (D × D)} : st[n]? = some (.dtp ws) → IsT st F ws ds → ObIs st F n (.dtp ds)
  | ins {c : Nat} {ws : List (Str × Va)} {ds : List (Str × D)} : st[n]? = some (.ins c ws) → IsF st F ws ds → ObIs st F n (.ins c ds)
def IsB (st : Sto) (F : Nat → Prop) (w : Va) (d : D) : Prop := Is st F w d ∨ ∃ n, w = .ref n ∧ ObIs st F n d
section
variable {st st' : Sto} {F F' : Nat → Prop} {w : Va} {d : D} {n : Nat}
theorem ObIs.mono (hn : ∀ o, st[n]? = some o → st'[n]? = some o) (k : ∀ n o, ¬ F n → st[n]? = some o → st'[n]? = some o) (f : ∀ n, n < st.length → F' n → F n) (h : ObIs st F n d) : ObIs st' F' n d := by
  cases h with
  | lst a b => exact .lst (hn _ a) (b.mono k f)
  | dct a b => exact .dct (hn _ a) (b.mono k f)
  | dtp a b => exact .dtp (hn _ a) (b.mono k f)
  | ins a b => exact .ins (hn _ a) (b.mono k f)
theorem ObIs.lt (h : ObIs st F n d) : n < st.length := by
  cases h with
  | lst a b => exact lt_of_get a
  | dct a b => exact lt_of_get a
  | dtp a b => exact lt_of_get a
  | ins a b => exact lt_of_get a
theorem Is.ofOb (h : ObIs st F n d) (hn : ¬ F n) : Is st F (.ref n) d := by
  cases h with
  | lst a b => exact .ref hn a b
  | dct a b => exact .dct hn a b
  | dtp a b => exact .dtp hn a b
  | ins a b => exact .ins hn a b
theorem Is.ob (h : Is st F (.ref n) d) : ObIs st F n d ∧ ¬ F n := by
  cases h with
  | ref a b c => exact ⟨.lst b c, a⟩
  | dct a b c => exact ⟨.dct b c, a⟩
  | dtp a b c => exact ⟨.dtp b c, a⟩
  | ins a b c => exact ⟨.ins b c, a⟩
theorem IsB.of (h : Is st F w d) : IsB st F w d := .inl h
theorem IsB.app (h : IsB st F w d) (x : Sto) : IsB (st ++ x) F w d := by
  rcases h with h | ⟨n, e, h⟩
  · exact .inl (h.mono (fun n o _ q => get_old q) fun _ _ q => q)
  · exact .inr ⟨n, e, h.mono (fun o q => get_old q) (fun n o _ q => get_old q) fun _ _ q => q⟩
theorem Is.app (h : Is st F w d) (x : Sto) : Is (st ++ x) F w d := h.mono (fun n o _ q => get_old q) fun _ _ q => q
theorem IsL.app {w : List Va} {d : List D} (h : IsL st F w d) (x : Sto) : IsL (st ++ x) F w d := h.mono (fun n o _ q => get_old q) fun _ _ q => q
theorem ObIs.app (h : ObIs st F n d) (x : Sto) : ObIs (st ++ x) F n d := h.mono (fun o q => get_old q) (fun n o _ q => get_old q) fun _ _ q => q
/-! what the value tells of the plain one -/
theorem IsB.non (h : IsB st F w .non) : w = .non := by
  rcases h with h | ⟨n, e, h⟩
  · cases h; rfl
  · cases h
theorem IsB.int {i : Int} (h : IsB st F w (.int i)) : w = .int i := by
  rcases h with h | ⟨n, e, h⟩
  · cases h; rfl
  · cases h
theorem IsB.bl {i : Bool} (h : IsB st F w (.bl i)) : w = .bl i := by
  rcases h with h | ⟨n, e, h⟩
  · cases h; rfl
  · cases h
theorem IsB.str {i : Str} (h : IsB st F w (.str i)) : w = .str i := by
  rcases h with h | ⟨n, e, h⟩
  · cases h; rfl
  · cases h
theorem IsB.cst {i : V} (h : IsB st F w (.cst i)) : w = .cst i := by
  rcases h with h | ⟨n, e, h⟩
  · cases h; rfl
  · cases h
theorem IsB.tup {ds : List D} (h : IsB st F w (.tup ds)) : ∃ ws, (w = .tup ws ∨ w = .ktp ws) ∧ IsL st F ws ds := by
  rcases h with h | ⟨n, e, h⟩
  · cases h with
    | tup h => exact ⟨_, .inl rfl, h⟩
    | ktp h => exact ⟨_, .inr rfl, h⟩
  · cases h
theorem IsB.lst {ds : List D} (h : IsB st F w (.lst ds)) : ∃ n ws, w = .ref n ∧ st[n]? = some (.lst ws) ∧ IsL st F ws ds := by
  rcases h with h | ⟨n, e, h⟩
  · cases h with
    | ref a b h => exact ⟨_, _, rfl, b, h⟩
  · cases h with
    | lst a b => exact ⟨_, _, e, a, b⟩
theorem IsB.scr {ds : List D} (h : IsB st F w (.scr ds)) : ∃ ws, w = .scr ws ∧ IsL st F ws ds := by
  rcases h with h | ⟨n, e, h⟩
  · cases h with
    | scr h => exact ⟨_, rfl, h⟩
  · cases h
theorem IsB.dct {ds : List (D × D)} (h : IsB st F w (.dct ds)) : ∃ n ws, w = .ref n ∧ st[n]? = some (.dct ws) ∧ IsK st F ws ds := by
  rcases h with h | ⟨n, e, h⟩
  · cases h with
    | dct a b h => exact ⟨_, _, rfl, b, h⟩
  · cases h with
    | dct a b => exact ⟨_, _, e, a, b⟩
theorem IsB.dtp {ds : List (D × D)} (h : IsB st F w (.dtp ds)) : ∃ n ws, w = .ref n ∧ st[n]? = some (.dtp ws) ∧ IsT st F ws ds := by
  rcases h with h | ⟨n, e, h⟩
  · cases h with
    | dtp a b h => exact ⟨_, _, rfl, b, h⟩
  · cases h with
    | dtp a b => exact ⟨_, _, e, a, b⟩
theorem IsB.ins {c : Nat} {ds : List (Str × D)} (h : IsB st F w (.ins c ds)) : ∃ n ws, w = .ref n ∧ st[n]? = some (.ins c ws) ∧ IsF st F ws ds := by
  rcases h with h | ⟨n, e, h⟩
  · cases h with
    | ins a b h => exact ⟨_, _, rfl, b, h⟩
  · cases h with
    | ins a b => exact ⟨_, _, e, a, b⟩
theorem IsL.length : ∀ {ws : List Va} {ds : List D}, IsL st F ws ds → ws.length = ds.length
  | _, _, .nil => rfl
  | _, _, .cons _ t => by rw [List.length_cons, List.length_cons, t.length]
theorem IsL.get : ∀ {ws : List Va} {ds : List D} {i : Nat} {d : D}, IsL st F ws ds → ds[i]? = some d → ∃ w, ws[i]? = some w ∧ Is st F w d
  | _, _, _, _, .nil, e => by simp at e
  | _, _, 0, _, .cons r _, e => by simp at e; subst e; exact ⟨_, rfl, r⟩
  | _, _, i + 1, _, .cons _ t, e => by
    obtain ⟨v, h1, h2⟩ := t.get (i := i) (by simpa using e)
    exact ⟨v, by simpa using h1, h2⟩
theorem IsL.getW : ∀ {ws : List Va} {ds : List D} {i : Nat} {w : Va}, IsL st F ws ds → ws[i]? = some w → ∃ d, ds[i]? = some d ∧ Is st F w d
  | _, _, _, _, .nil, e => by simp at e
  | _, _, 0, _, .cons r _, e => by simp at e; subst e; exact ⟨_, rfl, r⟩
  | _, _, i + 1, _, .cons _ t, e => by
    obtain ⟨v, h1, h2⟩ := t.getW (i := i) (by simpa using e)
    exact ⟨v, by simpa using h1, h2⟩
theorem IsL.append : ∀ {ws zs : List Va} {ds es : List D}, IsL st F ws ds → IsL st F zs es → IsL st F (ws ++ zs) (ds ++ es)
  | _, _, _, _, .nil, h => h
  | _, _, _, _, .cons r t, h => .cons r (t.append h)
theorem IsL.take : ∀ {ws : List Va} {ds : List D} (n : Nat), IsL st F ws ds → IsL st F (ws.take n) (ds.take n)
  | _, _, 0, _ => by simpa using IsL.nil
  | _, _, _ + 1, .nil => .nil
  | _, _, n + 1, .cons r t => .cons r (t.take n)
theorem IsL.drop : ∀ {ws : List Va} {ds : List D} (n : Nat), IsL st F ws ds → IsL st F (ws.drop n) (ds.drop n)
  | _, _, 0, h => h
  | _, _, _ + 1, .nil => .nil
  | _, _, n + 1, .cons _ t => t.drop n
theorem IsL.reverse : ∀ {ws : List Va} {ds : List D}, IsL st F ws ds → IsL st F ws.reverse ds.reverse
  | _, _, .nil => .nil
  | _, _, .cons r t => by
    rw [List.reverse_cons, List.reverse_cons]
    exact t.reverse.append (.cons r .nil)
theorem IsL.set (r : Is st F w d) : ∀ {ws : List Va} {ds : List D} (n : Nat), IsL st F ws ds → IsL st F (ws.set n w) (ds.set n d)
  | _, _, _, .nil => .nil
  | _, _, 0, .cons _ t => .cons r t
  | _, _, n + 1, .cons q t => .cons q (t.set r n)
theorem IsL.at {ws : List Va} {ds : List D} {i : Int} {d : D} (k : IsL st F ws ds) (e : atI ds i = some d) : ∃ w, atI ws i = some w ∧ Is st F w d := by
  unfold atI at e ⊢
  rw [k.length]
  cases q : ixN ds.length i with
  | none => rw [q] at e; cases e
  | some j =>
    rw [q] at e
    exact k.get (i := j) e
theorem IsF.lookup {f : Str} : ∀ {ws : List (Str × Va)} {ds : List (Str × D)} {d : D}, IsF st F ws ds → ds.lookup f = some d → ∃ w, ws.lookup f = some w ∧ Is st F w d
  | _, _, _, .nil, e => by cases e
  | (k, w) :: ws, (_, d') :: ds, d, .cons r t, e => by
    rw [List.lookup_cons] at e ⊢
    cases h : (f == k) with
    | true =>
      rw [h] at e
      cases e
      exact ⟨_, rfl, r⟩
    | false =>
      rw [h] at e
      exact IsF.lookup t e
end

/-! ### results -/
inductive VR (α : Type) where
  | ok (a : α) | exc (c : Nat) (fs : List (Str × D)) | no
def vb {α β : Type} (r : VR α) (f : α → VR β) : VR β := match r with
  | .ok a => f a
  | .exc c fs => .exc c fs
  | .no => .no
def RsOk {α β : Type} (F : Nat → Prop) (R : Sto → α → β → Prop) (st : Sto) (r : Rs α) : VR β → Prop
  | .ok d => ∃ w x, r = .ok w (st ++ x) ∧ R (st ++ x) w d
  | .exc c fs => ∃ fs' x, r = .exc c fs' (st ++ x) ∧ IsF (st ++ x) F fs' fs
  | .no => True
section
variable {α β α' β' : Type} {F : Nat → Prop} {R R' : Sto → α → β → Prop} {st : Sto} {r : Rs α} {v : VR β}
theorem RsOk.imp (h : RsOk F R st r v) (k : ∀ x a b, R (st ++ x) a b → R' (st ++ x) a b) : RsOk F R' st r v := by
  cases v with
  | no => exact True.intro
  | exc c fs => exact h
  | ok b => obtain ⟨a, x, e, q⟩ := h; exact ⟨a, x, e, k x a b q⟩
theorem RsOk.bind {R'' : Sto → α' → β' → Prop} {f : α → Mo α'} {g : β → VR β'} (h : RsOk F R st r v) (k : ∀ x a b, R (st ++ x) a b → RsOk F R'' (st ++ x) (f a (st ++ x)) (g b)) : RsOk F R'' st (bnd r f) (vb v g) := by
  cases v with
  | no => exact True.intro
  | exc c fs =>
    obtain ⟨fs', x, rfl, q⟩ := h
    exact ⟨fs', x, rfl, q⟩
  | ok b =>
    obtain ⟨a, x, rfl, q⟩ := h
    have k' := k x a b q
    show RsOk F R'' st (f a (st ++ x)) (g b)
    revert k'
    cases g b with
    | no => exact fun _ => True.intro
    | exc c fs =>
      rintro ⟨fs', y, e, q'⟩
      exact ⟨fs', x ++ y, by rw [e, List.append_assoc], by rw [← List.append_assoc]; exact q'⟩
    | ok d =>
      rintro ⟨w, y, e, q'⟩
      exact ⟨w, x ++ y, by rw [e, List.append_assoc], by rw [← List.append_assoc]; exact q'⟩
theorem RsOk.here {w : α} {d : β} (h : R st w d) : RsOk F R st (.ok w st) (.ok d) := ⟨w, [], by rw [List.append_nil], by rw [List.append_nil]; exact h⟩
end

/-! ### slots -/
abbrev VEn := List (Option D)
abbrev VM (α : Type) := VEn → VR α
/-- a slot holds a value of its own (c), one that is only looked at (b), or a list that this call may change (a) -/
inductive Md where
  | c | b | a | x
def SlotOk (B : Nat) (st : Sto) (F : Nat → Prop) : Md → Va → D → Prop
  | .c, w, d => Is st F w d
  | .b, w, d => IsB st F w d ∧ ∀ n, w = .ref n → F n → n < B
  | .a, w, d => ∃ n, w = .ref n ∧ F n ∧ B ≤ n ∧ ObIs st F n d
  | .x, _, _ => False
abbrev mdAt (md : List Md) (i : Nat) : Md := md.getD i .c
structure Rel (md : List Md) (B : Nat) (F0 : Nat → Prop) (st : Sto) (F : Nat → Prop) (env : En) (ve : VEn) : Prop where
  len : env.length = ve.length
  slot : ∀ i d, ve[i]? = some (some d) → ∃ w, env[i]? = some (some w) ∧ SlotOk B st F (mdAt md i) w d
  dis : ∀ i j n d e, i ≠ j → mdAt md i = .a → mdAt md j = .a → ve[i]? = some (some d) → ve[j]? = some (some e) → env[i]? = some (some (.ref n)) → env[j]? = some (some (.ref n)) → False
  sub : ∀ n, F0 n → F n
  up : ∀ n, F n → F0 n ∨ B ≤ n
  f0 : ∀ n, F0 n → n < B
  lt : ∀ n, F n → n < st.length
  ble : B ≤ st.length
  exn : ∀ i, mdAt md i = .x → env[i]? = some (some .exn)
theorem SlotOk.mono {B : Nat} {st st' : Sto} {F F' : Nat → Prop} {m : Md} {w : Va} {d : D} (k : ∀ n o, (F n → n < B) → st[n]? = some o → st'[n]? = some o) (f : ∀ n, n < st.length → F' n → F n) (g : ∀ n, F n → F' n) (hm : m ≠ .a) (h : SlotOk B st F m w d) : SlotOk B st' F' m w d := by
  have k' : ∀ n o, ¬ F n → st[n]? = some o → st'[n]? = some o := fun n o q => k n o fun z => absurd z q
  cases m with
  | c => exact Is.mono k' f h
  | x => exact h.elim
  | a => exact absurd rfl hm
  | b =>
    obtain ⟨h1, h2⟩ := h
    rcases h1 with h1 | ⟨n, e, h1⟩
    · refine ⟨.inl (Is.mono k' f h1), fun n e q => ?_⟩
      subst e
      exact absurd (f n h1.ob.1.lt q) h1.ob.2
    · refine ⟨.inr ⟨n, e, h1.mono (fun o q => k n o (h2 n e) q) k' f⟩, fun m e' q => ?_⟩
      rw [e] at e'
      cases e'
      exact h2 n e (f n h1.lt q)
theorem Rel.app {md : List Md} {B : Nat} {F0 : Nat → Prop} {st : Sto} {F : Nat → Prop} {env : En} {ve : VEn} (h : Rel md B F0 st F env ve) (x : Sto) : Rel md B F0 (st ++ x) F env ve where
  len := h.len
  slot := fun i d e => by
    obtain ⟨w, e1, s⟩ := h.slot i d e
    refine ⟨w, e1, ?_⟩
    cases q : mdAt md i with
    | a =>
      rw [q] at s
      obtain ⟨n, e2, f, b, o⟩ := s
      exact ⟨n, e2, f, b, o.app x⟩
    | b =>
      rw [q] at s
      exact s.mono (fun n o _ z => get_old z) (fun _ _ z => z) (fun _ z => z) (by intro z; cases z)
    | c =>
      rw [q] at s
      exact Is.app s x
    | x =>
      rw [q] at s
      exact s.elim
  dis := h.dis
  sub := h.sub
  up := h.up
  f0 := h.f0
  lt := fun n q => by rw [List.length_append]; exact Nat.lt_of_lt_of_le (h.lt n q) (Nat.le_add_right _ _)
  ble := by rw [List.length_append]; exact Nat.le_trans h.ble (Nat.le_add_right _ _)
  exn := h.exn

/-! ### judgements of expressions -/
/-- the result is a value of its own -/
def VE (md : List Md) (m : En → Mo Va) (v : VM D) : Prop := ∀ {B F0 st F env ve}, Rel md B F0 st F env ve → RsOk F (fun st w d => Is st F w d) st (m env st) (v ve)
/-- the result is looked at -/
def VB (md : List Md) (m : En → Mo Va) (v : VM D) : Prop := ∀ {B F0 st F env ve}, Rel md B F0 st F env ve → RsOk F (fun st w d => IsB st F w d) st (m env st) (v ve)
/-- the result leaves the call -/
def VF (md : List Md) (m : En → Mo Va) (v : VM D) : Prop := ∀ {B F0 st F env ve}, Rel md B F0 st F env ve → RsOk F (fun st w d => Is st F0 w d) st (m env st) (v ve)
/-- a new object -/
def NewAt (base : Nat) (F : Nat → Prop) (st' : Sto) (w : Va) (d : D) : Prop := ∃ n, w = .ref n ∧ base ≤ n ∧ ObIs st' (fun k => F k ∨ k = n) n d
theorem NewAt.le {base base' : Nat} {F : Nat → Prop} {st' : Sto} {w : Va} {d : D} (h : NewAt base F st' w d) (l : base' ≤ base) : NewAt base' F st' w d := by
  obtain ⟨n, e, hn, o⟩ := h
  exact ⟨n, e, Nat.le_trans l hn, o⟩
/-- the result is a new object -/
def VN (md : List Md) (m : En → Mo Va) (v : VM D) : Prop := ∀ {B F0 st F env ve}, Rel md B F0 st F env ve → RsOk F (NewAt st.length F) st (m env st) (v ve)
def VT (md : List Md) (m : En → Mo Bool) (v : VM Bool) : Prop := ∀ {B F0 st F env ve}, Rel md B F0 st F env ve → RsOk F (fun _ a b => a = b) st (m env st) (v ve)
def VO (md : List Md) (m : En → Mo (Option Int)) (v : VM (Option Int)) : Prop := ∀ {B F0 st F env ve}, Rel md B F0 st F env ve → RsOk F (fun _ a b => a = b) st (m env st) (v ve)
/-- arguments, each in its mode -/
inductive IsM (st : Sto) (F : Nat → Prop) : List Md → List Va → List D → Prop
  | nil : IsM st F [] [] []
  | c {w : Va} {d : D} {ms : List Md} {ws : List Va} {ds : List D} : Is st F w d → IsM st F ms ws ds → IsM st F (.c :: ms) (w :: ws) (d :: ds)
  | b {w : Va} {d : D} {ms : List Md} {ws : List Va} {ds : List D} : IsB st F w d → IsM st F ms ws ds → IsM st F (.b :: ms) (w :: ws) (d :: ds)
theorem IsM.app {st : Sto} {F : Nat → Prop} (x : Sto) : ∀ {ms : List Md} {ws : List Va} {ds : List D}, IsM st F ms ws ds → IsM (st ++ x) F ms ws ds
  | _, _, _, .nil => .nil
  | _, _, _, .c h t => .c (h.app x) (t.app x)
  | _, _, _, .b h t => .b (h.app x) (t.app x)
theorem IsM.length {st : Sto} {F : Nat → Prop} : ∀ {ms : List Md} {ws : List Va} {ds : List D}, IsM st F ms ws ds → ws.length = ds.length ∧ ms.length = ds.length
  | _, _, _, .nil => ⟨rfl, rfl⟩
  | _, _, _, .c _ t => by
    obtain ⟨a, b⟩ := t.length
    simp [a, b]
  | _, _, _, .b _ t => by
    obtain ⟨a, b⟩ := t.length
    simp [a, b]
def VA (md ms : List Md) (m : En → Mo (List Va)) (v : VM (List D)) : Prop := ∀ {B F0 st F env ve}, Rel md B F0 st F env ve → RsOk F (fun st ws ds => IsM st F ms ws ds) st (m env st) (v ve)
/-- items that all leave the call -/
def VAF (md : List Md) (m : En → Mo (List Va)) (v : VM (List D)) : Prop := ∀ {B F0 st F env ve}, Rel md B F0 st F env ve → RsOk F (fun st ws ds => IsL st F0 ws ds) st (m env st) (v ve)
def VAL (md : List Md) (m : En → Mo (List Va)) (v : VM (List D)) : Prop := ∀ {B F0 st F env ve}, Rel md B F0 st F env ve → RsOk F (fun st ws ds => IsL st F ws ds) st (m env st) (v ve)
/-- a def -/
def VFn (ms : List Md) (f : Fn) (v : List D → VR D) : Prop := ∀ {st : Sto} {F : Nat → Prop} {ws : List Va} {ds : List D}, (∀ n, F n → n < st.length) → IsM st F ms ws ds → RsOk F (fun st w d => Is st F w d) st (f ws st) (v ds)

/-! ### value terms -/
def dVar (i : Nat) : VM D := fun ve => match ve[i]? with
  | some (some d) => .ok d
  | _ => .no
def dC (d : D) : VM D := fun _ => .ok d
def d2 {α β γ : Type} (op : α → β → VR γ) (a : VM α) (b : VM β) : VM γ := fun ve => vb (a ve) fun x => vb (b ve) fun y => op x y
def d1 {α β : Type} (op : α → VR β) (a : VM α) : VM β := fun ve => vb (a ve) op
def dNil : VM (List D) := fun _ => .ok []
def dCons (a : VM D) (r : VM (List D)) : VM (List D) := fun ve => vb (a ve) fun x => vb (r ve) fun xs => .ok (x :: xs)
def dA (op : List D → VR D) (a : VM (List D)) : VM D := fun ve => vb (a ve) op
def dBl (r : VR D) : VR Bool := vb r fun d => match d with
  | .bl b => .ok b
  | _ => .no
def dT (m : VM D) : VM Bool := fun ve => dBl (m ve)
def dNot (m : VM Bool) : VM Bool := fun ve => vb (m ve) fun b => .ok (!b)
def dAnd (m n : VM Bool) : VM Bool := fun ve => vb (m ve) fun b => if b = true then n ve else .ok false
def dOr (m n : VM Bool) : VM Bool := fun ve => vb (m ve) fun b => if b = true then .ok true else n ve
def dIf (t : VM Bool) (m n : VM D) : VM D := fun ve => vb (t ve) fun b => if b = true then m ve else n ve
def wAnd (m n : VM D) : VM D := fun ve => vb (m ve) fun w => match w with
  | .bl true => n ve
  | .bl false => .ok (.bl false)
  | _ => .no
def wOr (m n : VM D) : VM D := fun ve => vb (m ve) fun w => match w with
  | .bl false => n ve
  | .bl true => .ok (.bl true)
  | _ => .no
def wNot (m : VM D) : VM D := fun ve => vb (m ve) fun w => match w with
  | .bl b => .ok (.bl (!b))
  | _ => .no
def d3 (op op' : D → D → VR D) (ma mb mc : VM D) : VM D := fun ve => vb (ma ve) fun x => vb (mb ve) fun y => vb (op x y) fun z => match z with
  | .bl true => vb (mc ve) fun w => op' y w
  | .bl false => .ok (.bl false)
  | _ => .no
def dLen (n : Nat) (f : List D → VR D) : List D → VR D := fun ds => if ds.length = n then f ds else .no

section
variable {md : List Md}
theorem ve_b {m : En → Mo Va} {v : VM D} (h : VE md m v) : VB md m v := fun r => (h r).imp fun _ _ _ q => .inl q
theorem ve_f {m : En → Mo Va} {v : VM D} (h : VE md m v) : VF md m v := fun r => (h r).imp fun _ _ _ q => Is.mono (fun _ _ _ z => z) (fun n _ z => r.sub n z) q
theorem vn_e {m : En → Mo Va} {v : VM D} (h : VN md m v) : VE md m v := fun r => (h r).imp fun _ _ _ q => by
  obtain ⟨n, rfl, hn, o⟩ := q
  exact Is.ofOb (o.mono (fun _ z => z) (fun _ _ _ z => z) fun _ _ z => .inl z) fun z => absurd (r.lt n z) (Nat.not_lt.mpr hn)
theorem evar_at {i : Nat} {env : En} {st : Sto} {w : Va} (e : env[i]? = some (some w)) (n : w ≠ .exn := by intro z; cases z) : eVar i env st = .ok w st := by
  unfold eVar
  rw [e]
  cases w with
  | exn => exact absurd rfl n
  | _ => rfl
theorem Is.ne {st : Sto} {F : Nat → Prop} {w : Va} {d : D} (h : Is st F w d) : w ≠ .exn := fun z => by subst z; cases h
theorem SlotOk.ne {B : Nat} {st : Sto} {F : Nat → Prop} {m : Md} {w : Va} {d : D} (h : SlotOk B st F m w d) : w ≠ .exn := by
  cases m with
  | c => exact Is.ne h
  | x => exact h.elim
  | a => obtain ⟨n, rfl, _⟩ := h; intro z; cases z
  | b =>
    rcases h.1 with h | ⟨n, rfl, _⟩
    · exact h.ne
    · intro z; cases z
theorem ve_var (i : Nat) (h : mdAt md i = .c := by rfl) : VE md (eVar i) (dVar i) := fun {B F0 st F env ve} r => by
  unfold dVar
  split
  · rename_i d e
    obtain ⟨w, e1, s⟩ := r.slot i d e
    rw [h] at s
    rw [evar_at e1 s.ne]
    exact RsOk.here s
  · exact True.intro
theorem vb_var (i : Nat) : VB md (eVar i) (dVar i) := fun {B F0 st F env ve} r => by
  unfold dVar
  split
  · rename_i d e
    obtain ⟨w, e1, s⟩ := r.slot i d e
    rw [evar_at e1 s.ne]
    refine RsOk.here ?_
    cases q : mdAt md i with
    | c => rw [q] at s; exact .inl s
    | x => rw [q] at s; exact s.elim
    | b => rw [q] at s; exact s.1
    | a => rw [q] at s; obtain ⟨n, e2, _, _, o⟩ := s; exact .inr ⟨n, e2, o⟩
  · exact True.intro
theorem vf_var (i : Nat) (h : mdAt md i ≠ .b := by intro z; cases z) : VF md (eVar i) (dVar i) := fun {B F0 st F env ve} r => by
  unfold dVar
  split
  · rename_i d e
    obtain ⟨w, e1, s⟩ := r.slot i d e
    rw [evar_at e1 s.ne]
    refine RsOk.here ?_
    cases q : mdAt md i with
    | c => rw [q] at s; exact Is.mono (fun _ _ _ z => z) (fun n _ z => r.sub n z) s
    | b => exact absurd q h
    | x => rw [q] at s; exact s.elim
    | a =>
      rw [q] at s
      obtain ⟨n, rfl, _, hb, o⟩ := s
      exact Is.ofOb (o.mono (fun _ z => z) (fun _ _ _ z => z) fun n _ z => r.sub n z) fun z => absurd (r.f0 n z) (Nat.not_lt.mpr hb)
  · exact True.intro
/-- a constant -/
def IsC (w : Va) (d : D) : Prop := ∀ st F, Is st F w d
theorem ve_c {w : Va} {d : D} (h : IsC w d) : VE md (eC w) (dC d) := fun r => RsOk.here (h _ _)
theorem ic_non : IsC .non .non := fun _ _ => .non
theorem ic_bl (b : Bool) : IsC (.bl b) (.bl b) := fun _ _ => .bl b
theorem ic_int (b : Int) : IsC (.int b) (.int b) := fun _ _ => .int b
theorem ic_str (b : Str) : IsC (.str b) (.str b) := fun _ _ => .str b
theorem ic_cst (b : V) : IsC (.cst b) (.cst b) := fun _ _ => .cst b
inductive IsCs : List Va → List D → Prop
  | nil : IsCs [] []
  | cons {w : Va} {d : D} {ws : List Va} {ds : List D} : IsC w d → IsCs ws ds → IsCs (w :: ws) (d :: ds)
theorem IsCs.l {st : Sto} {F : Nat → Prop} : ∀ {ws : List Va} {ds : List D}, IsCs ws ds → IsL st F ws ds
  | _, _, .nil => .nil
  | _, _, .cons h t => .cons (h _ _) t.l
theorem ic_ktp {ws : List Va} {ds : List D} (h : IsCs ws ds) : IsC (.ktp ws) (.tup ds) := fun _ _ => .ktp h.l

/-- an operator -/
def OV2 (op : Va → Va → Mo Va) (v : D → D → VR D) : Prop := ∀ {st : Sto} {F : Nat → Prop} {w1 w2 : Va} {d1 d2 : D}, IsB st F w1 d1 → IsB st F w2 d2 → RsOk F (fun st w d => Is st F w d) st (op w1 w2 st) (v d1 d2)
def OVA (op : List Va → Mo Va) (v : List D → VR D) (ms : List Md) : Prop := ∀ {st : Sto} {F : Nat → Prop} {ws : List Va} {ds : List D}, IsM st F ms ws ds → RsOk F (fun st w d => Is st F w d) st (op ws st) (v ds)
variable {ma mb mc : En → Mo Va} {a b c : VM D}
theorem ve_2 {op : Va → Va → Mo Va} {v : D → D → VR D} (ho : OV2 op v) (ha : VB md ma a) (hb : VB md mb b) : VE md (e2 op ma mb) (d2 v a b) := fun r =>
  (ha r).bind fun x w1 d1 q1 => (hb (r.app x)).bind fun y w2 d2 q2 => ho (q1.app y) q2
theorem va_nil : VA md [] aNil dNil := fun r => RsOk.here .nil
theorem va_c {ms : List Md} {mr : En → Mo (List Va)} {vr : VM (List D)} (ha : VE md ma a) (hr : VA md ms mr vr) : VA md (.c :: ms) (aCons ma mr) (dCons a vr) := fun r =>
  (ha r).bind fun x w1 d1 q1 => (hr (r.app x)).bind fun y w2 d2 q2 => RsOk.here (.c (q1.app y) q2)
theorem va_b {ms : List Md} {mr : En → Mo (List Va)} {vr : VM (List D)} (ha : VB md ma a) (hr : VA md ms mr vr) : VA md (.b :: ms) (aCons ma mr) (dCons a vr) := fun r =>
  (ha r).bind fun x w1 d1 q1 => (hr (r.app x)).bind fun y w2 d2 q2 => RsOk.here (.b (q1.app y) q2)
theorem vl_nil : VAL md aNil dNil := fun r => RsOk.here .nil
theorem vl_cons {mr : En → Mo (List Va)} {vr : VM (List D)} (ha : VE md ma a) (hr : VAL md mr vr) : VAL md (aCons ma mr) (dCons a vr) := fun r =>
  (ha r).bind fun x w1 d1 q1 => (hr (r.app x)).bind fun y w2 d2 q2 => RsOk.here (.cons (q1.app y) q2)
theorem vaf_nil : VAF md aNil dNil := fun r => RsOk.here .nil
theorem vaf_cons {mr : En → Mo (List Va)} {vr : VM (List D)} (ha : VF md ma a) (hr : VAF md mr vr) : VAF md (aCons ma mr) (dCons a vr) := fun r =>
  (ha r).bind fun x w1 d1 q1 => (hr (r.app x)).bind fun y w2 d2 q2 => RsOk.here (.cons (q1.app y) q2)
theorem ve_A {op : List Va → Mo Va} {v : List D → VR D} {ms : List Md} {m : En → Mo (List Va)} {vv : VM (List D)} (ho : OVA op v ms) (h : VA md ms m vv) : VE md (eA op m) (dA v vv) := fun r => (h r).bind fun x w d q => ho q
theorem ve_call {n : Nat} {f : Fn} {v : List D → VR D} {ms : List Md} {m : En → Mo (List Va)} {vv : VM (List D)} (ho : VFn ms f v) (h : VA md ms m vv) : VE md (eA (lenOk n f) m) (dA (dLen n v) vv) := fun r => (h r).bind fun x ws ds q => by
  unfold lenOk dLen
  rw [q.length.1]
  split
  · exact ho (r.app x).lt q
  · exact True.intro
/-! tests -/
theorem vt_T {m : En → Mo Va} {v : VM D} (h : VB md m v) : VT md (eT m) (dT v) := fun r => (h r).bind fun x w d q => by
  cases d with
  | bl k => rw [q.bl]; exact RsOk.here rfl
  | _ => exact True.intro
variable {ta tb : En → Mo Bool} {va vb' : VM Bool}
theorem vt_not (h : VT md ta va) : VT md (eNot ta) (dNot va) := fun r => (h r).bind fun x w d q => by
  subst q
  exact RsOk.here rfl
theorem vt_and (h : VT md ta va) (h2 : VT md tb vb') : VT md (eAnd ta tb) (dAnd va vb') := fun r => (h r).bind fun x w d q => by
  subst q
  cases w with
  | true => exact h2 (r.app x)
  | false => exact RsOk.here rfl
theorem vt_or (h : VT md ta va) (h2 : VT md tb vb') : VT md (eOr ta tb) (dOr va vb') := fun r => (h r).bind fun x w d q => by
  subst q
  cases w with
  | false => exact h2 (r.app x)
  | true => exact RsOk.here rfl
theorem ve_and (h : VE md ma a) (h2 : VE md mb b) : VE md (vAnd ma mb) (wAnd a b) := fun r => (h r).bind fun x w d q => by
  cases d with
  | bl k =>
    rw [(IsB.of q).bl]
    cases k with
    | true => exact h2 (r.app x)
    | false => exact RsOk.here (.bl _)
  | _ => exact True.intro
theorem ve_or (h : VE md ma a) (h2 : VE md mb b) : VE md (vOr ma mb) (wOr a b) := fun r => (h r).bind fun x w d q => by
  cases d with
  | bl k =>
    rw [(IsB.of q).bl]
    cases k with
    | false => exact h2 (r.app x)
    | true => exact RsOk.here (.bl _)
  | _ => exact True.intro
theorem ve_not (h : VE md ma a) : VE md (vNot ma) (wNot a) := fun r => (h r).bind fun x w d q => by
  cases d with
  | bl k =>
    rw [(IsB.of q).bl]
    exact RsOk.here (.bl _)
  | _ => exact True.intro
theorem ve_if (h : VT md ta va) (h1 : VE md ma a) (h2 : VE md mb b) : VE md (eIf ta ma mb) (dIf va a b) := fun r => (h r).bind fun x w d q => by
  subst q
  cases w with
  | true => exact h1 (r.app x)
  | false => exact h2 (r.app x)
theorem vb_if (h : VT md ta va) (h1 : VB md ma a) (h2 : VB md mb b) : VB md (eIf ta ma mb) (dIf va a b) := fun r => (h r).bind fun x w d q => by
  subst q
  cases w with
  | true => exact h1 (r.app x)
  | false => exact h2 (r.app x)
theorem vf_if (h : VT md ta va) (h1 : VF md ma a) (h2 : VF md mb b) : VF md (eIf ta ma mb) (dIf va a b) := fun r => (h r).bind fun x w d q => by
  subst q
  cases w with
  | true => exact h1 (r.app x)
  | false => exact h2 (r.app x)
theorem ve_3 {op op' : Va → Va → Mo Va} {v v' : D → D → VR D} (ho : OV2 op v) (ho' : OV2 op' v') (ha : VB md ma a) (hb : VB md mb b) (hc : VB md mc c) : VE md (e3 op op' ma mb mc) (d3 v v' a b c) := fun r =>
  (ha r).bind fun x w1 d1 q1 => (hb (r.app x)).bind fun y w2 d2 q2 => (ho (q1.app y) q2).bind fun z w3 d3 q3 => by
    cases d3 with
    | bl k =>
      rw [(IsB.of q3).bl]
      cases k with
      | true => exact (hc (((r.app x).app y).app z)).bind fun u w4 d4 q4 => ho' ((q2.app z).app u) q4
      | false => exact RsOk.here (.bl _)
    | _ => exact True.intro
end
end Vl

set_option Elab.async false
set_option linter.all false
set_option maxRecDepth 100000
set_option maxHeartbeats 4000000
namespace Vl
open PySem PySem.Spec PyProof.Rows L2 Sh

/-! ### data -/
mutual
def py : D → Option PyData
  | .non => some .none
  | .bl b => some (.bool b)
  | .int i => some (.int i)
  | .str s => some (.str s)
  | .tup xs => (pyL xs).map .tuple
  | .lst xs => (pyL xs).map .list
  | .scr xs => (pyL xs).map .list
  | .dct _ => none
  | .dtp _ => none
  | .ins _ _ => none
  | .cst _ => none
def pyL : List D → Option (List PyData)
  | [] => some []
  | d :: ds => match py d, pyL ds with
    | some p, some ps => some (p :: ps)
    | _, _ => none
end
section
variable {st : Sto} {F : Nat → Prop}
theorem datL_of {f : Va → Option PyData} {k : Nat} (hf : ∀ w d p, Is st F w d → py d = some p → p.depth ≤ k → f w = some p) : ∀ {ws : List Va} {ds : List D} {ps : List PyData}, IsL st F ws ds → pyL ds = some ps → PyData.depthAll ps ≤ k → datL f ws = some ps
  | [], _, _, .nil, e, _ => by
    rw [pyL] at e
    cases e
    rfl
  | w :: ws, d :: ds, _, .cons r t, e, h => by
    rw [pyL] at e
    split at e
    · rename_i p ps h1 h2
      cases e
      have hd : p.depth ≤ k ∧ PyData.depthAll ps ≤ k := by
        rw [PyData.depthAll] at h
        omega
      unfold datL
      rw [hf _ _ _ r h1 hd.1, datL_of hf t h2 hd.2]
    · cases e
theorem dat_of : ∀ (n : Nat) {w : Va} {d : D} {p : PyData}, Is st F w d → py d = some p → p.depth ≤ n → dat st (n + 1) w = some p
  | n, w, d, p, r, e, h => by
    have inner : ∀ {ws : List Va} {ds : List D} {ps : List PyData}, IsL st F ws ds → pyL ds = some ps → PyData.depthAll ps + 1 ≤ n → datL (dat st n) ws = some ps := fun {ws ds ps} k1 k2 k3 => by
      cases n with
      | zero => omega
      | succ n => exact datL_of (k := n) (fun w d p => dat_of n) k1 k2 (by omega)
    cases r with
    | non => rw [py] at e; cases e; rfl
    | bl b => rw [py] at e; cases e; rfl
    | int i => rw [py] at e; cases e; rfl
    | str s => rw [py] at e; cases e; rfl
    | cst v => rw [py] at e; cases e
    | tup k =>
      rw [py, Option.map_eq_some_iff] at e
      obtain ⟨ps, e1, rfl⟩ := e
      rw [PyData.depth] at h
      unfold dat
      dsimp only
      rw [inner k e1 h]
      rfl
    | ktp k =>
      rw [py, Option.map_eq_some_iff] at e
      obtain ⟨ps, e1, rfl⟩ := e
      rw [PyData.depth] at h
      unfold dat
      dsimp only
      rw [inner k e1 h]
      rfl
    | scr k =>
      rw [py, Option.map_eq_some_iff] at e
      obtain ⟨ps, e1, rfl⟩ := e
      rw [PyData.depth] at h
      unfold dat
      dsimp only
      rw [inner k e1 h]
      rfl
    | ref a b k =>
      rw [py, Option.map_eq_some_iff] at e
      obtain ⟨ps, e1, rfl⟩ := e
      rw [PyData.depth] at h
      unfold dat
      dsimp only
      rw [b]
      dsimp only
      rw [inner k e1 h]
      rfl
    | dct a b k => rw [py] at e; cases e
    | dtp a b k => rw [py] at e; cases e
    | ins a b k => rw [py] at e; cases e
theorem datB_of {w : Va} {d : D} {p : PyData} (r : IsB st F w d) (e : py d = some p) (h : p.depth ≤ 65) : dat st 66 w = some p := by
  rcases r with r | ⟨n, rfl, o⟩
  · exact dat_of 65 r e h
  · have : Is st (fun _ => False) (.ref n) d := Is.ofOb (o.mono (fun _ z => z) (fun _ _ _ z => z) fun _ _ z => z.elim) fun z => z
    exact dat_of (F := fun _ => False) 65 this e h
theorem datLB_of {ws : List Va} {ds : List D} {ps : List PyData} (r : IsL st F ws ds) (e : pyL ds = some ps) (h : PyData.depthAll ps ≤ 64) : datL (dat st 65) ws = some ps := datL_of (k := 64) (fun w d p => dat_of 64) r e h
end

/-! ### operators on values -/
def vAdd : D → D → VR D
  | .int i, .int j => .ok (.int (i + j))
  | .str x, .str y => if x.length + y.length ≤ 16777216 then .ok (.str (x ++ y)) else .no
  | .tup xs, .tup ys => if xs.length + ys.length ≤ 16777216 then .ok (.tup (xs ++ ys)) else .no
  | _, _ => .no
/-- lists: a new one -/
def vCat : D → D → VR D
  | .lst xs, .lst ys => if xs.length + ys.length ≤ 16777216 then .ok (.lst (xs ++ ys)) else .no
  | _, _ => .no
def vSub : D → D → VR D
  | .int i, .int j => .ok (.int (i - j))
  | _, _ => .no
def vMul : D → D → VR D
  | .int i, .int j => if sm64 i || sm64 j then .ok (.int (i * j)) else .no
  | _, _ => .no
def vFdiv : D → D → VR D
  | .int i, .int j => if 0 < j ∧ j < 1073741824 then .ok (.int (i / j)) else .no
  | _, _ => .no
def vMod : D → D → VR D
  | .int i, .int j => if 0 < j then .ok (.int (i % j)) else .no
  | _, _ => .no
def vPow : D → D → VR D
  | .int i, .int j => if 0 ≤ j ∧ j ≤ 1000000 ∧ i.natAbs < 2 ^ 64 then .ok (.int (i ^ j.toNat)) else .no
  | _, _ => .no
def vLt : D → D → VR D
  | .int i, .int j => .ok (.bl (decide (i < j)))
  | _, _ => .no
def vGt : D → D → VR D
  | .int i, .int j => .ok (.bl (decide (j < i)))
  | _, _ => .no
def vGe : D → D → VR D
  | .int i, .int j => .ok (.bl (decide (j ≤ i)))
  | _, _ => .no
def vLe : D → D → VR D
  | .int i, .int j => .ok (.bl (decide (i ≤ j)))
  | .str x, .str y => .ok (.bl (!decide (y.cps.toList < x.cps.toList)))
  | _, _ => .no
def scalD : D → D → Option Bool
  | .non, .non => some true | .non, .int _ => some false | .int _, .non => some false | .non, .bl _ => some false | .bl _, .non => some false | .non, .str _ => some false | .str _, .non => some false
  | .int a, .int b => some (a == b) | .bl a, .bl b => some (a == b) | .str a, .str b => some (a == b)
  | .int _, .str _ => some false | .str _, .int _ => some false | .bl _, .str _ => some false | .str _, .bl _ => some false
  | _, _ => none
def vEqB (neg : Bool) : D → D → VR D := fun a b => match scalD a b with
  | some r => .ok (.bl (xor neg r))
  | none => match py a, py b with
    | some p, some q => if SeqAt.shaped p && SeqAt.shaped q then .ok (.bl (xor neg (PyData.eqv p q))) else .no
    | _, _ => .no
abbrev vEq := vEqB false
abbrev vNe := vEqB true
def flatD : D → Bool
  | .non => true
  | .bl _ => true
  | .int _ => true
  | .str _ => true
  | _ => false
def eqFl : D → D → Bool
  | .non, .non => true
  | .bl a, .bl b => a == b
  | .bl a, .int b => (if a then 1 else 0) == b
  | .int a, .bl b => a == (if b then 1 else 0)
  | .int a, .int b => a == b
  | .str a, .str b => a == b
  | _, _ => false
def vInB (neg : Bool) : D → D → VR D := fun a b => match b with
  | .str y => match a with
    | .str x => .ok (.bl (xor neg (inS x y)))
    | _ => .no
  | .tup ys => if flatD a && ys.all flatD then .ok (.bl (xor neg (ys.any fun y => eqFl y a))) else .no
  | .lst ys => match py a, pyL ys with
    | some p, some qs => if SeqAt.shaped p && SeqAt.shaped (.list qs) then .ok (.bl (xor neg (qs.any fun z => z.eqv p))) else .no
    | _, _ => .no
  | .scr ys => match py a, pyL ys with
    | some p, some qs => if SeqAt.shaped p && SeqAt.shaped (.list qs) then .ok (.bl (xor neg (qs.any fun z => z.eqv p))) else .no
    | _, _ => .no
  | _ => .no
abbrev vIn := vInB false
abbrev vNotIn := vInB true
def vIsN : D → D → VR D := fun a b => match b with
  | .non => match a with
    | .non => .ok (.bl true)
    | .cst _ => .no
    | _ => .ok (.bl false)
  | _ => .no
def vNotN : D → D → VR D := fun a b => match b with
  | .non => match a with
    | .non => .ok (.bl false)
    | .cst _ => .no
    | _ => .ok (.bl true)
  | _ => .no
def vIx : D → D → VR D
  | .tup ds, .int i => match atI ds i with
    | some d => .ok d
    | none => .no
  | .lst ds, .int i => match atI ds i with
    | some d => .ok d
    | none => .no
  | .scr ds, .int i => match atI ds i with
    | some d => .ok d
    | none => .no
  | .str x, .int i => if x.length ≤ 16777216 then (match atI x.cps.toList i with
    | some c => .ok (.str ⟨#[c]⟩)
    | none => .no) else .no
  | _, _ => .no
def cutD (xs : List D) (lo hi : Option Int) : List D := (xs.drop (HT.sIx xs.length 0 lo)).take (HT.sIx xs.length xs.length hi - HT.sIx xs.length 0 lo)
/-- a part of a tuple, of a text -/
def vSl (lo hi : Option Int) : D → VR D
  | .tup ds => .ok (.tup (cutD ds lo hi))
  | .str x => if x.length ≤ 16777216 then .ok (.str (cutS x lo hi)) else .no
  | _ => .no
/-- of a list: a new one -/
def vSlL (lo hi : Option Int) : D → VR D
  | .lst ds => .ok (.lst (cutD ds lo hi))
  | .scr ds => .ok (.lst (cutD ds lo hi))
  | _ => .no
def vNeg : D → VR D
  | .int i => .ok (.int (-i))
  | _ => .no
def vLen : List D → VR D
  | [.tup xs] => .ok (.int xs.length)
  | [.lst xs] => .ok (.int xs.length)
  | [.scr xs] => .ok (.int xs.length)
  | [.str x] => if x.length ≤ 16777216 then .ok (.int x.length) else .no
  | _ => .no
def vAbs : List D → VR D
  | [.int i] => .ok (.int (if i < 0 then -i else i))
  | _ => .no
def vMax : List D → VR D
  | [.int i, .int j] => .ok (.int (if j > i then j else i))
  | _ => .no
def vMin : List D → VR D
  | [.int i, .int j] => .ok (.int (if j < i then j else i))
  | _ => .no
def vInt : List D → VR D
  | [.int i] => .ok (.int i)
  | [.bl k] => .ok (.int (if k then 1 else 0))
  | [.str x] => match PySem.intText? x with
    | some n => if x.length ≤ 640 then .ok (.int n) else .no
    | none => .no
  | _ => .no
def vStr : List D → VR D
  | [.int i] => if i.natAbs.log2 < 1920 then .ok (.str (Str.ofString (toString i))) else .no
  | _ => .no
def blsD : List D → Option (List Bool)
  | [] => some []
  | .bl b :: r => (blsD r).map (b :: ·)
  | _ :: _ => none
def vAll : List D → VR D
  | [.lst xs] => match blsD xs with
    | some bs => .ok (.bl (bs.all id))
    | none => .no
  | _ => .no
def vAny : List D → VR D
  | [.lst xs] => match blsD xs with
    | some bs => .ok (.bl (bs.any id))
    | none => .no
  | _ => .no
def vList : List D → VR D
  | [.tup xs] => .ok (.lst xs)
  | [.lst xs] => .ok (.lst xs)
  | [.scr xs] => .ok (.lst xs)
  | _ => .no
def vTuple : List D → VR D
  | [.tup xs] => .ok (.tup xs)
  | [.lst xs] => .ok (.tup xs)
  | [.scr xs] => .ok (.tup xs)
  | _ => .no
def tyD : D → Option String
  | .non => some "NoneType"
  | .bl _ => some "bool"
  | .int _ => some "int"
  | .str _ => some "str"
  | .tup _ => some "tuple"
  | .lst _ => some "list"
  | .scr _ => some "list"
  | _ => none
def vIsi : List D → VR D
  | [d, .cst (.ty T)] => match tyD d with
    | some t => match isiB t T with
      | some b => .ok (.bl b)
      | none => .no
    | none => .no
  | _ => .no
def vTup : List D → VR D := fun ds => if ds.length ≤ 1000 then .ok (.tup ds) else .no
def vLst : List D → VR D := fun ds => if ds.length ≤ 1000 then .ok (.lst ds) else .no
def unstrD : List D → Option (List Str)
  | [] => some []
  | .str x :: r => (unstrD r).map (x :: ·)
  | _ :: _ => none
def vJoin : D → List D → VR D
  | .str a, [.lst xs] => match unstrD xs with
    | some ys => if (ys.map (·.length)).sum + ys.length * a.length ≤ 16777216 then .ok (.str (Txt.join a ys)) else .no
    | none => .no
  | _, _ => .no
/-- new -/
def vSplit : D → List D → VR D
  | .str a, [.str b] => if (b.length == 0) = false ∧ a.length + 2 ≤ 16777216 then .ok (.lst ((Txt.split a b).map D.str)) else .no
  | _, _ => .no

section
variable {st : Sto} {F : Nat → Prop} {w w1 w2 : Va} {d d1 d2 : D}
theorem isi : ∀ {i : Int} , Is st F (.int i) (.int i) := .int _
theorem catW_is {xs ys : List Va} {ds es : List D} {a b : Va} (ha : Is st F a (.tup ds)) (hb : Is st F b (.tup es)) (hx : IsL st F xs ds) (hy : IsL st F ys es) : Is st F (catW a b xs ys) (.tup (ds ++ es)) := by
  cases hx with
  | nil => exact hb
  | cons h t =>
    cases hy with
    | nil => rw [List.append_nil]; exact ha
    | cons h' t' => exact .tup ((IsL.cons h t).append (.cons h' t'))
theorem ov_add : OV2 opAdd vAdd := fun {st F w1 w2 d1 d2} r1 r2 => by
  unfold vAdd
  split
  · rw [r1.int, r2.int]; exact RsOk.here (.int _)
  · rw [r1.str, r2.str]
    unfold opAdd
    dsimp only
    split
    · exact RsOk.here (.str _)
    · exact True.intro
  · obtain ⟨xs, e1, k1⟩ := r1.tup
    obtain ⟨ys, e2, k2⟩ := r2.tup
    split
    · rename_i hl
      rw [← k1.length, ← k2.length] at hl
      rcases e1 with rfl | rfl <;> rcases e2 with rfl | rfl <;> (unfold opAdd; dsimp only; rw [if_pos hl]; refine RsOk.here ?_) <;>
        first
        | exact .tup (k1.append k2)
        | exact catW_is (.ktp k1) (.tup k2) k1 k2
        | exact catW_is (.tup k1) (.ktp k2) k1 k2
        | exact catW_is (.ktp k1) (.ktp k2) k1 k2
    · exact True.intro
  · exact True.intro
theorem ov_sub : OV2 opSub vSub := fun {st F w1 w2 d1 d2} r1 r2 => by
  unfold vSub
  split
  · rw [r1.int, r2.int]; exact RsOk.here (.int _)
  · exact True.intro
theorem ov_mul : OV2 opMul vMul := fun {st F w1 w2 d1 d2} r1 r2 => by
  unfold vMul
  split
  · rw [r1.int, r2.int]
    split
    · rename_i hc
      unfold opMul
      dsimp only
      rw [if_pos hc]
      exact RsOk.here (.int _)
    · exact True.intro
  · exact True.intro
theorem ov_fdiv : OV2 opFdiv vFdiv := fun {st F w1 w2 d1 d2} r1 r2 => by
  unfold vFdiv
  split
  · rw [r1.int, r2.int]
    split
    · rename_i hc
      unfold opFdiv
      dsimp only
      rw [if_pos hc]
      exact RsOk.here (.int _)
    · exact True.intro
  · exact True.intro
theorem ov_mod : OV2 opMod vMod := fun {st F w1 w2 d1 d2} r1 r2 => by
  unfold vMod
  split
  · rw [r1.int, r2.int]
    split
    · rename_i hc
      unfold opMod
      dsimp only
      rw [if_pos hc]
      exact RsOk.here (.int _)
    · exact True.intro
  · exact True.intro
theorem ov_pow : OV2 opPow vPow := fun {st F w1 w2 d1 d2} r1 r2 => by
  unfold vPow
  split
  · rw [r1.int, r2.int]
    split
    · rename_i hc
      unfold opPow
      dsimp only
      rw [if_pos hc]
      exact RsOk.here (.int _)
    · exact True.intro
  · exact True.intro
theorem ov_lt : OV2 opLt vLt := fun {st F w1 w2 d1 d2} r1 r2 => by
  unfold vLt
  split
  · rw [r1.int, r2.int]; exact RsOk.here (.bl _)
  · exact True.intro
theorem ov_gt : OV2 opGt vGt := fun {st F w1 w2 d1 d2} r1 r2 => by
  unfold vGt
  split
  · rw [r1.int, r2.int]; exact RsOk.here (.bl _)
  · exact True.intro
theorem ov_ge : OV2 opGe vGe := fun {st F w1 w2 d1 d2} r1 r2 => by
  unfold vGe
  split
  · rw [r1.int, r2.int]; exact RsOk.here (.bl _)
  · exact True.intro
theorem ov_le : OV2 opLe vLe := fun {st F w1 w2 d1 d2} r1 r2 => by
  unfold vLe
  split
  · rw [r1.int, r2.int]; exact RsOk.here (.bl _)
  · rw [r1.str, r2.str]; exact RsOk.here (.bl _)
  · exact True.intro
theorem scal_is {r : Bool} (r1 : IsB st F w1 d1) (r2 : IsB st F w2 d2) (h : scalD d1 d2 = some r) : scalW w1 w2 = true ∧ eqW w1 w2 = r := by
  unfold scalD at h
  split at h <;> first
    | (cases h; done)
    | (cases h; first
        | (rw [r1.non, r2.non]; exact ⟨rfl, rfl⟩)
        | (rw [r1.non, r2.int]; exact ⟨rfl, rfl⟩)
        | (rw [r1.int, r2.non]; exact ⟨rfl, rfl⟩)
        | (rw [r1.non, r2.bl]; exact ⟨rfl, rfl⟩)
        | (rw [r1.bl, r2.non]; exact ⟨rfl, rfl⟩)
        | (rw [r1.non, r2.str]; exact ⟨rfl, rfl⟩)
        | (rw [r1.str, r2.non]; exact ⟨rfl, rfl⟩)
        | (rw [r1.int, r2.int]; exact ⟨rfl, rfl⟩)
        | (rw [r1.bl, r2.bl]; exact ⟨rfl, rfl⟩)
        | (rw [r1.str, r2.str]; exact ⟨rfl, rfl⟩)
        | (rw [r1.int, r2.str]; exact ⟨rfl, rfl⟩)
        | (rw [r1.str, r2.int]; exact ⟨rfl, rfl⟩)
        | (rw [r1.bl, r2.str]; exact ⟨rfl, rfl⟩)
        | (rw [r1.str, r2.bl]; exact ⟨rfl, rfl⟩))
def flatish : D → Bool
  | .non => true | .bl _ => true | .int _ => true | .str _ => true | _ => false
theorem scal_no (r1 : IsB st F w1 d1) (r2 : IsB st F w2 d2) (h : scalD d1 d2 = none) : scalW w1 w2 = false := by
  have shape : ∀ {w : Va} {d : D}, IsB st F w d → (d = .non ∧ w = .non) ∨ (∃ b, d = .bl b ∧ w = .bl b) ∨ (∃ b, d = .int b ∧ w = .int b) ∨ (∃ b, d = .str b ∧ w = .str b) ∨ (∃ x, w = .tup x) ∨ (∃ x, w = .ktp x) ∨ (∃ x, w = .scr x) ∨ (∃ x, w = .ref x) ∨ ∃ x, w = .cst x := fun {w d} r => by
    rcases r with r | ⟨n, rfl, _⟩
    · cases r <;> simp
    · simp
  rcases shape r1 with ⟨rfl, rfl⟩ | ⟨b, rfl, rfl⟩ | ⟨b, rfl, rfl⟩ | ⟨b, rfl, rfl⟩ | ⟨x, rfl⟩ | ⟨x, rfl⟩ | ⟨x, rfl⟩ | ⟨x, rfl⟩ | ⟨x, rfl⟩ <;>
    rcases shape r2 with ⟨rfl, rfl⟩ | ⟨b', rfl, rfl⟩ | ⟨b', rfl, rfl⟩ | ⟨b', rfl, rfl⟩ | ⟨y, rfl⟩ | ⟨y, rfl⟩ | ⟨y, rfl⟩ | ⟨y, rfl⟩ | ⟨y, rfl⟩ <;>
    first
    | rfl
    | cases h
theorem shaped_depth {p : PyData} (h : SeqAt.shaped p = true) : p.depth ≤ 64 := SeqAt.depth_of_shaped h
theorem ov_eqB (neg : Bool) : OV2 (opEqB neg) (vEqB neg) := fun {st F w1 w2 d1 d2} r1 r2 => by
  unfold vEqB
  split
  · rename_i r h
    obtain ⟨h1, h2⟩ := scal_is r1 r2 h
    unfold opEqB
    rw [if_pos h1, h2]
    exact RsOk.here (.bl _)
  · rename_i h
    have h1 := scal_no r1 r2 h
    split
    · rename_i p q e1 e2
      split
      · rename_i hc
        have hc' := hc
        rw [Bool.and_eq_true] at hc'
        unfold opEqB opEqD
        rw [h1, if_neg Bool.false_ne_true, datB_of r1 e1 (Nat.le_succ_of_le (shaped_depth hc'.1)), datB_of r2 e2 (Nat.le_succ_of_le (shaped_depth hc'.2))]
        dsimp only
        rw [if_pos hc]
        exact RsOk.here (.bl _)
      · exact True.intro
    · exact True.intro
theorem flat_is (r : IsB st F w d) (h : flatD d = true) : flatW w = true := by
  cases d with
  | non => rw [r.non]; rfl
  | bl b => rw [r.bl]; rfl
  | int b => rw [r.int]; rfl
  | str b => rw [r.str]; rfl
  | _ => cases h
theorem flats_is : ∀ {ws : List Va} {ds : List D}, IsL st F ws ds → ds.all flatD = true → ws.all flatW = true
  | _, _, .nil, _ => rfl
  | _, _, .cons r t, h => by
    rw [List.all_cons, Bool.and_eq_true] at h
    rw [List.all_cons, flat_is (.inl r) h.1, flats_is t h.2]
    rfl
theorem eqFl_is (r1 : IsB st F w1 d1) (r2 : IsB st F w2 d2) (h1 : flatD d1 = true) (h2 : flatD d2 = true) : eqW w1 w2 = eqFl d1 d2 := by
  cases d1 with
  | non => rw [r1.non]; cases d2 with
    | non => rw [r2.non]; rfl
    | bl b => rw [r2.bl]; rfl
    | int b => rw [r2.int]; rfl
    | str b => rw [r2.str]; rfl
    | _ => cases h2
  | bl b => rw [r1.bl]; cases d2 with
    | non => rw [r2.non]; rfl
    | bl b => rw [r2.bl]; rfl
    | int b => rw [r2.int]; rfl
    | str b => rw [r2.str]; rfl
    | _ => cases h2
  | int b => rw [r1.int]; cases d2 with
    | non => rw [r2.non]; rfl
    | bl b => rw [r2.bl]; rfl
    | int b => rw [r2.int]; rfl
    | str b => rw [r2.str]; rfl
    | _ => cases h2
  | str b => rw [r1.str]; cases d2 with
    | non => rw [r2.non]; rfl
    | bl b => rw [r2.bl]; rfl
    | int b => rw [r2.int]; rfl
    | str b => rw [r2.str]; rfl
    | _ => cases h2
  | _ => cases h1
theorem anyFl_is (r2 : IsB st F w d) (h2 : flatD d = true) : ∀ {ws : List Va} {ds : List D}, IsL st F ws ds → ds.all flatD = true → (ws.any fun y => eqW y w) = ds.any fun y => eqFl y d
  | _, _, .nil, _ => rfl
  | _, _, .cons r t, h => by
    rw [List.all_cons, Bool.and_eq_true] at h
    rw [List.any_cons, List.any_cons, eqFl_is (.inl r) r2 h.1 h2, anyFl_is r2 h2 t h.2]
theorem depthAll_list {ps : List PyData} (h : SeqAt.shaped (.list ps) = true) : PyData.depthAll ps ≤ 63 := by
  have := shaped_depth h
  rw [PyData.depth] at this
  omega
theorem opIn_tup (neg : Bool) (ys : List Va) (hn : flatW w = true) (hy : ys.all flatW = true) (ht : w1 = .tup ys ∨ w1 = .ktp ys) : opInB neg w w1 st = .ok (.bl (xor neg (ys.any fun y => eqW y w))) st := by
  have hc : (flatW w && ys.all flatW) = true := by rw [hn, hy]; rfl
  rcases ht with rfl | rfl <;> (unfold opInB; cases w <;> first | (cases hn; done) | (dsimp only; rw [if_pos hc]))
theorem ov_inB (neg : Bool) : OV2 (opInB neg) (vInB neg) := fun {st F w1 w2 d1 d2} r1 r2 => by
  unfold vInB
  split
  · split
    · rw [r1.str, r2.str]; exact RsOk.here (.bl _)
    · exact True.intro
  · rename_i ds
    obtain ⟨ys, e2, k2⟩ := r2.tup
    split
    · rename_i hc
      rw [Bool.and_eq_true] at hc
      rw [opIn_tup neg ys (flat_is r1 hc.1) (flats_is k2 hc.2) e2, anyFl_is r1 hc.1 k2 hc.2]
      exact RsOk.here (.bl _)
    · exact True.intro
  · rename_i ds
    split
    · rename_i p qs e1 e2
      split
      · rename_i hc
        have hc' := hc
        rw [Bool.and_eq_true] at hc'
        have x1 := datB_of r1 e1 (Nat.le_succ_of_le (shaped_depth hc'.1))
        obtain ⟨n, ys, rfl, g, k2⟩ := r2.lst
        have x2 := datLB_of k2 e2 (Nat.le_succ_of_le (depthAll_list hc'.2))
        have e : opInB neg w1 (.ref n) st = .ok (.bl (xor neg (qs.any fun z => z.eqv p))) st := by
          have gen : ∀ w, dat st 66 w = some p → opInB neg w (.ref n) st = .ok (.bl (xor neg (qs.any fun z => z.eqv p))) st := fun w x1 => by
            cases w <;> (unfold opInB; dsimp only; rw [g]; dsimp only; rw [x1, x2]; dsimp only; rw [if_pos hc])
          exact gen w1 x1
        rw [e]
        exact RsOk.here (.bl _)
      · exact True.intro
    · exact True.intro
  · rename_i ds
    split
    · rename_i p qs e1 e2
      split
      · rename_i hc
        have hc' := hc
        rw [Bool.and_eq_true] at hc'
        have x1 := datB_of r1 e1 (Nat.le_succ_of_le (shaped_depth hc'.1))
        obtain ⟨ys, rfl, k2⟩ := r2.scr
        have x2 := datLB_of k2 e2 (Nat.le_succ_of_le (depthAll_list hc'.2))
        have e : opInB neg w1 (.scr ys) st = .ok (.bl (xor neg (qs.any fun z => z.eqv p))) st := by
          have gen : ∀ w, dat st 66 w = some p → opInB neg w (.scr ys) st = .ok (.bl (xor neg (qs.any fun z => z.eqv p))) st := fun w x1 => by
            cases w <;> (unfold opInB; dsimp only; rw [x1, x2]; dsimp only; rw [if_pos hc])
          exact gen w1 x1
        rw [e]
        exact RsOk.here (.bl _)
      · exact True.intro
    · exact True.intro
  · exact True.intro
theorem shapeN (r : IsB st F w d) : (d = .non ∧ w = .non) ∨ (∃ x, d = .cst x) ∨ (d ≠ .non ∧ w ≠ .non ∧ ∀ x, w ≠ .cst x) := by
  rcases r with r | ⟨n, rfl, o⟩
  · cases r <;> simp
  · cases o <;> simp
theorem ov_isN : OV2 opIsN vIsN := fun {st F w1 w2 d1 d2} r1 r2 => by
  unfold vIsN
  split
  · rw [r2.non]
    rcases shapeN r1 with ⟨rfl, rfl⟩ | ⟨x, rfl⟩ | ⟨h1, h2, h3⟩
    · exact RsOk.here (.bl _)
    · exact True.intro
    · split
      · exact absurd rfl h1
      · exact True.intro
      · unfold opIsN
        dsimp only
        split
        · exact absurd rfl h2
        · exact absurd rfl (h3 _)
        · exact RsOk.here (.bl _)
  · exact True.intro
theorem ov_notN : OV2 opNotN vNotN := fun {st F w1 w2 d1 d2} r1 r2 => by
  unfold vNotN
  split
  · rw [r2.non]
    rcases shapeN r1 with ⟨rfl, rfl⟩ | ⟨x, rfl⟩ | ⟨h1, h2, h3⟩
    · exact RsOk.here (.bl _)
    · exact True.intro
    · split
      · exact absurd rfl h1
      · exact True.intro
      · unfold opNotN
        dsimp only
        split
        · exact absurd rfl h2
        · exact absurd rfl (h3 _)
        · exact RsOk.here (.bl _)
  · exact True.intro
theorem ov_ix : OV2 opIx vIx := fun {st F w1 w2 d1 d2} r1 r2 => by
  unfold vIx
  split
  · rename_i ds i
    obtain ⟨ws, e1, k1⟩ := r1.tup
    rw [r2.int]
    split
    · rename_i d e
      obtain ⟨w, e2, q⟩ := k1.at e
      rcases e1 with rfl | rfl <;> (unfold opIx; dsimp only; rw [e2]; exact RsOk.here q)
    · exact True.intro
  · rename_i ds i
    rw [r2.int]
    split
    · rename_i d e
      obtain ⟨n, ws, rfl, g, k1⟩ := r1.lst
      obtain ⟨w, e2, q⟩ := k1.at e
      unfold opIx
      dsimp only
      rw [g]
      dsimp only
      rw [e2]
      exact RsOk.here q
    · exact True.intro
  · rename_i ds i
    rw [r2.int]
    split
    · rename_i d e
      obtain ⟨ws, rfl, k1⟩ := r1.scr
      obtain ⟨w, e2, q⟩ := k1.at e
      unfold opIx
      dsimp only
      rw [e2]
      exact RsOk.here q
    · exact True.intro
  · rw [r1.str, r2.int]
    split
    · rename_i hl
      split
      · rename_i c e
        unfold opIx
        dsimp only
        rw [if_pos hl, e]
        exact RsOk.here (.str _)
      · exact True.intro
    · exact True.intro
  · exact True.intro
theorem cut_is {ws : List Va} {ds : List D} (lo hi : Option Int) (k : IsL st F ws ds) : IsL st F (cutW ws lo hi) (cutD ds lo hi) := by
  unfold cutW cutD
  rw [← k.length]
  exact (k.drop _).take _
theorem cut_all {α : Type} {n m : Nat} {xs : List α} (h1 : n = 0) (h2 : m = xs.length) : (xs.drop n).take (m - n) = xs := by
  subst h1 h2
  simp
end

/-! ### judgements -/
section
variable {md : List Md}
theorem vo_none : VO md oNone (fun _ => .ok none) := fun r => RsOk.here rfl
def dSome (v : VM D) : VM (Option Int) := fun ve => vb (v ve) fun d => match d with
  | .int i => .ok (some i)
  | _ => .no
theorem vo_some {m : En → Mo Va} {v : VM D} (h : VB md m v) : VO md (oSome m) (dSome v) := fun r => (h r).bind fun x w d q => by
  cases d with
  | int i => rw [q.int]; exact RsOk.here rfl
  | _ => exact True.intro
def dSl (op : Option Int → Option Int → D → VR D) (m : VM D) (lo hi : VM (Option Int)) : VM D := fun ve => vb (m ve) fun w => vb (lo ve) fun l => vb (hi ve) fun h => op l h w
theorem ve_sl {m : En → Mo Va} {v : VM D} {ml mh : En → Mo (Option Int)} {vl vh : VM (Option Int)} (h : VB md m v) (hl : VO md ml vl) (hh : VO md mh vh) : VE md (eSl m ml mh) (dSl vSl v vl vh) := fun r =>
  (h r).bind fun x w d q => (hl (r.app x)).bind fun y a b e => (hh ((r.app x).app y)).bind fun z a' b' e' => by
    subst e e'
    have q := (q.app y).app z
    unfold vSl
    split
    · obtain ⟨ws, e1, k1⟩ := q.tup
      rcases e1 with rfl | rfl
      · unfold opSl
        exact RsOk.here (.tup (cut_is _ _ k1))
      · unfold opSl
        dsimp only
        split
        · rename_i hz
          refine RsOk.here ?_
          have e2 := cut_is a a' k1
          have e3 : cutW ws a a' = ws := by unfold cutW; exact cut_all hz.1 hz.2
          rw [e3] at e2
          exact .ktp e2
        · exact RsOk.here (.tup (cut_is _ _ k1))
    · rw [q.str]
      split
      · rename_i hl'
        unfold opSl
        dsimp only
        rw [if_pos hl']
        exact RsOk.here (.str _)
      · exact True.intro
    · exact True.intro
theorem new_l {st : Sto} {F : Nat → Prop} {ws : List Va} {ds : List D} (k : IsL st F ws ds) : RsOk F (NewAt st.length F) st (.ok (.ref st.length) (st ++ [.lst ws])) (.ok (.lst ds)) :=
  ⟨_, _, rfl, _, rfl, Nat.le_refl _, .lst (get_mid _ _ []) (k.mono (fun _ _ _ z => get_old z) fun n h z => z.elim id fun z => absurd h (by omega))⟩
theorem RsOk.ge {st : Sto} {F : Nat → Prop} {base base' : Nat} {r : Rs Va} {v : VR D} (h : RsOk F (NewAt base F) st r v) (l : base' ≤ base) : RsOk F (NewAt base' F) st r v := h.imp fun _ _ _ q => q.le l
theorem new_s {st : Sto} {F : Nat → Prop} {ws : List Va} {ds : List D} (x y z : Sto) (k : IsL (st ++ x ++ y ++ z) F ws ds) : RsOk F (NewAt st.length F) (st ++ x ++ y ++ z) (.ok (.ref (st ++ x ++ y ++ z).length) (st ++ x ++ y ++ z ++ [.lst ws])) (.ok (.lst ds)) :=
  (new_l k).ge (by simp only [List.length_append]; omega)
theorem vn_sl {m : En → Mo Va} {v : VM D} {ml mh : En → Mo (Option Int)} {vl vh : VM (Option Int)} (h : VB md m v) (hl : VO md ml vl) (hh : VO md mh vh) : VN md (eSl m ml mh) (dSl vSlL v vl vh) := fun {B F0 st F env ve} r =>
  (h r).bind fun x w d q => (hl (r.app x)).bind fun y a b e => (hh ((r.app x).app y)).bind fun z a' b' e' => by
    subst e e'
    have q := (q.app y).app z
    unfold vSlL
    split
    · obtain ⟨n, ws, rfl, g, k1⟩ := q.lst
      unfold opSl
      dsimp only
      rw [g]
      exact new_s x y z (cut_is _ _ k1)
    · obtain ⟨ws, rfl, k1⟩ := q.scr
      unfold opSl
      exact new_s x y z (cut_is _ _ k1)
    · exact True.intro
theorem ve_neg {m : En → Mo Va} {v : VM D} (h : VB md m v) : VE md (e1 opNeg m) (d1 vNeg v) := fun r => (h r).bind fun x w d q => by
  unfold vNeg
  split
  · rw [q.int]; exact RsOk.here (.int _)
  · exact True.intro
/-- list + list -/
theorem vn_cat {ma mb : En → Mo Va} {a b : VM D} (ha : VB md ma a) (hb : VB md mb b) : VN md (e2 opAdd ma mb) (d2 vCat a b) := fun {B F0 st F env ve} r =>
  (ha r).bind fun x w1 d1 q1 => (hb (r.app x)).bind fun y w2 d2 q2 => by
    have q1 := q1.app y
    unfold vCat
    split
    · split
      · rename_i hl
        obtain ⟨n, ws, rfl, g, k1⟩ := q1.lst
        obtain ⟨m, us, rfl, g2, k2⟩ := q2.lst
        unfold opAdd
        dsimp only
        rw [g, g2]
        dsimp only
        rw [← k1.length, ← k2.length] at hl
        rw [if_pos hl]
        exact (new_l (k1.append k2)).ge (by simp only [List.length_append]; omega)
      · exact True.intro
    · exact True.intro
end
end Vl

set_option Elab.async false
set_option linter.all false
set_option maxRecDepth 100000
set_option maxHeartbeats 4000000
namespace Vl
open PySem PySem.Spec PyProof.Rows L2 Sh

/-! ### built-in calls -/
def ONA (op : List Va → Mo Va) (v : List D → VR D) (ms : List Md) : Prop := ∀ {st : Sto} {F : Nat → Prop} {ws : List Va} {ds : List D}, (∀ n, F n → n < st.length) → IsM st F ms ws ds → RsOk F (NewAt st.length F) st (op ws st) (v ds)
section
variable {st : Sto} {F : Nat → Prop}
theorem ism1 {ms : List Md} {ws : List Va} {d : D} (h : IsM st F ms ws [d]) : ∃ w, ws = [w] ∧ IsB st F w d := by
  cases h with
  | c r t => cases t; exact ⟨_, rfl, .inl r⟩
  | b r t => cases t; exact ⟨_, rfl, r⟩
theorem ism2 {ms : List Md} {ws : List Va} {d e : D} (h : IsM st F ms ws [d, e]) : ∃ w u, ws = [w, u] ∧ IsB st F w d ∧ IsB st F u e := by
  cases h with
  | c r t =>
    obtain ⟨u, rfl, q⟩ := ism1 t
    exact ⟨_, _, rfl, .inl r, q⟩
  | b r t =>
    obtain ⟨u, rfl, q⟩ := ism1 t
    exact ⟨_, _, rfl, r, q⟩
end
theorem oa_len {ms : List Md} : OVA cLen vLen ms := fun {st F ws ds} h => by
  unfold vLen
  split
  · obtain ⟨w, rfl, r⟩ := ism1 h
    obtain ⟨xs, e, k⟩ := r.tup
    rw [← k.length]
    rcases e with rfl | rfl <;> exact RsOk.here (.int _)
  · obtain ⟨w, rfl, r⟩ := ism1 h
    obtain ⟨n, xs, rfl, g, k⟩ := r.lst
    rw [← k.length]
    unfold cLen
    dsimp only
    rw [g]
    exact RsOk.here (.int _)
  · obtain ⟨w, rfl, r⟩ := ism1 h
    obtain ⟨xs, rfl, k⟩ := r.scr
    rw [← k.length]
    exact RsOk.here (.int _)
  · obtain ⟨w, rfl, r⟩ := ism1 h
    rw [r.str]
    split
    · rename_i hl
      unfold cLen
      dsimp only
      rw [if_pos hl]
      exact RsOk.here (.int _)
    · exact True.intro
  · exact True.intro
theorem oa_abs {ms : List Md} : OVA cAbs vAbs ms := fun {st F ws ds} h => by
  unfold vAbs
  split
  · obtain ⟨w, rfl, r⟩ := ism1 h
    rw [r.int]
    exact RsOk.here (.int _)
  · exact True.intro
theorem oa_max {ms : List Md} : OVA cMax vMax ms := fun {st F ws ds} h => by
  unfold vMax
  split
  · obtain ⟨w, u, rfl, r, q⟩ := ism2 h
    rw [r.int, q.int]
    exact RsOk.here (.int _)
  · exact True.intro
theorem oa_min {ms : List Md} : OVA cMin vMin ms := fun {st F ws ds} h => by
  unfold vMin
  split
  · obtain ⟨w, u, rfl, r, q⟩ := ism2 h
    rw [r.int, q.int]
    exact RsOk.here (.int _)
  · exact True.intro
theorem oa_int {ms : List Md} : OVA cInt vInt ms := fun {st F ws ds} h => by
  unfold vInt
  split
  · obtain ⟨w, rfl, r⟩ := ism1 h
    rw [r.int]
    exact RsOk.here (.int _)
  · obtain ⟨w, rfl, r⟩ := ism1 h
    rw [r.bl]
    exact RsOk.here (.int _)
  · obtain ⟨w, rfl, r⟩ := ism1 h
    rw [r.str]
    split
    · rename_i n e
      split
      · rename_i hl
        unfold cInt
        dsimp only
        rw [e]
        dsimp only
        rw [if_pos hl]
        exact RsOk.here (.int _)
      · exact True.intro
    · exact True.intro
  · exact True.intro
theorem oa_str {ms : List Md} : OVA cStr vStr ms := fun {st F ws ds} h => by
  unfold vStr
  split
  · obtain ⟨w, rfl, r⟩ := ism1 h
    rw [r.int]
    split
    · rename_i hl
      unfold cStr
      dsimp only
      rw [if_pos hl]
      exact RsOk.here (.str _)
    · exact True.intro
  · exact True.intro
theorem bls_is {st : Sto} {F : Nat → Prop} : ∀ {ws : List Va} {ds : List D} {bs : List Bool}, IsL st F ws ds → blsD ds = some bs → blsW ws = some bs
  | _, _, _, .nil, e => by cases e; rfl
  | _, d :: ds, bs, .cons r t, e => by
    cases d with
    | bl b =>
      have e' : (blsD ds).map (b :: ·) = some bs := e
      rw [Option.map_eq_some_iff] at e'
      obtain ⟨bs', e1, rfl⟩ := e'
      rw [(IsB.of r).bl]
      show (blsW _).map (b :: ·) = _
      rw [bls_is t e1]
      rfl
    | _ => cases e
theorem oa_all {ms : List Md} : OVA cAll vAll ms := fun {st F ws ds} h => by
  unfold vAll
  split
  · obtain ⟨w, rfl, r⟩ := ism1 h
    obtain ⟨n, xs, rfl, g, k⟩ := r.lst
    split
    · rename_i bs e
      unfold cAll
      dsimp only
      rw [g]
      dsimp only
      rw [bls_is k e]
      exact RsOk.here (.bl _)
    · exact True.intro
  · exact True.intro
theorem oa_any {ms : List Md} : OVA cAny vAny ms := fun {st F ws ds} h => by
  unfold vAny
  split
  · obtain ⟨w, rfl, r⟩ := ism1 h
    obtain ⟨n, xs, rfl, g, k⟩ := r.lst
    split
    · rename_i bs e
      unfold cAny
      dsimp only
      rw [g]
      dsimp only
      rw [bls_is k e]
      exact RsOk.here (.bl _)
    · exact True.intro
  · exact True.intro
theorem oa_tuple {ms : List Md} : OVA cTuple vTuple ms := fun {st F ws ds} h => by
  unfold vTuple
  split
  · obtain ⟨w, rfl, r⟩ := ism1 h
    obtain ⟨xs, e, k⟩ := r.tup
    rcases e with rfl | rfl
    · exact RsOk.here (.tup k)
    · exact RsOk.here (.ktp k)
  · obtain ⟨w, rfl, r⟩ := ism1 h
    obtain ⟨n, xs, rfl, g, k⟩ := r.lst
    unfold cTuple
    dsimp only
    rw [g]
    exact RsOk.here (.tup k)
  · obtain ⟨w, rfl, r⟩ := ism1 h
    obtain ⟨xs, rfl, k⟩ := r.scr
    exact RsOk.here (.tup k)
  · exact True.intro
theorem on_list {ms : List Md} : ONA cList vList ms := fun {st F ws ds} _ h => by
  unfold vList
  split
  · obtain ⟨w, rfl, r⟩ := ism1 h
    obtain ⟨xs, e, k⟩ := r.tup
    rcases e with rfl | rfl <;> exact new_l k
  · obtain ⟨w, rfl, r⟩ := ism1 h
    obtain ⟨n, xs, rfl, g, k⟩ := r.lst
    unfold cList
    dsimp only
    rw [g]
    exact new_l k
  · obtain ⟨w, rfl, r⟩ := ism1 h
    obtain ⟨xs, rfl, k⟩ := r.scr
    exact new_l k
  · exact True.intro
theorem ty_is {st : Sto} {F : Nat → Prop} {w : Va} {d : D} {t : String} (r : IsB st F w d) (e : tyD d = some t) : tyW st w = some t := by
  cases d with
  | non => rw [r.non]; exact e
  | bl b => rw [r.bl]; exact e
  | int b => rw [r.int]; exact e
  | str b => rw [r.str]; exact e
  | tup ds => obtain ⟨xs, q, _⟩ := r.tup; rcases q with rfl | rfl <;> exact e
  | lst ds =>
    obtain ⟨n, xs, rfl, g, _⟩ := r.lst
    unfold tyW
    dsimp only
    rw [g]
    exact e
  | scr ds => obtain ⟨xs, rfl, _⟩ := r.scr; exact e
  | _ => cases e
theorem oa_isi {ms : List Md} : OVA cIsi vIsi ms := fun {st F ws ds} h => by
  unfold vIsi
  split
  · obtain ⟨w, u, rfl, r, q⟩ := ism2 h
    rw [q.cst]
    split
    · rename_i t e1
      split
      · rename_i b e2
        unfold cIsi
        dsimp only
        rw [ty_is r e1]
        dsimp only
        rw [e2]
        exact RsOk.here (.bl _)
      · exact True.intro
    · exact True.intro
  · exact True.intro
section
variable {md : List Md}
theorem vn_A {op : List Va → Mo Va} {v : List D → VR D} {ms : List Md} {m : En → Mo (List Va)} {vv : VM (List D)} (ho : ONA op v ms) (h : VA md ms m vv) : VN md (eA op m) (dA v vv) := fun {B F0 st F env ve} r =>
  (h r).bind fun x w d q => (ho (r.app x).lt q).ge (by rw [List.length_append]; omega)
theorem ve_tup {m : En → Mo (List Va)} {vv : VM (List D)} (h : VAL md m vv) : VE md (eA opTup m) (dA vTup vv) := fun r => (h r).bind fun x ws ds q => by
  unfold opTup vTup
  rw [q.length]
  split
  · exact RsOk.here (.tup q)
  · exact True.intro
theorem vf_tup {m : En → Mo (List Va)} {vv : VM (List D)} (h : VAF md m vv) : VF md (eA opTup m) (dA vTup vv) := fun r => (h r).bind fun x ws ds q => by
  unfold opTup vTup
  rw [q.length]
  split
  · exact RsOk.here (.tup q)
  · exact True.intro
theorem vn_lst {m : En → Mo (List Va)} {vv : VM (List D)} (h : VAL md m vv) : VN md (eA opLst m) (dA vLst vv) := fun {B F0 st F env ve} r => (h r).bind fun x ws ds q => by
  unfold opLst vLst
  rw [q.length]
  split
  · exact (new_l q).ge (by rw [List.length_append]; omega)
  · exact True.intro
theorem vf_lst {m : En → Mo (List Va)} {vv : VM (List D)} (h : VAF md m vv) : VF md (eA opLst m) (dA vLst vv) := fun {B F0 st F env ve} r => (h r).bind fun x ws ds q => by
  unfold opLst vLst
  rw [q.length]
  split
  · refine ⟨_, _, rfl, .ref (fun z => ?_) (get_mid _ _ []) (q.app _)⟩
    have h1 := r.f0 _ z
    have h2 := r.ble
    rw [List.length_append] at h1
    omega
  · exact True.intro
/-! methods -/
def isTd (T : String) : D → Bool
  | .str _ => decide (T = "str")
  | .lst _ => decide (T = "list")
  | .scr _ => decide (T = "list")
  | _ => false
theorem isTd_is {T : String} {st : Sto} {F : Nat → Prop} {w : Va} {d : D} (r : IsB st F w d) (h : isTd T d = true) : isT T st w = true := by
  cases d with
  | str x => rw [r.str]; exact h
  | lst ds =>
    obtain ⟨n, ws, rfl, g, k⟩ := r.lst
    unfold isT
    dsimp only
    rw [g]
    exact h
  | scr ds => obtain ⟨ws, rfl, k⟩ := r.scr; exact h
  | _ => cases h
def dMt (T : String) (op : D → List D → VR D) (m : VM D) (ma : VM (List D)) : VM D := fun ve => vb (m ve) fun d => if isTd T d = true then vb (ma ve) fun ds => op d ds else .no
/-- a built-in method that gives a value, a new object -/
def OMA (op : Va → List Va → Mo Va) (v : D → List D → VR D) (ms : List Md) : Prop := ∀ {st : Sto} {F : Nat → Prop} {w : Va} {d : D} {ws : List Va} {ds : List D}, IsB st F w d → IsM st F ms ws ds → RsOk F (fun st w d => Is st F w d) st (op w ws st) (v d ds)
def OMN (op : Va → List Va → Mo Va) (v : D → List D → VR D) (ms : List Md) : Prop := ∀ {st : Sto} {F : Nat → Prop} {w : Va} {d : D} {ws : List Va} {ds : List D}, IsB st F w d → IsM st F ms ws ds → RsOk F (NewAt st.length F) st (op w ws st) (v d ds)
theorem ve_mt {T : String} {op : Va → List Va → Mo Va} {o : D → List D → VR D} {m : En → Mo Va} {v : VM D} {ms : List Md} {ma : En → Mo (List Va)} {vv : VM (List D)} (ho : OMA op o ms) (h : VB md m v) (ha : VA md ms ma vv) : VE md (eMt T op m ma) (dMt T o v vv) := fun r =>
  (h r).bind fun x w d q => by
    by_cases ht : isTd T d = true
    · rw [if_pos (isTd_is q ht), if_pos ht]
      exact (ha (r.app x)).bind fun y ws ds q2 => ho (q.app y) q2
    · rw [if_neg ht]
      exact True.intro
theorem vn_mt {T : String} {op : Va → List Va → Mo Va} {o : D → List D → VR D} {m : En → Mo Va} {v : VM D} {ms : List Md} {ma : En → Mo (List Va)} {vv : VM (List D)} (ho : OMN op o ms) (h : VB md m v) (ha : VA md ms ma vv) : VN md (eMt T op m ma) (dMt T o v vv) := fun r =>
  (h r).bind fun x w d q => by
    by_cases ht : isTd T d = true
    · rw [if_pos (isTd_is q ht), if_pos ht]
      exact (ha (r.app x)).bind fun y ws ds q2 => (ho (q.app y) q2).ge (by simp only [List.length_append]; omega)
    · rw [if_neg ht]
      exact True.intro
theorem unstr_is {st : Sto} {F : Nat → Prop} : ∀ {ws : List Va} {ds : List D} {ys : List Str}, IsL st F ws ds → unstrD ds = some ys → unstr ws = some ys
  | _, _, _, .nil, e => by cases e; rfl
  | _, d :: ds, bs, .cons r t, e => by
    cases d with
    | str b =>
      have e' : (unstrD ds).map (b :: ·) = some bs := e
      rw [Option.map_eq_some_iff] at e'
      obtain ⟨bs', e1, rfl⟩ := e'
      rw [(IsB.of r).str]
      show (unstr _).map (b :: ·) = _
      rw [unstr_is t e1]
      rfl
    | _ => cases e
theorem om_join {ms : List Md} : OMA mJoin vJoin ms := fun {st F w d ws ds} q q2 => by
  unfold vJoin
  split
  · rw [q.str]
    obtain ⟨w, rfl, q3⟩ := ism1 q2
    obtain ⟨n, us, rfl, g, k⟩ := q3.lst
    split
    · rename_i ys e1
      split
      · rename_i hl
        unfold mJoin
        dsimp only
        rw [g]
        dsimp only
        rw [unstr_is k e1]
        dsimp only
        rw [if_pos hl]
        exact RsOk.here (.str _)
      · exact True.intro
    · exact True.intro
  · exact True.intro
theorem strs_is {st : Sto} {F : Nat → Prop} : ∀ ys : List Str, IsL st F (strsW ys) (ys.map D.str)
  | [] => .nil
  | y :: ys => .cons (.str y) (strs_is ys)
theorem om_split {ms : List Md} : OMN mSplit vSplit ms := fun {st F w d ws ds} q q2 => by
  unfold vSplit
  split
  · rw [q.str]
    obtain ⟨w, rfl, q3⟩ := ism1 q2
    rw [q3.str]
    split
    · rename_i hl
      unfold mSplit
      dsimp only
      rw [if_pos hl]
      exact new_l (strs_is _)
    · exact True.intro
  · exact True.intro
/-! fields of an instance -/
def dFld (cs : List Nat) (f : Str) (m : VM D) : VM D := fun ve => vb (m ve) fun d => match d with
  | .ins c fs => if c ∈ cs then (match fs.lookup f with
    | some x => .ok x
    | none => .no) else .no
  | _ => .no
theorem ve_fld {cs : List Nat} {f : Str} {m : En → Mo Va} {v : VM D} (h : VB md m v) : VE md (eFld cs f m) (dFld cs f v) := fun r => (h r).bind fun x w d q => by
  cases d with
  | ins c fs =>
    obtain ⟨n, ws, rfl, g, k⟩ := q.ins
    dsimp only
    rw [g]
    dsimp only
    by_cases hc : c ∈ cs
    · rw [if_pos hc, if_pos hc]
      cases e : fs.lookup f with
      | none => exact True.intro
      | some y =>
        obtain ⟨u, e2, q2⟩ := k.lookup e
        rw [e2]
        exact RsOk.here q2
    · rw [if_neg hc, if_neg hc]
      exact True.intro
  | _ => exact True.intro
theorem IsF.none {st : Sto} {F : Nat → Prop} {f : Str} : ∀ {ws : List (Str × Va)} {ds : List (Str × D)}, IsF st F ws ds → ds.lookup f = none → ws.lookup f = none
  | _, _, .nil, _ => rfl
  | (k, w) :: ws, (_, d') :: ds, .cons r t, e => by
    rw [List.lookup_cons] at e ⊢
    cases h : (f == k) with
    | true => rw [h] at e; cases e
    | false => rw [h] at e; exact IsF.none t e
theorem isIns_is {st : Sto} {k c c' : Nat} {m : Str} {ws : List (Str × Va)} (g : st[k]? = some (.ins c' ws)) (h1 : c' = c) (h2 : ws.lookup m = none) : isIns c m st (.ref k) = true := by
  unfold isIns
  dsimp only
  rw [g]
  dsimp only
  rw [h2, decide_eq_true h1]
  rfl
def dMeth (c : Nat) (m : Str) (n : Nat) (f : List D → VR D) (mo : VM D) (ma : VM (List D)) : VM D := fun ve => vb (mo ve) fun d => match d with
  | .ins c' fs => if c' = c ∧ fs.lookup m = none then vb (ma ve) fun ds => dLen n f (d :: ds) else .no
  | _ => .no
theorem ve_meth {c : Nat} {m : Str} {n : Nat} {f : Fn} {v : List D → VR D} {ms : List Md} {mo : En → Mo Va} {ma : En → Mo (List Va)} {vo : VM D} {va : VM (List D)} (ho : VFn (.b :: ms) f v) (h : VB md mo vo) (ha : VA md ms ma va) :
    VE md (eMeth c m n f mo ma) (dMeth c m n v vo va) := fun r => (h r).bind fun x w d q => by
  cases d with
  | ins c' fs =>
    dsimp only
    by_cases hc : c' = c ∧ fs.lookup m = none
    · obtain ⟨k, ws, rfl, g, kf⟩ := q.ins
      have hi := isIns_is g hc.1 (kf.none hc.2)
      rw [if_pos hi, if_pos hc]
      refine (ha (r.app x)).bind fun y us ds q2 => ?_
      unfold lenOk dLen
      have hq := IsM.b (q.app y) q2
      rw [hq.length.1]
      split
      · exact ho ((r.app x).app y).lt hq
      · exact True.intro
    · rw [if_neg hc]
      exact True.intro
  | _ => exact True.intro
/-- an object is made -/
def VMk (c n : Nat) (f : Fn) (v : List D → VR D) (ms : List Md) : Prop := ONA (opMake c n f) v ms
end

/-! ### statements -/
inductive VFl where
  | nx (ve : VEn) | rt (d : D) | bk (ve : VEn) | ct (ve : VEn) | xc (c : Nat) (fs : List (Str × D)) (ve : VEn) | no
abbrev VSm := VEn → VFl
structure Step (B : Nat) (st : Sto) (F : Nat → Prop) (st' : Sto) (F' : Nat → Prop) : Prop where
  le : st.length ≤ st'.length
  keep : ∀ n o, (F n → n < B) → st[n]? = some o → st'[n]? = some o
  mono : ∀ n, F n → F' n
  new : ∀ n, F' n → n < st.length → F n
section
variable {B : Nat} {st st1 st2 : Sto} {F F1 F2 : Nat → Prop}
theorem Step.refl : Step B st F st F := ⟨Nat.le_refl _, fun _ _ _ z => z, fun _ z => z, fun _ z _ => z⟩
theorem Step.app (x : Sto) : Step B st F (st ++ x) F := ⟨by rw [List.length_append]; omega, fun _ _ _ z => get_old z, fun _ z => z, fun _ z _ => z⟩
theorem Step.trans (a : Step B st F st1 F1) (b : Step B st1 F1 st2 F2) : Step B st F st2 F2 where
  le := Nat.le_trans a.le b.le
  keep := fun n o h e => b.keep n o (fun z => h (a.new n z (lt_of_get e))) (a.keep n o h e)
  mono := fun n z => b.mono n (a.mono n z)
  new := fun n z h => a.new n (b.new n z (Nat.lt_of_lt_of_le h a.le)) h
theorem Step.is {w : Va} {d : D} (s : Step B st F st1 F1) (h : Is st F w d) : Is st1 F1 w d := h.mono (fun n o q e => s.keep n o (fun z => absurd z q) e) fun n q z => s.new n z q
theorem Step.isL {w : List Va} {d : List D} (s : Step B st F st1 F1) (h : IsL st F w d) : IsL st1 F1 w d := h.mono (fun n o q e => s.keep n o (fun z => absurd z q) e) fun n q z => s.new n z q
end
def FlOk (md : List Md) (B : Nat) (F0 : Nat → Prop) (st : Sto) (F : Nat → Prop) (r : Fl) : VFl → Prop
  | .nx ve' => ∃ env' st' F', r = .nx env' st' ∧ Step B st F st' F' ∧ Rel md B F0 st' F' env' ve'
  | .bk ve' => ∃ env' st' F', r = .bk env' st' ∧ Step B st F st' F' ∧ Rel md B F0 st' F' env' ve'
  | .ct ve' => ∃ env' st' F', r = .ct env' st' ∧ Step B st F st' F' ∧ Rel md B F0 st' F' env' ve'
  | .rt d => ∃ w st' F', r = .rt w st' ∧ Step B st F st' F' ∧ Is st' F0 w d
  | .xc c fs ve' => ∃ env' st' F' fs', r = .xc c fs' env' st' ∧ Step B st F st' F' ∧ Rel md B F0 st' F' env' ve' ∧ IsF st' F0 fs' fs
  | .no => True
def VS (md : List Md) (m : Sm) (v : VSm) : Prop := ∀ {B F0 st F env ve}, Rel md B F0 st F env ve → FlOk md B F0 st F (m env st) (v ve)
section
variable {md : List Md} {B : Nat} {F0 : Nat → Prop} {st st1 : Sto} {F F1 : Nat → Prop} {r : Fl} {v : VFl}
theorem FlOk.pre (s : Step B st F st1 F1) (h : FlOk md B F0 st1 F1 r v) : FlOk md B F0 st F r v := by
  cases v with
  | nx ve => obtain ⟨a, b, c, e, s1, q⟩ := h; exact ⟨a, b, c, e, s.trans s1, q⟩
  | bk ve => obtain ⟨a, b, c, e, s1, q⟩ := h; exact ⟨a, b, c, e, s.trans s1, q⟩
  | ct ve => obtain ⟨a, b, c, e, s1, q⟩ := h; exact ⟨a, b, c, e, s.trans s1, q⟩
  | rt d => obtain ⟨a, b, c, e, s1, q⟩ := h; exact ⟨a, b, c, e, s.trans s1, q⟩
  | xc c fs ve => obtain ⟨a, b, c, d, e, s1, q⟩ := h; exact ⟨a, b, c, d, e, s.trans s1, q⟩
  | no => exact True.intro
end
def dBS {α : Type} (ve : VEn) (r : VR α) (f : α → VFl) : VFl := match r with
  | .ok a => f a
  | .exc c fs => .xc c fs ve
  | .no => .no
theorem FlOk.bS {md : List Md} {B : Nat} {F0 : Nat → Prop} {st : Sto} {F : Nat → Prop} {env : En} {ve : VEn} {α β : Type} {R : Sto → α → β → Prop} {r : Rs α} {v : VR β} {f : α → Sto → Fl} {g : β → VFl} (rel : Rel md B F0 st F env ve) (h : RsOk F R st r v)
    (k : ∀ x a b, R (st ++ x) a b → Rel md B F0 (st ++ x) F env ve → FlOk md B F0 (st ++ x) F (f a (st ++ x)) (g b)) : FlOk md B F0 st F (bS env r f) (dBS ve v g) := by
  cases v with
  | no => exact True.intro
  | exc c fs =>
    obtain ⟨fs', x, rfl, q⟩ := h
    exact ⟨env, st ++ x, F, fs', rfl, Step.app x, rel.app x, q.mono (fun _ _ _ z => z) fun n _ z => rel.sub n z⟩
  | ok b =>
    obtain ⟨a, x, rfl, q⟩ := h
    exact FlOk.pre (Step.app x) (k x a b q (rel.app x))
def dsNil : VSm := fun ve => .nx ve
def dsSeq (m n : VSm) : VSm := fun ve => match m ve with
  | .nx ve' => n ve'
  | o => o
def dsSet (i : Nat) (m : VM D) : VSm := fun ve => dBS ve (m ve) fun d => .nx (ve.set i (some d))
def dsRet (m : VM D) : VSm := fun ve => dBS ve (m ve) fun d => .rt d
def dsRetN : VSm := fun _ => .rt .non
def dsExpr (m : VM D) : VSm := fun ve => dBS ve (m ve) fun _ => .nx ve
def dsIf (t : VM Bool) (m n : VSm) : VSm := fun ve => dBS ve (t ve) fun b => if b = true then m ve else n ve
def dsBrk : VSm := fun ve => .bk ve
def dsCnt : VSm := fun ve => .ct ve
section
variable {md : List Md}
theorem Rel.set {B : Nat} {F0 : Nat → Prop} {st : Sto} {F : Nat → Prop} {env : En} {ve : VEn} (h : Rel md B F0 st F env ve) {i : Nat} (hi : mdAt md i = .c) {w : Va} {d : D} (r : Is st F w d) : Rel md B F0 st F (env.set i (some w)) (ve.set i (some d)) where
  len := by rw [List.length_set, List.length_set, h.len]
  slot := fun j e q => by
    by_cases hj : j = i
    · subst hj
      have hl : j < ve.length := by
        have := lt_of_get q
        simpa using this
      rw [List.getElem?_set_self hl] at q
      cases q
      refine ⟨w, by rw [List.getElem?_set_self (by rw [h.len]; exact hl)], ?_⟩
      rw [hi]
      exact r
    · rw [List.getElem?_set_ne (Ne.symm hj)] at q
      obtain ⟨u, q1, q2⟩ := h.slot j e q
      exact ⟨u, by rw [List.getElem?_set_ne (Ne.symm hj)]; exact q1, q2⟩
  dis := fun j k n a b hjk m1 m2 e1 e2 e3 e4 => by
    have n1 : j ≠ i := fun z => by rw [z, hi] at m1; cases m1
    have n2 : k ≠ i := fun z => by rw [z, hi] at m2; cases m2
    rw [List.getElem?_set_ne (Ne.symm n1)] at e1 e3
    rw [List.getElem?_set_ne (Ne.symm n2)] at e2 e4
    exact h.dis j k n a b hjk m1 m2 e1 e2 e3 e4
  sub := h.sub
  up := h.up
  f0 := h.f0
  lt := h.lt
  ble := h.ble
  exn := fun j hj => by
    have n1 : j ≠ i := fun z => by rw [z, hi] at hj; cases hj
    rw [List.getElem?_set_ne (Ne.symm n1)]
    exact h.exn j hj
theorem vs_nil : VS md sNil dsNil := fun {B F0 st F env ve} r => ⟨env, st, F, rfl, Step.refl, r⟩
theorem vs_pass : VS md sPass dsNil := fun {B F0 st F env ve} r => ⟨env, st, F, rfl, Step.refl, r⟩
theorem vs_brk : VS md sBrk dsBrk := fun {B F0 st F env ve} r => ⟨env, st, F, rfl, Step.refl, r⟩
theorem vs_cnt : VS md sCnt dsCnt := fun {B F0 st F env ve} r => ⟨env, st, F, rfl, Step.refl, r⟩
theorem vs_seq {m n : Sm} {a b : VSm} (h : VS md m a) (h2 : VS md n b) : VS md (sSeq m n) (dsSeq a b) := fun {B F0 st F env ve} r => by
  have h1 := h r
  unfold sSeq dsSeq
  revert h1
  cases q : a ve with
  | nx ve' =>
    rintro ⟨env', st', F', e, s, r'⟩
    rw [e]
    exact FlOk.pre s (h2 r')
  | rt d => rintro ⟨w, st', F', e, s, r'⟩; rw [e]; exact ⟨w, st', F', rfl, s, r'⟩
  | bk d => rintro ⟨w, st', F', e, s, r'⟩; rw [e]; exact ⟨w, st', F', rfl, s, r'⟩
  | ct d => rintro ⟨w, st', F', e, s, r'⟩; rw [e]; exact ⟨w, st', F', rfl, s, r'⟩
  | xc c fs d => rintro ⟨w, st', F', fs', e, s, r'⟩; rw [e]; exact ⟨w, st', F', fs', rfl, s, r'⟩
  | no => exact fun _ => True.intro
theorem vs_set (i : Nat) {m : En → Mo Va} {v : VM D} (h : VE md m v) (hi : mdAt md i = .c := by rfl) : VS md (sSet i m) (dsSet i v) := fun {B F0 st F env ve} r =>
  FlOk.bS r (h r) fun x w d q r' => ⟨_, _, F, rfl, Step.refl, r'.set hi q⟩
theorem Rel.grow {B : Nat} {F0 : Nat → Prop} {st st' : Sto} {F F' : Nat → Prop} {env : En} {ve : VEn} (h : Rel md B F0 st F env ve) (k : ∀ (n : Nat) (o : Ob), st[n]? = some o → st'[n]? = some o) (f : ∀ n, n < st.length → F' n → F n) (g : ∀ n, F n → F' n) (lt : ∀ n, F' n → n < st'.length) : Rel md B F0 st' F' env ve where
  len := h.len
  slot := fun i d e => by
    obtain ⟨w, e1, s⟩ := h.slot i d e
    refine ⟨w, e1, ?_⟩
    cases q : mdAt md i with
    | a =>
      rw [q] at s
      obtain ⟨n, e2, ff, b, o⟩ := s
      exact ⟨n, e2, g n ff, b, o.mono (fun o => k n o) (fun n o _ => k n o) f⟩
    | b =>
      rw [q] at s
      exact s.mono (fun n o _ => k n o) f g (by intro z; cases z)
    | c =>
      rw [q] at s
      exact Is.mono (fun n o _ => k n o) f s
    | x =>
      rw [q] at s
      exact s.elim
  dis := h.dis
  sub := fun n z => g n (h.sub n z)
  up := fun n z => by
    by_cases hn : n < st.length
    · exact h.up n (f n hn z)
    · exact .inr (Nat.le_trans h.ble (Nat.le_of_not_lt hn))
  f0 := h.f0
  lt := lt
  ble := by
    have h1 := h.ble
    rcases Nat.eq_zero_or_pos st.length with e | e
    · omega
    · have : st.length - 1 < st.length := by omega
      have := lt_of_get (k (st.length - 1) _ (List.getElem?_eq_getElem this))
      omega
  exn := h.exn
theorem Rel.setA {B : Nat} {F0 : Nat → Prop} {st : Sto} {F : Nat → Prop} {env : En} {ve : VEn} (h : Rel md B F0 st F env ve) {i n : Nat} {d : D} (hi : mdAt md i = .a) (hn : F n) (hb : B ≤ n) (o : ObIs st F n d)
    (no : ∀ j, j ≠ i → mdAt md j = .a → (∃ e, ve[j]? = some (some e)) → env[j]? ≠ some (some (.ref n))) : Rel md B F0 st F (env.set i (some (.ref n))) (ve.set i (some d)) where
  len := by rw [List.length_set, List.length_set, h.len]
  slot := fun j e q => by
    by_cases hj : j = i
    · subst hj
      have hl : j < ve.length := by
        have := lt_of_get q
        simpa using this
      rw [List.getElem?_set_self hl] at q
      cases q
      refine ⟨_, by rw [List.getElem?_set_self (by rw [h.len]; exact hl)], ?_⟩
      rw [hi]
      exact ⟨n, rfl, hn, hb, o⟩
    · rw [List.getElem?_set_ne (Ne.symm hj)] at q
      obtain ⟨u, q1, q2⟩ := h.slot j e q
      exact ⟨u, by rw [List.getElem?_set_ne (Ne.symm hj)]; exact q1, q2⟩
  dis := fun j k m a b hjk m1 m2 e1 e2 e3 e4 => by
    have self : ∀ {m : Nat} {x : Va}, (env.set i (some x))[i]? = some (some (.ref m)) → x = .ref m := fun {m x} e => by
      have hl : i < env.length := by
        have := lt_of_get e
        simpa using this
      rw [List.getElem?_set_self hl] at e
      cases e
      rfl
    by_cases n1 : j = i
    · subst n1
      have n2 : k ≠ j := Ne.symm hjk
      rw [List.getElem?_set_ne (Ne.symm n2)] at e2 e4
      have e := self e3
      cases e
      exact no k n2 m2 ⟨_, e2⟩ e4
    · rw [List.getElem?_set_ne (Ne.symm n1)] at e1 e3
      by_cases n2 : k = i
      · subst n2
        have e := self e4
        cases e
        exact no j n1 m1 ⟨_, e1⟩ e3
      · rw [List.getElem?_set_ne (Ne.symm n2)] at e2 e4
        exact h.dis j k m a b hjk m1 m2 e1 e2 e3 e4
  sub := h.sub
  up := h.up
  f0 := h.f0
  lt := h.lt
  ble := h.ble
  exn := fun j hj => by
    have n1 : j ≠ i := fun z => by rw [z, hi] at hj; cases hj
    rw [List.getElem?_set_ne (Ne.symm n1)]
    exact h.exn j hj
/-- a list of the call's own -/
theorem vs_setN (i : Nat) {m : En → Mo Va} {v : VM D} (h : VN md m v) (hi : mdAt md i = .a := by rfl) : VS md (sSet i m) (dsSet i v) := fun {B F0 st F env ve} r => by
  have hh := h r
  unfold sSet dsSet
  revert hh
  cases v ve with
  | no => exact fun _ => True.intro
  | exc c fs =>
    rintro ⟨fs', x, e, q⟩
    rw [e]
    exact ⟨env, st ++ x, F, fs', rfl, Step.app x, r.app x, q.mono (fun _ _ _ z => z) fun n _ z => r.sub n z⟩
  | ok d =>
    rintro ⟨w, x, e, n, rfl, hn, o⟩
    rw [e]
    have hlt := o.lt
    have r' : Rel md B F0 (st ++ x) (fun k => F k ∨ k = n) env ve := r.grow (fun _ _ z => get_old z) (fun k hk z => z.elim id fun z => absurd hk (by omega)) (fun _ z => .inl z) fun k z => z.elim (fun z => by have := r.lt k z; rw [List.length_append]; omega) fun z => by rw [z]; exact hlt
    refine ⟨_, st ++ x, fun k => F k ∨ k = n, rfl, ⟨by rw [List.length_append]; omega, fun _ _ _ z => get_old z, fun _ z => .inl z, fun k z hk => z.elim id fun z => absurd hk (by omega)⟩, r'.setA hi (.inr rfl) (Nat.le_trans r.ble hn) o ?_⟩
    rintro j hj hm ⟨e', q⟩ q2
    obtain ⟨w', q3, q4⟩ := r.slot j e' q
    rw [hm] at q4
    obtain ⟨n', rfl, hf, _, _⟩ := q4
    rw [q2] at q3
    cases q3
    have := r.lt n hf
    omega
theorem vs_ret {m : En → Mo Va} {v : VM D} (h : VF md m v) : VS md (sRet m) (dsRet v) := fun {B F0 st F env ve} r => by
  have hh := h r
  unfold sRet dsRet
  revert hh
  cases v ve with
  | no => exact fun _ => True.intro
  | exc c fs =>
    rintro ⟨fs', x, e, q⟩
    rw [e]
    exact ⟨env, st ++ x, F, fs', rfl, Step.app x, r.app x, q.mono (fun _ _ _ z => z) fun n _ z => r.sub n z⟩
  | ok d =>
    rintro ⟨w, x, e, q⟩
    rw [e]
    exact ⟨w, st ++ x, F, rfl, Step.app x, q⟩
theorem vs_retN : VS md sRetN dsRetN := fun {B F0 st F env ve} r => ⟨.non, st, F, rfl, Step.refl, .non⟩
theorem vs_expr {m : En → Mo Va} {v : VM D} (h : VB md m v) : VS md (sExpr m) (dsExpr v) := fun {B F0 st F env ve} r =>
  FlOk.bS r (h r) fun x w d q r' => ⟨_, _, F, rfl, Step.refl, r'⟩
theorem vs_if {t : En → Mo Bool} {vt : VM Bool} {m n : Sm} {a b : VSm} (ht : VT md t vt) (h : VS md m a) (h2 : VS md n b) : VS md (sIf t m n) (dsIf vt a b) := fun {B F0 st F env ve} r =>
  FlOk.bS r (ht r) fun x w d q r' => by
    subst q
    cases w with
    | true => exact h r'
    | false => exact h2 r'
/-! changes of own lists -/
/-- the object at n becomes another one -/
theorem Rel.put {B : Nat} {F0 : Nat → Prop} {st st' : Sto} {F : Nat → Prop} {env : En} {ve : VEn} (h : Rel md B F0 st F env ve) {i n : Nat} {d : D} (hi : mdAt md i = .a) (he : env[i]? = some (some (.ref n))) (hv : ∃ e, ve[i]? = some (some e)) (hn : F n) (hb : B ≤ n)
    (k : ∀ m o, m ≠ n → st[m]? = some o → st'[m]? = some o) (hl : st.length ≤ st'.length) (o : ObIs st' F n d) : Rel md B F0 st' F env (ve.set i (some d)) ∧ Step B st F st' F := by
  have k' : ∀ m o, ¬ F m → st[m]? = some o → st'[m]? = some o := fun m o q => k m o fun z => q (z ▸ hn)
  refine ⟨⟨by rw [List.length_set, h.len], fun j e q => ?_, fun j k2 m a b hjk m1 m2 e1 e2 e3 e4 => ?_, h.sub, h.up, h.f0, fun m z => Nat.lt_of_lt_of_le (h.lt m z) hl, Nat.le_trans h.ble hl, h.exn⟩, ⟨hl, fun m o q => k m o fun z => ?_, fun _ z => z, fun _ z _ => z⟩⟩
  · by_cases hj : j = i
    · subst hj
      have hl' : j < ve.length := by
        have := lt_of_get q
        simpa using this
      rw [List.getElem?_set_self hl'] at q
      cases q
      refine ⟨_, he, ?_⟩
      rw [hi]
      exact ⟨n, rfl, hn, hb, o⟩
    · rw [List.getElem?_set_ne (Ne.symm hj)] at q
      obtain ⟨u, q1, q2⟩ := h.slot j e q
      refine ⟨u, q1, ?_⟩
      cases hm : mdAt md j with
      | c => rw [hm] at q2; exact Is.mono k' (fun _ _ z => z) q2
      | x => rw [hm] at q2; exact q2.elim
      | b =>
        rw [hm] at q2
        exact q2.mono (fun m o z => k m o fun y => by subst y; have := z hn; omega) (fun _ _ z => z) (fun _ z => z) (by intro z; cases z)
      | a =>
        rw [hm] at q2
        obtain ⟨m, rfl, f, b, om⟩ := q2
        have hmn : m ≠ n := fun z => by
          subst z
          obtain ⟨e', hv'⟩ := hv
          exact h.dis j i m e e' hj hm hi q hv' q1 he
        exact ⟨m, rfl, f, b, om.mono (fun o z => k m o hmn z) k' fun _ _ z => z⟩
  · have to : ∀ {x : Nat} {e : D}, (ve.set i (some d))[x]? = some (some e) → ∃ e', ve[x]? = some (some e') := fun {x e} q => by
      by_cases hx : x = i
      · subst hx; exact hv
      · rw [List.getElem?_set_ne (Ne.symm hx)] at q; exact ⟨e, q⟩
    obtain ⟨a', e1⟩ := to e1
    obtain ⟨b', e2⟩ := to e2
    exact h.dis j k2 m a' b' hjk m1 m2 e1 e2 e3 e4
  · subst z
    have := q hn
    omega
theorem ObIs.lstI {st : Sto} {F : Nat → Prop} {n : Nat} {ds : List D} (h : ObIs st F n (.lst ds)) : ∃ ws, st[n]? = some (.lst ws) ∧ IsL st F ws ds := by
  cases h with
  | lst a b => exact ⟨_, a, b⟩
theorem set_ne_get {st : Sto} {n m : Nat} {o u : Ob} (h : m ≠ n) (e : st[m]? = some o) : (st.set n u)[m]? = some o := by rw [List.getElem?_set_ne (Ne.symm h)]; exact e
theorem bnd_ok {α β : Type} {r : Rs α} {f : α → Mo β} {a : α} {st : Sto} (e : r = .ok a st) : bnd r f = f a st := by rw [e]; rfl
/-- the own list of the slot i is changed by a method -/
def dsChg {β : Type} (T : String) (i : Nat) (va : VM β) (f : β → D → Option D) : VSm := fun ve => match ve[i]? with
  | some (some d) => if isTd T d = true then dBS ve (va ve) fun b => (match f b d with
    | some d' => .nx (ve.set i (some d'))
    | none => .no) else .no
  | _ => .no
theorem vs_chg {i : Nat} {T : String} {op : Va → List Va → Mo Va} {ma : En → Mo (List Va)} {β : Type} {R : Sto → (Nat → Prop) → List Va → β → Prop} {va : VM β} {f : β → D → Option D} (hi : mdAt md i = .a)
    (ha : ∀ {B F0 st F env ve}, Rel md B F0 st F env ve → RsOk F (fun st ws b => R st F ws b) st (ma env st) (va ve))
    (hop : ∀ {st F n ws b d d'}, ObIs st F n d → R st F ws b → F n → f b d = some d' → ∃ r u, op (.ref n) ws st = .ok r (st.set n u) ∧ ObIs (st.set n u) F n d') :
    VS md (sExpr (eMt T op (eVar i) ma)) (dsChg T i va f) := fun {B F0 st F env ve} r => by
  unfold dsChg
  split
  · rename_i d hs
    obtain ⟨w, e1, s⟩ := r.slot i d hs
    rw [hi] at s
    obtain ⟨n, rfl, hf, hb, o⟩ := s
    by_cases ht : isTd T d = true
    · rw [if_pos ht]
      have e2 : eMt T op (eVar i) ma env st = bnd (ma env st) fun ws st2 => op (.ref n) ws st2 := by
        unfold eMt
        rw [bnd_ok (evar_at e1), if_pos (isTd_is (.inr ⟨n, rfl, o⟩) ht)]
      unfold sExpr
      rw [e2]
      have hh := ha r
      revert hh
      cases va ve with
      | no => exact fun _ => True.intro
      | exc c fs =>
        rintro ⟨fs', x, e, q⟩
        rw [e]
        exact ⟨env, st ++ x, F, fs', rfl, Step.app x, r.app x, q.mono (fun _ _ _ z => z) fun n _ z => r.sub n z⟩
      | ok b =>
        rintro ⟨ws, x, e, q⟩
        rw [e]
        unfold dBS
        dsimp only
        cases hfb : f b d with
        | none => exact True.intro
        | some d' =>
          obtain ⟨r', u, e3, o'⟩ := hop (o.app x) q hf hfb
          show FlOk md B F0 st F (bS env (op (.ref n) ws (st ++ x)) _) _
          rw [e3]
          obtain ⟨p1, p2⟩ := (r.app x).put hi e1 ⟨d, hs⟩ hf hb (fun m o h1 h2 => set_ne_get h1 h2) (by rw [List.length_set]; exact Nat.le_refl _) o'
          exact ⟨env, _, F, rfl, (Step.app x).trans p2, p1⟩
    · rw [if_neg ht]
      exact True.intro
  · exact True.intro
def fApp (b : List D) : D → Option D
  | .lst ds => match b with
    | [d] => if ds.length < 16777216 then some (.lst (ds ++ [d])) else none
    | _ => none
  | _ => none
def fExt (b : List D) : D → Option D
  | .lst ds => match b with
    | [.lst es] => if ds.length + es.length ≤ 16777216 then some (.lst (ds ++ es)) else none
    | _ => none
  | _ => none
theorem get_set {st : Sto} {n : Nat} {o u : Ob} (h : st[n]? = some o) : (st.set n u)[n]? = some u := List.getElem?_set_self (lt_of_get h)
theorem put_isL {st : Sto} {F : Nat → Prop} {n : Nat} {u : Ob} {ws : List Va} {ds : List D} (hn : F n) (k : IsL st F ws ds) : IsL (st.set n u) F ws ds := k.mono (fun m o q e => set_ne_get (fun z => q (z ▸ hn)) e) fun _ _ z => z
theorem vs_append (i : Nat) {m : En → Mo Va} {v : VM D} (h : VE md m v) (hi : mdAt md i = .a := by rfl) : VS md (sExpr (eMt "list" mAppend (eVar i) (aCons m aNil))) (dsChg "list" i (dCons v dNil) fApp) :=
  vs_chg (R := fun st F ws ds => IsL st F ws ds) hi (fun r => vl_cons h vl_nil r) fun {st F n ws b d d'} o q hn e => by
    unfold fApp at e
    split at e
    · split at e
      · split at e
        · rename_i hl
          cases e
          obtain ⟨us, g, k⟩ := o.lstI
          cases q with
          | cons q1 q2 =>
            cases q2
            refine ⟨.non, .lst (us ++ [_]), ?_, .lst (get_set g) (put_isL hn (k.append (.cons q1 .nil)))⟩
            unfold mAppend
            dsimp only
            rw [g]
            dsimp only
            rw [k.length, if_pos hl]
        · cases e
      · cases e
    · cases e
theorem vs_extend (i : Nat) {m : En → Mo Va} {v : VM D} (h : VB md m v) (hi : mdAt md i = .a := by rfl) : VS md (sExpr (eMt "list" mExtend (eVar i) (aCons m aNil))) (dsChg "list" i (dCons v dNil) fExt) :=
  vs_chg (R := fun st F ws ds => IsM st F [.b] ws ds) hi (fun r => va_b h va_nil r) fun {st F n ws b d d'} o q hn e => by
    unfold fExt at e
    split at e
    · split at e
      · split at e
        · rename_i hl
          cases e
          obtain ⟨us, g, k⟩ := o.lstI
          obtain ⟨w, rfl, q1⟩ := ism1 q
          obtain ⟨m', zs, rfl, g2, k2⟩ := q1.lst
          refine ⟨.non, .lst (us ++ zs), ?_, .lst (get_set g) (put_isL hn (k.append k2))⟩
          unfold mExtend
          dsimp only
          rw [g, g2]
          dsimp only
          rw [k.length, k2.length, if_pos hl]
        · cases e
      · cases e
    · cases e
/-- xs[i] = v, xs an own list -/
def dsItem (i : Nat) (mi mv : VM D) : VSm := fun ve => dBS ve (mv ve) fun y => match ve[i]? with
  | some (some (.lst ds)) => dBS ve (mi ve) fun k => (match k with
    | .int j => (match ixN ds.length j with
      | some p => .nx (ve.set i (some (.lst (ds.set p y))))
      | none => .no)
    | _ => .no)
  | _ => .no
theorem vs_item (i : Nat) {mi mv : En → Mo Va} {vi vv : VM D} (hI : VB md mi vi) (hV : VE md mv vv) (hi : mdAt md i = .a := by rfl) : VS md (sItem (eVar i) mi mv) (dsItem i vi vv) := fun {B F0 st F env ve} r =>
  FlOk.bS r (hV r) fun x wy y qy r1 => by
    split
    · rename_i ds hs
      obtain ⟨w, e1, s⟩ := r1.slot i _ hs
      rw [hi] at s
      obtain ⟨n, rfl, hf, hb, o⟩ := s
      rw [evar_at e1]
      show FlOk md B F0 (st ++ x) F (bS env (mi env (st ++ x)) (itemT env wy (.ref n))) _
      refine FlOk.bS r1 (hI r1) fun z wk k qk r2 => ?_
      cases k with
      | int j =>
        rw [qk.int]
        dsimp only
        cases hp : ixN ds.length j with
        | none => exact True.intro
        | some p =>
          obtain ⟨us, g, kl⟩ := (o.app z).lstI
          have e3 : itemT env wy (.ref n) (.int j) (st ++ x ++ z) = .nx env ((st ++ x ++ z).set n (.lst (us.set p wy))) := by
            unfold itemT
            dsimp only
            rw [g]
            dsimp only
            rw [kl.length, hp]
          rw [e3]
          obtain ⟨p1, p2⟩ := r2.put hi e1 ⟨_, hs⟩ hf hb (fun m o h1 h2 => set_ne_get h1 h2) (by rw [List.length_set]; exact Nat.le_refl _) (.lst (get_set g) (put_isL hf (kl.set (qy.app z) p)))
          exact ⟨env, _, F, rfl, p2, p1⟩
      | _ => exact True.intro
    · exact True.intro

/-! ### targets, loops -/
abbrev VTg := D → VEn → Option VEn
def VG (md : List Md) (tg : Tg) (v : VTg) : Prop := ∀ {B F0 st F env ve w d ve'}, Rel md B F0 st F env ve → Is st F w d → v d ve = some ve' → ∃ env', tg w env = some env' ∧ Rel md B F0 st F env' ve'
def gN (i : Nat) : VTg := fun d ve => some (ve.set i (some d))
theorem vg_name (i : Nat) (hi : mdAt md i = .c := by rfl) : VG md (tgN i) (gN i) := fun r q e => by
  cases e
  exact ⟨_, rfl, r.set hi q⟩
def setAllD (ve : VEn) : List Nat → List D → VEn
  | i :: ix, d :: ds => setAllD (ve.set i (some d)) ix ds
  | _, _ => ve
def gT (ix : List Nat) : VTg := fun d ve => match d with
  | .tup ds => if ds.length = ix.length then some (setAllD ve ix ds) else none
  | _ => none
theorem Rel.setAll {B : Nat} {F0 : Nat → Prop} {st : Sto} {F : Nat → Prop} : ∀ {ix : List Nat} {ws : List Va} {ds : List D} {env : En} {ve : VEn}, Rel md B F0 st F env ve → (ix.all fun i => match mdAt md i with | .c => true | _ => false) = true → IsL st F ws ds → Rel md B F0 st F (Sh.setAll env ix ws) (setAllD ve ix ds)
  | [], _, _, _, _, r, _, .nil => r
  | [], _, _, _, _, r, _, .cons _ _ => r
  | _ :: _, _, _, _, _, r, _, .nil => r
  | i :: ix, _, _, _, _, r, h, .cons q t => by
    rw [List.all_cons, Bool.and_eq_true] at h
    have h1 := h.1
    have hm : mdAt md i = .c := by
      cases hm : mdAt md i with
      | c => rfl
      | a => rw [hm] at h1; cases h1
      | b => rw [hm] at h1; cases h1
      | x => rw [hm] at h1; cases h1
    exact Rel.setAll (ix := ix) (r.set hm q) h.2 t
theorem vg_tup (ix : List Nat) (hi : (ix.all fun i => match mdAt md i with | .c => true | _ => false) = true := by rfl) : VG md (tgT ix) (gT ix) := fun {B F0 st F env ve w d ve'} r q e => by
  unfold gT at e
  split at e
  · split at e
    · rename_i hl
      cases e
      obtain ⟨ws, e1, k⟩ := (IsB.of q).tup
      rw [← k.length] at hl
      rcases e1 with rfl | rfl <;> exact ⟨_, by unfold tgT; dsimp only; rw [if_pos hl], r.setAll hi k⟩
    · cases e
  · cases e
def dForF (tg : VTg) (body : VSm) : List D → VSm
  | [] => fun ve => .nx ve
  | d :: r => fun ve => match tg d ve with
    | none => .no
    | some ve1 => match body ve1 with
      | .nx ve2 => dForF tg body r ve2
      | .ct ve2 => dForF tg body r ve2
      | .bk ve2 => .nx ve2
      | o => o
/-- what is gone over -/
def SrcIs (B : Nat) (st : Sto) (F : Nat → Prop) : Src → List D → Prop
  | .fix ws, ds => IsL st F ws ds
  | .live n, ds => ∃ ws, st[n]? = some (.lst ws) ∧ IsL st F ws ds ∧ (F n → n < B)
def SrcB (st : Sto) (F : Nat → Prop) : Src → List D → Prop
  | .fix ws, ds => IsL st F ws ds
  | .live n, ds => ∃ ws, st[n]? = some (.lst ws) ∧ IsL st F ws ds
def VI (md : List Md) (m : En → Mo Src) (v : VM (List D)) : Prop := ∀ {B F0 st F env ve}, Rel md B F0 st F env ve → RsOk F (fun st s ds => SrcIs B st F s ds) st (m env st) (v ve)
def VIB (md : List Md) (m : En → Mo Src) (v : VM (List D)) : Prop := ∀ {B F0 st F env ve}, Rel md B F0 st F env ve → RsOk F (fun st s ds => SrcB st F s ds) st (m env st) (v ve)
def diL (m : VM D) : VM (List D) := fun ve => vb (m ve) fun d => match d with
  | .lst ds => .ok ds
  | .scr ds => .ok ds
  | _ => .no
def diT (m : VM D) : VM (List D) := fun ve => vb (m ve) fun d => match d with
  | .tup ds => .ok ds
  | _ => .no
def diS (m : VM D) : VM (List D) := fun ve => vb (m ve) fun d => match d with
  | .str x => .ok (x.cps.toList.map fun c => D.str ⟨#[c]⟩)
  | _ => .no
def rangeD (lo : Int) (n : Nat) : List D := (List.range n).map fun (k : Nat) => D.int (lo + (k : Int))
def diR1 (m : VM (List D)) : VM (List D) := fun ve => vb (m ve) fun ds => match ds with
  | [.int j] => if -(2 ^ 62) ≤ j ∧ j < 2 ^ 62 then .ok (rangeD 0 j.toNat) else .no
  | _ => .no
def diR2 (m : VM (List D)) : VM (List D) := fun ve => vb (m ve) fun ds => match ds with
  | [.int i, .int j] => if -(2 ^ 62) ≤ i ∧ i < 2 ^ 62 ∧ -(2 ^ 62) ≤ j ∧ j < 2 ^ 62 then .ok (rangeD i (j - i).toNat) else .no
  | _ => .no
theorem vi_b {m : En → Mo Src} {v : VM (List D)} (h : VI md m v) : VIB md m v := fun r => (h r).imp fun x s ds q => by
  cases s with
  | fix ws => exact q
  | live n => obtain ⟨ws, a, b, _⟩ := q; exact ⟨ws, a, b⟩
theorem vi_list {m : En → Mo Va} {v : VM D} (h : VE md m v) : VI md (iL m) (diL v) := fun r => (h r).bind fun x w d q => by
  cases d with
  | lst ds =>
    cases q with
    | ref a b k =>
      dsimp only
      rw [b]
      exact RsOk.here ⟨_, b, k, fun z => absurd z a⟩
  | scr ds => obtain ⟨ws, rfl, k⟩ := (IsB.of q).scr; exact RsOk.here k
  | _ => exact True.intro
theorem vib_list {m : En → Mo Va} {v : VM D} (h : VB md m v) : VIB md (iL m) (diL v) := fun r => (h r).bind fun x w d q => by
  cases d with
  | lst ds =>
    obtain ⟨n, ws, rfl, g, k⟩ := q.lst
    dsimp only
    rw [g]
    exact RsOk.here ⟨_, g, k⟩
  | scr ds => obtain ⟨ws, rfl, k⟩ := q.scr; exact RsOk.here k
  | _ => exact True.intro
/-- a list that is only looked at -/
theorem vi_listB (i : Nat) (hi : mdAt md i = .b := by rfl) : VI md (iL (eVar i)) (diL (dVar i)) := fun {B F0 st F env ve} r => by
  unfold diL dVar
  split
  · rename_i d e
    obtain ⟨w, e1, s⟩ := r.slot i d e
    rw [hi] at s
    show RsOk _ _ _ (bnd (eVar i env st) _) _
    rw [bnd_ok (evar_at e1 (SlotOk.ne (m := .b) s))]
    show RsOk _ _ _ _ (match d with | .lst ds => VR.ok ds | .scr ds => .ok ds | _ => .no)
    cases d with
    | lst ds =>
      obtain ⟨n, ws, rfl, g, k⟩ := s.1.lst
      dsimp only
      rw [g]
      exact RsOk.here ⟨_, g, k, fun z => s.2 n rfl z⟩
    | scr ds => obtain ⟨ws, rfl, k⟩ := s.1.scr; exact RsOk.here k
    | _ => exact True.intro
  · exact True.intro
theorem vi_tup {m : En → Mo Va} {v : VM D} (h : VB md m v) : VI md (iT m) (diT v) := fun r => (h r).bind fun x w d q => by
  cases d with
  | tup ds =>
    obtain ⟨ws, e, k⟩ := q.tup
    rcases e with rfl | rfl <;> exact RsOk.here k
  | _ => exact True.intro
theorem signs_is {st : Sto} {F : Nat → Prop} : ∀ l : List Nat, IsL st F (l.map fun c => Va.str ⟨#[c]⟩) (l.map fun c => D.str ⟨#[c]⟩)
  | [] => .nil
  | c :: l => .cons (.str _) (signs_is l)
theorem vi_str {m : En → Mo Va} {v : VM D} (h : VB md m v) : VI md (iS m) (diS v) := fun r => (h r).bind fun x w d q => by
  cases d with
  | str y => rw [q.str]; exact RsOk.here (signs_is _)
  | _ => exact True.intro
theorem range_is {st : Sto} {F : Nat → Prop} (lo : Int) (n : Nat) : IsL st F (rangeW lo n) (rangeD lo n) := by
  unfold rangeW rangeD
  generalize List.range n = l
  induction l with
  | nil => exact .nil
  | cons a l ih => exact .cons (.int _) ih
theorem vi_r1 {ms : List Md} {m : En → Mo (List Va)} {v : VM (List D)} (h : VA md ms m v) : VI md (iR1 m) (diR1 v) := fun r => (h r).bind fun x ws ds q => by
  rcases ds with _ | ⟨d, _ | ⟨e, t⟩⟩
  · exact True.intro
  · cases d with
    | int j =>
      obtain ⟨w, rfl, q1⟩ := ism1 q
      rw [q1.int]
      dsimp only
      split
      · exact RsOk.here (range_is _ _)
      · exact True.intro
    | _ => exact True.intro
  · cases d <;> exact True.intro
theorem vi_r2 {ms : List Md} {m : En → Mo (List Va)} {v : VM (List D)} (h : VA md ms m v) : VI md (iR2 m) (diR2 v) := fun r => (h r).bind fun x ws ds q => by
  rcases ds with _ | ⟨d, _ | ⟨e, _ | ⟨e', t⟩⟩⟩
  · exact True.intro
  · cases d <;> exact True.intro
  · cases d with
    | int i =>
      cases e with
      | int j =>
        obtain ⟨w, u, rfl, q1, q2⟩ := ism2 q
        rw [q1.int, q2.int]
        dsimp only
        split
        · exact RsOk.here (range_is _ _)
        · exact True.intro
      | _ => exact True.intro
    | _ => exact True.intro
  · cases d <;> cases e <;> exact True.intro
def dsFor (src : VM (List D)) (tg : VTg) (body : VSm) : VSm := fun ve => dBS ve (src ve) fun ds => dForF tg body ds ve
section
variable {tg : Tg} {vt : VTg} {body : Sm} {vbody : VSm}
theorem for_fixV (hg : VG md tg vt) (hb : VS md body vbody) {B : Nat} {F0 : Nat → Prop} : ∀ {ds : List D} {ws : List Va} {st : Sto} {F : Nat → Prop} {env : En} {ve : VEn}, IsL st F ws ds → Rel md B F0 st F env ve → FlOk md B F0 st F (forF tg body ws env st) (dForF vt vbody ds ve)
  | [], _, st, F, env, ve, .nil, r => ⟨env, st, F, rfl, Step.refl, r⟩
  | d :: ds, w :: ws, st, F, env, ve, .cons q t, r => by
    unfold dForF forF
    cases h1 : vt d ve with
    | none => exact True.intro
    | some ve1 =>
      obtain ⟨env1, e1, r1⟩ := hg r q h1
      rw [e1]
      dsimp only
      have hh := hb r1
      revert hh
      cases vbody ve1 with
      | nx ve2 =>
        rintro ⟨env2, st2, F2, e, s, r2⟩
        rw [e]
        exact FlOk.pre s (for_fixV hg hb (s.isL t) r2)
      | ct ve2 =>
        rintro ⟨env2, st2, F2, e, s, r2⟩
        rw [e]
        exact FlOk.pre s (for_fixV hg hb (s.isL t) r2)
      | bk ve2 =>
        rintro ⟨env2, st2, F2, e, s, r2⟩
        rw [e]
        exact ⟨env2, st2, F2, rfl, s, r2⟩
      | rt d => rintro ⟨env2, st2, F2, e, s, r2⟩; rw [e]; exact ⟨env2, st2, F2, rfl, s, r2⟩
      | xc c fs ve2 => rintro ⟨env2, st2, F2, fs', e, s, r2⟩; rw [e]; exact ⟨env2, st2, F2, fs', rfl, s, r2⟩
      | no => exact fun _ => True.intro
theorem for_liveV (hg : VG md tg vt) (hb : VS md body vbody) {B : Nat} {F0 : Nat → Prop} {n : Nat} {all : List Va} : ∀ {ds : List D} {i k : Nat} {st : Sto} {F : Nat → Prop} {env : En} {ve : VEn}, st[n]? = some (.lst all) → (F n → n < B) → IsL st F (all.drop i) ds → k = ds.length → i + ds.length = all.length → Rel md B F0 st F env ve →
    FlOk md B F0 st F (forL tg body n (k + 1) i env st) (dForF vt vbody ds ve)
  | [], i, k, st, F, env, ve, hn, hf, q, hk, hi, r => by
    have e : all[i]? = none := List.getElem?_eq_none (by simp at hi; omega)
    unfold forL
    rw [hn]
    dsimp only
    rw [e]
    exact ⟨env, st, F, rfl, Step.refl, r⟩
  | d :: ds, i, k, st, F, env, ve, hn, hf, q, hk, hi, r => by
    rw [List.length_cons] at hi hk
    subst hk
    have hl : i < all.length := by omega
    rw [List.drop_eq_getElem_cons hl] at q
    cases q with
    | cons q t =>
    unfold dForF forL
    rw [hn]
    dsimp only
    rw [List.getElem?_eq_getElem hl]
    dsimp only
    cases h1 : vt d ve with
    | none => exact True.intro
    | some ve1 =>
      obtain ⟨env1, e1, r1⟩ := hg r q h1
      rw [e1]
      dsimp only
      have hh := hb r1
      revert hh
      cases vbody ve1 with
      | nx ve2 =>
        rintro ⟨env2, st2, F2, e, s, r2⟩
        rw [e]
        exact FlOk.pre s (for_liveV hg hb (s.keep n _ hf hn) (fun z => hf (s.new n z (lt_of_get hn))) (s.isL t) rfl (by omega) r2)
      | ct ve2 =>
        rintro ⟨env2, st2, F2, e, s, r2⟩
        rw [e]
        exact FlOk.pre s (for_liveV hg hb (s.keep n _ hf hn) (fun z => hf (s.new n z (lt_of_get hn))) (s.isL t) rfl (by omega) r2)
      | bk ve2 =>
        rintro ⟨env2, st2, F2, e, s, r2⟩
        rw [e]
        exact ⟨env2, st2, F2, rfl, s, r2⟩
      | rt d => rintro ⟨env2, st2, F2, e, s, r2⟩; rw [e]; exact ⟨env2, st2, F2, rfl, s, r2⟩
      | xc c fs ve2 => rintro ⟨env2, st2, F2, fs', e, s, r2⟩; rw [e]; exact ⟨env2, st2, F2, fs', rfl, s, r2⟩
      | no => exact fun _ => True.intro
theorem vs_for {src : En → Mo Src} {vs : VM (List D)} (hs : VI md src vs) (hg : VG md tg vt) (hb : VS md body vbody) : VS md (sFor src tg body) (dsFor vs vt vbody) := fun {B F0 st F env ve} r =>
  FlOk.bS r (hs r) fun x s ds q r' => by
    cases s with
    | fix ws => exact for_fixV hg hb q r'
    | live n =>
      obtain ⟨ws, g, k, hf⟩ := q
      dsimp only
      rw [g]
      exact for_liveV hg hb g hf (by rw [List.drop_zero]; exact k) k.length (by rw [k.length]; omega) r'
/-- e to be unpacked -/
def dsUnp (tg : VTg) (m : VM D) : VSm := fun ve => dBS ve (m ve) fun d => match tg d ve with
  | some ve1 => .nx ve1
  | none => .no
theorem vs_unp {m : En → Mo Va} {v : VM D} (hg : VG md tg vt) (h : VE md m v) : VS md (sUnp tg m) (dsUnp vt v) := fun {B F0 st F env ve} r =>
  FlOk.bS r (h r) fun x w d q r' => by
    cases h1 : vt d ve with
    | none => exact True.intro
    | some ve1 =>
      obtain ⟨env1, e1, r1⟩ := hg r' q h1
      rw [e1]
      exact ⟨env1, _, F, rfl, Step.refl, r1⟩
end
def dWhile (t : VM Bool) (body : VSm) : Nat → VSm
  | 0 => fun _ => .no
  | k + 1 => fun ve => dBS ve (t ve) fun b => if b = true then (match body ve with
      | .nx ve2 => dWhile t body k ve2
      | .ct ve2 => dWhile t body k ve2
      | .bk ve2 => .nx ve2
      | o => o) else .nx ve
theorem vs_while {t : En → Mo Bool} {vt : VM Bool} {body : Sm} {vbody : VSm} (ht : VT md t vt) (hb : VS md body vbody) (k : Nat) : VS md (sWhile t body k) (dWhile vt vbody k) := by
  unfold sWhile
  induction k with
  | zero => exact fun _ => True.intro
  | succ k ih =>
    intro B F0 st F env ve r
    unfold whileF dWhile
    refine FlOk.bS r (ht r) fun x w d q r' => ?_
    subst q
    cases w with
    | false => exact ⟨env, _, F, rfl, Step.refl, r'⟩
    | true =>
      rw [if_pos rfl, if_pos rfl]
      have hh := hb r'
      revert hh
      cases vbody ve with
      | nx ve2 =>
        rintro ⟨env2, st2, F2, e, s, r2⟩
        rw [e]
        exact FlOk.pre s (ih r2)
      | ct ve2 =>
        rintro ⟨env2, st2, F2, e, s, r2⟩
        rw [e]
        exact FlOk.pre s (ih r2)
      | bk ve2 =>
        rintro ⟨env2, st2, F2, e, s, r2⟩
        rw [e]
        exact ⟨env2, st2, F2, rfl, s, r2⟩
      | rt d => rintro ⟨env2, st2, F2, e, s, r2⟩; rw [e]; exact ⟨env2, st2, F2, rfl, s, r2⟩
      | xc c fs ve2 => rintro ⟨env2, st2, F2, fs', e, s, r2⟩; rw [e]; exact ⟨env2, st2, F2, fs', rfl, s, r2⟩
      | no => exact fun _ => True.intro
end
end Vl

set_option Elab.async false
set_option linter.all false
set_option maxRecDepth 100000
set_option maxHeartbeats 4000000
namespace Vl
open PySem PySem.Spec PyProof.Rows L2 Sh

/-! ### comprehensions -/
def wipeD (ve : VEn) : List Nat → VEn
  | [] => ve
  | v :: vs => (wipeD ve vs).set v none
/-- no error leaves -/
def vnex {α : Type} (r : VR α) : VR α := match r with
  | .ok a => .ok a
  | _ => .no
def dCompF (tg : VTg) (t : VM Bool) (e : VM D) (ve : VEn) : List D → VR (List D)
  | [] => .ok []
  | d :: r => match tg d ve with
    | none => .no
    | some ve1 => vb (vnex (t ve1)) fun b => if b = true then vb (vnex (e ve1)) fun y => vb (dCompF tg t e ve r) fun ys => .ok (y :: ys) else dCompF tg t e ve r
def dLc (src : VM (List D)) (tg : VTg) (t : VM Bool) (e : VM D) (own : List Nat) : VM D := fun ve => vb (src ve) fun ds => if ds.length ≤ 16777216 then vb (dCompF tg t e (wipeD ve own) ds) fun ys => .ok (.lst ys) else .no
def dYes : VM Bool := fun _ => .ok true
section
variable {md : List Md}
theorem vt_yes : VT md cYes dYes := fun r => RsOk.here rfl
theorem Rel.wipe {B : Nat} {F0 : Nat → Prop} {st : Sto} {F : Nat → Prop} {env : En} {ve : VEn} (h : Rel md B F0 st F env ve) : ∀ vs : List Nat, (vs.all fun i => match mdAt md i with | .c => true | _ => false) = true → Rel md B F0 st F (wipeE env vs) (wipeD ve vs)
  | [], _ => h
  | v :: vs, hv => by
    rw [List.all_cons, Bool.and_eq_true] at hv
    have h' := h.wipe vs hv.2
    show Rel md B F0 st F ((wipeE env vs).set v none) ((wipeD ve vs).set v none)
    have old : ∀ {i : Nat} {d : D}, ((wipeD ve vs).set v none)[i]? = some (some d) → i ≠ v ∧ (wipeD ve vs)[i]? = some (some d) := fun {i d} e => by
      by_cases hi : i = v
      · subst hi
        have hl : i < (wipeD ve vs).length := by
          have := lt_of_get e
          simpa using this
        rw [List.getElem?_set_self hl] at e
        cases e
      · rw [List.getElem?_set_ne (Ne.symm hi)] at e
        exact ⟨hi, e⟩
    refine ⟨by rw [List.length_set, List.length_set, h'.len], fun i d e => ?_, fun i j n d e hij m1 m2 e1 e2 e3 e4 => ?_, h'.sub, h'.up, h'.f0, h'.lt, h'.ble, fun i hx => ?_⟩
    · obtain ⟨hi, e⟩ := old e
      obtain ⟨w, q1, q2⟩ := h'.slot i d e
      exact ⟨w, by rw [List.getElem?_set_ne (Ne.symm hi)]; exact q1, q2⟩
    · obtain ⟨hi, e1⟩ := old e1
      obtain ⟨hj, e2⟩ := old e2
      rw [List.getElem?_set_ne (Ne.symm hi)] at e3
      rw [List.getElem?_set_ne (Ne.symm hj)] at e4
      exact h'.dis i j n d e hij m1 m2 e1 e2 e3 e4
    · have hi : i ≠ v := fun z => by
        subst z
        have := hv.1
        rw [hx] at this
        cases this
      rw [List.getElem?_set_ne (Ne.symm hi)]
      exact h'.exn i hx
/-- no own list of the call is the one that the comprehension makes -/
def NoHold (md : List Md) (ve : VEn) (env : En) (n : Nat) : Prop := ∀ i d, mdAt md i = .a → ve[i]? = some (some d) → env[i]? ≠ some (some (.ref n))
theorem Rel.push {B : Nat} {F0 : Nat → Prop} {st st' : Sto} {F : Nat → Prop} {env : En} {ve : VEn} {n : Nat} (h : Rel md B F0 st F env ve) (no : NoHold md ve env n) (hf : F n) (hb : B ≤ n) (k : ∀ (m : Nat) (o : Ob), m ≠ n → st[m]? = some o → st'[m]? = some o) (hl : st.length ≤ st'.length) : Rel md B F0 st' F env ve where
  len := h.len
  slot := fun i d e => by
    have k' : ∀ (m : Nat) (o : Ob), ¬ F m → st[m]? = some o → st'[m]? = some o := fun m o q => k m o fun z => q (z ▸ hf)
    obtain ⟨w, e1, s⟩ := h.slot i d e
    refine ⟨w, e1, ?_⟩
    cases q : mdAt md i with
    | a =>
      rw [q] at s
      obtain ⟨m, rfl, ff, b, o⟩ := s
      have hm : m ≠ n := fun z => no i d q e (z ▸ e1)
      exact ⟨m, rfl, ff, b, o.mono (fun o => k m o hm) k' fun _ _ z => z⟩
    | b =>
      rw [q] at s
      exact s.mono (fun m o z => k m o fun y => by subst y; have := z hf; omega) (fun _ _ z => z) (fun _ z => z) (by intro z; cases z)
    | c =>
      rw [q] at s
      exact Is.mono k' (fun _ _ z => z) s
    | x =>
      rw [q] at s
      exact s.elim
  dis := h.dis
  sub := h.sub
  up := h.up
  f0 := h.f0
  lt := fun m z => Nat.lt_of_lt_of_le (h.lt m z) hl
  ble := Nat.le_trans h.ble hl
  exn := h.exn
variable {tg : Tg} {vt : VTg} {t : En → Mo Bool} {e : En → Mo Va} {tv : VM Bool} {ev : VM D}
/-- one turn: the list at n grows by what the turn gives -/
theorem comp_turnV (hg : VG md tg vt) (ht : VT md t tv) (he : VE md e ev) {B : Nat} {F0 F : Nat → Prop} {st0 x : Sto} {acc : List Va} {accD : List D} {env : En} {ve ve1 : VEn} {w : Va} {d : D} (r : Rel md B F0 (st0 ++ .lst acc :: x) F env ve) (no : NoHold md ve env st0.length) (hf : F st0.length) (hb : B ≤ st0.length)
    (q : Is (st0 ++ .lst acc :: x) F w d) (h1 : vt d ve = some ve1) (ha : IsL (st0 ++ .lst acc :: x) F acc accD) (hl : acc.length < 16777216) :
    match vnex (tv ve1) with
    | .ok true => (match vnex (ev ve1) with
      | .ok y => ∃ acc' x', compT tg t e st0.length w env (st0 ++ .lst acc :: x) = .ok () (st0 ++ .lst acc' :: x') ∧ IsL (st0 ++ .lst acc' :: x') F acc' (accD ++ [y]) ∧ Step B (st0 ++ .lst acc :: x) F (st0 ++ .lst acc' :: x') F ∧ Rel md B F0 (st0 ++ .lst acc' :: x') F env ve
      | _ => True)
    | .ok false => ∃ x', compT tg t e st0.length w env (st0 ++ .lst acc :: x) = .ok () (st0 ++ .lst acc :: x') ∧ IsL (st0 ++ .lst acc :: x') F acc accD ∧ Step B (st0 ++ .lst acc :: x) F (st0 ++ .lst acc :: x') F ∧ Rel md B F0 (st0 ++ .lst acc :: x') F env ve
    | _ => True := by
  obtain ⟨env1, e1, r1⟩ := hg r q h1
  have e0 : compT tg t e st0.length w env (st0 ++ .lst acc :: x) = bnd (nex (t env1 (st0 ++ .lst acc :: x))) fun b st1 => if b = true then bnd (nex (e env1 st1)) fun y st2 => (match pushT st0.length y st2 with
      | some st3 => .ok () st3
      | none => .no) else .ok () st1 := by
    unfold compT
    rw [e1]
    try rfl
  have hh := ht r1
  revert hh
  cases htv : tv ve1 with
  | no => exact fun _ => True.intro
  | exc c fs => exact fun _ => True.intro
  | ok b =>
    rintro ⟨b', y, e2, rfl⟩
    cases b' with
    | false =>
      refine ⟨x ++ y, ?_, ?_, ?_, ?_⟩
      · rw [e0, e2]
        show Rs.ok () _ = _
        rw [List.append_assoc, List.cons_append]
      · have := ha.app y
        rw [List.append_assoc, List.cons_append] at this
        exact this
      · have := Step.app (B := B) (F := F) (st := st0 ++ .lst acc :: x) y
        rw [List.append_assoc, List.cons_append] at this
        exact this
      · have := r.app y
        rw [List.append_assoc, List.cons_append] at this
        exact this
    | true =>
      show match vnex (ev ve1) with
        | .ok y => _
        | _ => True
      have hh := he (r1.app y)
      revert hh
      cases hev : ev ve1 with
      | no => exact fun _ => True.intro
      | exc c fs => exact fun _ => True.intro
      | ok z =>
        rintro ⟨wz, y2, e3, qz⟩
        have ea : st0 ++ .lst acc :: x ++ y ++ y2 = st0 ++ .lst acc :: (x ++ y ++ y2) := by simp
        have ep : pushT st0.length wz (st0 ++ .lst acc :: (x ++ y ++ y2)) = some (st0 ++ .lst (acc ++ [wz]) :: (x ++ y ++ y2)) := by
          unfold pushT
          rw [get_mid]
          dsimp only
          rw [if_pos hl, set_mid]
        have kp : ∀ (m : Nat) (o : Ob), m ≠ st0.length → (st0 ++ .lst acc :: (x ++ y ++ y2))[m]? = some o → (st0 ++ .lst (acc ++ [wz]) :: (x ++ y ++ y2))[m]? = some o := fun m o hm hk => by
          rw [← set_mid st0 (.lst acc) (.lst (acc ++ [wz])) (x ++ y ++ y2), List.getElem?_set_ne (Ne.symm hm)]
          exact hk
        have hlen : (st0 ++ Ob.lst acc :: (x ++ y ++ y2)).length ≤ (st0 ++ Ob.lst (acc ++ [wz]) :: (x ++ y ++ y2)).length := by simp
        have r2 : Rel md B F0 (st0 ++ .lst acc :: (x ++ y ++ y2)) F env ve := by
          have := (r.app y).app y2
          rw [ea] at this
          exact this
        have ha2 := (ha.app y).app y2
        rw [ea] at ha2 qz
        have mono : ∀ {ws : List Va} {ds : List D}, IsL (st0 ++ .lst acc :: (x ++ y ++ y2)) F ws ds → IsL (st0 ++ .lst (acc ++ [wz]) :: (x ++ y ++ y2)) F ws ds := fun h => h.mono (fun m o q => kp m o fun z => q (z ▸ hf)) fun _ _ z => z
        refine ⟨acc ++ [wz], x ++ y ++ y2, ?_, (mono ha2).append (mono (.cons qz .nil)), ?_, r2.push no hf hb kp hlen⟩
        · rw [e0, e2]
          show bnd (nex (e env1 (st0 ++ .lst acc :: x ++ y))) _ = _
          rw [e3, ea]
          show (match pushT st0.length wz (st0 ++ .lst acc :: (x ++ y ++ y2)) with | some st3 => (Rs.ok () st3 : Rs Unit) | none => .no) = _
          rw [ep]
        · have s1 := Step.trans (Step.app (B := B) (F := F) (st := st0 ++ .lst acc :: x) y) (Step.app (B := B) (F := F) y2)
          rw [ea] at s1
          exact s1.trans ⟨hlen, fun m o h => kp m o fun z => by subst z; have := h hf; omega, fun _ z => z, fun _ z _ => z⟩
theorem comp_fixV (hg : VG md tg vt) (ht : VT md t tv) (he : VE md e ev) {B : Nat} {F0 F : Nat → Prop} {st0 : Sto} {env : En} {ve : VEn} (no : NoHold md ve env st0.length) (hf : F st0.length) (hb : B ≤ st0.length) : ∀ {ds : List D} {ws : List Va} {x : Sto} {acc : List Va} {accD : List D}, Rel md B F0 (st0 ++ .lst acc :: x) F env ve →
    IsL (st0 ++ .lst acc :: x) F ws ds → IsL (st0 ++ .lst acc :: x) F acc accD → acc.length + ds.length ≤ 16777216 →
    match dCompF vt tv ev ve ds with
    | .ok ys => ∃ acc' x', compF tg t e st0.length env ws (st0 ++ .lst acc :: x) = .ok (.ref st0.length) (st0 ++ .lst acc' :: x') ∧ IsL (st0 ++ .lst acc' :: x') F acc' (accD ++ ys)
    | .exc _ _ => False
    | .no => True
  | [], _, x, acc, accD, r, .nil, ha, hl => ⟨acc, x, rfl, by rw [List.append_nil]; exact ha⟩
  | d :: ds, w :: ws, x, acc, accD, r, .cons q qs, ha, hl => by
    rw [List.length_cons] at hl
    unfold dCompF
    cases h1 : vt d ve with
    | none => exact True.intro
    | some ve1 =>
      have hh := comp_turnV hg ht he r no hf hb q h1 ha (by omega)
      dsimp only
      revert hh
      cases htv : vnex (tv ve1) with
      | no => exact fun _ => True.intro
      | exc c fs => cases h : tv ve1 <;> rw [h] at htv <;> cases htv
      | ok b =>
        cases b with
        | false =>
          rintro ⟨x', e1, ha', s, r'⟩
          have ih := comp_fixV hg ht he no hf hb r' (s.isL qs) ha' (by omega)
          show match dCompF vt tv ev ve ds with | .ok ys => _ | .exc _ _ => False | .no => True
          revert ih
          cases dCompF vt tv ev ve ds with
          | no => exact fun h => h
          | exc c fs => exact fun h => h
          | ok ys =>
            rintro ⟨acc', x2, e2, h2⟩
            refine ⟨acc', x2, ?_, h2⟩
            unfold compF
            rw [e1]
            exact e2
        | true =>
          show _ → match (vb (vnex (ev ve1)) fun y => vb (dCompF vt tv ev ve ds) fun ys => (VR.ok (y :: ys) : VR (List D))) with | .ok ys => _ | .exc _ _ => False | .no => True
          cases hev : vnex (ev ve1) with
          | no => exact fun _ => True.intro
          | exc c fs => cases h : ev ve1 <;> rw [h] at hev <;> cases hev
          | ok y =>
            rintro ⟨acc1, x', e1, ha', s, r'⟩
            have hlen : acc1.length = acc.length + 1 := by
              rw [ha'.length, List.length_append, ← ha.length]
              rfl
            have ih := comp_fixV hg ht he no hf hb r' (s.isL qs) ha' (by omega)
            show match (vb (dCompF vt tv ev ve ds) fun ys => (VR.ok (y :: ys) : VR (List D))) with | .ok ys => _ | .exc _ _ => False | .no => True
            revert ih
            cases dCompF vt tv ev ve ds with
            | no => exact fun h => h
            | exc c fs => exact fun h => h
            | ok ys =>
              rintro ⟨acc', x2, e2, h2⟩
              rw [List.append_assoc] at h2
              refine ⟨acc', x2, ?_, h2⟩
              unfold compF
              rw [e1]
              exact e2
theorem comp_liveV (hg : VG md tg vt) (ht : VT md t tv) (he : VE md e ev) {B : Nat} {F0 F : Nat → Prop} {st0 : Sto} {env : En} {ve : VEn} (no : NoHold md ve env st0.length) (hf : F st0.length) (hb : B ≤ st0.length) {m : Nat} {all : List Va} (hm : st0[m]? = some (.lst all)) : ∀ {ds : List D} {i k : Nat} {x : Sto} {acc : List Va} {accD : List D}, Rel md B F0 (st0 ++ .lst acc :: x) F env ve →
    IsL (st0 ++ .lst acc :: x) F (all.drop i) ds → k = ds.length → i + ds.length = all.length → IsL (st0 ++ .lst acc :: x) F acc accD → acc.length + ds.length ≤ 16777216 →
    match dCompF vt tv ev ve ds with
    | .ok ys => ∃ acc' x', compL tg t e st0.length env m (k + 1) i (st0 ++ .lst acc :: x) = .ok (.ref st0.length) (st0 ++ .lst acc' :: x') ∧ IsL (st0 ++ .lst acc' :: x') F acc' (accD ++ ys)
    | .exc _ _ => False
    | .no => True
  | [], i, k, x, acc, accD, r, q, hk, hi, ha, hl => by
    refine ⟨acc, x, ?_, by rw [List.append_nil]; exact ha⟩
    unfold compL
    rw [get_old hm]
    dsimp only
    rw [List.getElem?_eq_none (by simp at hi; omega)]
  | d :: ds, i, k, x, acc, accD, r, q, hk, hi, ha, hl => by
    rw [List.length_cons] at hl hi hk
    subst hk
    have hil : i < all.length := by omega
    rw [List.drop_eq_getElem_cons hil] at q
    cases q with
    | cons q qs =>
    have step : ∀ {st1 : Sto} {k : Nat}, compT tg t e st0.length all[i] env (st0 ++ .lst acc :: x) = .ok () st1 → compL tg t e st0.length env m (k + 1) i (st0 ++ .lst acc :: x) = compL tg t e st0.length env m k (i + 1) st1 := fun {st1 k} h => by
      conv => lhs; unfold compL
      rw [get_old hm]
      dsimp only
      rw [List.getElem?_eq_getElem hil]
      dsimp only
      rw [h]
      rfl
    unfold dCompF
    cases h1 : vt d ve with
    | none => exact True.intro
    | some ve1 =>
      have hh := comp_turnV hg ht he r no hf hb q h1 ha (by omega)
      dsimp only
      revert hh
      cases htv : vnex (tv ve1) with
      | no => exact fun _ => True.intro
      | exc c fs => cases h : tv ve1 <;> rw [h] at htv <;> cases htv
      | ok b =>
        cases b with
        | false =>
          rintro ⟨x', e1, ha', s, r'⟩
          have ih := comp_liveV hg ht he no hf hb hm r' (s.isL qs) rfl (by omega) ha' (by omega)
          show match dCompF vt tv ev ve ds with | .ok ys => _ | .exc _ _ => False | .no => True
          revert ih
          cases dCompF vt tv ev ve ds with
          | no => exact fun h => h
          | exc c fs => exact fun h => h
          | ok ys =>
            rintro ⟨acc', x2, e2, h2⟩
            exact ⟨acc', x2, (step e1).trans e2, h2⟩
        | true =>
          show _ → match (vb (vnex (ev ve1)) fun y => vb (dCompF vt tv ev ve ds) fun ys => (VR.ok (y :: ys) : VR (List D))) with | .ok ys => _ | .exc _ _ => False | .no => True
          cases hev : vnex (ev ve1) with
          | no => exact fun _ => True.intro
          | exc c fs => cases h : ev ve1 <;> rw [h] at hev <;> cases hev
          | ok y =>
            rintro ⟨acc1, x', e1, ha', s, r'⟩
            have hlen : acc1.length = acc.length + 1 := by
              rw [ha'.length, List.length_append, ← ha.length]
              rfl
            have ih := comp_liveV hg ht he no hf hb hm r' (s.isL qs) rfl (by omega) ha' (by omega)
            show match (vb (dCompF vt tv ev ve ds) fun ys => (VR.ok (y :: ys) : VR (List D))) with | .ok ys => _ | .exc _ _ => False | .no => True
            revert ih
            cases dCompF vt tv ev ve ds with
            | no => exact fun h => h
            | exc c fs => exact fun h => h
            | ok ys =>
              rintro ⟨acc', x2, e2, h2⟩
              rw [List.append_assoc] at h2
              exact ⟨acc', x2, (step e1).trans e2, h2⟩
theorem noHold_new {B : Nat} {F0 F : Nat → Prop} {st : Sto} {env : En} {ve : VEn} (r : Rel md B F0 st F env ve) : NoHold md ve env st.length := fun i d hm e q => by
  obtain ⟨w, q1, s⟩ := r.slot i d e
  rw [hm] at s
  obtain ⟨n, rfl, hf, _, _⟩ := s
  rw [q] at q1
  cases q1
  exact absurd (r.lt _ hf) (Nat.lt_irrefl _)
theorem vn_lc {src : En → Mo Src} {vs : VM (List D)} {own : List Nat} (hs : VIB md src vs) (hg : VG md tg vt) (ht : VT md t tv) (he : VE md e ev) (hw : (own.all fun i => match mdAt md i with | .c => true | _ => false) = true := by rfl) : VN md (eLc src tg t e own) (dLc vs vt tv ev own) := fun {B F0 st F env ve} r =>
  (hs r).bind fun y s ds q => by
    split
    · rename_i hl
      have r1 := (r.app y).wipe own hw
      have no := noHold_new r1
      have hb : B ≤ (st ++ y).length := r1.ble
      have rF : Rel md B F0 ((st ++ y) ++ [.lst []]) (fun k => F k ∨ k = (st ++ y).length) (wipeE env own) (wipeD ve own) :=
        r1.grow (fun _ _ z => get_old z) (fun k hk z => z.elim id fun z => absurd hk (by omega)) (fun _ z => .inl z) fun k z => z.elim (fun z => by have := r1.lt k z; rw [List.length_append]; omega) fun z => by rw [z]; simp
      have up : ∀ {ws : List Va} {ds : List D}, IsL (st ++ y) F ws ds → IsL ((st ++ y) ++ [.lst []]) (fun k => F k ∨ k = (st ++ y).length) ws ds := fun h => h.mono (fun _ _ _ z => get_old z) fun k hk z => z.elim id fun z => absurd hk (by omega)
      have fin : ∀ {r' : Rs Va} {v : VR (List D)}, (match v with
          | .ok ys => ∃ acc' x', r' = .ok (.ref (st ++ y).length) ((st ++ y) ++ .lst acc' :: x') ∧ IsL ((st ++ y) ++ .lst acc' :: x') (fun k => F k ∨ k = (st ++ y).length) acc' ([] ++ ys)
          | .exc _ _ => False
          | .no => True) → RsOk F (NewAt st.length F) (st ++ y) r' (vb v fun ys => .ok (.lst ys)) := fun {r' v} h => by
        cases v with
        | no => exact True.intro
        | exc c fs => exact h.elim
        | ok ys =>
          obtain ⟨acc', x', e1, h2⟩ := h
          exact ⟨_, _, e1, _, rfl, by rw [List.length_append]; omega, .lst (get_mid _ _ _) h2⟩
      cases s with
      | fix ws => exact fin (comp_fixV hg ht he no (.inr rfl) hb rF (up q) .nil (by simpa using hl))
      | live m =>
        obtain ⟨ws, g, k⟩ := q
        show RsOk _ _ _ (match (st ++ y)[m]? with
          | some (.lst ws) => compL tg t e (st ++ y).length (wipeE env own) m (ws.length + 1) 0 ((st ++ y) ++ [.lst []])
          | _ => .no) _
        rw [g]
        exact fin (comp_liveV hg ht he no (.inr rfl) hb g rF (up (by rw [List.drop_zero]; exact k)) k.length (by rw [k.length]; omega) .nil (by simpa using hl))
    · exact True.intro

/-! ### defs -/
def vrun (n : Nat) (m : VSm) (N : Nat) : List D → VR D := fun ds => match m (ds.map some ++ List.replicate (N - n) none) with
  | .nx _ => .ok .non
  | .rt d => .ok d
  | .xc c fs _ => .exc c fs
  | _ => .no
theorem pre_of {st st' : Sto} (k : ∀ (n : Nat) (o : Ob), st[n]? = some o → st'[n]? = some o) : ∃ x, st' = st ++ x := by
  have : st <+: st' := List.prefix_iff_getElem?.mpr fun i h => k i _ (List.getElem?_eq_getElem h)
  obtain ⟨x, e⟩ := this
  exact ⟨x, e.symm⟩
theorem ism_get {st : Sto} {F : Nat → Prop} : ∀ {ms : List Md} {ws : List Va} {ds : List D} {i : Nat} {d : D}, IsM st F ms ws ds → ds[i]? = some d → ∃ w, ws[i]? = some w ∧ ((ms[i]? = some .c ∧ Is st F w d) ∨ (ms[i]? = some .b ∧ IsB st F w d))
  | _, _, _, _, _, .nil, e => by simp at e
  | _, _, _, 0, _, .c r _, e => by simp at e; subst e; exact ⟨_, rfl, .inl ⟨rfl, r⟩⟩
  | _, _, _, 0, _, .b r _, e => by simp at e; subst e; exact ⟨_, rfl, .inr ⟨rfl, r⟩⟩
  | _, _, _, i + 1, _, .c _ t, e => by
    obtain ⟨v, h1, h2⟩ := ism_get (i := i) t (by simpa using e)
    exact ⟨v, by simpa using h1, by simpa using h2⟩
  | _, _, _, i + 1, _, .b _ t, e => by
    obtain ⟨v, h1, h2⟩ := ism_get (i := i) t (by simpa using e)
    exact ⟨v, by simpa using h1, by simpa using h2⟩
theorem ism_modes {st : Sto} {F : Nat → Prop} : ∀ {ms : List Md} {ws : List Va} {ds : List D}, IsM st F ms ws ds → ∀ i : Nat, ms[i]? ≠ some .a
  | _, _, _, .nil, i => by simp
  | _, _, _, .c _ _, 0 => by simp
  | _, _, _, .b _ _, 0 => by simp
  | _, _, _, .c _ t, i + 1 => by simpa using ism_modes t i
  | _, _, _, .b _ t, i + 1 => by simpa using ism_modes t i
theorem vfn_of {ms : List Md} {n N : Nat} {m : Sm} {v : VSm} (h : VS (ms ++ md) m v) (hn : ms.length = n) (hx : ((ms ++ md).all fun m => match m with | .x => false | _ => true) = true := by rfl) : VFn ms (runF n m N) (vrun n v N) := fun {st F ws ds} hF q => by
  have rel : Rel (ms ++ md) st.length F st F (ws.map some ++ List.replicate (N - n) none) (ds.map some ++ List.replicate (N - n) none) := by
    have hl := q.length
    have slot : ∀ {i : Nat} {d : D}, (ds.map some ++ List.replicate (N - n) none)[i]? = some (some d) → ds[i]? = some d ∧ i < ds.length := fun {i d} e => by
      by_cases hi : i < ds.length
      · rw [List.getElem?_append_left (by simpa using hi), List.getElem?_map] at e
        cases q1 : ds[i]? with
        | none => rw [q1] at e; cases e
        | some u => rw [q1] at e; cases e; exact ⟨rfl, hi⟩
      · rw [List.getElem?_append_right (by simpa using Nat.le_of_not_lt hi), List.getElem?_replicate] at e
        split at e <;> cases e
    have mode : ∀ {i : Nat}, i < ds.length → mdAt (ms ++ md) i = ms.getD i .c := fun {i} hi => by
      unfold mdAt
      rw [List.getD_eq_getElem?_getD, List.getD_eq_getElem?_getD, List.getElem?_append_left (by rw [hl.2]; exact hi)]
    have noA : ∀ {i : Nat} {d : D}, (ds.map some ++ List.replicate (N - n) none)[i]? = some (some d) → mdAt (ms ++ md) i ≠ .a := fun {i d} e z => by
      obtain ⟨_, hi⟩ := slot e
      rw [mode hi, List.getD_eq_getElem?_getD] at z
      have hi' : i < ms.length := by rw [hl.2]; exact hi
      have := ism_modes q i
      rw [List.getElem?_eq_getElem hi'] at z this
      exact this (by rw [show ms[i] = .a from z])
    refine ⟨by simp [hl.1], fun i d e => ?_, fun i j n d e _ m1 _ e1 _ _ _ => absurd m1 (noA e1), fun _ z => z, fun _ z => .inl z, hF, hF, Nat.le_refl _, fun i hi => ?_⟩
    obtain ⟨e', hi⟩ := slot e
    obtain ⟨w, g, s⟩ := ism_get q e'
    refine ⟨w, ?_, ?_⟩
    · rw [List.getElem?_append_left (by rw [List.length_map, hl.1]; exact hi), List.getElem?_map, g]
      rfl
    · rw [mode hi, List.getD_eq_getElem?_getD]
      rcases s with ⟨a, b⟩ | ⟨a, b⟩
      · rw [a]; exact b
      · rw [a]; exact ⟨b, fun k _ z => hF k z⟩
    · refine absurd hi fun z => ?_
      unfold mdAt at z
      rw [List.getD_eq_getElem?_getD] at z
      cases q1 : (ms ++ md)[i]? with
      | none => rw [q1] at z; cases z
      | some u =>
        rw [q1] at z
        have hu : u = .x := z
        subst hu
        have := List.all_eq_true.mp hx _ (List.mem_of_getElem? q1)
        cases this
  have hh := h rel
  unfold runF vrun
  revert hh
  cases v (ds.map some ++ List.replicate (N - n) none) with
  | nx ve' =>
    rintro ⟨env', st', F', e, s, r'⟩
    obtain ⟨x, rfl⟩ := pre_of fun k o z => s.keep k o (fun _ => lt_of_get z) z
    rw [e]
    exact ⟨.non, x, rfl, .non⟩
  | rt d =>
    rintro ⟨w, st', F', e, s, r'⟩
    obtain ⟨x, rfl⟩ := pre_of fun k o z => s.keep k o (fun _ => lt_of_get z) z
    rw [e]
    exact ⟨w, x, rfl, r'⟩
  | xc c fs ve' =>
    rintro ⟨env', st', F', fs', e, s, r', k⟩
    obtain ⟨x, rfl⟩ := pre_of fun k o z => s.keep k o (fun _ => lt_of_get z) z
    rw [e]
    exact ⟨fs', x, rfl, k⟩
  | bk ve' => exact fun _ => True.intro
  | ct ve' => exact fun _ => True.intro
  | no => exact fun _ => True.intro
theorem vfn_no {ms : List Md} {f : Fn} : VFn ms f (fun _ => .no) := fun _ _ => True.intro
theorem VFn.use {ms : List Md} {f : Fn} {v : List D → VR D} (h : VFn ms f v) {st : Sto} {ws : List Va} {ds : List D} {d : D} (q : IsM st (fun _ => False) ms ws ds) (e : v ds = .ok d) : ∃ w x, f ws st = .ok w (st ++ x) ∧ Is (st ++ x) (fun _ => False) w d := by
  have := h (F := fun _ => False) (fun _ z => z.elim) q
  rw [e] at this
  exact this
end

/-! ### a class whose __init__ keeps its arguments -/
theorem ins_step {st : Sto} {n c : Nat} {fs : List (Str × Va)} {f : Str} {i j : Nat} {env : En} {w : Va} {cs : List Nat} (g : st[n]? = some (.ins c fs)) (hc : c ∈ cs) (hl : fs.length < 1000) (e1 : env[i]? = some (some (.ref n))) (e2 : env[j]? = some (some w)) (hw : w ≠ .exn) :
    Sh.sFld cs f (eVar i) (eVar j) env st = .nx env (st.set n (.ins c (putW f w fs))) := by
  unfold Sh.sFld
  rw [evar_at e2 hw]
  show bS env (eVar i env st) _ = _
  rw [evar_at e1]
  show fldT cs f env w (.ref n) st = _
  unfold fldT
  dsimp only
  rw [g]
  dsimp only
  rw [if_pos ⟨hc, hl⟩]
end Vl

set_option Elab.async false
set_option linter.all false
set_option maxRecDepth 100000
set_option maxHeartbeats 4000000
namespace Vl
open PySem PySem.Spec PyProof.Rows L2 Sh

/-! ### errors -/
def xArgD : D → Bool
  | .int i => decide (i.natAbs.log2 < 1920)
  | .str s => decide (s.length ≤ 1000)
  | _ => false
theorem xArgD_is {st : Sto} {F : Nat → Prop} {w : Va} {d : D} (r : IsB st F w d) (h : xArgD d = true) : xArgW w = true := by
  cases d with
  | int i => rw [r.int]; exact h
  | str s => rw [r.str]; exact h
  | _ => cases h
def dsRaise (c : Nat) (f : Str) (m : VM D) : VSm := fun ve => dBS ve (m ve) fun d => if xArgD d = true then .xc c [(f, d)] ve else .no
def toVa : D → Va
  | .int i => .int i
  | .str s => .str s
  | _ => .non
abbrev toFs (fs : List (Str × D)) : List (Str × Va) := fs.map fun p => (p.1, toVa p.2)
theorem toVa_is {st : Sto} {F : Nat → Prop} {w : Va} {d : D} (r : IsB st F w d) (h : xArgD d = true) : w = toVa d := by
  cases d with
  | int i => exact r.int
  | str s => exact r.str
  | _ => cases h
theorem toVa_Is {st : Sto} {F : Nat → Prop} {d : D} (h : xArgD d = true) : Is st F (toVa d) d := by
  cases d with
  | int i => exact .int _
  | str s => exact .str _
  | _ => cases h
theorem toFs_is {st : Sto} {F : Nat → Prop} : ∀ {ws : List (Str × Va)} {fs : List (Str × D)}, IsF st F ws fs → (fs.all fun p => xArgD p.2) = true → ws = toFs fs ∧ (ws.all fun p => xArgW p.2) = true
  | _, _, .nil, _ => ⟨rfl, rfl⟩
  | _, _, .cons r t, h => by
    rw [List.all_cons, Bool.and_eq_true] at h
    obtain ⟨e1, e2⟩ := toFs_is t h.2
    refine ⟨?_, ?_⟩
    · rw [e1, toVa_is (.inl r) h.1]
      rfl
    · rw [List.all_cons, xArgD_is (.inl r) h.1, e2]
      rfl
def dsTry (i : Nat) (rs cs : List Nat) (body : VSm) (suite : Nat → List (Str × D) → VSm) : VSm := fun ve => match body ve with
  | .xc c fs ve1 => if c ∈ rs ∧ (fs.all fun p => xArgD p.2) = true ∧ i < ve1.length then (if c ∈ cs then (match suite c fs (ve1.set i none) with
      | .nx ve2 => .nx (ve2.set i none)
      | .bk ve2 => .bk (ve2.set i none)
      | .ct ve2 => .ct (ve2.set i none)
      | .rt w => .rt w
      | _ => .no) else .xc c fs ve1) else .no
  | o => o
def dXf (fs : List (Str × D)) (f : Str) : VM D := fun _ => match fs.lookup f with
  | some d => .ok d
  | none => .no
def dXi (b : Bool) : VM D := fun _ => .ok (.bl b)
section
variable {md : List Md}
theorem vs_no {s : Sm} : VS md s (fun _ => .no) := fun _ => True.intro
theorem vs_raise {c : Nat} {f : Str} {m : En → Mo Va} {v : VM D} (h : VE md m v) : VS md (sRaise c f m) (dsRaise c f v) := fun {B F0 st F env ve} r =>
  FlOk.bS r (h r) fun x w d q r' => by
    by_cases hx : xArgD d = true
    · rw [if_pos (xArgD_is (.inl q) hx), if_pos hx]
      exact ⟨env, _, F, _, rfl, Step.refl, r', .cons (Is.mono (fun _ _ _ z => z) (fun n _ z => r'.sub n z) q) .nil⟩
    · rw [if_neg hx]
      exact True.intro
theorem Rel.exn_on {B : Nat} {F0 : Nat → Prop} {st : Sto} {F : Nat → Prop} {env : En} {ve : VEn} {i : Nat} {md' : List Md} (h : Rel md B F0 st F env ve) (hl : i < env.length) (hm : ∀ j, j ≠ i → mdAt md' j = mdAt md j) (hx : ∀ j, mdAt md j ≠ .x) : Rel md' B F0 st F (env.set i (some .exn)) (ve.set i none) := by
  have old : ∀ {j : Nat} {d : D}, (ve.set i none)[j]? = some (some d) → j ≠ i ∧ ve[j]? = some (some d) := fun {j d} e => by
    by_cases hj : j = i
    · subst hj
      have hl : j < ve.length := by
        have := lt_of_get e
        simpa using this
      rw [List.getElem?_set_self hl] at e
      cases e
    · rw [List.getElem?_set_ne (Ne.symm hj)] at e
      exact ⟨hj, e⟩
  refine ⟨by rw [List.length_set, List.length_set, h.len], fun j d e => ?_, fun j k n d e hjk m1 m2 e1 e2 e3 e4 => ?_, h.sub, h.up, h.f0, h.lt, h.ble, fun j hj => ?_⟩
  · obtain ⟨hj, e⟩ := old e
    obtain ⟨w, q1, q2⟩ := h.slot j d e
    exact ⟨w, by rw [List.getElem?_set_ne (Ne.symm hj)]; exact q1, by rw [hm j hj]; exact q2⟩
  · obtain ⟨hj, e1⟩ := old e1
    obtain ⟨hk, e2⟩ := old e2
    rw [List.getElem?_set_ne (Ne.symm hj)] at e3
    rw [List.getElem?_set_ne (Ne.symm hk)] at e4
    rw [hm j hj] at m1
    rw [hm k hk] at m2
    exact h.dis j k n d e hjk m1 m2 e1 e2 e3 e4
  · by_cases hji : j = i
    · subst hji
      rw [List.getElem?_set_self hl]
    · rw [hm j hji] at hj
      exact absurd hj (hx j)
theorem Rel.exn_off {B : Nat} {F0 : Nat → Prop} {st : Sto} {F : Nat → Prop} {env : En} {ve : VEn} {i : Nat} {md' : List Md} (h : Rel md' B F0 st F env ve) (hm : ∀ j, j ≠ i → mdAt md' j = mdAt md j) (hx : ∀ j, mdAt md j ≠ .x) : Rel md B F0 st F (env.set i none) (ve.set i none) := by
  have old : ∀ {j : Nat} {d : D}, (ve.set i none)[j]? = some (some d) → j ≠ i ∧ ve[j]? = some (some d) := fun {j d} e => by
    by_cases hj : j = i
    · subst hj
      have hl : j < ve.length := by
        have := lt_of_get e
        simpa using this
      rw [List.getElem?_set_self hl] at e
      cases e
    · rw [List.getElem?_set_ne (Ne.symm hj)] at e
      exact ⟨hj, e⟩
  refine ⟨by rw [List.length_set, List.length_set, h.len], fun j d e => ?_, fun j k n d e hjk m1 m2 e1 e2 e3 e4 => ?_, h.sub, h.up, h.f0, h.lt, h.ble, fun j hj => absurd hj (hx j)⟩
  · obtain ⟨hj, e⟩ := old e
    obtain ⟨w, q1, q2⟩ := h.slot j d e
    exact ⟨w, by rw [List.getElem?_set_ne (Ne.symm hj)]; exact q1, by rw [← hm j hj]; exact q2⟩
  · obtain ⟨hj, e1⟩ := old e1
    obtain ⟨hk, e2⟩ := old e2
    rw [List.getElem?_set_ne (Ne.symm hj)] at e3
    rw [List.getElem?_set_ne (Ne.symm hk)] at e4
    rw [← hm j hj] at m1
    rw [← hm k hk] at m2
    exact h.dis j k n d e hjk m1 m2 e1 e2 e3 e4
/-- md with the slot i holding the error -/
theorem md_set {i : Nat} (hl : i < md.length) : mdAt (md.set i .x) i = .x ∧ ∀ j, j ≠ i → mdAt (md.set i .x) j = mdAt md j := by
  refine ⟨?_, fun j hj => ?_⟩
  · unfold mdAt
    rw [List.getD_eq_getElem?_getD, List.getElem?_set_self hl]
    rfl
  · unfold mdAt
    rw [List.getD_eq_getElem?_getD, List.getD_eq_getElem?_getD, List.getElem?_set_ne (Ne.symm hj)]
theorem md_nox (h : (md.all fun m => match m with | .x => false | _ => true) = true) : ∀ j, mdAt md j ≠ .x := fun j z => by
  unfold mdAt at z
  rw [List.getD_eq_getElem?_getD] at z
  cases q1 : md[j]? with
  | none => rw [q1] at z; cases z
  | some u =>
    rw [q1] at z
    have hu : u = .x := z
    subst hu
    have := List.all_eq_true.mp h _ (List.mem_of_getElem? q1)
    cases this
theorem vs_try {i : Nat} {rs cs : List Nat} {mb : Sm} {ms : Nat → List (Str × Va) → Sm} {vb' : VSm} {vs : Nat → List (Str × D) → VSm} (hb : VS md mb vb') (hs : ∀ c fs, (fs.all fun p => xArgD p.2) = true → VS (md.set i .x) (ms c (toFs fs)) (vs c fs))
    (hi : i < md.length := by decide) (hx : (md.all fun m => match m with | .x => false | _ => true) = true := by rfl) : VS md (sTry i rs cs mb ms) (dsTry i rs cs vb' vs) := fun {B F0 st F env ve} r => by
  have hh := hb r
  obtain ⟨m1, m2⟩ := md_set (i := i) hi
  have nx := md_nox hx
  unfold sTry dsTry
  revert hh
  cases vb' ve with
  | nx ve1 => rintro ⟨w, st', F', e, s, r'⟩; rw [e]; exact ⟨w, st', F', rfl, s, r'⟩
  | rt d => rintro ⟨w, st', F', e, s, r'⟩; rw [e]; exact ⟨w, st', F', rfl, s, r'⟩
  | bk d => rintro ⟨w, st', F', e, s, r'⟩; rw [e]; exact ⟨w, st', F', rfl, s, r'⟩
  | ct d => rintro ⟨w, st', F', e, s, r'⟩; rw [e]; exact ⟨w, st', F', rfl, s, r'⟩
  | no => exact fun _ => True.intro
  | xc c fs ve1 =>
    rintro ⟨env1, st1, F1, fs', e, s, r1, kf⟩
    rw [e]
    dsimp only
    by_cases hc : c ∈ rs ∧ (fs.all fun p => xArgD p.2) = true ∧ i < ve1.length
    · obtain ⟨ef, ea⟩ := toFs_is kf hc.2.1
      rw [if_pos hc, if_pos ⟨hc.1, ea⟩]
      by_cases hcs : c ∈ cs
      · rw [if_pos hcs, if_pos hcs, ef]
        have r2 : Rel (md.set i .x) B F0 st1 F1 (env1.set i (some .exn)) (ve1.set i none) := r1.exn_on (by rw [r1.len]; exact hc.2.2) m2 nx
        have h2 := hs c fs hc.2.1 r2
        revert h2
        cases vs c fs (ve1.set i none) with
        | nx ve2 => rintro ⟨w, st', F', e, s', r'⟩; rw [e]; exact ⟨_, st', F', rfl, s.trans s', r'.exn_off m2 nx⟩
        | bk ve2 => rintro ⟨w, st', F', e, s', r'⟩; rw [e]; exact ⟨_, st', F', rfl, s.trans s', r'.exn_off m2 nx⟩
        | ct ve2 => rintro ⟨w, st', F', e, s', r'⟩; rw [e]; exact ⟨_, st', F', rfl, s.trans s', r'.exn_off m2 nx⟩
        | rt d => rintro ⟨w, st', F', e, s', r'⟩; rw [e]; exact ⟨_, st', F', rfl, s.trans s', r'⟩
        | xc c2 fs2 ve2 => exact fun _ => True.intro
        | no => exact fun _ => True.intro
      · rw [if_neg hcs, if_neg hcs]
        exact ⟨env1, st1, F1, fs', rfl, s, r1, kf⟩
    · rw [if_neg hc]
      exact True.intro
theorem ve_xf {i : Nat} {fs : List (Str × D)} {f : Str} (hfs : (fs.all fun p => xArgD p.2) = true) (hi : mdAt md i = .x) : VE md (eXf i (toFs fs) f) (dXf fs f) := fun {B F0 st F env ve} r => by
  have e := r.exn i hi
  unfold dXf
  split
  · rename_i d l
    have e1 : eXf i (toFs fs) f env st = .ok (toVa d) st ∧ xArgD d = true := by
      unfold eXf
      rw [e]
      dsimp only
      have : ∀ {fs : List (Str × D)}, (fs.all fun p => xArgD p.2) = true → fs.lookup f = some d → (toFs fs).lookup f = some (toVa d) ∧ xArgD d = true := by
        intro fs
        induction fs with
        | nil => intro _ l; cases l
        | cons p fs ih =>
          intro h l
          obtain ⟨k, y⟩ := p
          rw [List.all_cons, Bool.and_eq_true] at h
          show List.lookup f ((k, toVa y) :: toFs fs) = _ ∧ _
          rw [List.lookup_cons] at l ⊢
          cases q : (f == k) with
          | true => rw [q] at l; cases l; exact ⟨rfl, h.1⟩
          | false => rw [q] at l; exact ih h.2 l
      obtain ⟨h1, h2⟩ := this hfs l
      rw [h1]
      exact ⟨rfl, h2⟩
    rw [e1.1]
    exact RsOk.here (toVa_Is e1.2)
  · exact True.intro
theorem ve_xi {i : Nat} {b : Bool} (hi : mdAt md i = .x) : VE md (eXi i b) (dXi b) := fun {B F0 st F env ve} r => by
  have e := r.exn i hi
  unfold eXi
  rw [e]
  exact RsOk.here (.bl _)

/-! ### dicts -/
def keyOf : D → Option Key
  | .int i => some (.inl i)
  | .str s => some (.inr s)
  | _ => none
def lookD (kvs : List (D × D)) (k : Key) : Option D := (kvs.find? fun kv => decide (keyOf kv.1 = some k)).map (·.2)
def putD (kvs : List (D × D)) (k : Key) (d : D) : List (D × D) := if (kvs.any fun kv => decide (keyOf kv.1 = some k)) = true then kvs.map (fun kv => if keyOf kv.1 = some k then (kv.1, d) else kv) else kvs ++ [(keyD k, d)]
theorem keyOf_D (k : Key) : keyOf (keyD k) = some k := by cases k <;> rfl
theorem keyOf_is {st : Sto} {F : Nat → Prop} {w : Va} {d : D} {k : Key} (r : IsB st F w d) (h : keyOf d = some k) : keyW w = some k := by
  cases d with
  | int i => rw [r.int]; exact h
  | str s => rw [r.str]; exact h
  | _ => cases h
section
variable {st : Sto} {F : Nat → Prop}
theorem IsK.length : ∀ {ws : List (Key × Va)} {ds : List (D × D)}, IsK st F ws ds → ws.length = ds.length
  | _, _, .nil => rfl
  | _, _, .cons _ t => by rw [List.length_cons, List.length_cons, t.length]
theorem IsK.look (k : Key) : ∀ {ws : List (Key × Va)} {ds : List (D × D)} {d : D}, IsK st F ws ds → lookD ds k = some d → ∃ w, lookW ws k = some w ∧ Is st F w d
  | _, _, _, .nil, e => by cases e
  | (a, w) :: ws, (_, d') :: ds, d, .cons r t, e => by
    unfold lookD at e
    rw [List.find?_cons] at e
    dsimp only at e
    rw [keyOf_D] at e
    by_cases h : a = k
    · subst h
      have hb : decide (some a = some a) = true := by simp
      rw [hb] at e
      cases e
      exact ⟨w, by simp [lookW], r⟩
    · have hb : decide (some a = some k) = false := by simpa using h
      rw [hb] at e
      obtain ⟨w', e1, q⟩ := IsK.look k t e
      refine ⟨w', ?_, q⟩
      rw [← e1]
      simp [lookW, List.find?_cons, h]
theorem IsK.any (k : Key) : ∀ {ws : List (Key × Va)} {ds : List (D × D)}, IsK st F ws ds → (ws.any fun kv => decide (kv.1 = k)) = ds.any fun kv => decide (keyOf kv.1 = some k)
  | _, _, .nil => rfl
  | (a, w) :: ws, (_, d') :: ds, .cons r t => by
    rw [List.any_cons, List.any_cons, IsK.any k t]
    dsimp only
    rw [keyOf_D]
    congr 1
    by_cases h : a = k
    · subst h; simp
    · simp [h]
theorem IsK.snoc {k : Key} {w : Va} {d : D} (r : Is st F w d) : ∀ {ws : List (Key × Va)} {ds : List (D × D)}, IsK st F ws ds → IsK st F (ws ++ [(k, w)]) (ds ++ [(keyD k, d)])
  | _, _, .nil => .cons r .nil
  | _, _, .cons q t => .cons q (t.snoc r)
theorem IsK.repl {k : Key} {w : Va} {d : D} (r : Is st F w d) : ∀ {ws : List (Key × Va)} {ds : List (D × D)}, IsK st F ws ds → IsK st F (ws.map fun kv => if kv.1 = k then (kv.1, w) else kv) (ds.map fun kv => if keyOf kv.1 = some k then (kv.1, d) else kv)
  | _, _, .nil => .nil
  | (a, w') :: ws, (_, d') :: ds, .cons q t => by
    rw [List.map_cons, List.map_cons]
    dsimp only
    rw [keyOf_D]
    by_cases h : a = k
    · subst h
      rw [if_pos rfl, if_pos rfl]
      exact .cons r (t.repl r)
    · rw [if_neg h, if_neg (fun z => h (Option.some.inj z))]
      exact .cons q (t.repl r)
theorem IsK.put {k : Key} {w : Va} {d : D} (r : Is st F w d) {ws : List (Key × Va)} {ds : List (D × D)} (h : IsK st F ws ds) : IsK st F (putKW ws k w) (putD ds k d) := by
  unfold putKW putD
  rw [h.any k]
  split
  · exact h.repl r
  · exact h.snoc r
end
def vIxA : D → D → VR D := fun a b => match a with
  | .dct kvs => match keyOf b with
    | some k => match lookD kvs k with
      | some d => .ok d
      | none => .no
    | none => .no
  | .dtp _ => .no
  | d => vIx d b
theorem ov_ixA : OV2 opIxA vIxA := fun {st F w1 w2 d1 d2} r1 r2 => by
  have seq : (∀ ds, d1 ≠ .dct ds) → (∀ ds, d1 ≠ .dtp ds) → opIxA w1 w2 st = opIx w1 w2 st ∨ vIx d1 d2 = .no := fun n1 n2 => by
    rcases r1 with r1 | ⟨n, rfl, o⟩
    · cases r1 with
      | ref a b c => left; unfold opIxA; dsimp only; rw [b]
      | dct a b c => exact absurd rfl (n1 _)
      | dtp a b c => exact absurd rfl (n2 _)
      | ins a b c => left; unfold opIxA; dsimp only; rw [b]
      | _ => left; rfl
    · cases o with
      | lst a b => left; unfold opIxA; dsimp only; rw [a]
      | dct a b => exact absurd rfl (n1 _)
      | dtp a b => exact absurd rfl (n2 _)
      | ins a b => left; unfold opIxA; dsimp only; rw [a]
  unfold vIxA
  split
  · rename_i kvs
    obtain ⟨n, ws, rfl, g, k⟩ := r1.dct
    split
    · rename_i κ ek
      split
      · rename_i d el
        obtain ⟨w, e1, q⟩ := k.look κ el
        unfold opIxA
        dsimp only
        rw [g]
        dsimp only
        rw [keyOf_is r2 ek]
        dsimp only
        rw [e1]
        exact RsOk.here q
      · exact True.intro
    · exact True.intro
  · exact True.intro
  · rename_i n1 n2
    rcases seq (fun ds z => n1 ds z) (fun ds z => n2 ds z) with e | e
    · rw [e]; exact ov_ix r1 r2
    · rw [e]; exact True.intro
theorem ObIs.dctI {st : Sto} {F : Nat → Prop} {n : Nat} {ds : List (D × D)} (h : ObIs st F n (.dct ds)) : ∃ ws, st[n]? = some (.dct ws) ∧ IsK st F ws ds := by
  cases h with
  | dct a b => exact ⟨_, a, b⟩
/-- d[k] = v, d an own dict (a list: as before) -/
def dsItemA (i : Nat) (mi mv : VM D) : VSm := fun ve => dBS ve (mv ve) fun y => match ve[i]? with
  | some (some (.lst ds)) => dBS ve (mi ve) fun k => (match k with
    | .int j => (match ixN ds.length j with
      | some p => .nx (ve.set i (some (.lst (ds.set p y))))
      | none => .no)
    | _ => .no)
  | some (some (.dct kvs)) => dBS ve (mi ve) fun k => (match keyOf k with
    | some κ => if kvs.length < 16777216 then .nx (ve.set i (some (.dct (putD kvs κ y)))) else .no
    | none => .no)
  | _ => .no
theorem vs_itemA (i : Nat) {mi mv : En → Mo Va} {vi vv : VM D} (hI : VB md mi vi) (hV : VE md mv vv) (hi : mdAt md i = .a := by rfl) : VS md (sItemA (eVar i) mi mv) (dsItemA i vi vv) := fun {B F0 st F env ve} r =>
  FlOk.bS r (hV r) fun x wy y qy r1 => by
    split
    · rename_i ds hs
      obtain ⟨w, e1, s⟩ := r1.slot i _ hs
      rw [hi] at s
      obtain ⟨n, rfl, hf, hb, o⟩ := s
      rw [evar_at e1]
      show FlOk md B F0 (st ++ x) F (bS env (mi env (st ++ x)) (itemTA env wy (.ref n))) _
      refine FlOk.bS r1 (hI r1) fun z wk k qk r2 => ?_
      cases k with
      | int j =>
        rw [qk.int]
        dsimp only
        cases hp : ixN ds.length j with
        | none => exact True.intro
        | some p =>
          obtain ⟨us, g, kl⟩ := (o.app z).lstI
          have e3 : itemTA env wy (.ref n) (.int j) (st ++ x ++ z) = .nx env ((st ++ x ++ z).set n (.lst (us.set p wy))) := by
            unfold itemTA
            dsimp only
            rw [g]
            unfold itemT
            dsimp only
            rw [g]
            dsimp only
            rw [kl.length, hp]
          rw [e3]
          obtain ⟨p1, p2⟩ := r2.put hi e1 ⟨_, hs⟩ hf hb (fun m o h1 h2 => set_ne_get h1 h2) (by rw [List.length_set]; exact Nat.le_refl _) (.lst (get_set g) (put_isL hf (kl.set (qy.app z) p)))
          exact ⟨env, _, F, rfl, p2, p1⟩
      | _ => exact True.intro
    · rename_i kvs hs
      obtain ⟨w, e1, s⟩ := r1.slot i _ hs
      rw [hi] at s
      obtain ⟨n, rfl, hf, hb, o⟩ := s
      rw [evar_at e1]
      show FlOk md B F0 (st ++ x) F (bS env (mi env (st ++ x)) (itemTA env wy (.ref n))) _
      refine FlOk.bS r1 (hI r1) fun z wk k qk r2 => ?_
      cases hk : keyOf k with
      | none => exact True.intro
      | some κ =>
        dsimp only
        obtain ⟨us, g, kl⟩ := (o.app z).dctI
        split
        · rename_i hl
          have e3 : itemTA env wy (.ref n) wk (st ++ x ++ z) = .nx env ((st ++ x ++ z).set n (.dct (putKW us κ wy))) := by
            unfold itemTA
            dsimp only
            rw [g]
            dsimp only
            rw [keyOf_is qk hk]
            dsimp only
            rw [kl.length, if_pos hl]
          rw [e3]
          have kl2 : IsK ((st ++ x ++ z).set n (.dct (putKW us κ wy))) F (putKW us κ wy) (putD kvs κ y) := (kl.put (qy.app z)).mono (fun m o q e => set_ne_get (fun z => q (z ▸ hf)) e) fun _ _ z => z
          obtain ⟨p1, p2⟩ := r2.put hi e1 ⟨_, hs⟩ hf hb (fun m o h1 h2 => set_ne_get h1 h2) (by rw [List.length_set]; exact Nat.le_refl _) (.dct (get_set g) kl2)
          exact ⟨env, _, F, rfl, p2, p1⟩
        · exact True.intro
    · exact True.intro
def dpN : VM (List (D × D)) := fun _ => .ok []
def dpC (a b : VM D) (r : VM (List (D × D))) : VM (List (D × D)) := fun ve => vb (a ve) fun x => vb (b ve) fun y => vb (r ve) fun ps => .ok ((x, y) :: ps)
inductive IsPs (st : Sto) (F : Nat → Prop) : PW2 → List (D × D) → Prop
  | nil : IsPs st F [] []
  | cons {w u : Va} {d e : D} {ps : PW2} {qs : List (D × D)} : Is st F w d → Is st F u e → IsPs st F ps qs → IsPs st F ((w, u) :: ps) ((d, e) :: qs)
def VP (md : List Md) (m : En → Mo PW2) (v : VM (List (D × D))) : Prop := ∀ {B F0 st F env ve}, Rel md B F0 st F env ve → RsOk F (fun st ps qs => IsPs st F ps qs) st (m env st) (v ve)
theorem vp_nil : VP md dpNil dpN := fun r => RsOk.here .nil
theorem vp_cons {ma mb : En → Mo Va} {a b : VM D} {mr : En → Mo PW2} {vr : VM (List (D × D))} (ha : VE md ma a) (hb : VE md mb b) (hr : VP md mr vr) : VP md (dpCons ma mb mr) (dpC a b vr) := fun r =>
  (ha r).bind fun x w1 d1 q1 => (hb (r.app x)).bind fun y w2 d2 q2 => (hr ((r.app x).app y)).bind fun z ps qs q3 => RsOk.here (.cons ((q1.app y).app z) (q2.app z) q3)
def toK : List (D × D) → Option (List (Key × D))
  | [] => some []
  | (x, y) :: r => match keyOf x, toK r with
    | some k, some ks => some ((k, y) :: ks)
    | _, _ => none
def mergeD (kvs : List (D × D)) (more : List (Key × D)) : List (D × D) := more.foldl (fun acc kv => putD acc kv.1 kv.2) kvs
def dDisp (m : VM (List (D × D))) : VM D := fun ve => vb (m ve) fun ps => match toK ps with
  | some kvs => if kvs.length ≤ 15 then .ok (.dct (mergeD [] kvs)) else .no
  | none => .no
theorem toK_is {st : Sto} {F : Nat → Prop} : ∀ {ps : PW2} {qs : List (D × D)} {kvs : List (Key × D)}, IsPs st F ps qs → toK qs = some kvs → ∃ ws, toKvs ps = some ws ∧ ws.length = kvs.length ∧ ∀ {us : List (Key × Va)} {ds : List (D × D)}, IsK st F us ds → IsK st F (mergeW us ws) (mergeD ds kvs)
  | _, _, _, .nil, e => by cases e; exact ⟨[], rfl, rfl, fun h => h⟩
  | (w, u) :: ps, (d, e') :: qs, _, .cons r1 r2 t, e => by
    unfold toK at e
    split at e
    · rename_i k ks h1 h2
      cases e
      obtain ⟨ws, e1, e2, e3⟩ := toK_is t h2
      refine ⟨(k, u) :: ws, ?_, by rw [List.length_cons, List.length_cons, e2], fun {us ds} h => e3 (h.put r2)⟩
      unfold toKvs
      rw [keyOf_is (.inl r1) h1, e1]
    · cases e
theorem vn_newK : VN md eNewK (dC (.dct [])) := fun r => ⟨_, _, rfl, _, rfl, Nat.le_refl _, .dct (get_mid _ _ []) .nil⟩
theorem vn_disp {m : En → Mo PW2} {v : VM (List (D × D))} (h : VP md m v) : VN md (eDisp m) (dDisp v) := fun {B F0 st F env ve} r => by
  have r1 := r.app [.dct []]
  have rF : Rel md B F0 (st ++ [.dct []]) (fun k => F k ∨ k = st.length) env ve :=
    r.grow (fun _ _ z => get_old z) (fun k hk z => z.elim id fun z => absurd hk (by omega)) (fun _ z => .inl z) fun k z => z.elim (fun z => by have := r.lt k z; rw [List.length_append]; omega) fun z => by rw [z]; simp
  have hh := h rF
  unfold eDisp dDisp
  revert hh
  cases v ve with
  | no => exact fun _ => True.intro
  | exc c fs =>
    rintro ⟨fs', x, e, q⟩
    rw [e]
    exact ⟨fs', .dct [] :: x, by rw [List.append_assoc]; rfl, by
      have := q.mono (st' := st ++ [.dct []] ++ x) (F' := F) (fun _ _ _ z => z) fun n _ z => .inl z
      rw [List.append_assoc] at this
      exact this⟩
  | ok ps =>
    rintro ⟨ws, x, e, q⟩
    rw [e]
    show RsOk F _ st (match toKvs ws, (st ++ [Ob.dct []] ++ x)[st.length]? with
      | some kvs, some (.dct []) => if kvs.length ≤ 15 then (Rs.ok (Va.ref st.length) ((st ++ [Ob.dct []] ++ x).set st.length (.dct (mergeW [] kvs))) : Rs Va) else .no
      | _, _ => .no) (match toK ps with
      | some kvs => if kvs.length ≤ 15 then (VR.ok (D.dct (mergeD [] kvs)) : VR D) else .no
      | none => .no)
    cases hk : toK ps with
    | none => exact True.intro
    | some kvs =>
      obtain ⟨us, e1, e2, e3⟩ := toK_is q hk
      have e4 : (st ++ [Ob.dct []] ++ x)[st.length]? = some (.dct []) := by rw [List.append_assoc]; exact get_mid _ _ _
      rw [e1, e4]
      dsimp only
      rw [e2]
      split
      · have e5 : (st ++ [Ob.dct []] ++ x).set st.length (.dct (mergeW [] us)) = st ++ .dct (mergeW [] us) :: x := by
          rw [List.append_assoc]
          exact set_mid _ _ _ _
        refine ⟨_, _, by rw [e5], _, rfl, Nat.le_refl _, .dct (get_mid _ _ _) ?_⟩
        have k2 := e3 (us := []) (ds := []) .nil
        rw [← e5]
        exact k2.mono (fun m o q' hm => set_ne_get (fun z => q' (.inr z)) hm) fun _ _ z => z
      · exact True.intro

/-! ### enumerate -/
def dForE (tg : VTg) (body : VSm) : Nat → List D → VSm
  | _, [] => fun ve => .nx ve
  | i, d :: r => fun ve => match tg (.tup [.int (i : Nat), d]) ve with
    | none => .no
    | some ve1 => match body ve1 with
      | .nx ve2 => dForE tg body (i + 1) r ve2
      | .ct ve2 => dForE tg body (i + 1) r ve2
      | .bk ve2 => .nx ve2
      | o => o
def dsForE (m : VM D) (tg : VTg) (body : VSm) : VSm := fun ve => dBS ve (m ve) fun d => match d with
  | .lst ds => dForE tg body 0 ds ve
  | _ => .no
section
variable {tg : Tg} {vt : VTg} {body : Sm} {vbody : VSm}
theorem for_enumV (hg : VG md tg vt) (hb : VS md body vbody) {B : Nat} {F0 : Nat → Prop} {n : Nat} {all : List Va} : ∀ {ds : List D} {i k : Nat} {st : Sto} {F : Nat → Prop} {env : En} {ve : VEn}, st[n]? = some (.lst all) → (F n → n < B) → IsL st F (all.drop i) ds → k = ds.length → i + ds.length = all.length → Rel md B F0 st F env ve →
    FlOk md B F0 st F (forE tg body n (k + 1) i env st) (dForE vt vbody i ds ve)
  | [], i, k, st, F, env, ve, hn, hf, q, hk, hi, r => by
    have e : all[i]? = none := List.getElem?_eq_none (by simp at hi; omega)
    unfold forE
    rw [hn]
    dsimp only
    rw [e]
    exact ⟨env, st, F, rfl, Step.refl, r⟩
  | d :: ds, i, k, st, F, env, ve, hn, hf, q, hk, hi, r => by
    rw [List.length_cons] at hi hk
    subst hk
    have hl : i < all.length := by omega
    rw [List.drop_eq_getElem_cons hl] at q
    cases q with
    | cons q t =>
    unfold dForE forE
    rw [hn]
    dsimp only
    rw [List.getElem?_eq_getElem hl]
    dsimp only
    cases h1 : vt (.tup [.int (i : Nat), d]) ve with
    | none => exact True.intro
    | some ve1 =>
      obtain ⟨env1, e1, r1⟩ := hg r (w := .tup [.int (i : Nat), all[i]]) (.tup (.cons (.int _) (.cons q .nil))) h1
      rw [e1]
      dsimp only
      have hh := hb r1
      revert hh
      cases vbody ve1 with
      | nx ve2 =>
        rintro ⟨env2, st2, F2, e, s, r2⟩
        rw [e]
        exact FlOk.pre s (for_enumV hg hb (s.keep n _ hf hn) (fun z => hf (s.new n z (lt_of_get hn))) (s.isL t) rfl (by omega) r2)
      | ct ve2 =>
        rintro ⟨env2, st2, F2, e, s, r2⟩
        rw [e]
        exact FlOk.pre s (for_enumV hg hb (s.keep n _ hf hn) (fun z => hf (s.new n z (lt_of_get hn))) (s.isL t) rfl (by omega) r2)
      | bk ve2 =>
        rintro ⟨env2, st2, F2, e, s, r2⟩
        rw [e]
        exact ⟨env2, st2, F2, rfl, s, r2⟩
      | rt d => rintro ⟨env2, st2, F2, e, s, r2⟩; rw [e]; exact ⟨env2, st2, F2, rfl, s, r2⟩
      | xc c fs ve2 => rintro ⟨env2, st2, F2, fs', e, s, r2⟩; rw [e]; exact ⟨env2, st2, F2, fs', rfl, s, r2⟩
      | no => exact fun _ => True.intro
theorem vs_forE {m : En → Mo Va} {v : VM D} (h : VE md m v) (hg : VG md tg vt) (hb : VS md body vbody) : VS md (sForE m tg body) (dsForE v vt vbody) := fun {B F0 st F env ve} r =>
  FlOk.bS r (h r) fun x w d q r' => by
    cases d with
    | lst ds =>
      cases q with
      | ref a b k =>
        dsimp only
        rw [b]
        exact for_enumV hg hb b (fun z => absurd z a) (by rw [List.drop_zero]; exact k) k.length (by rw [k.length]; omega) r'
    | _ => exact True.intro
/-- over a list that is only looked at -/
theorem vs_forEB (i : Nat) (hg : VG md tg vt) (hb : VS md body vbody) (hi : mdAt md i = .b := by rfl) : VS md (sForE (eVar i) tg body) (dsForE (dVar i) vt vbody) := fun {B F0 st F env ve} r => by
  unfold dsForE dVar
  split
  · rename_i d e
    obtain ⟨w, e1, s⟩ := r.slot i d e
    rw [hi] at s
    unfold sForE
    rw [evar_at e1 (SlotOk.ne (m := .b) s)]
    cases d with
    | lst ds =>
      obtain ⟨n, ws, rfl, g, k⟩ := s.1.lst
      unfold bS dBS
      dsimp only
      rw [g]
      exact for_enumV hg hb g (fun z => s.2 n rfl z) (by rw [List.drop_zero]; exact k) k.length (by rw [k.length]; omega) r
    | _ => exact True.intro
  · exact True.intro
end

/-! ### objects -/
def vEq2 (c : Nat) (f1 f2 : Str) : D → D → VR D := fun a b => match a, b with
  | .ins c1 fs, .ins c2 gs => if c1 = c ∧ c2 = c then (match fs.lookup f1, gs.lookup f1, fs.lookup f2, gs.lookup f2 with
    | some x1, some y1, some x2, some y2 => (match py x1, py y1, py x2, py y2 with
      | some d1, some e1, some d2, some e2 => if (SeqAt.shaped d1 && SeqAt.shaped e1 && SeqAt.shaped d2 && SeqAt.shaped e2 && PyData.eqv d1 e1 && PyData.eqv d2 e2) = true then .ok (.bl true) else .no
      | _, _, _, _ => .no)
    | _, _, _, _ => .no) else .no
  | _, _ => .no
theorem ov_eq2 {c : Nat} {f1 f2 : Str} : OV2 (opEq2 c f1 f2) (vEq2 c f1 f2) := fun {st F w1 w2 d1 d2} r1 r2 => by
  unfold vEq2
  split
  · split
    · rename_i c1 fs c2 gs hc
      obtain ⟨m, ws, rfl, g1, k1⟩ := r1.ins
      obtain ⟨n, us, rfl, g2, k2⟩ := r2.ins
      split
      · rename_i x1 y1 x2 y2 l1 l2 l3 l4
        obtain ⟨wx1, m1, q1⟩ := k1.lookup l1
        obtain ⟨wy1, m2, q2⟩ := k2.lookup l2
        obtain ⟨wx2, m3, q3⟩ := k1.lookup l3
        obtain ⟨wy2, m4, q4⟩ := k2.lookup l4
        split
        · rename_i p1 p1' p2 p2' t1 t2 t3 t4
          split
          · rename_i hs
            have hs' := hs
            simp only [Bool.and_eq_true] at hs'
            obtain ⟨⟨⟨⟨⟨s1, s2⟩, s3⟩, s4⟩, s5⟩, s6⟩ := hs'
            have e : opEq2 c f1 f2 (.ref m) (.ref n) st = .ok (.bl true) st := by
              unfold opEq2
              dsimp only
              rw [g1, g2]
              dsimp only
              rw [if_pos hc, m1, m2, m3, m4]
              dsimp only
              rw [datB_of (.inl q1) t1 (Nat.le_succ_of_le (shaped_depth s1)), datB_of (.inl q2) t2 (Nat.le_succ_of_le (shaped_depth s2)), datB_of (.inl q3) t3 (Nat.le_succ_of_le (shaped_depth s3)), datB_of (.inl q4) t4 (Nat.le_succ_of_le (shaped_depth s4))]
              dsimp only
              rw [if_pos hs]
            rw [e]
            exact RsOk.here (.bl _)
          · exact True.intro
        · exact True.intro
      · exact True.intro
    · exact True.intro
  · exact True.intro
def vIsC (tbl : List (Nat × Bool)) : List D → VR D
  | [.ins c _] => match tbl.lookup c with
    | some b => .ok (.bl b)
    | none => .no
  | _ => .no
theorem oa_isC {tbl : List (Nat × Bool)} {ms : List Md} : OVA (cIsC tbl) (vIsC tbl) ms := fun {st F ws ds} h => by
  unfold vIsC
  split
  · obtain ⟨w, rfl, r⟩ := ism1 h
    obtain ⟨n, us, rfl, g, k⟩ := r.ins
    split
    · rename_i b e
      unfold cIsC
      dsimp only
      rw [g]
      dsimp only
      rw [e]
      exact RsOk.here (.bl _)
    · exact True.intro
  · exact True.intro
/-- self.f = e in __init__ -/
def putF' (f : Str) (v : D) : List (Str × D) → List (Str × D)
  | [] => [(f, v)]
  | (k, x) :: r => if k = f then (k, v) :: r else (k, x) :: putF' f v r
theorem IsF.put {st : Sto} {F : Nat → Prop} {f : Str} {w : Va} {d : D} (r : Is st F w d) : ∀ {ws : List (Str × Va)} {ds : List (Str × D)}, IsF st F ws ds → IsF st F (putW f w ws) (putF' f d ds)
  | _, _, .nil => .cons r .nil
  | (k, y) :: ws, (_, z) :: ds, .cons q t => by
    unfold putW putF'
    split
    · exact .cons r t
    · exact .cons q (t.put r)
theorem IsF.length {st : Sto} {F : Nat → Prop} : ∀ {ws : List (Str × Va)} {ds : List (Str × D)}, IsF st F ws ds → ws.length = ds.length
  | _, _, .nil => rfl
  | _, _, .cons _ t => by rw [List.length_cons, List.length_cons, t.length]
def dsFld (cs : List Nat) (f : Str) (i : Nat) (mv : VM D) : VSm := fun ve => dBS ve (mv ve) fun y => match ve[i]? with
  | some (some (.ins c fs)) => if c ∈ cs ∧ fs.length < 1000 then .nx (ve.set i (some (.ins c (putF' f y fs)))) else .no
  | _ => .no
theorem ObIs.insI {st : Sto} {F : Nat → Prop} {n c : Nat} {ds : List (Str × D)} (h : ObIs st F n (.ins c ds)) : ∃ ws, st[n]? = some (.ins c ws) ∧ IsF st F ws ds := by
  cases h with
  | ins a b => exact ⟨_, a, b⟩
theorem vs_fld (cs : List Nat) (f : Str) (i : Nat) {mv : En → Mo Va} {vv : VM D} (hV : VE md mv vv) (hi : mdAt md i = .a := by rfl) : VS md (Sh.sFld cs f (eVar i) mv) (dsFld cs f i vv) := fun {B F0 st F env ve} r =>
  FlOk.bS r (hV r) fun x wy y qy r1 => by
    split
    · rename_i c fs hs
      obtain ⟨w, e1, s⟩ := r1.slot i _ hs
      rw [hi] at s
      obtain ⟨n, rfl, hf, hb, o⟩ := s
      rw [evar_at e1]
      obtain ⟨us, g, k⟩ := o.insI
      split
      · rename_i hc
        have e3 : fldT cs f env wy (.ref n) (st ++ x) = .nx env ((st ++ x).set n (.ins c (putW f wy us))) := by
          unfold fldT
          dsimp only
          rw [g]
          dsimp only
          rw [k.length, if_pos hc]
        show FlOk md B F0 (st ++ x) F (fldT cs f env wy (.ref n) (st ++ x)) _
        rw [e3]
        have k2 : IsF ((st ++ x).set n (.ins c (putW f wy us))) F (putW f wy us) (putF' f y fs) := (k.put qy).mono (fun m o q e => set_ne_get (fun z => q (z ▸ hf)) e) fun _ _ z => z
        obtain ⟨p1, p2⟩ := r1.put hi e1 ⟨_, hs⟩ hf hb (fun m o h1 h2 => set_ne_get h1 h2) (by rw [List.length_set]; exact Nat.le_refl _) (.ins (get_set g) k2)
        exact ⟨env, _, F, rfl, p2, p1⟩
      · exact True.intro
    · exact True.intro
def vmake (c n : Nat) (m : VSm) (N : Nat) : List D → VR D := fun ds => if ds.length + 1 = n then (match m (some (.ins c []) :: (ds.map some ++ List.replicate (N - n) none)) with
  | .nx ve => (match ve[0]? with
    | some (some d) => .ok d
    | _ => .no)
  | _ => .no) else .no
/-- the first slot stays -/
def Keeps (m : Sm) : Prop := ∀ env st env' st', m env st = .nx env' st' → env'[0]? = env[0]?
theorem k_seq {m n : Sm} (h1 : Keeps m) (h2 : Keeps n) : Keeps (sSeq m n) := fun env st env' st' e => by
  unfold sSeq at e
  split at e
  · rename_i e1 s1 h
    rw [h2 _ _ _ _ e, h1 _ _ _ _ h]
  · rename_i h
    exact absurd e (h env' st')
theorem k_nil : Keeps sNil := fun env st env' st' e => by cases e; rfl
theorem k_set {i : Nat} {m : En → Mo Va} : Keeps (sSet (i + 1) m) := fun env st env' st' e => by
  unfold sSet at e
  cases h : m env st with
  | ok w s1 =>
    rw [h] at e
    cases e
    rw [List.getElem?_set_ne (by omega)]
  | exc c fs s1 => rw [h] at e; cases e
  | no => rw [h] at e; cases e
theorem k_fld {cs : List Nat} {f : Str} {mo mv : En → Mo Va} : Keeps (Sh.sFld cs f mo mv) := fun env st env' st' e => by
  unfold Sh.sFld at e
  cases h : mv env st with
  | ok w s1 =>
    rw [h] at e
    have e : bS env (mo env s1) (fldT cs f env w) = .nx env' st' := e
    cases h2 : mo env s1 with
    | ok u s2 =>
      rw [h2] at e
      have e : fldT cs f env w u s2 = .nx env' st' := e
      unfold fldT at e
      split at e
      · split at e
        · split at e
          · cases e; rfl
          · cases e
        · cases e
      · cases e
    | exc c fs s2 => rw [h2] at e; cases e
    | no => rw [h2] at e; cases e
  | exc c fs s1 => rw [h] at e; cases e
  | no => rw [h] at e; cases e
theorem vmk_of {c n N : Nat} {m : Sm} {v : VSm} {ms : List Md} (h : VS (.a :: (ms ++ md)) m v) (hk : Keeps m) (hn : ms.length + 1 = n) (hx : ((ms ++ md).all fun m => match m with | .c => true | .b => true | _ => false) = true := by rfl) : VMk c n (runF n m N) (vmake c n v N) ms := fun {st F ws ds} hF q => by
  unfold vmake
  by_cases hl : ds.length + 1 = n
  · rw [if_pos hl]
    have hl2 := q.length
    have modes : ∀ i, mdAt (ms ++ md) i = .c ∨ mdAt (ms ++ md) i = .b := fun i => by
      unfold mdAt
      rw [List.getD_eq_getElem?_getD]
      cases q1 : (ms ++ md)[i]? with
      | none => exact .inl rfl
      | some u =>
        have := List.all_eq_true.mp hx _ (List.mem_of_getElem? q1)
        cases u with
        | c => exact .inl rfl
        | b => exact .inr rfl
        | a => cases this
        | x => cases this
    have slot : ∀ {i : Nat} {d : D}, (ds.map some ++ List.replicate (N - n) none)[i]? = some (some d) → ds[i]? = some d ∧ i < ds.length := fun {i d} e => by
      by_cases hi : i < ds.length
      · rw [List.getElem?_append_left (by simpa using hi), List.getElem?_map] at e
        cases q1 : ds[i]? with
        | none => rw [q1] at e; cases e
        | some u => rw [q1] at e; cases e; exact ⟨rfl, hi⟩
      · rw [List.getElem?_append_right (by simpa using Nat.le_of_not_lt hi), List.getElem?_replicate] at e
        split at e <;> cases e
    have rel : Rel (.a :: (ms ++ md)) st.length F (st ++ [.ins c []]) (fun k => F k ∨ k = st.length) (some (.ref st.length) :: (ws.map some ++ List.replicate (N - n) none)) (some (.ins c []) :: (ds.map some ++ List.replicate (N - n) none)) := by
      refine ⟨by simp [hl2.1], fun i d e => ?_, fun i j k d e hij m1 m2 e1 e2 e3 e4 => ?_, fun k z => .inl z, fun k z => z.elim .inl fun z => .inr (by omega), hF, fun k z => by
        rw [List.length_append]
        rcases z with z | z
        · have := hF k z; omega
        · rw [z]; simp, by simp, fun i hi => ?_⟩
      · cases i with
        | zero =>
          cases e
          exact ⟨_, rfl, st.length, rfl, .inr rfl, Nat.le_refl _, .ins (get_mid _ _ []) .nil⟩
        | succ i =>
          obtain ⟨e', hi⟩ := slot (i := i) (by simpa using e)
          obtain ⟨w, g, s⟩ := ism_get q e'
          refine ⟨w, ?_, ?_⟩
          · rw [List.getElem?_cons_succ, List.getElem?_append_left (by rw [List.length_map, hl2.1]; exact hi), List.getElem?_map, g]
            rfl
          · have hmode : mdAt (.a :: (ms ++ md)) (i + 1) = ms.getD i .c := by
              unfold mdAt
              rw [List.getD_cons_succ, List.getD_eq_getElem?_getD, List.getD_eq_getElem?_getD, List.getElem?_append_left (by rw [hl2.2]; exact hi)]
            have up : ∀ {w : Va} {d : D}, Is st F w d → Is (st ++ [.ins c []]) (fun k => F k ∨ k = st.length) w d := fun h => h.mono (fun _ _ _ z => get_old z) fun k hk z => z.elim id fun z => absurd hk (by omega)
            rw [hmode, List.getD_eq_getElem?_getD]
            rcases s with ⟨a, b⟩ | ⟨a, b⟩
            · rw [a]; exact up b
            · rw [a]
              refine ⟨?_, fun k e _ => ?_⟩
              · rcases b with b | ⟨k, e, o⟩
                · exact .inl (up b)
                · exact .inr ⟨k, e, o.mono (fun _ z => get_old z) (fun _ _ _ z => get_old z) fun k hk z => z.elim id fun z => absurd hk (by omega)⟩
              · subst e
                rcases b with b | ⟨k', e, o⟩
                · exact b.ob.1.lt
                · cases e; exact o.lt
      · cases i with
        | zero =>
          cases j with
          | zero => exact hij rfl
          | succ j =>
            have : mdAt (.a :: (ms ++ md)) (j + 1) = mdAt (ms ++ md) j := by unfold mdAt; rw [List.getD_cons_succ]
            rw [this] at m2
            rcases modes j with z | z <;> rw [z] at m2 <;> cases m2
        | succ i =>
          have : mdAt (.a :: (ms ++ md)) (i + 1) = mdAt (ms ++ md) i := by unfold mdAt; rw [List.getD_cons_succ]
          rw [this] at m1
          rcases modes i with z | z <;> rw [z] at m1 <;> cases m1
      · cases i with
        | zero => cases hi
        | succ i =>
          have : mdAt (.a :: (ms ++ md)) (i + 1) = mdAt (ms ++ md) i := by unfold mdAt; rw [List.getD_cons_succ]
          rw [this] at hi
          rcases modes i with z | z <;> rw [z] at hi <;> cases hi
    have hh := h rel
    have e0 : opMake c n (runF n m N) ws st = (match (match m (some (.ref st.length) :: (ws.map some ++ List.replicate (N - n) none)) (st ++ [.ins c []]) with
        | .nx _ st2 => (Rs.ok Va.non st2 : Rs Va)
        | .rt w st2 => .ok w st2
        | .xc c fs _ st2 => .exc c fs st2
        | _ => .no) with
      | .ok .non st2 => (Rs.ok (Va.ref st.length) st2 : Rs Va)
      | _ => .no) := by
      unfold opMake lenOk
      rw [if_pos (by rw [List.length_cons, hl2.1]; exact hl)]
      rfl
    rw [e0]
    revert hh
    cases v (some (.ins c []) :: (ds.map some ++ List.replicate (N - n) none)) with
    | nx ve' =>
      rintro ⟨env', st', F', e, s, r'⟩
      rw [e]
      dsimp only
      have hs0 := hk _ _ _ _ e
      split
      · rename_i d e1
        obtain ⟨w, g, sl⟩ := r'.slot 0 d e1
        obtain ⟨k, rfl, f, b, o⟩ := sl
        rw [hs0] at g
        cases g
        obtain ⟨x, rfl⟩ := pre_of (st := st) (st' := st') fun k o z => s.keep k o (fun _ => lt_of_get z) (get_old z)
        exact ⟨_, x, rfl, _, rfl, Nat.le_refl _, o.mono (fun _ z => z) (fun _ _ _ z => z) fun k _ z => s.mono k z⟩
      · exact True.intro
    | rt d => exact fun _ => True.intro
    | xc c fs ve' => exact fun _ => True.intro
    | bk ve' => exact fun _ => True.intro
    | ct ve' => exact fun _ => True.intro
    | no => exact fun _ => True.intro
  · rw [if_neg hl]
    exact True.intro
end
end Vl

set_option Elab.async false
set_option linter.all false
set_option maxRecDepth 100000
set_option maxHeartbeats 4000000
namespace Sh
open PySem PySem.Spec PyProof.Rows L2
/-! ### tuples of tuples at the top -/
def nestEqs : List (Sum Va (Va × Addr)) → List Value → Option (List V)
  | [], [] => some []
  | .inl w :: ws, v :: vs => match flatEq w v, nestEqs ws vs with
    | some x, some xs => some (x :: xs)
    | _, _ => none
  | .inr (_, a) :: ws, .ref b :: vs => if a = b then match nestEqs ws vs with
    | some xs => some (.ref a :: xs)
    | none => none
    else none
  | _, _ => none
def nestW : Sum Va (Va × Addr) → Va
  | .inl w => w
  | .inr (w, _) => w
def nestKids (K : PySem.W.Frag) : List (Sum Va (Va × Addr)) → Prop
  | [] => True
  | .inl _ :: t => nestKids K t
  | .inr (w, a) :: t => (∀ H0 H ι, RV K H0 H ι w (.ref a)) ∧ nestKids K t
theorem nestEqs_ok {K : PySem.W.Frag} : ∀ {l : List (Sum Va (Va × Addr))} {us : List Value} {xs : List V}, nestEqs l us = some xs → nestKids K l → Vals xs us ∧ ∀ H0 H ι, RVs K H0 H ι (l.map nestW) xs
  | [], [], _, h, _ => by cases h; exact ⟨.nil, fun _ _ _ => .nil⟩
  | [], _ :: _, _, h, _ => by cases h
  | .inl _ :: _, [], _, h, _ => by cases h
  | .inr (_, _) :: _, [], _, h, _ => by cases h
  | .inl w :: ws, u :: us, _, h, k => by
    unfold nestEqs at h
    split at h
    · rename_i x xs h1 h2
      cases h
      obtain ⟨q1, q2⟩ := nestEqs_ok (K := K) h2 k
      exact ⟨.cons (flatEq_ok (K := K) (H0 := fun _ => none) (H := fun _ => none) (ι := []) h1).1 q1, fun H0 H ι => .cons (flatEq_ok h1).2 (q2 H0 H ι)⟩
    · cases h
  | .inr (w, a) :: ws, u :: us, _, h, k => by
    cases u <;> (try (cases h; done))
    rename_i b
    simp only [nestEqs] at h
    split at h
    · rename_i e
      subst e
      split at h
      · rename_i xs h2
        cases h
        obtain ⟨q1, q2⟩ := nestEqs_ok (K := K) h2 k.2
        exact ⟨.cons rfl q1, fun H0 H ι => .cons (k.1 H0 H ι) (q2 H0 H ι)⟩
      · cases h
    · cases h
def nestOk (o : Obj) (l : List (Sum Va (Va × Addr))) : Bool := (o.cls == .type "tuple") && match o.data with
  | .seq its _ => decide (its.size ≤ 16777216) && (nestEqs l its.toList).isSome
  | _ => false
theorem rv_nest {K : PySem.W.Frag} {a : Addr} {o : Obj} {l : List (Sum Va (Va × Addr))} (lo : K.lookup a = some o) (q : nestOk o l = true) (k : nestKids K l) : ∀ H0 H ι, RV K H0 H ι (.ktp (l.map nestW)) (.ref a) := by
  unfold nestOk at q
  rw [Bool.and_eq_true] at q
  obtain ⟨q1, q2⟩ := q
  split at q2
  · rename_i its n e
    rw [Bool.and_eq_true, decide_eq_true_eq] at q2
    obtain ⟨q2, q3⟩ := q2
    obtain ⟨xs, e3⟩ := Option.isSome_iff_exists.mp q3
    obtain ⟨r1, r2⟩ := nestEqs_ok (K := K) e3 k
    exact fun H0 H ι => .ktp (.inr ⟨o, its, n, lo, eq_of_beq q1, e, le_line q2, r1⟩) (r2 _ _ _)
  · cases q2
theorem gv_nest {K : PySem.W.Frag} {mg : Str → Option Value} {x : Str} {a : Addr} {w : Va} (h : mg x = some (.ref a)) (r : ∀ H0 H ι, RV K H0 H ι w (.ref a)) : GV K mg x w := ⟨_, .ref a, h, rfl, fun g H ι => r _ _ _⟩
theorem forall_nil (p : Nat → Prop) : ∀ c ∈ ([] : List Nat), p c := fun _ h => absurd h List.not_mem_nil
theorem forall_cons {p : Nat → Prop} {c : Nat} {l : List Nat} (h : p c) (t : ∀ d ∈ l, p d) : ∀ d ∈ c :: l, p d := fun d hd => by
  rcases List.mem_cons.mp hd with rfl | hd
  · exact h
  · exact t d hd
theorem tbl_nil {K : PySem.W.Frag} {g : Gx} {C : Addr} : IsTbl K g C [] := fun _ _ h => by cases h
theorem tbl_cons {K : PySem.W.Frag} {g : Gx} {C : Addr} {c : Nat} {b : Bool} {t : List (Nat × Bool)} (h : IsOk K (g.cls c) ∧ PySem.W.kitOne K (.ref (g.cls c)) (.ref C) = some b) (r : IsTbl K g C t) : IsTbl K g C ((c, b) :: t) := fun d y e => by
  rw [List.lookup_cons] at e
  split at e
  · rename_i q
    cases e
    have := eq_of_beq q
    subst this
    exact h
  · exact r d y e
theorem isTbl_of {K : PySem.W.Frag} {g : Gx} {C : Addr} {t : List (Nat × Bool)} (h : IsTbl K g C t) : IsTbl K g C t := h

/-! ### a, b = x, y with no tuple made -/
section
variable {X : Cx} {g : Gx} {W : WX} {pos : Pos}
def parT (i j : Nat) (env : En) : List Va → Sto → Fl := fun ws st => match ws with
  | [x, y] => .nx ((env.set i (some x)).set j (some y)) st
  | _ => .no
def sPar (i j : Nat) (m : En → Mo (List Va)) : Sm := fun env st => bS env (m env st) (parT i j env)
theorem js_par (i j : Nat) {x y : Str} {e1' e2' : Expr} {m : En → Mo (List Va)} {px py pt : Pos} {kt k2 pt2} (hc : X.calm = true) (hN : X.N.Nodup) (ha : JA X g W [e1', e2'] m) (hi : X.N[i]? = some x := by rfl) (hj : X.N[j]? = some y := by rfl) (hij : i ≠ j := by decide)
    (hx : X.env.scope.names.lookup x = some .local := by rfl) (hy : X.env.scope.names.lookup y = some .local := by rfl)
    (hw : swappedStores [.Tuple [.Name x px, .Name y py] kt pt] (.Tuple [e1', e2'] k2 pt2) X.env = pure (some [x, y]) := by rfl)
    (hs : swapsWithSole [.Tuple [.Name x px, .Name y py] kt pt] (.Tuple [e1', e2'] k2 pt2) pos.line X.env = pure false := by rfl) :
    JS X g W (.Assign [.Tuple [.Name x px, .Name y py] kt pt] (.Tuple [e1', e2'] k2 pt2) pos) (sPar i j m) := ⟨PS.imp (ps_par hc hN hi hj hij hx hy ha.pa hw hs) fun D σ H q => by
  obtain ⟨env, st, ι, rs, re, p⟩ := tG_bS (rel := rVs X.K g) q
  refine ⟨env, st, ι, rs, re, p.imp (fun v H1 q => ?_) fun _ _ _ q => q⟩
  obtain ⟨env1, ws, st1, ι1, rs1, re1, r1, p1⟩ := q
  unfold parT at p1
  split at p1
  · rename_i a b
    cases r1 with
    | cons ra t =>
      cases t with
      | cons rb t =>
        cases t
        exact ⟨_, _, rfl, p1 H1 ι1 _ Ext.refl rs1 ((re1.set i ra).set j rb)⟩
  · exact (show False from p1).elim⟩
end
end Sh
namespace Vl
open PySem PySem.Spec PyProof.Rows L2 Sh
theorem isL_ints {st : Sto} {F : Nat → Prop} : ∀ ns : List Int, IsL st F (ns.map Va.int) (ns.map D.int)
  | [] => .nil
  | n :: t => .cons (.int n) (isL_ints t)
theorem goal_v {f : Fn} {v : List D → VR D} {ns : List Int} {m : Md} (V : VFn [m] f v) (h : v [.scr (ns.map D.int)] = .ok (.bl true)) (hm : m = .b ∨ m = .c := by simp) : ∃ st, f [.scr (ns.map Va.int)] [] = .ok (.bl true) st := by
  have hi : Is [] (fun _ => False) (.scr (ns.map Va.int)) (.scr (ns.map D.int)) := .scr (isL_ints ns)
  have im : IsM [] (fun _ => False) [m] [.scr (ns.map Va.int)] [.scr (ns.map D.int)] := by
    rcases hm with rfl | rfl
    · exact .b (.of hi) .nil
    · exact .c hi .nil
  have q := V (F := fun _ => False) (fun _ k => k.elim) im
  rw [h] at q
  obtain ⟨w, x, e, r⟩ := q
  cases r
  exact ⟨_, e⟩
section
variable {md : List Md}
def dparT (i j : Nat) (ve : VEn) : List D → VFl := fun ds => match ds with
  | [x, y] => .nx ((ve.set i (some x)).set j (some y))
  | _ => .no
def dsPar (i j : Nat) (m : VM (List D)) : VSm := fun ve => dBS ve (m ve) (dparT i j ve)
theorem vs_par (i j : Nat) {m : En → Mo (List Va)} {v : VM (List D)} (h : VA md [.c, .c] m v) (hi : mdAt md i = .c := by rfl) (hj : mdAt md j = .c := by rfl) : VS md (sPar i j m) (dsPar i j v) := fun {B F0 st F env ve} r =>
  FlOk.bS r (h r) fun x ws ds q r' => by
    cases q with
    | c qa t =>
      cases t with
      | c qb t =>
        cases t
        exact ⟨_, _, F, rfl, Step.refl, (r'.set hi qa).set hj qb⟩
end
end Vl
namespace Sh
open PySem PySem.Spec PyProof.Rows L2
theorem kit_self {K : PySem.W.Frag} {v : Value} : PySem.W.kitOne K v v = some true := by
  unfold PySem.W.kitOne
  rw [if_pos (by simp)]
theorem kit_clsOf {K : PySem.W.Frag} {t : Value} {C : Addr} {b : Bool} (h2 : PySem.W.isClsIn K C = true) (h3 : PySem.W.typeIn K (.ref C) = some (.type "type")) (h4 : PySem.W.subIn K t (.ref C) = some b) : PySem.W.kitCls K t (.ref C) = some b := by
  have e2 : ((PySem.W.clsIn K C).isSome && PySem.W.typeIn K (.ref C) == some (.type "type")) = true := by
    have h2' : (PySem.W.clsIn K C).isSome = true := h2
    rw [h2', h3] <;> rfl
  show (if ((PySem.W.clsIn K C).isSome && PySem.W.typeIn K (.ref C) == some (.type "type")) = true then PySem.W.subIn K t (.ref C) else none) = some b
  rw [if_pos e2]
  exact h4
theorem exm_of {K : PySem.W.Frag} {t : Value} {C : Addr} {b : Bool} (h1 : PySem.W.subIn K (.ref C) (.type "BaseException") = some true) (h2 : PySem.W.isClsIn K C = true) (h3 : PySem.W.typeIn K (.ref C) = some (.type "type")) (h4 : PySem.W.subIn K t (.ref C) = some b) : PySem.W.exmOne K t (.ref C) = some b := by
  have e1' : (PySem.W.subIn K (.ref C) (.type "BaseException") == some true) = true := by rw [h1] <;> rfl
  unfold PySem.W.exmOne
  rw [if_pos e1']
  exact kit_clsOf h2 h3 h4
theorem kit_sub {K : PySem.W.Frag} {R C : Addr} {b : Bool} (h2 : PySem.W.isClsIn K C = true) (h3 : PySem.W.typeIn K (.ref C) = some (.type "type")) (h4 : PySem.W.subIn K (.ref R) (.ref C) = some b) (h5 : R ≠ C) : PySem.W.kitOne K (.ref R) (.ref C) = some b := by
  unfold PySem.W.kitOne
  rw [if_neg (by intro h; exact h5 (by have := eq_of_beq h; cases this; rfl))]
  exact kit_clsOf h2 h3 h4
theorem kit_any_nil {K : PySem.W.Frag} {t : Value} : PySem.W.kitAny K t [] = some false := rfl
theorem kit_any_no {K : PySem.W.Frag} {t c : Value} {r : List Value} {b : Bool} (h : PySem.W.kitOne K t c = some false) (h2 : PySem.W.kitAny K t r = some b) : PySem.W.kitAny K t (c :: r) = some b := by
  unfold PySem.W.kitAny
  rw [h]
  exact h2
theorem kit_any_yes {K : PySem.W.Frag} {t c : Value} {r : List Value} (h : PySem.W.kitOne K t c = some true) : PySem.W.kitAny K t (c :: r) = some true := by
  unfold PySem.W.kitAny
  rw [h]
end Sh
/-! ### going over what is a list or a tuple -/
namespace Sh
open PySem PySem.Spec PyProof.Rows L2
section
variable {X : Cx} {g : Gx} {W : WX} {pos : Pos} {tg : Expr}
def tiB (K : PySem.W.Frag) (tl : TE) : TI := fun σ H R => tl σ H fun x H1 => ∃ a, x = .ref a ∧ (((∃ us, SqL K H1 a us) ∧ R (Itl K a) H1) ∨ ((∃ us, SqT K H1 a us) ∧ R (Itt K a) H1))
theorem pi_both {iter : Expr} {tl : TE} (hp : PE X iter tl) : PI X tg iter (tiB X.K tl) := ⟨fun pn sh0 sg hp0 R0 inv0 hyp => thn (hp.run pn sh0 sg hp0 _ inv0 hyp) fun val shv ⟨pv0, hpv, invv, relv, got⟩ => by
  obtain ⟨adr, rfl, got⟩ := got
  cases relv
  rcases got with ⟨⟨us, isq⟩, last⟩ | ⟨⟨us, isq⟩, last⟩
  · obtain ⟨arr, _, plc, _⟩ := invv.list isq
    refine wpAny_pyIter_list plc.isList (Q := PIE X pn sg tg R0) ?_
    exact ⟨_, [shv.heap.objs.size], _, _, hpv, rfl, invv.kept (t' := shv.toks) fun _ _ w => Heap.get?_push_of_some _ w, turn_list adr _, ⟨_, Heap.get?_push_size _ rfl, rfl, rfl⟩,
      fun c hc => by
        rw [List.mem_singleton] at hc
        rw [hc]
        exact invv.fpOk (Nat.le_refl _) (invv.hok.fresh (Nat.le_refl _)), last⟩
  · obtain ⟨arr, _, plc, _⟩ := invv.tuple isq
    refine wpAny_pyIter_tuple (show shv.heap.IsTuple adr arr.toArray from plc) (Q := PIE X pn sg tg R0) ?_
    exact ⟨_, [shv.heap.objs.size], _, _, hpv, rfl, invv.kept (t' := shv.toks) fun _ _ w => Heap.get?_push_of_some _ w, turn_tuple adr _, ⟨_, Heap.get?_push_size _ rfl, rfl, rfl⟩,
      fun c hc => by
        rw [List.mem_singleton] at hc
        rw [hc]
        exact invv.fpOk (Nat.le_refl _) (invv.hok.fresh (Nat.le_refl _)), last⟩⟩
def srcB : Va → Mo Src := fun w st1 => match w with
  | .tup ws => .ok (.fix ws) st1
  | .ktp ws => .ok (.fix ws) st1
  | .scr ws => .ok (.fix ws) st1
  | .ref n => match st1[n]? with
    | some (.lst _) => .ok (.live n) st1
    | _ => .no
  | _ => .no
def iB (m : En → Mo Va) : En → Mo Src := fun env st => bnd (m env st) srcB
theorem ji_both {iter : Expr} {m : En → Mo Va} (hi : JE X g W iter m) : JI X g W tg iter (iB m) := ji_of (pi_both hi.pe) fun σ H R q => by
  obtain ⟨env, st, ι, rs, re, p⟩ := q
  refine ⟨env, st, ι, rs, re, (Pst.bind (rel := rV X.K g) p).imp (fun x H1 q => ?_) fun _ _ _ q => q⟩
  obtain ⟨w, st1, ι1, ex, rs1, r1, p1⟩ := q
  unfold srcB at p1
  cases w with
  | tup ws =>
    cases r1 with
    | @tup a vs _ sq k1 => exact ⟨a, rfl, .inr ⟨⟨vs, SqT.of sq⟩, p1 H1 ι1 (Itt X.K a) Ext.refl rs1 ⟨_, fix_tup, sq, k1⟩⟩⟩
  | ktp ws =>
    cases r1 with
    | @ktp a vs _ sq k1 => exact ⟨a, rfl, .inr ⟨⟨vs, sqt_old rs1 sq⟩, p1 H1 ι1 (Itt X.K a) Ext.refl rs1 ⟨_, fix_ktp sq, sqt_old rs1 sq, k1⟩⟩⟩
  | scr ws =>
    cases r1 with
    | @scr a vs _ sq k1 => exact ⟨a, rfl, .inl ⟨⟨vs, sql_old rs1 sq⟩, p1 H1 ι1 (Itl X.K a) Ext.refl rs1 ⟨_, fix_scr sq, sql_old rs1 sq, k1⟩⟩⟩
  | ref n =>
    cases r1 with
    | @ref _ a ha =>
      dsimp only at p1
      split at p1
      · rename_i ws e
        obtain ⟨vs, h3, k1⟩ := rs1.obj n _ a e ha
        exact ⟨a, rfl, .inl ⟨⟨vs, .inl (.inl h3)⟩, p1 H1 ι1 (Itl X.K a) Ext.refl rs1 ⟨a, ha, rfl⟩⟩⟩
      · exact (show False from p1).elim
  | _ => exact (show False from p1).elim
end
end Sh
namespace Vl
open PySem PySem.Spec PyProof.Rows L2 Sh
section
variable {md : List Md}
def srcBD : D → VR (List D) := fun d => match d with
  | .tup ds => .ok ds
  | .lst ds => .ok ds
  | .scr ds => .ok ds
  | _ => .no
def diB (m : VM D) : VM (List D) := fun ve => vb (m ve) srcBD
theorem vib_both {m : En → Mo Va} {v : VM D} (h : VB md m v) : VIB md (iB m) (diB v) := fun r => (h r).bind fun x w d q => by
  unfold srcB srcBD
  cases d with
  | tup ds =>
    obtain ⟨ws, e, k⟩ := q.tup
    rcases e with rfl | rfl <;> exact RsOk.here k
  | lst ds =>
    obtain ⟨n, ws, rfl, g, k⟩ := q.lst
    dsimp only
    rw [g]
    exact RsOk.here ⟨_, g, k⟩
  | scr ds => obtain ⟨ws, rfl, k⟩ := q.scr; exact RsOk.here k
  | _ => exact True.intro
end
end Vl

set_option Elab.async false
set_option linter.all false
set_option maxRecDepth 100000
set_option maxHeartbeats 4000000
/-! what a value term must give, read from the end -/
namespace Vl
open PySem PySem.Spec PyProof.Rows L2 Sh
abbrev XP := Nat → List (Str × D) → Prop
@[irreducible] def RP {α : Type} (r : VR α) (P : α → Prop) (X : XP) : Prop := match r with
  | .ok a => P a
  | .exc c fs => X c fs
  | .no => False
structure Po where
  nx : VEn → Prop
  rt : D → Prop
  ct : VEn → Prop
  bk : VEn → Prop
  xc : XP
@[irreducible] def FOk (Q : Po) : VFl → Prop
  | .nx ve => Q.nx ve
  | .rt d => Q.rt d
  | .ct ve => Q.ct ve
  | .bk ve => Q.bk ve
  | .xc c fs _ => Q.xc c fs
  | .no => False
section
variable {α β : Type} {P : α → Prop} {X : XP} {ve : VEn}
@[simp] theorem rp_ok (a : α) : RP (.ok a) P X = P a := by unfold RP; rfl
@[simp] theorem rp_no : RP (.no) P X = False := by unfold RP; rfl
@[simp] theorem rp_exc (c : Nat) (fs : List (Str × D)) : RP (.exc c fs) P X = X c fs := by unfold RP; rfl
@[simp] theorem rp_vb (r : VR β) (f : β → VR α) : RP (vb r f) P X = RP r (fun a => RP (f a) P X) X := by cases r <;> simp only [rp_ok, rp_no, rp_exc, vb]
theorem rp_ite (c : Prop) [Decidable c] (r : VR α) : RP (if c then r else .no) P X = (c ∧ RP r P X) := by
  split <;> simp_all
theorem rp_iteo (c : Prop) [Decidable c] (a : α) : RP (if c then .ok a else .no) P X = (c ∧ P a) := by rw [rp_ite, rp_ok]
theorem rp_mk {a : α} (h : P a) : RP (.ok a) P X := by rw [rp_ok]; exact h
theorem rp_un {a : α} (h : RP (.ok a) P X) : P a := by rw [rp_ok] at h; exact h
theorem RP.imp {r : VR α} {P' : α → Prop} (h : RP r P X) (k : ∀ a, P a → P' a) : RP r P' X := by cases r <;> simp only [rp_ok, rp_no, rp_exc] at h ⊢ <;> first | exact h | exact k _ h
theorem RP.eq {r : VR α} {a : α} (h : RP r (fun x => x = a) fun _ _ => False) : r = .ok a := by
  cases r with
  | ok b => rw [rp_ok] at h; exact congrArg _ h
  | exc c fs => rw [rp_exc] at h; exact h.elim
  | no => rw [rp_no] at h; exact h.elim
theorem RP.of {r : VR α} (a : α) (e : r = .ok a) (h : P a) : RP r P X := by rw [e, rp_ok]; exact h
theorem RP.ex {r : VR α} (h : RP r P fun _ _ => False) : ∃ a, r = .ok a ∧ P a := by
  cases r with
  | ok b => rw [rp_ok] at h; exact ⟨b, rfl, h⟩
  | exc c fs => rw [rp_exc] at h; exact h.elim
  | no => rw [rp_no] at h; exact h.elim
end
section
variable {P : D → Prop} {B : Bool → Prop} {L : List D → Prop} {X : XP} {ve : VEn}
def atP (ve : VEn) (i : Nat) (P : D → Prop) : Prop := match ve[i]? with
  | some (some d) => P d
  | _ => False
@[simp] theorem rp_var (i : Nat) : RP (dVar i ve) P X = atP ve i P := by
  unfold dVar atP
  split <;> simp_all
@[simp] theorem at_0 (d : D) (r : VEn) : atP (some d :: r) 0 P = P d := rfl
@[simp] theorem at_n (d : Option D) (r : VEn) (i : Nat) : atP (d :: r) (i + 1) P = atP r i P := rfl
@[simp] theorem rp_dc (d : D) : RP (dC d ve) P X = P d := rp_ok _
@[simp] theorem rp_d2 {α β γ : Type} {P : γ → Prop} (op : α → β → VR γ) (a : VM α) (b : VM β) : RP (d2 op a b ve) P X = RP (a ve) (fun x => RP (b ve) (fun y => RP (op x y) P X) X) X := by simp [d2]
@[simp] theorem rp_d1 {α β : Type} {P : β → Prop} (op : α → VR β) (a : VM α) : RP (d1 op a ve) P X = RP (a ve) (fun x => RP (op x) P X) X := by simp [d1]
@[simp] theorem rp_nil : RP (dNil ve) L X = L [] := rp_ok _
@[simp] theorem rp_cons (a : VM D) (r : VM (List D)) : RP (dCons a r ve) L X = RP (a ve) (fun x => RP (r ve) (fun xs => L (x :: xs)) X) X := by simp [dCons]
@[simp] theorem rp_dA (op : List D → VR D) (a : VM (List D)) : RP (dA op a ve) P X = RP (a ve) (fun xs => RP (op xs) P X) X := by simp [dA]
def isBl (d : D) (B : Bool → Prop) : Prop := match d with
  | .bl b => B b
  | _ => False
@[simp] theorem isBl_bl (b : Bool) : isBl (.bl b) B = B b := rfl
@[simp] theorem rp_dT (m : VM D) : RP (dT m ve) B X = RP (m ve) (fun d => isBl d B) X := by
  unfold dT dBl
  rw [rp_vb]
  congr 1
  funext d
  cases d <;> first | rfl | exact rp_ok _ | exact rp_no
@[simp] theorem rp_dNot (m : VM Bool) : RP (dNot m ve) B X = RP (m ve) (fun b => B (!b)) X := by simp [dNot]
@[simp] theorem rp_dAnd (m n : VM Bool) : RP (dAnd m n ve) B X = RP (m ve) (fun b => if b = true then RP (n ve) B X else B false) X := by
  unfold dAnd
  rw [rp_vb]
  congr 1
  funext b
  cases b <;> first | rfl | exact rp_ok _ | exact rp_no
@[simp] theorem rp_dOr (m n : VM Bool) : RP (dOr m n ve) B X = RP (m ve) (fun b => if b = true then B true else RP (n ve) B X) X := by
  unfold dOr
  rw [rp_vb]
  congr 1
  funext b
  cases b <;> first | rfl | exact rp_ok _ | exact rp_no
@[simp] theorem rp_dIf (t : VM Bool) (m n : VM D) : RP (dIf t m n ve) P X = RP (t ve) (fun b => if b = true then RP (m ve) P X else RP (n ve) P X) X := by
  unfold dIf
  rw [rp_vb]
  congr 1
  funext b
  cases b <;> first | rfl | exact rp_ok _ | exact rp_no
@[simp] theorem rp_wAnd (m n : VM D) : RP (wAnd m n ve) P X = RP (m ve) (fun d => isBl d fun b => if b = true then RP (n ve) P X else P (.bl false)) X := by
  unfold wAnd
  rw [rp_vb]
  congr 1
  funext d
  cases d <;> try first | rfl | exact rp_ok _ | exact rp_no
  rename_i b
  cases b <;> first | rfl | exact rp_ok _ | exact rp_no
@[simp] theorem rp_wOr (m n : VM D) : RP (wOr m n ve) P X = RP (m ve) (fun d => isBl d fun b => if b = true then P (.bl true) else RP (n ve) P X) X := by
  unfold wOr
  rw [rp_vb]
  congr 1
  funext d
  cases d <;> try first | rfl | exact rp_ok _ | exact rp_no
  rename_i b
  cases b <;> first | rfl | exact rp_ok _ | exact rp_no
@[simp] theorem rp_wNot (m : VM D) : RP (wNot m ve) P X = RP (m ve) (fun d => isBl d fun b => P (.bl (!b))) X := by
  unfold wNot
  rw [rp_vb]
  congr 1
  funext d
  cases d <;> first | rfl | exact rp_ok _ | exact rp_no
@[simp] theorem rp_dLen (n : Nat) (f : List D → VR D) (ds : List D) : RP (dLen n f ds) P X = (ds.length = n ∧ RP (f ds) P X) := rp_ite _ _
def isInt (d : D) (P : Int → Prop) : Prop := match d with
  | .int i => P i
  | _ => False
@[simp] theorem isInt_int {P : Int → Prop} (i : Int) : isInt (.int i) P = P i := rfl
@[simp] theorem rp_dSome {P : Option Int → Prop} (m : VM D) : RP (dSome m ve) P X = RP (m ve) (fun d => isInt d fun i => P (some i)) X := by
  unfold dSome
  rw [rp_vb]
  congr 1
  funext d
  cases d <;> first | rfl | exact rp_ok _ | exact rp_no
@[simp] theorem rp_dSl (op : Option Int → Option Int → D → VR D) (m : VM D) (lo hi : VM (Option Int)) : RP (dSl op m lo hi ve) P X = RP (m ve) (fun w => RP (lo ve) (fun l => RP (hi ve) (fun h => RP (op l h w) P X) X) X) X := by simp [dSl]
/-! operators -/
@[simp] theorem rp_add (i j : Int) : RP (vAdd (.int i) (.int j)) P X = P (.int (i + j)) := rp_ok _
@[simp] theorem rp_addT (xs ys : List D) : RP (vAdd (.tup xs) (.tup ys)) P X = (xs.length + ys.length ≤ 16777216 ∧ P (.tup (xs ++ ys))) := rp_iteo _ _
@[simp] theorem rp_sub (i j : Int) : RP (vSub (.int i) (.int j)) P X = P (.int (i - j)) := rp_ok _
@[simp] theorem rp_mul (i j : Int) : RP (vMul (.int i) (.int j)) P X = ((sm64 i || sm64 j) = true ∧ P (.int (i * j))) := rp_iteo _ _
@[simp] theorem rp_fdiv (i j : Int) : RP (vFdiv (.int i) (.int j)) P X = ((0 < j ∧ j < 1073741824) ∧ P (.int (i / j))) := rp_iteo _ _
@[simp] theorem rp_mod (i j : Int) : RP (vMod (.int i) (.int j)) P X = (0 < j ∧ P (.int (i % j))) := rp_iteo _ _
@[simp] theorem rp_pow (i j : Int) : RP (vPow (.int i) (.int j)) P X = ((0 ≤ j ∧ j ≤ 1000000 ∧ i.natAbs < 2 ^ 64) ∧ P (.int (i ^ j.toNat))) := rp_iteo _ _
@[simp] theorem rp_lt (i j : Int) : RP (vLt (.int i) (.int j)) P X = P (.bl (decide (i < j))) := rp_ok _
@[simp] theorem rp_gt (i j : Int) : RP (vGt (.int i) (.int j)) P X = P (.bl (decide (j < i))) := rp_ok _
@[simp] theorem rp_ge (i j : Int) : RP (vGe (.int i) (.int j)) P X = P (.bl (decide (j ≤ i))) := rp_ok _
@[simp] theorem rp_le (i j : Int) : RP (vLe (.int i) (.int j)) P X = P (.bl (decide (i ≤ j))) := rp_ok _
@[simp] theorem rp_eqI (neg : Bool) (i j : Int) : RP (vEqB neg (.int i) (.int j)) P X = P (.bl (xor neg (i == j))) := rp_ok _
@[simp] theorem rp_eqS (neg : Bool) (i j : Str) : RP (vEqB neg (.str i) (.str j)) P X = P (.bl (xor neg (i == j))) := rp_ok _
@[simp] theorem rp_neg (i : Int) : RP (vNeg (.int i)) P X = P (.int (-i)) := rp_ok _
@[simp] theorem rp_lenT (xs : List D) : RP (vLen [.tup xs]) P X = P (.int xs.length) := rp_ok _
@[simp] theorem rp_lenL (xs : List D) : RP (vLen [.lst xs]) P X = P (.int xs.length) := rp_ok _
@[simp] theorem rp_lenR (xs : List D) : RP (vLen [.scr xs]) P X = P (.int xs.length) := rp_ok _
@[simp] theorem rp_abs (i : Int) : RP (vAbs [.int i]) P X = P (.int (if i < 0 then -i else i)) := rp_ok _
@[simp] theorem rp_min (i j : Int) : RP (vMin [.int i, .int j]) P X = P (.int (if j < i then j else i)) := rp_ok _
@[simp] theorem rp_max (i j : Int) : RP (vMax [.int i, .int j]) P X = P (.int (if j > i then j else i)) := rp_ok _
@[simp] theorem rp_int (i : Int) : RP (vInt [.int i]) P X = P (.int i) := rp_ok _
@[simp] theorem rp_intB (b : Bool) : RP (vInt [.bl b]) P X = P (.int (if b then 1 else 0)) := rp_ok _
@[simp] theorem rp_listT (xs : List D) : RP (vList [.tup xs]) P X = P (.lst xs) := rp_ok _
@[simp] theorem rp_listL (xs : List D) : RP (vList [.lst xs]) P X = P (.lst xs) := rp_ok _
@[simp] theorem rp_tupT (xs : List D) : RP (vTuple [.tup xs]) P X = P (.tup xs) := rp_ok _
@[simp] theorem rp_tupL (xs : List D) : RP (vTuple [.lst xs]) P X = P (.tup xs) := rp_ok _
@[simp] theorem rp_tup (xs : List D) : RP (vTup xs) P X = (xs.length ≤ 1000 ∧ P (.tup xs)) := rp_iteo _ _
@[simp] theorem rp_lst (xs : List D) : RP (vLst xs) P X = (xs.length ≤ 1000 ∧ P (.lst xs)) := rp_iteo _ _
def ixP (ds : List D) (i : Int) (P : D → Prop) : Prop := match atI ds i with
  | some d => P d
  | none => False
@[simp] theorem rp_ixT (ds : List D) (i : Int) : RP (vIxA (.tup ds) (.int i)) P X = ixP ds i P := by
  unfold vIxA vIx ixP
  dsimp only
  split <;> simp_all
@[simp] theorem rp_ixL (ds : List D) (i : Int) : RP (vIxA (.lst ds) (.int i)) P X = ixP ds i P := by
  unfold vIxA vIx ixP
  dsimp only
  split <;> simp_all
@[simp] theorem rp_ixR (ds : List D) (i : Int) : RP (vIxA (.scr ds) (.int i)) P X = ixP ds i P := by
  unfold vIxA vIx ixP
  dsimp only
  split <;> simp_all
theorem atI_lt (ds : List D) (i : Int) (h0 : 0 ≤ i) (h1 : i < ds.length) : atI ds i = ds[i.toNat]? := by
  unfold atI ixN
  simp only [h0, h1, and_self, if_true, Option.bind_some]
theorem ixP_of {ds : List D} {i : Int} (h0 : 0 ≤ i) (h1 : i < ds.length) (h : ∀ d ∈ ds, P d) : ixP ds i P := by
  unfold ixP
  rw [atI_lt ds i h0 h1]
  have hl : i.toNat < ds.length := by omega
  rw [List.getElem?_eq_getElem hl]
  exact h _ (List.getElem_mem hl)
theorem ixP_at {ds : List D} {i : Int} (h0 : 0 ≤ i) (h1 : i < ds.length) (h : ∀ d, ds[i.toNat]? = some d → P d) : ixP ds i P := by
  unfold ixP
  rw [atI_lt ds i h0 h1]
  have hl : i.toNat < ds.length := by omega
  rw [List.getElem?_eq_getElem hl]
  exact h _ (List.getElem?_eq_getElem hl)
@[simp] theorem ixP_0 (d : D) (ds : List D) : ixP (d :: ds) 0 P = P d := by
  unfold ixP
  rw [atI_lt _ 0 (by omega) (by simp)]
  rfl
@[simp] theorem ixP_1 (d e : D) (ds : List D) : ixP (d :: e :: ds) 1 P = P e := by
  unfold ixP
  rw [atI_lt _ 1 (by omega) (by simp only [List.length_cons]; omega)]
  rfl
@[simp] theorem ixP_2 (d e f : D) (ds : List D) : ixP (d :: e :: f :: ds) 2 P = P f := by
  unfold ixP
  rw [atI_lt _ 2 (by omega) (by simp only [List.length_cons]; omega)]
  rfl
@[simp] theorem ixP_3 (d e f g : D) (ds : List D) : ixP (d :: e :: f :: g :: ds) 3 P = P g := by
  unfold ixP
  rw [atI_lt _ 3 (by omega) (by simp only [List.length_cons]; omega)]
  rfl
/-! what is gone over -/
def isLs (d : D) (L : List D → Prop) : Prop := match d with
  | .lst xs => L xs
  | .scr xs => L xs
  | _ => False
def isTp (d : D) (L : List D → Prop) : Prop := match d with
  | .tup xs => L xs
  | _ => False
@[simp] theorem isLs_lst (xs : List D) : isLs (.lst xs) L = L xs := rfl
@[simp] theorem isLs_scr (xs : List D) : isLs (.scr xs) L = L xs := rfl
@[simp] theorem isTp_tup (xs : List D) : isTp (.tup xs) L = L xs := rfl
@[simp] theorem rp_diL (m : VM D) : RP (diL m ve) L X = RP (m ve) (fun d => isLs d L) X := by
  unfold diL
  rw [rp_vb]
  congr 1
  funext d
  cases d <;> first | rfl | exact rp_ok _ | exact rp_no
@[simp] theorem rp_diT (m : VM D) : RP (diT m ve) L X = RP (m ve) (fun d => isTp d L) X := by
  unfold diT
  rw [rp_vb]
  congr 1
  funext d
  cases d <;> first | rfl | exact rp_ok _ | exact rp_no
def isSq (d : D) (L : List D → Prop) : Prop := match d with
  | .tup xs => L xs
  | .lst xs => L xs
  | .scr xs => L xs
  | _ => False
@[simp] theorem isSq_tup (xs : List D) : isSq (.tup xs) L = L xs := rfl
@[simp] theorem isSq_lst (xs : List D) : isSq (.lst xs) L = L xs := rfl
@[simp] theorem rp_diB (m : VM D) : RP (diB m ve) L X = RP (m ve) (fun d => isSq d L) X := by
  unfold diB
  rw [rp_vb]
  congr 1
  funext d
  cases d <;> first | rfl | exact rp_ok _ | exact rp_no
def isR1 (ds : List D) (L : List D → Prop) : Prop := match ds with
  | [.int j] => (-(2 ^ 62) ≤ j ∧ j < 2 ^ 62) ∧ L (rangeD 0 j.toNat)
  | _ => False
@[simp] theorem isR1_int (j : Int) : isR1 [.int j] L = ((-(2 ^ 62) ≤ j ∧ j < 2 ^ 62) ∧ L (rangeD 0 j.toNat)) := rfl
@[simp] theorem rp_diR1 (m : VM (List D)) : RP (diR1 m ve) L X = RP (m ve) (fun ds => isR1 ds L) X := by
  unfold diR1
  rw [rp_vb]
  congr 1
  funext ds
  unfold isR1
  split
  · exact rp_iteo _ _
  · first
    | exact rp_no
    | split
      · rename_i h; exact absurd rfl (h _)
      · exact rp_no
/-! statements -/
variable {Q : Po}
@[simp] theorem f_nx : FOk Q (.nx ve) = Q.nx ve := by unfold FOk; rfl
@[simp] theorem f_rt (d : D) : FOk Q (.rt d) = Q.rt d := by unfold FOk; rfl
@[simp] theorem f_ct : FOk Q (.ct ve) = Q.ct ve := by unfold FOk; rfl
@[simp] theorem f_bk : FOk Q (.bk ve) = Q.bk ve := by unfold FOk; rfl
@[simp] theorem f_nil : FOk Q (dsNil ve) = Q.nx ve := f_nx
@[simp] theorem f_cnt : FOk Q (dsCnt ve) = Q.ct ve := f_ct
@[simp] theorem f_brk : FOk Q (dsBrk ve) = Q.bk ve := f_bk
@[simp] theorem f_no : FOk Q .no = False := by unfold FOk; rfl
@[simp] theorem f_xc (c : Nat) (fs : List (Str × D)) : FOk Q (.xc c fs ve) = Q.xc c fs := by unfold FOk; rfl
theorem f_seq (m n : VSm) : FOk Q (dsSeq m n ve) = FOk ⟨fun ve' => FOk Q (n ve'), Q.rt, Q.ct, Q.bk, Q.xc⟩ (m ve) := by
  unfold dsSeq
  unfold FOk
  cases m ve <;> rfl
@[simp] theorem f_bs {α : Type} (r : VR α) (f : α → VFl) : FOk Q (dBS ve r f) = RP r (fun a => FOk Q (f a)) Q.xc := by cases r <;> simp only [dBS, rp_ok, rp_exc, rp_no, f_no, f_xc]
@[simp] theorem f_set (i : Nat) (m : VM D) : FOk Q (dsSet i m ve) = RP (m ve) (fun d => Q.nx (ve.set i (some d))) Q.xc := by
  unfold dsSet
  rw [f_bs]
  simp only [f_nx]
@[simp] theorem f_ret (m : VM D) : FOk Q (dsRet m ve) = RP (m ve) Q.rt Q.xc := by
  unfold dsRet
  rw [f_bs]
  simp only [f_rt]
theorem f_if (t : VM Bool) (m n : VSm) : FOk Q (dsIf t m n ve) = RP (t ve) (fun b => if b = true then FOk Q (m ve) else FOk Q (n ve)) Q.xc := by
  unfold dsIf
  rw [f_bs]
  congr 1
  funext b
  cases b <;> first | rfl | exact rp_ok _ | exact rp_no
def appP (d : D) (xs : List D) (P : D → Prop) : Prop := match d, xs with
  | .lst ds, [x] => ds.length < 16777216 ∧ P (.lst (ds ++ [x]))
  | _, _ => False
@[simp] theorem appP_lst (ds : List D) (x : D) : appP (.lst ds) [x] P = (ds.length < 16777216 ∧ P (.lst (ds ++ [x]))) := rfl
@[simp] theorem f_app (i : Nat) (va : VM (List D)) : FOk Q (dsChg "list" i va fApp ve) = atP ve i (fun d => isTd "list" d = true ∧ RP (va ve) (fun xs => appP d xs fun d' => Q.nx (ve.set i (some d'))) Q.xc) := by
  unfold dsChg atP
  cases e : ve[i]? with
  | none => exact f_no
  | some x =>
    cases x with
    | none => exact f_no
    | some d =>
      dsimp only
      by_cases h : isTd "list" d = true
      · rw [if_pos h, f_bs]
        simp only [h, true_and]
        congr 1
        funext xs
        unfold fApp appP
        cases d <;> try exact f_no
        rename_i ds
        cases xs with
        | nil => exact f_no
        | cons x t =>
          cases t with
          | nil =>
            dsimp only
            by_cases hl : ds.length < 16777216
            · rw [if_pos hl]; simp [hl]
            · rw [if_neg hl]; simp [hl]
          | cons y t => exact f_no
      · rw [if_neg h]; simp [h]
@[simp] theorem isTd_lst (ds : List D) : (isTd "list" (.lst ds) = true) = True := by simp [isTd]
def tgP (r : Option VEn) (P : VEn → Prop) : Prop := match r with
  | some ve => P ve
  | none => False
@[simp] theorem tgP_some {P : VEn → Prop} : tgP (some ve) P = P ve := rfl
@[simp] theorem f_unp (tg : VTg) (m : VM D) : FOk Q (dsUnp tg m ve) = RP (m ve) (fun d => tgP (tg d ve) Q.nx) Q.xc := by
  unfold dsUnp
  rw [f_bs]
  congr 1
  funext d
  cases tg d ve <;> first | exact f_no | exact f_nx
@[simp] theorem gN_eq (i : Nat) (d : D) : gN i d ve = some (ve.set i (some d)) := rfl
@[simp] theorem f_for (src : VM (List D)) (tg : VTg) (body : VSm) : FOk Q (dsFor src tg body ve) = RP (src ve) (fun ds => FOk Q (dForF tg body ds ve)) Q.xc := by
  unfold dsFor
  rw [f_bs]
theorem for_ok (I : List D → VEn → Prop) {tg : VTg} {body : VSm} : ∀ {ds pre : List D} {ve : VEn}, I pre ve →
    (∀ p d q ve, pre ++ ds = p ++ d :: q → I p ve → tgP (tg d ve) fun ve1 => FOk ⟨I (p ++ [d]), Q.rt, I (p ++ [d]), Q.nx, Q.xc⟩ (body ve1)) → (∀ ve, I (pre ++ ds) ve → Q.nx ve) → FOk Q (dForF tg body ds ve)
  | [], pre, ve, h0, hs, hn => by
    rw [List.append_nil] at hn
    unfold dForF
    rw [f_nx]
    exact hn _ h0
  | d :: r, pre, ve, h0, hs, hn => by
    have h1 := hs pre d r ve rfl h0
    unfold dForF
    cases e : tg d ve with
    | none => rw [e] at h1; exact h1.elim
    | some ve1 =>
      rw [e] at h1
      dsimp only [tgP] at h1 ⊢
      have go : ∀ ve2, I (pre ++ [d]) ve2 → FOk Q (dForF tg body r ve2) := fun ve2 h2 =>
        for_ok I (pre := pre ++ [d]) h2 (fun p d' q ve h3 => hs p d' q ve (by rw [← h3]; simp)) fun ve h => hn ve (by simpa using h)
      revert h1
      cases body ve1 with
      | nx ve2 => intro h; rw [f_nx] at h; exact go ve2 h
      | ct ve2 => intro h; rw [f_ct] at h; exact go ve2 h
      | bk ve2 => intro h; rw [f_bk] at h; dsimp only; rw [f_nx]; exact h
      | rt d => intro h; rw [f_rt] at h; dsimp only; rw [f_rt]; exact h
      | xc c fs ve2 => intro h; rw [f_xc] at h; dsimp only; rw [f_xc]; exact h
      | no => intro h; rw [f_no] at h; exact h.elim
/-! comprehensions -/
@[simp] theorem rp_lc (src : VM (List D)) (tg : VTg) (t : VM Bool) (e : VM D) (own : List Nat) : RP (dLc src tg t e own ve) P X = RP (src ve) (fun ds => ds.length ≤ 16777216 ∧ RP (dCompF tg t e (wipeD ve own) ds) (fun ys => P (.lst ys)) X) X := by
  unfold dLc
  rw [rp_vb]
  congr 1
  funext ds
  rw [rp_ite, rp_vb]
  simp only [rp_ok]
theorem comp_eq {tg : VTg} {t : VM Bool} {e : VM D} (p : D → Bool) (f : D → D) : ∀ {ds : List D}, (∀ d ∈ ds, tgP (tg d ve) fun ve1 => RP (t ve1) (fun b => b = p d ∧ (p d = true → RP (e ve1) (fun y => y = f d) fun _ _ => False)) fun _ _ => False) → dCompF tg t e ve ds = .ok ((ds.filter p).map f)
  | [], _ => rfl
  | d :: r, h => by
    have h1 := h d List.mem_cons_self
    have ih := comp_eq (ds := r) p f fun d hd => h d (List.mem_cons_of_mem _ hd)
    unfold dCompF
    cases e1' : tg d ve with
    | none => rw [e1'] at h1; exact h1.elim
    | some ve1 =>
      rw [e1'] at h1
      obtain ⟨b, eb, rfl, h2⟩ := RP.ex h1
      dsimp only
      rw [eb]
      cases hp : p d with
      | true =>
        have := (h2 hp).eq
        simp [vnex, vb, this, ih, hp]
      | false => simp [vnex, vb, ih, hp]
theorem comp_rp {tg : VTg} {t : VM Bool} {e : VM D} (R : D → Prop) : ∀ {ds : List D}, (∀ d ∈ ds, tgP (tg d ve) fun ve1 => RP (t ve1) (fun b => b = true → RP (e ve1) R fun _ _ => False) fun _ _ => False) → ∃ ys, dCompF tg t e ve ds = .ok ys ∧ (∀ y ∈ ys, R y) ∧ ys.length ≤ ds.length
  | [], _ => ⟨[], rfl, fun _ h => absurd h List.not_mem_nil, Nat.le_refl _⟩
  | d :: r, h => by
    have h1 := h d List.mem_cons_self
    obtain ⟨ys, e2', h3, h4⟩ := comp_rp (ds := r) R fun d hd => h d (List.mem_cons_of_mem _ hd)
    unfold dCompF
    cases e1' : tg d ve with
    | none => rw [e1'] at h1; exact h1.elim
    | some ve1 =>
      rw [e1'] at h1
      obtain ⟨b, eb, h2⟩ := RP.ex h1
      dsimp only
      rw [eb]
      cases b with
      | true =>
        obtain ⟨y, ey, ry⟩ := RP.ex (h2 rfl)
        refine ⟨y :: ys, by simp [vnex, vb, ey, e2'], fun z hz => ?_, by simp; omega⟩
        rcases List.mem_cons.mp hz with rfl | hz
        · exact ry
        · exact h3 _ hz
      | false => exact ⟨ys, by simp [vnex, vb, e2'], h3, by simp; omega⟩
/-- with no condition -/
theorem comp_all {tg : VTg} {e : VM D} (R : D → Prop) : ∀ {ds : List D}, (∀ d ∈ ds, tgP (tg d ve) fun ve1 => RP (e ve1) R fun _ _ => False) → ∃ ys, dCompF tg dYes e ve ds = .ok ys ∧ (∀ y ∈ ys, R y) ∧ ys.length = ds.length
  | [], _ => ⟨[], rfl, fun _ h => absurd h List.not_mem_nil, rfl⟩
  | d :: r, h => by
    have h1 := h d List.mem_cons_self
    obtain ⟨ys, e2', h3, h4⟩ := comp_all (ds := r) R fun d hd => h d (List.mem_cons_of_mem _ hd)
    unfold dCompF
    cases e1' : tg d ve with
    | none => rw [e1'] at h1; exact h1.elim
    | some ve1 =>
      rw [e1'] at h1
      obtain ⟨y, ey, ry⟩ := RP.ex h1
      refine ⟨y :: ys, by simp [dYes, vnex, vb, ey, e2'], fun z hz => ?_, by simp [h4]⟩
      rcases List.mem_cons.mp hz with rfl | hz
      · exact ry
      · exact h3 _ hz
theorem comp_allP {tg : VTg} {e : VM D} {X : XP} {P : List D → Prop} (R : D → Prop) {ds : List D} (h : ∀ d ∈ ds, tgP (tg d ve) fun ve1 => RP (e ve1) R fun _ _ => False) (k : ∀ ys : List D, (∀ y ∈ ys, R y) → ys.length = ds.length → P ys) : RP (dCompF tg dYes e ve ds) P X := by
  obtain ⟨ys, q, a, b⟩ := comp_all R h
  rw [q, rp_ok]
  exact k ys a b
theorem comp_rpP {tg : VTg} {t : VM Bool} {e : VM D} {X : XP} {P : List D → Prop} (R : D → Prop) {ds : List D} (h : ∀ d ∈ ds, tgP (tg d ve) fun ve1 => RP (t ve1) (fun b => b = true → RP (e ve1) R fun _ _ => False) fun _ _ => False) (k : ∀ ys : List D, (∀ y ∈ ys, R y) → ys.length ≤ ds.length → P ys) : RP (dCompF tg t e ve ds) P X := by
  obtain ⟨ys, q, a, b⟩ := comp_rp R h
  rw [q, rp_ok]
  exact k ys a b
theorem comp_eqP {tg : VTg} {t : VM Bool} {e : VM D} {X : XP} {P : List D → Prop} (p : D → Bool) (f : D → D) {ds : List D} (h : ∀ d ∈ ds, tgP (tg d ve) fun ve1 => RP (t ve1) (fun b => b = p d ∧ (p d = true → RP (e ve1) (fun y => y = f d) fun _ _ => False)) fun _ _ => False) (k : P ((ds.filter p).map f)) : RP (dCompF tg t e ve ds) P X := by
  rw [comp_eq p f h, rp_ok]
  exact k
/-- a def -/
theorem rp_run (n : Nat) (m : VSm) (N : Nat) (ds : List D) : RP (vrun n m N ds) P X = FOk ⟨fun _ => P .non, P, fun _ => False, fun _ => False, X⟩ (m (ds.map some ++ List.replicate (N - n) none)) := by
  unfold vrun
  cases m (ds.map some ++ List.replicate (N - n) none) <;> simp only [rp_ok, rp_exc, rp_no, f_nx, f_rt, f_ct, f_bk, f_xc, f_no]
theorem mem_range {d : D} {n : Nat} (h : d ∈ rangeD 0 n) : ∃ k : Nat, d = .int k ∧ k < n := by
  unfold rangeD at h
  rw [List.mem_map] at h
  obtain ⟨k, hk, rfl⟩ := h
  exact ⟨k, by simp, List.mem_range.mp hk⟩
theorem range_at {p q : List D} {d : D} {n : Nat} (h : rangeD 0 n = p ++ d :: q) : d = .int p.length ∧ p.length < n := by
  have hl : (rangeD 0 n).length = n := by simp [rangeD]
  have h1 : (rangeD 0 n)[p.length]? = some d := by rw [h]; simp
  have h2 : p.length < n := by
    rw [← hl, h]
    simp
  refine ⟨?_, h2⟩
  unfold rangeD at h1
  rw [List.getElem?_map, List.getElem?_range h2] at h1
  simp at h1
  exact h1.symm
end
end Vl
namespace Vl
section
variable {Q : Po} {ve : VEn}
theorem seq_if (c : Prop) {t : VM Bool} {m rest : VSm} (ht : RP (t ve) (fun x => (x = true) = c) Q.xc) (hm : c → FOk ⟨fun ve' => FOk Q (rest ve'), Q.rt, Q.ct, Q.bk, Q.xc⟩ (m ve)) (hn : ¬ c → FOk Q (rest ve)) : FOk Q (dsSeq (dsIf t m dsNil) rest ve) := by
  rw [f_seq, f_if]
  refine ht.imp fun b e => ?_
  by_cases hb : b = true
  · rw [if_pos hb]; exact hm (e ▸ hb)
  · rw [if_neg hb, f_nil]; exact hn (e ▸ hb)
theorem st_if (c : Prop) {t : VM Bool} {m n : VSm} (ht : RP (t ve) (fun x => (x = true) = c) Q.xc) (hm : c → FOk Q (m ve)) (hn : ¬ c → FOk Q (n ve)) : FOk Q (dsIf t m n ve) := by
  rw [f_if]
  refine ht.imp fun b e => ?_
  by_cases hb : b = true
  · rw [if_pos hb]; exact hm (e ▸ hb)
  · rw [if_neg hb]; exact hn (e ▸ hb)
theorem rp_and {X : XP} {m n : VM Bool} (c c' : Prop) (h1 : RP (m ve) (fun x => (x = true) = c) X) (h2 : c → RP (n ve) (fun x => (x = true) = c') X) : RP (dAnd m n ve) (fun x => (x = true) = (c ∧ c')) X := by
  rw [rp_dAnd]
  refine h1.imp fun b e => ?_
  by_cases hb : b = true
  · have hc : c := e ▸ hb
    rw [if_pos hb]
    exact (h2 hc).imp fun x hx => by rw [hx]; exact propext ⟨fun h => ⟨hc, h⟩, fun h => h.2⟩
  · have hc : ¬ c := e ▸ hb
    rw [if_neg hb]
    exact propext ⟨fun h => (Bool.false_ne_true h).elim, fun h => (hc h.1).elim⟩
theorem seq_of {m rest : VSm} (h : FOk ⟨fun ve' => FOk Q (rest ve'), Q.rt, Q.ct, Q.bk, Q.xc⟩ (m ve)) : FOk Q (dsSeq m rest ve) := by rw [f_seq]; exact h
end
end Vl

set_option Elab.async false
set_option linter.all false
set_option maxRecDepth 100000
set_option maxHeartbeats 4000000
namespace Pr
open PySem PySem.Spec PyProof.Rows L2 Sh Vl
open L2H (RoomH PinOk cxH)
def topS (i : Nat) : Stmt := PySem.Challenge.pw_nestcall_k40_guards_of_a_house.main.body.getD i (.Pass ⟨0, 0, 0, 0⟩)
def L_LOCK_BEHIND : List Va := [(Va.ktp [(Va.str ("set" : Str)), (Va.str ("lock" : Str)), (Va.ktp [(Va.str ("number" : Str)), (Va.int 0)])])]
def K_LOCK_BEHIND : Va := .ktp L_LOCK_BEHIND
def DK_LOCK_BEHIND : D := (.tup [(.tup [(.str ("set" : Str)), (.str ("lock" : Str)), (.tup [(.str ("number" : Str)), (.int 0)])])])
theorem IC_LOCK_BEHIND : IsC K_LOCK_BEHIND DK_LOCK_BEHIND := (ic_ktp (.cons (ic_ktp (.cons (ic_str _) (.cons (ic_str _) (.cons (ic_ktp (.cons (ic_str _) (.cons (ic_int _) .nil))) .nil)))) .nil))
def L_LOCK_FRONT : List Va := [(Va.ktp [(Va.str ("need" : Str)), (Va.ktp [(Va.str ("=" : Str)), (Va.ktp [(Va.str ("variable" : Str)), (Va.str ("lock" : Str))]), (Va.ktp [(Va.str ("number" : Str)), (Va.int 0)])])]), (Va.ktp [(Va.str ("set" : Str)), (Va.str ("lock" : Str)), (Va.ktp [(Va.str ("number" : Str)), (Va.int 1)])])]
def K_LOCK_FRONT : Va := .ktp L_LOCK_FRONT
def DK_LOCK_FRONT : D := (.tup [(.tup [(.str ("need" : Str)), (.tup [(.str ("=" : Str)), (.tup [(.str ("variable" : Str)), (.str ("lock" : Str))]), (.tup [(.str ("number" : Str)), (.int 0)])])]), (.tup [(.str ("set" : Str)), (.str ("lock" : Str)), (.tup [(.str ("number" : Str)), (.int 1)])])])
theorem IC_LOCK_FRONT : IsC K_LOCK_FRONT DK_LOCK_FRONT := (ic_ktp (.cons (ic_ktp (.cons (ic_str _) (.cons (ic_ktp (.cons (ic_str _) (.cons (ic_ktp (.cons (ic_str _) (.cons (ic_str _) .nil))) (.cons (ic_ktp (.cons (ic_str _) (.cons (ic_int _) .nil))) .nil)))) .nil))) (.cons (ic_ktp (.cons (ic_str _) (.cons (ic_str _) (.cons (ic_ktp (.cons (ic_str _) (.cons (ic_int _) .nil))) .nil)))) .nil)))
def L_LOCK_VARIABLE : List Va := [(Va.str ("lock" : Str)), (Va.int 2), (Va.int 0)]
def K_LOCK_VARIABLE : Va := .ktp L_LOCK_VARIABLE
def DK_LOCK_VARIABLE : D := (.tup [(.str ("lock" : Str)), (.int 2), (.int 0)])
theorem IC_LOCK_VARIABLE : IsC K_LOCK_VARIABLE DK_LOCK_VARIABLE := (ic_ktp (.cons (ic_str _) (.cons (ic_int _) (.cons (ic_int _) .nil))))
abbrev RS_ : List Nat := [3]
abbrev CS_HouseError : List Nat := [3]
def b_law_row  : Sm :=
  (sSeq (sSet 3 (eVar 0))
  (sSeq (sSet 4 (eA opLst aNil))
  (sSeq (sFor (iR1 (aCons (eVar 1) aNil)) (tgN 5)
  (sIf (eT (e2 opGe (eVar 0) (e2 opPow (eC (.int 10)) (eC (.int 18)))))
  (sSeq (sExpr (eMt "list" mAppend (eVar 4) (aCons (e2 opMod (eA cInt (aCons (eVar 3) aNil)) (eVar 2)) aNil)))
  (sSet 3 (e2 opFdiv (eVar 3) (eVar 2)))) (sSeq (sSet 3 (e2 opMod (e2 opAdd (e2 opMul (eVar 3) (eC (.int 48271))) (eC (.int 12345))) (eC (.int 2147483647))))
  (sExpr (eMt "list" mAppend (eVar 4) (aCons (e2 opMod (e2 opMod (eA cInt (aCons (e2 opAdd (e2 opMul (eVar 3) (eC (.int 69621))) (e2 opMul (eVar 5) (eC (.int 7919)))) aNil)) (eC (.int 2147483647))) (eVar 2)) aNil))))))
  (sRet (eVar 4)))))
def f_law_row : Fn := runF 3 (b_law_row ) 6
def b_law_cell  : Sm :=
  (sSeq (sIf (eT (e2 opLt (eVar 1) (eA cLen (aCons (eVar 0) aNil))))
  (sRet (e2 opIxA (eVar 0) (eVar 1))) sNil)
  (sRet (eC (.int 0))))
def f_law_cell : Fn := runF 2 (b_law_cell ) 2
def b_law_expression (c_law_expression : Fn) : Sm :=
  (sSeq (sSet 3 (e2 opMod (eA cInt (aCons (eVar 0) aNil)) (eC (.int 8))))
  (sSeq (sSet 4 (e2 opFdiv (eA cInt (aCons (eVar 0) aNil)) (eC (.int 8))))
  (sSeq (sIf (eAnd (eT (e2 opLt (eVar 3) (eC (.int 2)))) (eT (e2 opGt (eA cLen (aCons (eVar 1) aNil)) (eC (.int 0)))))
  (sRet (eA opTup (aCons (eC (.str ("variable" : Str))) (aCons (e2 opIxA (eVar 1) (e2 opMod (eVar 4) (eA cLen (aCons (eVar 1) aNil)))) aNil)))) sNil)
  (sSeq (sIf (eT (e2 opEq (eVar 3) (eC (.int 2))))
  (sRet (eA opTup (aCons (eC (.str ("given" : Str))) aNil))) sNil)
  (sSeq (sIf (eAnd (eT (e2 opEq (eVar 3) (eC (.int 3)))) (eT (e2 opGt (eA cLen (aCons (eVar 2) aNil)) (eC (.int 0)))))
  (sRet (eA opTup (aCons (e2 opIxA (eA opTup (aCons (eC (.str ("have" : Str))) (aCons (eC (.str ("out" : Str))) aNil))) (e2 opMod (eVar 4) (eC (.int 2)))) (aCons (e2 opIxA (eVar 2) (e2 opMod (e2 opFdiv (eVar 4) (eC (.int 2))) (eA cLen (aCons (eVar 2) aNil)))) aNil)))) sNil)
  (sSeq (sIf (eT (e2 opEq (eVar 3) (eC (.int 4))))
  (sSeq (sSet 5 (eA (lenOk 3 c_law_expression) (aCons (e2 opMod (e2 opFdiv (eVar 4) (eC (.int 7))) (eC (.int 60))) (aCons (eVar 1) (aCons (eVar 2) aNil)))))
  (sRet (eA opTup (aCons (e2 opIxA (eA opTup (aCons (eC (.str ("+" : Str))) (aCons (eC (.str ("-" : Str))) (aCons (eC (.str ("*" : Str))) (aCons (eC (.str ("/" : Str))) (aCons (eC (.str ("mod" : Str))) (aCons (eC (.str ("<" : Str))) (aCons (eC (.str ("=" : Str))) aNil)))))))) (e2 opMod (eVar 4) (eC (.int 7)))) (aCons (eVar 5) (aCons (eA (lenOk 3 c_law_expression) (aCons (e2 opMod (e2 opFdiv (eVar 4) (eC (.int 420))) (eC (.int 60))) (aCons (eVar 1) (aCons (eVar 2) aNil)))) aNil)))))) sNil)
  (sRet (eA opTup (aCons (eC (.str ("number" : Str))) (aCons (e2 opMod (eVar 4) (eC (.int 4))) aNil))))))))))
abbrev D_law_expression : Nat := 8
def f_law_expression : Nat → Fn
  | 0 => fun _ _ => .no
  | d + 1 => runF 3 (b_law_expression (f_law_expression d)) 6
def b_law_statement (c_law_expression : Fn) : Sm :=
  (sSeq (sSet 5 (e2 opMod (eA cInt (aCons (eVar 0) aNil)) (eC (.int 7))))
  (sSeq (sSet 6 (e2 opFdiv (eA cInt (aCons (eVar 0) aNil)) (eC (.int 7))))
  (sSeq (sIf (eAnd (eT (e2 opEq (eVar 5) (eC (.int 0)))) (eT (e2 opGt (eA cLen (aCons (eVar 1) aNil)) (eC (.int 0)))))
  (sRet (eA opTup (aCons (eC (.str ("set" : Str))) (aCons (e2 opIxA (eVar 1) (e2 opMod (eVar 6) (eA cLen (aCons (eVar 1) aNil)))) (aCons (eA (lenOk 3 c_law_expression) (aCons (e2 opFdiv (eVar 6) (eC (.int 6))) (aCons (eVar 1) (aCons (eVar 2) aNil)))) aNil))))) sNil)
  (sSeq (sIf (eT (e2 opEq (eVar 5) (eC (.int 1))))
  (sRet (eA opTup (aCons (eC (.str ("need" : Str))) (aCons (eA (lenOk 3 c_law_expression) (aCons (eVar 6) (aCons (eVar 1) (aCons (eVar 2) aNil)))) aNil)))) sNil)
  (sSeq (sIf (eAnd (eT (e2 opLt (eVar 5) (eC (.int 4)))) (eT (e2 opGt (eA cLen (aCons (eVar 2) aNil)) (eC (.int 0)))))
  (sRet (eA opTup (aCons (e2 opIxA (eA opTup (aCons (eC (.str ("give" : Str))) (aCons (eC (.str ("get" : Str))) aNil))) (e2 opMod (eVar 6) (eC (.int 2)))) (aCons (e2 opIxA (eVar 2) (e2 opMod (e2 opFdiv (eVar 6) (eC (.int 2))) (eA cLen (aCons (eVar 2) aNil)))) (aCons (eA (lenOk 3 c_law_expression) (aCons (e2 opFdiv (eVar 6) (eC (.int 6))) (aCons (eVar 1) (aCons (eVar 2) aNil)))) aNil))))) sNil)
  (sSeq (sIf (eAnd (eT (e2 opEq (eVar 5) (eC (.int 4)))) (eAnd (eT (e2 opGt (eA cLen (aCons (eVar 1) aNil)) (eC (.int 0)))) (eT (e2 opGt (eVar 4) (eC (.int 0))))))
  (sRet (eA opTup (aCons (eC (.str ("ask" : Str))) (aCons (e2 opIxA (eVar 1) (e2 opMod (eVar 6) (eA cLen (aCons (eVar 1) aNil)))) (aCons (e2 opAdd (eC (.int 1)) (e2 opMod (e2 opFdiv (eVar 6) (eC (.int 6))) (eC (.int 2)))) aNil))))) sNil)
  (sSeq (sIf (eAnd (eT (e2 opEq (eVar 5) (eC (.int 5)))) (eT (e2 opGt (eA cLen (aCons (eVar 3) aNil)) (eC (.int 0)))))
  (sSeq (sSet 7 (e2 opIxA (eVar 3) (e2 opMod (eVar 6) (eA cLen (aCons (eVar 3) aNil)))))
  (sRet (eA opTup (aCons (eC (.str ("call" : Str))) (aCons (e2 opIxA (eVar 7) (eC (.int 0))) (aCons (e2 opIxA (eVar 7) (eC (.int 1))) (aCons (eA (lenOk 3 c_law_expression) (aCons (e2 opFdiv (eVar 6) (eC (.int 12))) (aCons (eVar 1) (aCons (eVar 2) aNil)))) aNil))))))) sNil)
  (sRet (eIf (eT (e2 opGt (eA cLen (aCons (eVar 1) aNil)) (eC (.int 0)))) (eA opTup (aCons (eC (.str ("set" : Str))) (aCons (e2 opIxA (eVar 1) (eC (.int 0))) (aCons (eA opTup (aCons (eC (.str ("number" : Str))) (aCons (e2 opMod (eVar 6) (eC (.int 3))) aNil))) aNil)))) (eA opTup (aCons (eC (.str ("need" : Str))) (aCons (eA opTup (aCons (eC (.str ("number" : Str))) (aCons (eC (.int 1)) aNil))) aNil))))))))))))
def f_law_statement : Fn := runF 5 (b_law_statement (f_law_expression D_law_expression)) 8
def b_law_body (c_law_statement : Fn) (c_law_expression : Fn) : Sm :=
  (sSeq (sSet 5 (eA opLst aNil))
  (sSeq (sSet 6 (eVar 4))
  (sSeq (sFor (iL (eVar 0)) (tgN 7)
  (sIf (eAnd (eT (e2 opEq (e2 opMod (eA cInt (aCons (eVar 7) aNil)) (eC (.int 11))) (eC (.int 5)))) (eT (e2 opGt (eA cLen (aCons (eVar 0) aNil)) (eC (.int 1)))))
  (sSeq (sSet 8 (eA (lenOk 5 c_law_statement) (aCons (e2 opFdiv (eA cInt (aCons (eVar 7) aNil)) (eC (.int 11))) (aCons (eVar 1) (aCons (eVar 2) (aCons (eA opTup aNil) (aCons (eC (.int 0)) aNil)))))))
  (sSeq (sSet 9 (eA opTup aNil))
  (sSeq (sIf (eT (e2 opEq (e2 opMod (e2 opFdiv (eA cInt (aCons (eVar 7) aNil)) (eC (.int 11))) (eC (.int 2))) (eC (.int 1))))
  (sSet 9 (eA opTup (aCons (eA (lenOk 5 c_law_statement) (aCons (e2 opFdiv (eA cInt (aCons (eVar 7) aNil)) (eC (.int 77))) (aCons (eVar 1) (aCons (eVar 2) (aCons (eA opTup aNil) (aCons (eC (.int 0)) aNil)))))) aNil))) sNil)
  (sExpr (eMt "list" mAppend (eVar 5) (aCons (eA opTup (aCons (eC (.str ("if" : Str))) (aCons (eA (lenOk 3 c_law_expression) (aCons (e2 opFdiv (eA cInt (aCons (eVar 7) aNil)) (eC (.int 22))) (aCons (eVar 1) (aCons (eVar 2) aNil)))) (aCons (eA opTup (aCons (eVar 8) aNil)) (aCons (eVar 9) aNil))))) aNil)))))) (sSeq (sSet 10 (eA (lenOk 5 c_law_statement) (aCons (e2 opFdiv (eA cInt (aCons (eVar 7) aNil)) (eC (.int 11))) (aCons (eVar 1) (aCons (eVar 2) (aCons (eVar 3) (aCons (eVar 6) aNil)))))))
  (sSeq (sSet 6 (e2 opSub (eVar 6) (eA cInt (aCons (e2 opEq (e2 opIxA (eVar 10) (eC (.int 0))) (eC (.str ("ask" : Str)))) aNil))))
  (sExpr (eMt "list" mAppend (eVar 5) (aCons (eVar 10) aNil)))))))
  (sRet (eA opTup (aCons (eA cTuple (aCons (eVar 5) aNil)) (aCons (eVar 6) aNil)))))))
def f_law_body : Fn := runF 5 (b_law_body f_law_statement (f_law_expression D_law_expression)) 11
def b_law_contract (c_law_row : Fn) (c_law_body : Fn) : Sm :=
  (sSeq (sSet 6 (eA (lenOk 3 c_law_row) (aCons (e2 opIxA (eVar 1) (eC (.int 0))) (aCons (eC (.int 12)) (aCons (eC (.int 60)) aNil)))))
  (sSeq (sSet 7 (eSl (eA opLst (aCons (eC (.str ("x" : Str))) (aCons (eC (.str ("y" : Str))) aNil))) oNone (oSome (e2 opMod (e2 opIxA (eVar 6) (eC (.int 0))) (eC (.int 3))))))
  (sSeq (sIf (eT (eVar 5))
  (sSet 7 (eSl (eVar 7) oNone (oSome (eC (.int 1))))) sNil)
  (sSeq (sSet 8 (eLc (iR1 (aCons (eA cLen (aCons (eVar 7) aNil)) aNil)) (tgN 9) cYes (eA opTup (aCons (e2 opIxA (eVar 7) (eVar 9)) (aCons (e2 opAdd (eC (.int 2)) (e2 opMod (e2 opIxA (eVar 6) (e2 opAdd (eC (.int 1)) (eVar 9))) (e2 opSub (eC (.int 2)) (eA cInt (aCons (eVar 5) aNil))))) (aCons (e2 opMod (e2 opIxA (eVar 6) (e2 opAdd (eC (.int 3)) (eVar 9))) (eC (.int 2))) aNil)))) [9]))
  (sSeq (sSet 10 (eLc (iL (eVar 2)) (tgN 11) (eT (e2 opGt (e2 opMod (e2 opIxA (eVar 6) (eC (.int 6))) (eC (.int 4))) (eC (.int 0)))) (eA opTup (aCons (eVar 11) (aCons (e2 opMod (e2 opIxA (eVar 6) (eC (.int 5))) (e2 opSub (eC (.int 4)) (eA cInt (aCons (eVar 5) aNil)))) aNil))) [11]))
  (sSeq (sSet 12 (eA opLst aNil))
  (sSeq (sSet 13 (eA cList (aCons (eVar 3) aNil)))
  (sSeq (sSet 14 (eVar 4))
  (sSeq (sFor (iR1 (aCons (e2 opMod (e2 opIxA (eVar 6) (eC (.int 7))) (eC (.int 3))) aNil)) (tgN 9)
  (sSeq (sSet 15 (e2 opIxA (eA opTup (aCons (eC (.int 1)) (aCons (eC (.int 2)) (aCons (eC (.int 3)) aNil)))) (e2 opMod (e2 opIxA (eVar 6) (e2 opAdd (eC (.int 8)) (eVar 9))) (eC (.int 3)))))
  (sSeq (sIf (eNot (eT (eVar 5)))
  (sSet 15 (e2 opIxA (eA opTup (aCons (eC (.int 1)) (aCons (eC (.int 2)) (aCons (eC (.int 3)) (aCons (eC (.int 5)) (aCons (eC (.int 64)) aNil)))))) (e2 opMod (e2 opIxA (eVar 6) (e2 opAdd (eC (.int 8)) (eVar 9))) (eC (.int 5))))) sNil)
  (sSeq (sSet 16 (eA (lenOk 5 c_law_body) (aCons (eA (lenOk 3 c_law_row) (aCons (e2 opIxA (eVar 1) (e2 opAdd (eC (.int 1)) (eVar 9))) (aCons (e2 opAdd (eC (.int 1)) (e2 opMod (e2 opIxA (eVar 6) (e2 opAdd (eC (.int 10)) (eVar 9))) (eC (.int 4)))) (aCons (e2 opPow (eC (.int 10)) (eC (.int 9))) aNil)))) (aCons (eVar 7) (aCons (eVar 2) (aCons (eVar 13) (aCons (eVar 14) aNil)))))))
  (sSeq (sSet 14 (e2 opIxA (eVar 16) (eC (.int 1))))
  (sSeq (sExpr (eMt "list" mAppend (eVar 12) (aCons (eA opTup (aCons (e2 opIxA (eC (.str ("pq" : Str))) (eVar 9)) (aCons (eVar 15) (aCons (e2 opGt (e2 opMod (e2 opFdiv (e2 opIxA (eVar 6) (e2 opAdd (eC (.int 8)) (eVar 9))) (eC (.int 2))) (eC (.int 5))) (eC (.int 0))) (aCons (e2 opIxA (eVar 16) (eC (.int 0))) aNil))))) aNil)))
  (sSeq (sSet 17 (eLc (iT (e2 opIxA (eVar 16) (eC (.int 0)))) (tgN 18) (eT (e2 opEq (e2 opIxA (eVar 18) (eC (.int 0))) (eC (.str ("call" : Str))))) (eVar 18) [18]))
  (sIf (eAnd (eT (e2 opEq (eA cLen (aCons (eVar 17) aNil)) (eC (.int 0)))) (eNot (eT (eVar 5))))
  (sExpr (eMt "list" mAppend (eVar 13) (aCons (eA opTup (aCons (eVar 0) (aCons (e2 opIxA (eC (.str ("pq" : Str))) (eVar 9)) aNil))) aNil))) sNil))))))))
  (sRet (eA opTup (aCons (eA opTup (aCons (eVar 0) (aCons (eA cTuple (aCons (eVar 8) aNil)) (aCons (eA cTuple (aCons (eVar 10) aNil)) (aCons (eA cTuple (aCons (eVar 12) aNil)) aNil))))) (aCons (eVar 13) (aCons (eVar 14) aNil))))))))))))))
def f_law_contract : Fn := runF 6 (b_law_contract f_law_row f_law_body) 19
def b_law_house (c_law_row : Fn) (c_law_cell : Fn) (c_law_contract : Fn) : Sm :=
  (sSeq (sSet 4 (eA (lenOk 3 c_law_row) (aCons (eA (lenOk 2 c_law_cell) (aCons (eVar 0) (aCons (eVar 1) aNil))) (aCons (eC (.int 4)) (aCons (eC (.int 60)) aNil)))))
  (sSeq (sSet 5 (eSl (eA opLst (aCons (eC (.str ("a" : Str))) (aCons (eC (.str ("b" : Str))) aNil))) oNone (oSome (eA cMin (aCons (e2 opMod (e2 opIxA (eVar 4) (eC (.int 0))) (eC (.int 3))) (aCons (e2 opSub (eC (.int 2)) (eA cInt (aCons (eVar 3) aNil))) aNil))))))
  (sSeq (sSet 6 (eA opLst aNil))
  (sSeq (sSet 7 (eA opLst aNil))
  (sSeq (sSet 8 (eC (.int 2)))
  (sSeq (sIf (eT (eVar 3))
  (sSet 8 (e2 opAdd (eC (.int 1)) (e2 opMod (e2 opIxA (eVar 4) (eC (.int 3))) (eC (.int 2))))) sNil)
  (sSeq (sFor (iR1 (aCons (e2 opAdd (eC (.int 1)) (e2 opMod (e2 opIxA (eVar 4) (eC (.int 1))) (eVar 2))) aNil)) (tgN 9)
  (sSeq (sSet 10 (eLc (iR1 (aCons (eC (.int 3)) aNil)) (tgN 11) cYes (eA (lenOk 2 c_law_cell) (aCons (eVar 0) (aCons (e2 opAdd (e2 opAdd (e2 opAdd (eVar 1) (eC (.int 1))) (e2 opMul (eC (.int 3)) (eVar 9))) (eVar 11)) aNil))) [11]))
  (sSeq (sSet 12 (eA (lenOk 6 c_law_contract) (aCons (e2 opIxA (eC (.str ("cd" : Str))) (eVar 9)) (aCons (eVar 10) (aCons (eVar 5) (aCons (eVar 7) (aCons (eVar 8) (aCons (eVar 3) aNil))))))))
  (sSeq (sExpr (eMt "list" mAppend (eVar 6) (aCons (e2 opIxA (eVar 12) (eC (.int 0))) aNil)))
  (sSeq (sSet 7 (e2 opIxA (eVar 12) (eC (.int 1))))
  (sSet 8 (e2 opIxA (eVar 12) (eC (.int 2)))))))))
  (sRet (eA opTup (aCons (eLc (iL (eVar 5)) (tgN 13) cYes (eA opTup (aCons (eVar 13) (aCons (e2 opMod (e2 opIxA (eVar 4) (eC (.int 2))) (e2 opSub (eC (.int 3)) (eA cInt (aCons (eVar 3) aNil)))) aNil))) [13]) (aCons (eVar 6) aNil)))))))))))
def f_law_house : Fn := runF 4 (b_law_house f_law_row f_law_cell f_law_contract) 14
def b_law_called_value (c_law_called_value : Fn) : Sm :=
  (sSeq (sIf (eT (e2 opIn (e2 opIxA (eVar 0) (eC (.int 0))) (eA opTup (aCons (eC (.str ("variable" : Str))) (aCons (eC (.str ("have" : Str))) (aCons (eC (.str ("out" : Str))) aNil))))))
  (sRet (eA opTup (aCons (e2 opIxA (eVar 0) (eC (.int 0))) (aCons (e2 opIxA (eVar 1) (e2 opIxA (eVar 0) (eC (.int 1)))) aNil)))) sNil)
  (sSeq (sIf (eT (e2 opEq (eA cLen (aCons (eVar 0) aNil)) (eC (.int 3))))
  (sRet (eA opTup (aCons (e2 opIxA (eVar 0) (eC (.int 0))) (aCons (eA (lenOk 2 c_law_called_value) (aCons (e2 opIxA (eVar 0) (eC (.int 1))) (aCons (eVar 1) aNil))) (aCons (eA (lenOk 2 c_law_called_value) (aCons (e2 opIxA (eVar 0) (eC (.int 2))) (aCons (eVar 1) aNil))) aNil))))) sNil)
  (sRet (eVar 0))))
abbrev D_law_called_value : Nat := 8
def f_law_called_value : Nat → Fn
  | 0 => fun _ _ => .no
  | d + 1 => runF 2 (b_law_called_value (f_law_called_value d)) 2
def b_law_called_block (c_law_called_block : Fn) (c_law_called_value : Fn) : Sm :=
  (sSeq (sSet 2 (eA opLst aNil))
  (sSeq (sFor (iT (eVar 0)) (tgN 3)
  (sIf (eT (e2 opEq (e2 opIxA (eVar 3) (eC (.int 0))) (eC (.str ("if" : Str)))))
  (sSeq (sSet 4 (eA opTup (aCons (eA (lenOk 2 c_law_called_block) (aCons (e2 opIxA (eVar 3) (eC (.int 2))) (aCons (eVar 1) aNil))) (aCons (eA (lenOk 2 c_law_called_block) (aCons (e2 opIxA (eVar 3) (eC (.int 3))) (aCons (eVar 1) aNil))) aNil))))
  (sExpr (eMt "list" mAppend (eVar 2) (aCons (eA opTup (aCons (eC (.str ("if" : Str))) (aCons (eA (lenOk 2 c_law_called_value) (aCons (e2 opIxA (eVar 3) (eC (.int 1))) (aCons (eVar 1) aNil))) (aCons (e2 opIxA (eVar 4) (eC (.int 0))) (aCons (e2 opIxA (eVar 4) (eC (.int 1))) aNil))))) aNil)))) (sIf (eT (e2 opEq (e2 opIxA (eVar 3) (eC (.int 0))) (eC (.str ("ask" : Str)))))
  (sExpr (eMt "list" mAppend (eVar 2) (aCons (eA opTup (aCons (eC (.str ("ask" : Str))) (aCons (e2 opIxA (eVar 1) (e2 opIxA (eVar 3) (eC (.int 1)))) (aCons (e2 opIxA (eVar 3) (eC (.int 2))) aNil)))) aNil))) (sSeq (sSet 5 (eLc (iT (eSl (eVar 3) (oSome (eC (.int 1))) (oSome (e1 opNeg (eC (.int 1)))))) (tgN 6) cYes (e2 opIxA (eVar 1) (eVar 6)) [6]))
  (sExpr (eMt "list" mAppend (eVar 2) (aCons (e2 opAdd (e2 opAdd (eA opTup (aCons (e2 opIxA (eVar 3) (eC (.int 0))) aNil)) (eA cTuple (aCons (eVar 5) aNil))) (eA opTup (aCons (eA (lenOk 2 c_law_called_value) (aCons (e2 opIxA (eVar 3) (e1 opNeg (eC (.int 1)))) (aCons (eVar 1) aNil))) aNil))) aNil)))))))
  (sRet (eA cTuple (aCons (eVar 2) aNil)))))
abbrev D_law_called_block : Nat := 8
def f_law_called_block : Nat → Fn
  | 0 => fun _ _ => .no
  | d + 1 => runF 2 (b_law_called_block (f_law_called_block d) (f_law_called_value D_law_called_value)) 7
def b_law_called (c_law_called_block : Fn) : Sm :=
  (sSeq (sSet 1 (eDisp (dpCons (eC (.str ("a" : Str))) (eC (.str ("paid" : Str))) (dpCons (eC (.str ("b" : Str))) (eC (.str ("paid1" : Str))) (dpCons (eC (.str ("z" : Str))) (eC (.str ("paid12" : Str))) (dpCons (eC (.str ("x" : Str))) (eC (.str ("paid" : Str))) (dpCons (eC (.str ("y" : Str))) (eC (.str ("lock" : Str))) (dpCons (eC (.str ("lock" : Str))) (eC (.str ("lock" : Str))) (dpCons (eC (.str ("p" : Str))) (eC (.str ("paying" : Str))) (dpCons (eC (.str ("q" : Str))) (eC (.str ("payinga" : Str))) dpNil))))))))))
  (sSeq (sFor (iT (eA opTup (aCons (eA opTup (aCons (eC (.str ("r" : Str))) (aCons (eC (.str ("payingab" : Str))) aNil))) (aCons (eA opTup (aCons (eC (.str ("c" : Str))) (aCons (eC (.str ("houses0hold1" : Str))) aNil))) (aCons (eA opTup (aCons (eC (.str ("d" : Str))) (aCons (eC (.str ("houses0hold2" : Str))) aNil))) (aCons (eA opTup (aCons (eC (.str ("e" : Str))) (aCons (eC (.str ("houses0hold" : Str))) aNil))) (aCons (eA opTup (aCons (eC (.str ("f" : Str))) (aCons (eC (.str ("paid" : Str))) aNil))) aNil))))))) (tgT [2, 3])
  (sItemA (eVar 1) (eVar 2) (eVar 3)))
  (sSeq (sSet 4 (eA opLst aNil))
  (sSeq (sFor (iL (e2 opIxA (eVar 0) (eC (.int 1)))) (tgN 5)
  (sSeq (sSet 6 (eA cTuple (aCons (eLc (iT (e2 opIxA (eVar 5) (eC (.int 1)))) (tgN 7) cYes (e2 opAdd (eA opTup (aCons (e2 opIxA (eVar 1) (e2 opIxA (eVar 7) (eC (.int 0)))) aNil)) (eSl (eVar 7) (oSome (eC (.int 1))) oNone)) [7]) aNil)))
  (sSeq (sSet 8 (eA cTuple (aCons (eLc (iT (e2 opIxA (eVar 5) (eC (.int 2)))) (tgN 7) cYes (eA opTup (aCons (e2 opIxA (eVar 1) (e2 opIxA (eVar 7) (eC (.int 0)))) (aCons (e2 opIxA (eVar 7) (eC (.int 1))) aNil))) [7]) aNil)))
  (sSeq (sSet 9 (eLc (iT (e2 opIxA (eVar 5) (eC (.int 3)))) (tgN 10) cYes (eA opTup (aCons (e2 opIxA (eVar 1) (e2 opIxA (eVar 10) (eC (.int 0)))) (aCons (e2 opIxA (eVar 10) (eC (.int 1))) (aCons (e2 opIxA (eVar 10) (eC (.int 2))) (aCons (eA (lenOk 2 c_law_called_block) (aCons (e2 opIxA (eVar 10) (eC (.int 3))) (aCons (eVar 1) aNil))) aNil))))) [10]))
  (sExpr (eMt "list" mAppend (eVar 4) (aCons (eA opTup (aCons (e2 opIxA (eVar 1) (e2 opIxA (eVar 5) (eC (.int 0)))) (aCons (eVar 6) (aCons (eVar 8) (aCons (eA cTuple (aCons (eVar 9) aNil)) aNil))))) aNil)))))))
  (sRet (eA opTup (aCons (eLc (iL (e2 opIxA (eVar 0) (eC (.int 0)))) (tgN 7) cYes (eA opTup (aCons (e2 opIxA (eVar 1) (e2 opIxA (eVar 7) (eC (.int 0)))) (aCons (e2 opIxA (eVar 7) (eC (.int 1))) aNil))) [7]) (aCons (eVar 4) aNil))))))))
def f_law_called : Fn := runF 1 (b_law_called (f_law_called_block D_law_called_block)) 11
def b_House_init  : Sm :=
  (sSeq (sFld [7] ("assets" : Str) (eVar 0) (eVar 1))
  (sFld [7] ("contracts" : Str) (eVar 0) (eVar 2)))
def f_House_init : Fn := runF 3 (b_House_init ) 3
def b_law_made (c_House_init : Fn) : Sm :=
  (sRet (eA (opMake 7 3 c_House_init) (aCons (eA cTuple (aCons (e2 opIxA (eVar 0) (eC (.int 0))) aNil)) (aCons (eA cTuple (aCons (e2 opIxA (eVar 0) (eC (.int 1))) aNil)) aNil))))
def f_law_made : Fn := runF 1 (b_law_made f_House_init) 1
def b_law_guarding  : Sm :=
  (sSeq (sSet 3 (eLc (iL (e2 opIxA (eVar 1) (eC (.int 1)))) (tgN 4) (eT (e2 opEq (e2 opIxA (eVar 4) (eC (.int 0))) (e2 opIxA (eVar 0) (eC (.int 1))))) (eVar 4) [4]))
  (sSeq (sIf (eAnd (eT (e2 opEq (e2 opIxA (eVar 0) (eC (.int 0))) (eC (.str ("hide" : Str))))) (eAnd (eT (e2 opEq (e2 opMod (eA cInt (aCons (eVar 2) aNil)) (eC (.int 2))) (eC (.int 1)))) (eT (e2 opGt (eA cLen (aCons (eVar 3) aNil)) (eC (.int 0))))))
  (sSeq (sSet 5 (eLc (iT (e2 opIxA (e2 opIxA (eVar 3) (eC (.int 0))) (eC (.int 3)))) (tgN 6) cYes (e2 opIxA (eVar 6) (eC (.int 0))) [6]))
  (sIf (eT (e2 opGt (eA cLen (aCons (eVar 5) aNil)) (eC (.int 0))))
  (sRet (eA opTup (aCons (eC (.str ("hide" : Str))) (aCons (e2 opIxA (eVar 0) (eC (.int 1))) (aCons (e2 opIxA (eVar 5) (e2 opMod (e2 opFdiv (eA cInt (aCons (eVar 2) aNil)) (eC (.int 2))) (eA cLen (aCons (eVar 5) aNil)))) aNil))))) sNil)) sNil)
  (sSeq (sIf (eT (e2 opEq (e2 opIxA (eVar 0) (eC (.int 0))) (eC (.str ("floor" : Str)))))
  (sSeq (sSet 7 (e2 opIxA (eVar 0) (eC (.int 2))))
  (sSeq (sIf (eAnd (eT (e2 opEq (e2 opMod (eA cInt (aCons (eVar 2) aNil)) (eC (.int 2))) (eC (.int 1)))) (eT (e2 opGt (eA cLen (aCons (e2 opIxA (eVar 1) (eC (.int 0))) aNil)) (eC (.int 0)))))
  (sSet 7 (e2 opIxA (e2 opIxA (e2 opIxA (eVar 1) (eC (.int 0))) (e2 opMod (e2 opFdiv (eA cInt (aCons (eVar 2) aNil)) (eC (.int 2))) (eA cLen (aCons (e2 opIxA (eVar 1) (eC (.int 0))) aNil)))) (eC (.int 0)))) sNil)
  (sRet (eA opTup (aCons (eC (.str ("floor" : Str))) (aCons (e2 opIxA (eVar 0) (eC (.int 1))) (aCons (eVar 7) (aCons (e2 opIxA (eA opTup (aCons (e2 opIxA (eVar 0) (eC (.int 3))) (aCons (e2 opIxA (eVar 0) (eC (.int 3))) (aCons (e1 opNeg (eC (.int 3))) (aCons (eC (.int 65535)) (aCons (eC (.int 65536)) (aCons (eC (.int 70000)) aNil))))))) (e2 opMod (e2 opFdiv (eA cInt (aCons (eVar 2) aNil)) (eC (.int 4))) (eC (.int 6)))) aNil)))))))) sNil)
  (sRet (eVar 0)))))
def f_law_guarding : Fn := runF 3 (b_law_guarding ) 8
def b_law_guard  : Sm :=
  (sSeq (sSet 2 (e2 opMod (eA cInt (aCons (eVar 0) aNil)) (eC (.int 3))))
  (sSeq (sSet 3 (e2 opFdiv (eA cInt (aCons (eVar 0) aNil)) (eC (.int 3))))
  (sSeq (sSet 4 (e2 opIxA (eC (.str ("cd" : Str))) (e2 opMod (eVar 3) (eC (.int 2)))))
  (sSeq (sIf (eT (e2 opGt (e2 opMod (e2 opFdiv (eVar 3) (eC (.int 2))) (eC (.int 4))) (eC (.int 0))))
  (sSet 4 (e2 opIxA (e2 opIxA (e2 opIxA (eVar 1) (eC (.int 1))) (e2 opMod (e2 opFdiv (eVar 3) (eC (.int 2))) (eA cLen (aCons (e2 opIxA (eVar 1) (eC (.int 1))) aNil)))) (eC (.int 0)))) sNil)
  (sSeq (sIf (eT (e2 opEq (eVar 2) (eC (.int 0))))
  (sRet (eA opTup (aCons (eC (.str ("hide" : Str))) (aCons (eVar 4) (aCons (e2 opIxA (eC (.str ("pq" : Str))) (e2 opMod (e2 opFdiv (eVar 3) (eC (.int 24))) (eC (.int 2)))) aNil))))) sNil)
  (sSeq (sIf (eT (e2 opEq (eVar 2) (eC (.int 1))))
  (sRet (eA opTup (aCons (eC (.str ("lock" : Str))) (aCons (eVar 4) aNil)))) sNil)
  (sRet (eA opTup (aCons (eC (.str ("floor" : Str))) (aCons (eVar 4) (aCons (e2 opIxA (eC (.str ("ab" : Str))) (e2 opFdiv (e2 opMod (e2 opFdiv (eVar 3) (eC (.int 24))) (eC (.int 5))) (eC (.int 4)))) (aCons (e2 opMod (e2 opFdiv (eVar 3) (eC (.int 120))) (eC (.int 3))) aNil))))))))))))
def f_law_guard : Fn := runF 2 (b_law_guard ) 5
def b_law_fits  : Sm :=
  (sSeq (sFor (iL (e2 opIxA (eVar 0) (eC (.int 1)))) (tgN 2)
  (sIf (eT (e2 opEq (e2 opIxA (eVar 2) (eC (.int 0))) (e2 opIxA (eVar 1) (eC (.int 1)))))
  (sSeq (sIf (eT (e2 opEq (e2 opIxA (eVar 1) (eC (.int 0))) (eC (.str ("hide" : Str)))))
  (sRet (e2 opIn (eA opTup (aCons (e2 opIxA (eVar 1) (eC (.int 2))) (aCons (eC (.bl true)) aNil))) (eLc (iT (e2 opIxA (eVar 2) (eC (.int 3)))) (tgN 3) cYes (eA opTup (aCons (e2 opIxA (eVar 3) (eC (.int 0))) (aCons (e2 opIxA (eVar 3) (eC (.int 2))) aNil))) [3]))) sNil)
  (sSeq (sIf (eT (e2 opEq (e2 opIxA (eVar 1) (eC (.int 0))) (eC (.str ("lock" : Str)))))
  (sRet (e2 opNotIn (eC (.str ("lock" : Str))) (eLc (iT (e2 opIxA (eVar 2) (eC (.int 1)))) (tgN 4) cYes (e2 opIxA (eVar 4) (eC (.int 0))) [4]))) sNil)
  (sRet (e2 opIn (e2 opIxA (eVar 1) (eC (.int 2))) (eLc (iL (e2 opIxA (eVar 0) (eC (.int 0)))) (tgN 5) cYes (e2 opIxA (eVar 5) (eC (.int 0))) [5]))))) sNil))
  (sRet (eC (.bl false))))
def f_law_fits : Fn := runF 2 (b_law_fits ) 6
def b_names_of  : Sm :=
  (sRet (eLc (iB (eVar 0)) (tgN 1) cYes (e2 opIxA (eVar 1) (eC (.int 0))) [1]))
def f_names_of : Fn := runF 1 (b_names_of ) 2
def b_can_have (c_names_of : Fn) : Sm :=
  (sSeq (sFor (iT (eFld [7] ("contracts" : Str) (eVar 0))) (tgT [2, 3, 4, 5])
  (sSeq (sIf (eT (e2 opNe (eVar 2) (e2 opIxA (eVar 1) (eC (.int 1)))))
  sCnt sNil)
  (sSeq (sIf (eT (e2 opEq (e2 opIxA (eVar 1) (eC (.int 0))) (eC (.str ("hide" : Str)))))
  (sRet (e2 opIn (e2 opIxA (eVar 1) (eC (.int 2))) (eA (lenOk 1 c_names_of) (aCons (eLc (iT (eVar 5)) (tgN 6) (eT (e2 opIxA (eVar 6) (eC (.int 2)))) (eVar 6) [6]) aNil)))) sNil)
  (sSeq (sIf (eT (e2 opEq (e2 opIxA (eVar 1) (eC (.int 0))) (eC (.str ("lock" : Str)))))
  (sRet (e2 opNotIn (eC (.str ("lock" : Str))) (eA (lenOk 1 c_names_of) (aCons (eVar 3) aNil)))) sNil)
  (sRet (e2 opIn (e2 opIxA (eVar 1) (eC (.int 2))) (eA (lenOk 1 c_names_of) (aCons (eFld [7] ("assets" : Str) (eVar 0)) aNil))))))))
  (sRet (eC (.bl false))))
def f_can_have : Fn := runF 2 (b_can_have f_names_of) 7
def b_floor_check  : Sm :=
  (sRet (eA opTup (aCons (eC (.str ("need" : Str))) (aCons (eA opTup (aCons (eC (.str ("=" : Str))) (aCons (eA opTup (aCons (eC (.str ("<" : Str))) (aCons (eA opTup (aCons (eC (.str ("have" : Str))) (aCons (eVar 0) aNil))) (aCons (eA opTup (aCons (eC (.str ("number" : Str))) (aCons (eVar 1) aNil))) aNil)))) (aCons (eA opTup (aCons (eC (.str ("number" : Str))) (aCons (eC (.int 0)) aNil))) aNil)))) aNil))))
def f_floor_check : Fn := runF 2 (b_floor_check ) 2
def b_guarded_contract (c_floor_check : Fn) : Sm :=
  (sSeq (sUnp (tgT [2, 3, 4, 5]) (eVar 0))
  (sSeq (sUnp (tgT [6, 7]) (eA opTup (aCons (eA opTup aNil) (aCons (eA opTup aNil) aNil))))
  (sSeq (sIf (eT (e2 opIn (eA opTup (aCons (eC (.str ("lock" : Str))) (aCons (eVar 2) aNil))) (eVar 1)))
  (sSeq (sSet 3 (e2 opAdd (eVar 3) (eA opTup (aCons (eC K_LOCK_VARIABLE) aNil))))
  (sPar 6 7 (aCons (eC K_LOCK_FRONT) (aCons (eC K_LOCK_BEHIND) aNil)))) sNil)
  (sSeq (sSet 8 (eLc (iL (eVar 1)) (tgN 9) (eT (e2 opEq (eSl (eVar 9) oNone (oSome (eC (.int 2)))) (eA opTup (aCons (eC (.str ("floor" : Str))) (aCons (eVar 2) aNil))))) (eA (lenOk 2 c_floor_check) (aCons (e2 opIxA (eVar 9) (eC (.int 2))) (aCons (e2 opIxA (eVar 9) (eC (.int 3))) aNil))) [9]))
  (sSeq (sSet 7 (e2 opAdd (eVar 7) (eA cTuple (aCons (eVar 8) aNil))))
  (sSeq (sSet 10 (eA opLst aNil))
  (sSeq (sFor (iT (eVar 5)) (tgT [11, 12, 13, 14])
  (sSeq (sIf (eT (eVar 13))
  (sSet 14 (e2 opAdd (e2 opAdd (eVar 6) (eVar 14)) (eVar 7))) sNil)
  (sExpr (eMt "list" mAppend (eVar 10) (aCons (eA opTup (aCons (eVar 11) (aCons (eVar 12) (aCons (vAnd (eVar 13) (e2 opNotIn (eA opTup (aCons (eC (.str ("hide" : Str))) (aCons (eVar 2) (aCons (eVar 11) aNil)))) (eVar 1))) (aCons (eVar 14) aNil))))) aNil)))))
  (sRet (eA opTup (aCons (eVar 2) (aCons (eVar 3) (aCons (eVar 4) (aCons (eA cTuple (aCons (eVar 10) aNil)) aNil)))))))))))))
def f_guarded_contract : Fn := runF 2 (b_guarded_contract f_floor_check) 15
def b_guarded (c_can_have : Fn) (c_guarded_contract : Fn) (c_House_init : Fn) : Sm :=
  (sSeq (sForE (eVar 1) (tgT [2, 3])
  (sIf (eOr (eT (e2 opIn (eVar 3) (eSl (eVar 1) oNone (oSome (eVar 2))))) (eNot (eT (eA (lenOk 2 c_can_have) (aCons (eVar 0) (aCons (eVar 3) aNil))))))
  (sRaise 3 ("at" : Str) (eVar 2)) sNil))
  (sSeq (sSet 4 (eLc (iT (eFld [7] ("contracts" : Str) (eVar 0))) (tgN 5) cYes (eA (lenOk 2 c_guarded_contract) (aCons (eVar 5) (aCons (eVar 1) aNil))) [5]))
  (sRet (eA (opMake 7 3 c_House_init) (aCons (eFld [7] ("assets" : Str) (eVar 0)) (aCons (eA cTuple (aCons (eVar 4) aNil)) aNil))))))
def f_guarded : Fn := runF 2 (b_guarded f_can_have f_guarded_contract f_House_init) 6
def b_law_is_integer  : Sm :=
  (sRet (vAnd (eA cIsi (aCons (eVar 0) (aCons (eC (.cst (.ty "int"))) aNil))) (vNot (eA cIsi (aCons (eVar 0) (aCons (eC (.cst (.ty "bool"))) aNil))))))
def f_law_is_integer : Fn := runF 1 (b_law_is_integer ) 1
def b_law_fenced  : Sm :=
  (sSeq (sSet 2 (e2 opIxA (eVar 0) (eC (.int 3))))
  (sSeq (sSet 3 (eA opTup (aCons (eC (.str ("variable" : Str))) (aCons (eC (.str ("lock" : Str))) aNil))))
  (sSeq (sIf (eT (e2 opIn (eA opTup (aCons (eC (.str ("lock" : Str))) aNil)) (eLc (iL (eVar 1)) (tgN 4) cYes (eSl (eVar 4) oNone (oSome (eC (.int 1)))) [4])))
  (sSeq (sSet 2 (e2 opAdd (eA opTup (aCons (eA opTup (aCons (eC (.str ("need" : Str))) (aCons (eA opTup (aCons (eC (.str ("=" : Str))) (aCons (eVar 3) (aCons (eA opTup (aCons (eC (.str ("number" : Str))) (aCons (eC (.int 0)) aNil))) aNil)))) aNil))) (aCons (eA opTup (aCons (eC (.str ("set" : Str))) (aCons (eC (.str ("lock" : Str))) (aCons (eA opTup (aCons (eC (.str ("number" : Str))) (aCons (eC (.int 1)) aNil))) aNil)))) aNil))) (eVar 2)))
  (sSet 2 (e2 opAdd (eVar 2) (eA opTup (aCons (eA opTup (aCons (eC (.str ("set" : Str))) (aCons (eC (.str ("lock" : Str))) (aCons (eA opTup (aCons (eC (.str ("number" : Str))) (aCons (eC (.int 0)) aNil))) aNil)))) aNil))))) sNil)
  (sSeq (sFor (iL (eVar 1)) (tgN 4)
  (sIf (eT (e2 opEq (e2 opIxA (eVar 4) (eC (.int 0))) (eC (.str ("floor" : Str)))))
  (sSeq (sSet 5 (eA opTup (aCons (eC (.str ("<" : Str))) (aCons (eA opTup (aCons (eC (.str ("have" : Str))) (aCons (e2 opIxA (eVar 4) (eC (.int 2))) aNil))) (aCons (eA opTup (aCons (eC (.str ("number" : Str))) (aCons (e2 opIxA (eVar 4) (eC (.int 3))) aNil))) aNil)))))
  (sSet 2 (e2 opAdd (eVar 2) (eA opTup (aCons (eA opTup (aCons (eC (.str ("need" : Str))) (aCons (eA opTup (aCons (eC (.str ("=" : Str))) (aCons (eVar 5) (aCons (eA opTup (aCons (eC (.str ("number" : Str))) (aCons (eC (.int 0)) aNil))) aNil)))) aNil))) aNil))))) sNil))
  (sSeq (sSet 6 (eLc (iL (eVar 1)) (tgN 4) (eT (e2 opEq (e2 opIxA (eVar 4) (eC (.int 0))) (eC (.str ("hide" : Str))))) (e2 opIxA (eVar 4) (eC (.int 2))) [4]))
  (sRet (eA opTup (aCons (e2 opIxA (eVar 0) (eC (.int 0))) (aCons (e2 opIxA (eVar 0) (eC (.int 1))) (aCons (e2 opNotIn (e2 opIxA (eVar 0) (eC (.int 0))) (eVar 6)) (aCons (eVar 2) aNil)))))))))))
def f_law_fenced : Fn := runF 2 (b_law_fenced ) 7
def b_law_guarded (c_law_fenced : Fn) : Sm :=
  (sSeq (sSet 2 (eA opLst aNil))
  (sSeq (sFor (iL (e2 opIxA (eVar 0) (eC (.int 1)))) (tgN 3)
  (sSeq (sSet 4 (eLc (iL (eVar 1)) (tgN 5) (eT (e2 opEq (e2 opIxA (eVar 5) (eC (.int 1))) (e2 opIxA (eVar 3) (eC (.int 0))))) (eVar 5) [5]))
  (sSeq (sSet 6 (e2 opIxA (eVar 3) (eC (.int 1))))
  (sSeq (sIf (eT (e2 opIn (eA opTup (aCons (eC (.str ("lock" : Str))) aNil)) (eLc (iL (eVar 4)) (tgN 5) cYes (eSl (eVar 5) oNone (oSome (eC (.int 1)))) [5])))
  (sSet 6 (e2 opAdd (eVar 6) (eA opTup (aCons (eA opTup (aCons (eC (.str ("lock" : Str))) (aCons (eC (.int 2)) (aCons (eC (.int 0)) aNil)))) aNil)))) sNil)
  (sSeq (sSet 7 (eA opLst aNil))
  (sSeq (sFor (iT (e2 opIxA (eVar 3) (eC (.int 3)))) (tgN 8)
  (sIf (eT (e2 opIxA (eVar 8) (eC (.int 2))))
  (sExpr (eMt "list" mAppend (eVar 7) (aCons (eA (lenOk 2 c_law_fenced) (aCons (eVar 8) (aCons (eVar 4) aNil))) aNil))) (sExpr (eMt "list" mAppend (eVar 7) (aCons (eVar 8) aNil)))))
  (sExpr (eMt "list" mAppend (eVar 2) (aCons (eA opTup (aCons (e2 opIxA (eVar 3) (eC (.int 0))) (aCons (eVar 6) (aCons (e2 opIxA (eVar 3) (eC (.int 2))) (aCons (eA cTuple (aCons (eVar 7) aNil)) aNil))))) aNil)))))))))
  (sRet (eA opTup (aCons (e2 opIxA (eVar 0) (eC (.int 0))) (aCons (eVar 2) aNil))))))
def f_law_guarded : Fn := runF 2 (b_law_guarded f_law_fenced) 9
def b_law (c_law_house : Fn) (c_law_cell : Fn) (c_law_called : Fn) (c_law_made : Fn) (c_law_guarding : Fn) (c_law_guard : Fn) (c_law_fits : Fn) (c_guarded : Fn) (c_law_is_integer : Fn) (c_law_guarded : Fn) : Sm :=
  (sSeq (sSet 1 (eA (lenOk 4 c_law_house) (aCons (eVar 0) (aCons (eC (.int 0)) (aCons (eC (.int 2)) (aCons (eC (.bl false)) aNil))))))
  (sSeq (sIf (eT (e2 opEq (e2 opMod (eA cInt (aCons (eA (lenOk 2 c_law_cell) (aCons (eVar 0) (aCons (eC (.int 7)) aNil))) aNil)) (eC (.int 3))) (eC (.int 1))))
  (sSet 1 (eA (lenOk 1 c_law_called) (aCons (eVar 1) aNil))) sNil)
  (sSeq (sSet 2 (eA (lenOk 1 c_law_made) (aCons (eVar 1) aNil)))
  (sSeq (sSet 3 (eLc (iL (eSl (eVar 0) (oSome (eC (.int 8))) (oSome (eC (.int 14))))) (tgN 4) cYes (eA (lenOk 3 c_law_guarding) (aCons (eA (lenOk 2 c_law_guard) (aCons (eVar 4) (aCons (eVar 1) aNil))) (aCons (eVar 1) (aCons (e2 opFdiv (eA cAbs (aCons (eVar 4) aNil)) (eC (.int 5))) aNil)))) [4]))
  (sSeq (sSet 5 (eA cList (aCons (eVar 3) aNil)))
  (sSeq (sSet 6 (eC .non))
  (sSeq (sFor (iR1 (aCons (eA cLen (aCons (eVar 3) aNil)) aNil)) (tgN 7)
  (sIf (eAnd (eT (e2 opIsN (eVar 6) (eC .non))) (eOr (eNot (eT (eA (lenOk 2 c_law_fits) (aCons (eVar 1) (aCons (e2 opIxA (eVar 3) (eVar 7)) aNil))))) (eT (e2 opIn (e2 opIxA (eVar 3) (eVar 7)) (eSl (eVar 3) oNone (oSome (eVar 7)))))))
  (sSet 6 (eVar 7)) sNil))
  (sSeq (sTry 9 RS_ CS_HouseError (sSet 8 (eA (lenOk 2 c_guarded) (aCons (eVar 2) (aCons (eVar 3) aNil))))
  (fun c fs => (sSeq (sIf (eOr (eT (eXi 9 (decide (c ∈ ([] : List Nat))))) (eT (e2 opNe (eVar 3) (eVar 5))))
  (sRet (eC (.bl false))) sNil)
  (sRet (vAnd (e2 opNotN (eVar 6) (eC .non)) (vAnd (eXi 9 (decide (c ∈ ([3] : List Nat)))) (vAnd (eA (lenOk 1 c_law_is_integer) (aCons (eXf 9 fs ("at" : Str)) aNil)) (e2 opEq (eXf 9 fs ("at" : Str)) (eVar 6)))))))))
  (sSeq (sSet 10 (eA (lenOk 2 c_law_guarded) (aCons (eVar 1) (aCons (eVar 3) aNil))))
  (sSeq (sIf (eOr (eT (e2 opNotN (eVar 6) (eC .non))) (eOr (eT (e2 opNe (eVar 3) (eVar 5))) (eNot (eT (e2 (opEq2 7 ("assets" : Str) ("contracts" : Str)) (eVar 2) (eA (lenOk 1 c_law_made) (aCons (eVar 1) aNil)))))))
  (sRet (eC (.bl false))) sNil)
  (sRet (vAnd (e2 opEq (eFld [7] ("assets" : Str) (eVar 8)) (eA cTuple (aCons (e2 opIxA (eVar 10) (eC (.int 0))) aNil))) (e2 opEq (eFld [7] ("contracts" : Str) (eVar 8)) (eA cTuple (aCons (e2 opIxA (eVar 10) (eC (.int 1))) aNil)))))))))))))))
def f_law : Fn := runF 1 (b_law f_law_house f_law_cell f_law_called f_law_made f_law_guarding f_law_guard f_law_fits f_guarded f_law_is_integer f_law_guarded) 11
structure Txt (K : PySem.W.Frag) (mg : Str → Option Value) (g : Gx) : Prop where
  hes : g.es = []
  b_abs : mg "abs" = none
  b_bool : mg "bool" = none
  b_enumerate : mg "enumerate" = none
  b_int : mg "int" = none
  b_isinstance : mg "isinstance" = none
  b_len : mg "len" = none
  b_list : mg "list" = none
  b_min : mg "min" = none
  b_range : mg "range" = none
  b_tuple : mg "tuple" = none
  k_LOCK_BEHIND : GV K mg "LOCK_BEHIND" K_LOCK_BEHIND
  k_LOCK_FRONT : GV K mg "LOCK_FRONT" K_LOCK_FRONT
  k_LOCK_VARIABLE : GV K mg "LOCK_VARIABLE" K_LOCK_VARIABLE
  a_assets : FldOk K g [7] ("assets" : Str)
  a_contracts : FldOk K g [7] ("contracts" : Str)
  cn_BadAct : mg "BadAct" = some (.ref (g.cls 2))
  cn_BadGuard : mg "BadGuard" = some (.ref (g.cls 3))
  cn_BadHouse : mg "BadHouse" = some (.ref (g.cls 6))
  cn_BadPaper : mg "BadPaper" = some (.ref (g.cls 4))
  cn_BadText : mg "BadText" = some (.ref (g.cls 1))
  cn_HouseError : mg "HouseError" = some (.ref (g.cls 0))
  cn_TooLarge : mg "TooLarge" = some (.ref (g.cls 5))
  xf : ∀ c ∈ RS_, XfC K (g.cls c)
  xe : ∀ c ∈ RS_, ExcC K (g.cls c)
  xn_at : ∀ c ∈ RS_, PySem.W.findIn K (.ref (g.cls c)) ("at" : Str) = some none
  ex_HouseError : ∀ c ∈ RS_, PySem.W.exmOne K (.ref (g.cls c)) (.ref (g.cls 0)) = some (decide (c ∈ CS_HouseError))
  it_BadAct_BadHouse_BadPaper_BadText_TooLarge : ∀ c ∈ RS_, PySem.W.kitAny K (.ref (g.cls c)) ([g.cls 2, g.cls 6, g.cls 4, g.cls 1, g.cls 5].map Value.ref) = some (decide (c ∈ ([] : List Nat)))
  i1_BadGuard : ∀ c ∈ RS_, PySem.W.kitOne K (.ref (g.cls c)) (.ref (g.cls 3)) = some (decide (c ∈ ([3] : List Nat)))
section
variable {P : Program} {w : World} {K : PySem.W.Frag} {mg : Str → Option Value} {base : Heap} {g : Gx}
abbrev s_BadGuard_init : Stmt := inClass (topS 4) 0
theorem sc_BadGuard_init : FnScope [("self" : Str), ("at" : Str)] [("self" : Str), ("at" : Str)] (defScope s_BadGuard_init) := ⟨rfl, rfl, rfl, by decide +kernel, rfl, by decide +kernel, by decide +kernel⟩
theorem xi_BadGuard {B : Addr} {mc : Value} (xb : XBase K mg "HouseError" B mc) {f : Addr} {fd : FuncData} (F : Fun K "__init__" ("BadGuard.__init__" : Str) s_BadGuard_init f fd) : FnOk P w K mg base (L2.CX P w) 1 f fd [("self" : Str), ("at" : Str)] (spX K (g.cls 3) ("at" : Str)) :=
  F.okX sc_BadGuard_init (fun vs H Q E h => by obtain ⟨a, v, rfl, _⟩ := h; rfl) (fun cdv A outer s H vs Q E hr h => ⟨_, pss_cons (ps_expr (pe_ebase xb (pa_cons (pv 0) (pa_cons (pe_joined (.cons pe_str (.cons (pe_fmt (pv 1)) .nil))) pa_nil)))) (pss_one (ps_ost (pv 0) (pv 1))), xi_ok h rfl fun v σ H Q hx e k => js2_ok hx e (by decide) k⟩)
abbrev s_House_eq : Stmt := inClass (topS 9) 1
theorem sc_House_eq : FnScope [("self" : Str), ("other" : Str)] [("self" : Str), ("other" : Str)] (defScope s_House_eq) := ⟨rfl, rfl, rfl, by decide +kernel, rfl, by decide +kernel, by decide +kernel⟩
theorem eq_House (hC : mg ("House" : Str) = some (.ref (g.cls 7))) (hI : mg "isinstance" = none) (io : IsOk K (g.cls 7)) (kk : PySem.W.kitOne K (.ref (g.cls 7)) (.ref (g.cls 7)) = some true) (n1 : NoAttr K (g.cls 7) ("assets" : Str)) (n2 : NoAttr K (g.cls 7) ("contracts" : Str)) {f : Addr} {fd : FuncData} (F : Fun K "__eq__" ("House.__eq__" : Str) s_House_eq f fd) : FnOk P w K mg base (L2.CX P w) 1 f fd ["self", "other"] (spEq (REq K (g.cls 7) ("assets" : Str) ("contracts" : Str))) := by
  refine F.okX sc_House_eq (fun vs H Q E h => by obtain ⟨a, b, rfl, _⟩ := h; rfl) (fun cdv A outer s H vs Q E hr h => ⟨_, pss_one (ps_ret (pe_and (pe_callB call_isi rfl hI (by decide +kernel) (pa_cons (pv 1) (pa_cons (pe_glob (v := .ref (g.cls 7)) rfl hC rfl) pa_nil)))
    (pe_and (pe_cmpR (op_eqD hr.units) (pe_fld (pv 0) rfl) (pe_fld (pv 1) rfl) (nomark _)) (pe_one (pe_cmpR (op_eqD hr.units) (pe_fld (pv 0) rfl) (pe_fld (pv 1) rfl) (nomark _)))))), ?_⟩)
  obtain ⟨a, b, rfl, R, q⟩ := h
  obtain ⟨dx, dy, fs, gs, x1, y1, x2, y2, d1, e1, d2, e2, ha, hb, l1, l2, l3, l4, k1, k2, k3, k4, s1, s2, s3, s4, v1, v2⟩ := R H L2.Ext.rfl'
  refine ⟨.ref b, rfl, .ref b, .ref (g.cls 7), _, _, true, rfl, .own _, .base (.ins hb io.cl io.ha io.hn io.ht io.hm), kk, ?_⟩
  refine ⟨true, rfl, ?_⟩
  rw [if_pos rfl]
  refine ⟨.ref a, rfl, a, _, dx, fs, x1, rfl, ha, io.cl, n1, l1, .ref b, rfl, b, _, dy, gs, y1, rfl, hb, io.cl, n1, l2, d1, e1, k1, k2, s1, s2, ?_⟩
  rw [v1]
  refine ⟨true, rfl, ?_⟩
  rw [if_pos rfl]
  refine ⟨.ref a, rfl, a, _, dx, fs, x2, rfl, ha, io.cl, n2, l3, .ref b, rfl, b, _, dy, gs, y2, rfl, hb, io.cl, n2, l4, d2, e2, k3, k4, s3, s4, ?_⟩
  rw [v2]
  exact q H L2.Ext.rfl'
abbrev s_law_row : Stmt := topS 22
theorem sc_law_row : FnScope [("cell" : Str), ("count" : Str), ("size" : Str), ("state" : Str), ("row" : Str), ("k" : Str)] [("cell" : Str), ("count" : Str), ("size" : Str)] (defScope s_law_row) := ⟨rfl, rfl, rfl, by decide +kernel, rfl, by decide +kernel, by decide +kernel⟩
theorem body_law_row (T : Txt K mg g)  {f : Addr} {fd : FuncData} (F : Fun K ("_law_row" : Str) ("_law_row" : Str) s_law_row f fd) : FnOk P w K mg base (L2.CX P w) (0 + 1) f fd [("cell" : Str), ("count" : Str), ("size" : Str)] (spM K g 3 (runF 3 (b_law_row ) 6)) :=
  fn_body F sc_law_row rfl rfl fun cdv A outer s H E hr0 => by
  have hu : (A.deeper (envOfC ("_law_row" : Str) (defScope s_law_row) s.heap.objs.size f cdv)).units + 64 < cLine := hr0.units
  have hv : (A.deeper (envOfC ("_law_row" : Str) (defScope s_law_row) s.heap.objs.size f cdv)).units + 65 < cLine := by have := hr0.un; omega
  have tk := takes_of (X := cxOf (L2.CX P w) P w K mg base [("cell" : Str), ("count" : Str), ("size" : Str), ("state" : Str), ("row" : Str), ("k" : Str)] ("_law_row" : Str) (defScope s_law_row) f cdv A outer s H E) (E := E) rfl rfl rfl rfl
  have hp := passes_of (X := cxOf (L2.CX P w) P w K mg base [("cell" : Str), ("count" : Str), ("size" : Str), ("state" : Str), ("row" : Str), ("k" : Str)] ("_law_row" : Str) (defScope s_law_row) f cdv A outer s H E) rfl
  exact (js_cons (js_set 3 sc_law_row.nd (j_var 0))
  (js_cons (js_set 4 sc_law_row.nd (j_lst ja_nil))
  (js_cons (js_for hp rfl (ji_rg1 T.b_range (ja_cons (j_var 1) ja_nil)) (jg_name 5 sc_law_row.nd)
  (js_one (js_if (jt_cmp os_ge nox_opGe (j_var 0) (j_op os_pow nox_opPow j_int j_int))
  (js_cons (js_expr (j_mt PySem.F.plainAttrs_list PySem.F.slot_list_append PySem.F.type_list_append ms_append nox_mAppend (j_var 4) (ja_cons (j_op os_mod nox_opMod (j_callTy cs_int nox_cInt T.b_int (by decide +kernel) (ja_cons (j_var 3) ja_nil)) (j_var 2)) ja_nil)))
  (js_one (js_set 3 sc_law_row.nd (j_op os_fdiv nox_opFdiv (j_var 3) (j_var 2))))) (js_cons (js_set 3 sc_law_row.nd (j_op os_mod nox_opMod (j_op os_add nox_opAdd (j_op os_mul nox_opMul (j_var 3) j_int) j_int) j_int))
  (js_one (js_expr (j_mt PySem.F.plainAttrs_list PySem.F.slot_list_append PySem.F.type_list_append ms_append nox_mAppend (j_var 4) (ja_cons (j_op os_mod nox_opMod (j_op os_mod nox_opMod (j_callTy cs_int nox_cInt T.b_int (by decide +kernel) (ja_cons (j_op os_add nox_opAdd (j_op os_mul nox_opMul (j_var 3) j_int) (j_op os_mul nox_opMul (j_var 5) j_int)) ja_nil)) j_int) (j_var 2)) ja_nil))))))))
  (js_one (js_ret (j_var 4))))))
abbrev s_law_cell : Stmt := topS 20
theorem sc_law_cell : FnScope [("script" : Str), ("k" : Str)] [("script" : Str), ("k" : Str)] (defScope s_law_cell) := ⟨rfl, rfl, rfl, by decide +kernel, rfl, by decide +kernel, by decide +kernel⟩
theorem body_law_cell (T : Txt K mg g)  {f : Addr} {fd : FuncData} (F : Fun K ("_law_cell" : Str) ("_law_cell" : Str) s_law_cell f fd) : FnOk P w K mg base (L2.CX P w) (0 + 1) f fd [("script" : Str), ("k" : Str)] (spM K g 2 (runF 2 (b_law_cell ) 2)) :=
  fn_body F sc_law_cell rfl rfl fun cdv A outer s H E hr0 => by
  have hu : (A.deeper (envOfC ("_law_cell" : Str) (defScope s_law_cell) s.heap.objs.size f cdv)).units + 64 < cLine := hr0.units
  have hv : (A.deeper (envOfC ("_law_cell" : Str) (defScope s_law_cell) s.heap.objs.size f cdv)).units + 65 < cLine := by have := hr0.un; omega
  have tk := takes_of (X := cxOf (L2.CX P w) P w K mg base [("script" : Str), ("k" : Str)] ("_law_cell" : Str) (defScope s_law_cell) f cdv A outer s H E) (E := E) rfl rfl rfl rfl
  have hp := passes_of (X := cxOf (L2.CX P w) P w K mg base [("script" : Str), ("k" : Str)] ("_law_cell" : Str) (defScope s_law_cell) f cdv A outer s H E) rfl
  exact (js_cons (js_if (jt_cmp os_lt nox_opLt (j_var 1) (j_callB cs_len nox_cLen T.b_len (by decide +kernel) (ja_cons (j_var 0) ja_nil)))
  (js_one (js_ret (j_ixA hu (j_var 0) (j_var 1)))) js_nil)
  (js_one (js_ret j_int)))
abbrev s_law_expression : Stmt := topS 23
theorem sc_law_expression : FnScope [("cell" : Str), ("names" : Str), ("assets" : Str), ("kind" : Str), ("rest" : Str), ("left" : Str)] [("cell" : Str), ("names" : Str), ("assets" : Str)] (defScope s_law_expression) := ⟨rfl, rfl, rfl, by decide +kernel, rfl, by decide +kernel, by decide +kernel⟩
theorem body_law_expression {j : Nat} (T : Txt K mg g) {c_law_expression : Fn} (d_law_expression : DefOk P w K mg base g (0 + j) ("_law_expression" : Str) 3 c_law_expression) {f : Addr} {fd : FuncData} (F : Fun K ("_law_expression" : Str) ("_law_expression" : Str) s_law_expression f fd) : FnOk P w K mg base (L2.CX P w) ((0 + j) + 1) f fd [("cell" : Str), ("names" : Str), ("assets" : Str)] (spM K g 3 (runF 3 (b_law_expression c_law_expression) 6)) :=
  fn_body F sc_law_expression rfl rfl fun cdv A outer s H E hr0 => by
  have hu : (A.deeper (envOfC ("_law_expression" : Str) (defScope s_law_expression) s.heap.objs.size f cdv)).units + 64 < cLine := hr0.units
  have hv : (A.deeper (envOfC ("_law_expression" : Str) (defScope s_law_expression) s.heap.objs.size f cdv)).units + 65 < cLine := by have := hr0.un; omega
  have tk := takes_of (X := cxOf (L2.CX P w) P w K mg base [("cell" : Str), ("names" : Str), ("assets" : Str), ("kind" : Str), ("rest" : Str), ("left" : Str)] ("_law_expression" : Str) (defScope s_law_expression) f cdv A outer s H E) (E := E) rfl rfl rfl rfl
  have hp := passes_of (X := cxOf (L2.CX P w) P w K mg base [("cell" : Str), ("names" : Str), ("assets" : Str), ("kind" : Str), ("rest" : Str), ("left" : Str)] ("_law_expression" : Str) (defScope s_law_expression) f cdv A outer s H E) rfl
  exact (js_cons (js_set 3 sc_law_expression.nd (j_op os_mod nox_opMod (j_callTy cs_int nox_cInt T.b_int (by decide +kernel) (ja_cons (j_var 0) ja_nil)) j_int))
  (js_cons (js_set 4 sc_law_expression.nd (j_op os_fdiv nox_opFdiv (j_callTy cs_int nox_cInt T.b_int (by decide +kernel) (ja_cons (j_var 0) ja_nil)) j_int))
  (js_cons (js_if (jt_w (jw_and (jt_cmp os_lt nox_opLt (j_var 3) j_int) (jw_and1 (jt_cmp os_gt nox_opGt (j_callB cs_len nox_cLen T.b_len (by decide +kernel) (ja_cons (j_var 1) ja_nil)) j_int))))
  (js_one (js_ret (j_tup (ja_cons j_str (ja_cons (j_ixA hu (j_var 1) (j_op os_mod nox_opMod (j_var 4) (j_callB cs_len nox_cLen T.b_len (by decide +kernel) (ja_cons (j_var 1) ja_nil)))) ja_nil))))) js_nil)
  (js_cons (js_if (jt_cmp (os_eq hu) nox_opEqB (j_var 3) j_int)
  (js_one (js_ret (j_tup (ja_cons j_str ja_nil)))) js_nil)
  (js_cons (js_if (jt_w (jw_and (jt_cmp (os_eq hu) nox_opEqB (j_var 3) j_int) (jw_and1 (jt_cmp os_gt nox_opGt (j_callB cs_len nox_cLen T.b_len (by decide +kernel) (ja_cons (j_var 2) ja_nil)) j_int))))
  (js_one (js_ret (j_tup (ja_cons (j_ixA hu (j_tup (ja_cons j_str (ja_cons j_str ja_nil))) (j_op os_mod nox_opMod (j_var 4) j_int)) (ja_cons (j_ixA hu (j_var 2) (j_op os_mod nox_opMod (j_op os_fdiv nox_opFdiv (j_var 4) j_int) (j_callB cs_len nox_cLen T.b_len (by decide +kernel) (ja_cons (j_var 2) ja_nil)))) ja_nil))))) js_nil)
  (js_cons (js_if (jt_cmp (os_eq hu) nox_opEqB (j_var 3) j_int)
  (js_cons (js_set 5 sc_law_expression.nd (j_call d_law_expression (hr0.mono (by omega)) tk (ja_cons (j_op os_mod nox_opMod (j_op os_fdiv nox_opFdiv (j_var 4) j_int) j_int) (ja_cons (j_var 1) (ja_cons (j_var 2) ja_nil)))))
  (js_one (js_ret (j_tup (ja_cons (j_ixA hu (j_tup (ja_cons j_str (ja_cons j_str (ja_cons j_str (ja_cons j_str (ja_cons j_str (ja_cons j_str (ja_cons j_str ja_nil)))))))) (j_op os_mod nox_opMod (j_var 4) j_int)) (ja_cons (j_var 5) (ja_cons (j_call d_law_expression (hr0.mono (by omega)) tk (ja_cons (j_op os_mod nox_opMod (j_op os_fdiv nox_opFdiv (j_var 4) j_int) j_int) (ja_cons (j_var 1) (ja_cons (j_var 2) ja_nil)))) ja_nil))))))) js_nil)
  (js_one (js_ret (j_tup (ja_cons j_str (ja_cons (j_op os_mod nox_opMod (j_var 4) j_int) ja_nil)))))))))))
abbrev s_law_statement : Stmt := topS 24
theorem sc_law_statement : FnScope [("cell" : Str), ("names" : Str), ("assets" : Str), ("known" : Str), ("asks" : Str), ("kind" : Str), ("rest" : Str), ("pair" : Str)] [("cell" : Str), ("names" : Str), ("assets" : Str), ("known" : Str), ("asks" : Str)] (defScope s_law_statement) := ⟨rfl, rfl, rfl, by decide +kernel, rfl, by decide +kernel, by decide +kernel⟩
theorem body_law_statement (T : Txt K mg g) {c_law_expression : Fn} (d_law_expression : DefOk P w K mg base g 8 ("_law_expression" : Str) 3 c_law_expression) {f : Addr} {fd : FuncData} (F : Fun K ("_law_statement" : Str) ("_law_statement" : Str) s_law_statement f fd) : FnOk P w K mg base (L2.CX P w) (8 + 1) f fd [("cell" : Str), ("names" : Str), ("assets" : Str), ("known" : Str), ("asks" : Str)] (spM K g 5 (runF 5 (b_law_statement c_law_expression) 8)) :=
  fn_body F sc_law_statement rfl rfl fun cdv A outer s H E hr0 => by
  have hu : (A.deeper (envOfC ("_law_statement" : Str) (defScope s_law_statement) s.heap.objs.size f cdv)).units + 64 < cLine := hr0.units
  have hv : (A.deeper (envOfC ("_law_statement" : Str) (defScope s_law_statement) s.heap.objs.size f cdv)).units + 65 < cLine := by have := hr0.un; omega
  have tk := takes_of (X := cxOf (L2.CX P w) P w K mg base [("cell" : Str), ("names" : Str), ("assets" : Str), ("known" : Str), ("asks" : Str), ("kind" : Str), ("rest" : Str), ("pair" : Str)] ("_law_statement" : Str) (defScope s_law_statement) f cdv A outer s H E) (E := E) rfl rfl rfl rfl
  have hp := passes_of (X := cxOf (L2.CX P w) P w K mg base [("cell" : Str), ("names" : Str), ("assets" : Str), ("known" : Str), ("asks" : Str), ("kind" : Str), ("rest" : Str), ("pair" : Str)] ("_law_statement" : Str) (defScope s_law_statement) f cdv A outer s H E) rfl
  exact (js_cons (js_set 5 sc_law_statement.nd (j_op os_mod nox_opMod (j_callTy cs_int nox_cInt T.b_int (by decide +kernel) (ja_cons (j_var 0) ja_nil)) j_int))
  (js_cons (js_set 6 sc_law_statement.nd (j_op os_fdiv nox_opFdiv (j_callTy cs_int nox_cInt T.b_int (by decide +kernel) (ja_cons (j_var 0) ja_nil)) j_int))
  (js_cons (js_if (jt_w (jw_and (jt_cmp (os_eq hu) nox_opEqB (j_var 5) j_int) (jw_and1 (jt_cmp os_gt nox_opGt (j_callB cs_len nox_cLen T.b_len (by decide +kernel) (ja_cons (j_var 1) ja_nil)) j_int))))
  (js_one (js_ret (j_tup (ja_cons j_str (ja_cons (j_ixA hu (j_var 1) (j_op os_mod nox_opMod (j_var 6) (j_callB cs_len nox_cLen T.b_len (by decide +kernel) (ja_cons (j_var 1) ja_nil)))) (ja_cons (j_call d_law_expression (hr0.mono (by omega)) tk (ja_cons (j_op os_fdiv nox_opFdiv (j_var 6) j_int) (ja_cons (j_var 1) (ja_cons (j_var 2) ja_nil)))) ja_nil)))))) js_nil)
  (js_cons (js_if (jt_cmp (os_eq hu) nox_opEqB (j_var 5) j_int)
  (js_one (js_ret (j_tup (ja_cons j_str (ja_cons (j_call d_law_expression (hr0.mono (by omega)) tk (ja_cons (j_var 6) (ja_cons (j_var 1) (ja_cons (j_var 2) ja_nil)))) ja_nil))))) js_nil)
  (js_cons (js_if (jt_w (jw_and (jt_cmp os_lt nox_opLt (j_var 5) j_int) (jw_and1 (jt_cmp os_gt nox_opGt (j_callB cs_len nox_cLen T.b_len (by decide +kernel) (ja_cons (j_var 2) ja_nil)) j_int))))
  (js_one (js_ret (j_tup (ja_cons (j_ixA hu (j_tup (ja_cons j_str (ja_cons j_str ja_nil))) (j_op os_mod nox_opMod (j_var 6) j_int)) (ja_cons (j_ixA hu (j_var 2) (j_op os_mod nox_opMod (j_op os_fdiv nox_opFdiv (j_var 6) j_int) (j_callB cs_len nox_cLen T.b_len (by decide +kernel) (ja_cons (j_var 2) ja_nil)))) (ja_cons (j_call d_law_expression (hr0.mono (by omega)) tk (ja_cons (j_op os_fdiv nox_opFdiv (j_var 6) j_int) (ja_cons (j_var 1) (ja_cons (j_var 2) ja_nil)))) ja_nil)))))) js_nil)
  (js_cons (js_if (jt_w (jw_and (jt_cmp (os_eq hu) nox_opEqB (j_var 5) j_int) (jw_and (jt_cmp os_gt nox_opGt (j_callB cs_len nox_cLen T.b_len (by decide +kernel) (ja_cons (j_var 1) ja_nil)) j_int) (jw_and1 (jt_cmp os_gt nox_opGt (j_var 4) j_int)))))
  (js_one (js_ret (j_tup (ja_cons j_str (ja_cons (j_ixA hu (j_var 1) (j_op os_mod nox_opMod (j_var 6) (j_callB cs_len nox_cLen T.b_len (by decide +kernel) (ja_cons (j_var 1) ja_nil)))) (ja_cons (j_op os_add nox_opAdd j_int (j_op os_mod nox_opMod (j_op os_fdiv nox_opFdiv (j_var 6) j_int) j_int)) ja_nil)))))) js_nil)
  (js_cons (js_if (jt_w (jw_and (jt_cmp (os_eq hu) nox_opEqB (j_var 5) j_int) (jw_and1 (jt_cmp os_gt nox_opGt (j_callB cs_len nox_cLen T.b_len (by decide +kernel) (ja_cons (j_var 3) ja_nil)) j_int))))
  (js_cons (js_set 7 sc_law_statement.nd (j_ixA hu (j_var 3) (j_op os_mod nox_opMod (j_var 6) (j_callB cs_len nox_cLen T.b_len (by decide +kernel) (ja_cons (j_var 3) ja_nil)))))
  (js_one (js_ret (j_tup (ja_cons j_str (ja_cons (j_ixA hu (j_var 7) j_int) (ja_cons (j_ixA hu (j_var 7) j_int) (ja_cons (j_call d_law_expression (hr0.mono (by omega)) tk (ja_cons (j_op os_fdiv nox_opFdiv (j_var 6) j_int) (ja_cons (j_var 1) (ja_cons (j_var 2) ja_nil)))) ja_nil)))))))) js_nil)
  (js_one (js_ret (j_if (jt_cmp os_gt nox_opGt (j_callB cs_len nox_cLen T.b_len (by decide +kernel) (ja_cons (j_var 1) ja_nil)) j_int) (j_tup (ja_cons j_str (ja_cons (j_ixA hu (j_var 1) j_int) (ja_cons (j_tup (ja_cons j_str (ja_cons (j_op os_mod nox_opMod (j_var 6) j_int) ja_nil))) ja_nil)))) (j_tup (ja_cons j_str (ja_cons (j_tup (ja_cons j_str (ja_cons j_int ja_nil))) ja_nil)))))))))))))
abbrev s_law_body : Stmt := topS 25
theorem sc_law_body : FnScope [("cells" : Str), ("names" : Str), ("assets" : Str), ("known" : Str), ("asks" : Str), ("block" : Str), ("left" : Str), ("cell" : Str), ("inner" : Str), ("other" : Str), ("statement" : Str)] [("cells" : Str), ("names" : Str), ("assets" : Str), ("known" : Str), ("asks" : Str)] (defScope s_law_body) := ⟨rfl, rfl, rfl, by decide +kernel, rfl, by decide +kernel, by decide +kernel⟩
theorem body_law_body (T : Txt K mg g) {c_law_statement : Fn} (d_law_statement : DefOk P w K mg base g 9 ("_law_statement" : Str) 5 c_law_statement) {c_law_expression : Fn} (d_law_expression : DefOk P w K mg base g 8 ("_law_expression" : Str) 3 c_law_expression) {f : Addr} {fd : FuncData} (F : Fun K ("_law_body" : Str) ("_law_body" : Str) s_law_body f fd) : FnOk P w K mg base (L2.CX P w) (9 + 1) f fd [("cells" : Str), ("names" : Str), ("assets" : Str), ("known" : Str), ("asks" : Str)] (spM K g 5 (runF 5 (b_law_body c_law_statement c_law_expression) 11)) :=
  fn_body F sc_law_body rfl rfl fun cdv A outer s H E hr0 => by
  have hu : (A.deeper (envOfC ("_law_body" : Str) (defScope s_law_body) s.heap.objs.size f cdv)).units + 64 < cLine := hr0.units
  have hv : (A.deeper (envOfC ("_law_body" : Str) (defScope s_law_body) s.heap.objs.size f cdv)).units + 65 < cLine := by have := hr0.un; omega
  have tk := takes_of (X := cxOf (L2.CX P w) P w K mg base [("cells" : Str), ("names" : Str), ("assets" : Str), ("known" : Str), ("asks" : Str), ("block" : Str), ("left" : Str), ("cell" : Str), ("inner" : Str), ("other" : Str), ("statement" : Str)] ("_law_body" : Str) (defScope s_law_body) f cdv A outer s H E) (E := E) rfl rfl rfl rfl
  have hp := passes_of (X := cxOf (L2.CX P w) P w K mg base [("cells" : Str), ("names" : Str), ("assets" : Str), ("known" : Str), ("asks" : Str), ("block" : Str), ("left" : Str), ("cell" : Str), ("inner" : Str), ("other" : Str), ("statement" : Str)] ("_law_body" : Str) (defScope s_law_body) f cdv A outer s H E) rfl
  exact (js_cons (js_set 5 sc_law_body.nd (j_lst ja_nil))
  (js_cons (js_set 6 sc_law_body.nd (j_var 4))
  (js_cons (js_for hp rfl (ji_list (j_var 0)) (jg_name 7 sc_law_body.nd)
  (js_one (js_if (jt_w (jw_and (jt_cmp (os_eq hu) nox_opEqB (j_op os_mod nox_opMod (j_callTy cs_int nox_cInt T.b_int (by decide +kernel) (ja_cons (j_var 7) ja_nil)) j_int) j_int) (jw_and1 (jt_cmp os_gt nox_opGt (j_callB cs_len nox_cLen T.b_len (by decide +kernel) (ja_cons (j_var 0) ja_nil)) j_int))))
  (js_cons (js_set 8 sc_law_body.nd (j_call d_law_statement (hr0.mono (by omega)) tk (ja_cons (j_op os_fdiv nox_opFdiv (j_callTy cs_int nox_cInt T.b_int (by decide +kernel) (ja_cons (j_var 7) ja_nil)) j_int) (ja_cons (j_var 1) (ja_cons (j_var 2) (ja_cons (j_tup ja_nil) (ja_cons j_int ja_nil)))))))
  (js_cons (js_set 9 sc_law_body.nd (j_tup ja_nil))
  (js_cons (js_if (jt_cmp (os_eq hu) nox_opEqB (j_op os_mod nox_opMod (j_op os_fdiv nox_opFdiv (j_callTy cs_int nox_cInt T.b_int (by decide +kernel) (ja_cons (j_var 7) ja_nil)) j_int) j_int) j_int)
  (js_one (js_set 9 sc_law_body.nd (j_tup (ja_cons (j_call d_law_statement (hr0.mono (by omega)) tk (ja_cons (j_op os_fdiv nox_opFdiv (j_callTy cs_int nox_cInt T.b_int (by decide +kernel) (ja_cons (j_var 7) ja_nil)) j_int) (ja_cons (j_var 1) (ja_cons (j_var 2) (ja_cons (j_tup ja_nil) (ja_cons j_int ja_nil)))))) ja_nil)))) js_nil)
  (js_one (js_expr (j_mt PySem.F.plainAttrs_list PySem.F.slot_list_append PySem.F.type_list_append ms_append nox_mAppend (j_var 5) (ja_cons (j_tup (ja_cons j_str (ja_cons (j_call d_law_expression (hr0.mono (by omega)) tk (ja_cons (j_op os_fdiv nox_opFdiv (j_callTy cs_int nox_cInt T.b_int (by decide +kernel) (ja_cons (j_var 7) ja_nil)) j_int) (ja_cons (j_var 1) (ja_cons (j_var 2) ja_nil)))) (ja_cons (j_tup (ja_cons (j_var 8) ja_nil)) (ja_cons (j_var 9) ja_nil))))) ja_nil))))))) (js_cons (js_set 10 sc_law_body.nd (j_call d_law_statement (hr0.mono (by omega)) tk (ja_cons (j_op os_fdiv nox_opFdiv (j_callTy cs_int nox_cInt T.b_int (by decide +kernel) (ja_cons (j_var 7) ja_nil)) j_int) (ja_cons (j_var 1) (ja_cons (j_var 2) (ja_cons (j_var 3) (ja_cons (j_var 6) ja_nil)))))))
  (js_cons (js_set 6 sc_law_body.nd (j_op os_sub nox_opSub (j_var 6) (j_callTy cs_int nox_cInt T.b_int (by decide +kernel) (ja_cons (j_cmp (os_eq hu) nox_opEqB (j_ixA hu (j_var 10) j_int) j_str) ja_nil))))
  (js_one (js_expr (j_mt PySem.F.plainAttrs_list PySem.F.slot_list_append PySem.F.type_list_append ms_append nox_mAppend (j_var 5) (ja_cons (j_var 10) ja_nil)))))))))
  (js_one (js_ret (j_tup (ja_cons (j_callTy cs_tuple nox_cTuple T.b_tuple (by decide +kernel) (ja_cons (j_var 5) ja_nil)) (ja_cons (j_var 6) ja_nil))))))))
abbrev s_law_contract : Stmt := topS 26
theorem sc_law_contract : FnScope [("name" : Str), ("cells" : Str), ("assets" : Str), ("known" : Str), ("asks" : Str), ("small" : Str), ("digits" : Str), ("names" : Str), ("variables" : Str), ("k" : Str), ("holds" : Str), ("asset" : Str), ("procs" : Str), ("links" : Str), ("left" : Str), ("size" : Str), ("body" : Str), ("calls" : Str), ("statement" : Str)] [("name" : Str), ("cells" : Str), ("assets" : Str), ("known" : Str), ("asks" : Str), ("small" : Str)] (defScope s_law_contract) := ⟨rfl, rfl, rfl, by decide +kernel, rfl, by decide +kernel, by decide +kernel⟩
theorem body_law_contract (T : Txt K mg g) {c_law_row : Fn} (d_law_row : DefOk P w K mg base g 1 ("_law_row" : Str) 3 c_law_row) {c_law_body : Fn} (d_law_body : DefOk P w K mg base g 10 ("_law_body" : Str) 5 c_law_body) {f : Addr} {fd : FuncData} (F : Fun K ("_law_contract" : Str) ("_law_contract" : Str) s_law_contract f fd) : FnOk P w K mg base (L2.CX P w) (10 + 1) f fd [("name" : Str), ("cells" : Str), ("assets" : Str), ("known" : Str), ("asks" : Str), ("small" : Str)] (spM K g 6 (runF 6 (b_law_contract c_law_row c_law_body) 19)) :=
  fn_body F sc_law_contract rfl rfl fun cdv A outer s H E hr0 => by
  have hu : (A.deeper (envOfC ("_law_contract" : Str) (defScope s_law_contract) s.heap.objs.size f cdv)).units + 64 < cLine := hr0.units
  have hv : (A.deeper (envOfC ("_law_contract" : Str) (defScope s_law_contract) s.heap.objs.size f cdv)).units + 65 < cLine := by have := hr0.un; omega
  have tk := takes_of (X := cxOf (L2.CX P w) P w K mg base [("name" : Str), ("cells" : Str), ("assets" : Str), ("known" : Str), ("asks" : Str), ("small" : Str), ("digits" : Str), ("names" : Str), ("variables" : Str), ("k" : Str), ("holds" : Str), ("asset" : Str), ("procs" : Str), ("links" : Str), ("left" : Str), ("size" : Str), ("body" : Str), ("calls" : Str), ("statement" : Str)] ("_law_contract" : Str) (defScope s_law_contract) f cdv A outer s H E) (E := E) rfl rfl rfl rfl
  have hp := passes_of (X := cxOf (L2.CX P w) P w K mg base [("name" : Str), ("cells" : Str), ("assets" : Str), ("known" : Str), ("asks" : Str), ("small" : Str), ("digits" : Str), ("names" : Str), ("variables" : Str), ("k" : Str), ("holds" : Str), ("asset" : Str), ("procs" : Str), ("links" : Str), ("left" : Str), ("size" : Str), ("body" : Str), ("calls" : Str), ("statement" : Str)] ("_law_contract" : Str) (defScope s_law_contract) f cdv A outer s H E) rfl
  exact (js_cons (js_set 6 sc_law_contract.nd (j_call d_law_row (hr0.mono (by omega)) tk (ja_cons (j_ixA hu (j_var 1) j_int) (ja_cons j_int (ja_cons j_int ja_nil)))))
  (js_cons (js_set 7 sc_law_contract.nd (j_sl (j_lst (ja_cons j_str (ja_cons j_str ja_nil))) jo_none (jo_some (j_op os_mod nox_opMod (j_ixA hu (j_var 6) j_int) j_int))))
  (js_cons (js_if (jt_val (j_var 5))
  (js_one (js_set 7 sc_law_contract.nd (j_sl (j_var 7) jo_none (jo_some j_int)))) js_nil)
  (js_cons (js_setLc 8 (own := [(("k" : Str), 9)]) rfl sc_law_contract.nd (ji_rg1 T.b_range (ja_cons (j_callB cs_len nox_cLen T.b_len (by decide +kernel) (ja_cons (j_var 7) ja_nil)) ja_nil)) (blkOk_by (N := [("name" : Str), ("cells" : Str), ("assets" : Str), ("known" : Str), ("asks" : Str), ("small" : Str), ("digits" : Str), ("names" : Str), ("variables" : Str), ("k" : Str), ("holds" : Str), ("asset" : Str), ("procs" : Str), ("links" : Str), ("left" : Str), ("size" : Str), ("body" : Str), ("calls" : Str), ("statement" : Str)]) (sc := (defScope s_law_contract)) (by decide +kernel)) (fun _ _ _ _ _ => pg_name (i := 9) sc_law_contract.nd rfl (.inl rfl)) (tgN_ok 9) (fun _ _ _ _ _ => jc_nil) (fun _ _ _ _ _ => (j_tup (ja_cons (j_ixA hu (j_var 7) (j_var 9)) (ja_cons (j_op os_add nox_opAdd j_int (j_op os_mod nox_opMod (j_ixA hu (j_var 6) (j_op os_add nox_opAdd j_int (j_var 9))) (j_op os_sub nox_opSub j_int (j_callTy cs_int nox_cInt T.b_int (by decide +kernel) (ja_cons (j_var 5) ja_nil))))) (ja_cons (j_op os_mod nox_opMod (j_ixA hu (j_var 6) (j_op os_add nox_opAdd j_int (j_var 9))) j_int) ja_nil))))))
  (js_cons (js_setLc 10 (own := [(("asset" : Str), 11)]) rfl sc_law_contract.nd (ji_list (j_var 2)) (blkOk_by (N := [("name" : Str), ("cells" : Str), ("assets" : Str), ("known" : Str), ("asks" : Str), ("small" : Str), ("digits" : Str), ("names" : Str), ("variables" : Str), ("k" : Str), ("holds" : Str), ("asset" : Str), ("procs" : Str), ("links" : Str), ("left" : Str), ("size" : Str), ("body" : Str), ("calls" : Str), ("statement" : Str)]) (sc := (defScope s_law_contract)) (by decide +kernel)) (fun _ _ _ _ _ => pg_name (i := 11) sc_law_contract.nd rfl (.inl rfl)) (tgN_ok 11) (fun _ _ _ _ _ => jc_one (jt_cmp os_gt nox_opGt (j_op os_mod nox_opMod (j_ixA hu (j_var 6) j_int) j_int) j_int)) (fun _ _ _ _ _ => (j_tup (ja_cons (j_var 11) (ja_cons (j_op os_mod nox_opMod (j_ixA hu (j_var 6) j_int) (j_op os_sub nox_opSub j_int (j_callTy cs_int nox_cInt T.b_int (by decide +kernel) (ja_cons (j_var 5) ja_nil)))) ja_nil)))))
  (js_cons (js_set 12 sc_law_contract.nd (j_lst ja_nil))
  (js_cons (js_set 13 sc_law_contract.nd (j_callTy cs_list nox_cList T.b_list (by decide +kernel) (ja_cons (j_var 3) ja_nil)))
  (js_cons (js_set 14 sc_law_contract.nd (j_var 4))
  (js_cons (js_for hp rfl (ji_rg1 T.b_range (ja_cons (j_op os_mod nox_opMod (j_ixA hu (j_var 6) j_int) j_int) ja_nil)) (jg_name 9 sc_law_contract.nd)
  (js_cons (js_set 15 sc_law_contract.nd (j_ixA hu (j_tup (ja_cons j_int (ja_cons j_int (ja_cons j_int ja_nil)))) (j_op os_mod nox_opMod (j_ixA hu (j_var 6) (j_op os_add nox_opAdd j_int (j_var 9))) j_int)))
  (js_cons (js_if (jt_not (jt_val (j_var 5)))
  (js_one (js_set 15 sc_law_contract.nd (j_ixA hu (j_tup (ja_cons j_int (ja_cons j_int (ja_cons j_int (ja_cons j_int (ja_cons j_int ja_nil)))))) (j_op os_mod nox_opMod (j_ixA hu (j_var 6) (j_op os_add nox_opAdd j_int (j_var 9))) j_int)))) js_nil)
  (js_cons (js_set 16 sc_law_contract.nd (j_call d_law_body (hr0.mono (by omega)) tk (ja_cons (j_call d_law_row (hr0.mono (by omega)) tk (ja_cons (j_ixA hu (j_var 1) (j_op os_add nox_opAdd j_int (j_var 9))) (ja_cons (j_op os_add nox_opAdd j_int (j_op os_mod nox_opMod (j_ixA hu (j_var 6) (j_op os_add nox_opAdd j_int (j_var 9))) j_int)) (ja_cons (j_op os_pow nox_opPow j_int j_int) ja_nil)))) (ja_cons (j_var 7) (ja_cons (j_var 2) (ja_cons (j_var 13) (ja_cons (j_var 14) ja_nil)))))))
  (js_cons (js_set 14 sc_law_contract.nd (j_ixA hu (j_var 16) j_int))
  (js_cons (js_expr (j_mt PySem.F.plainAttrs_list PySem.F.slot_list_append PySem.F.type_list_append ms_append nox_mAppend (j_var 12) (ja_cons (j_tup (ja_cons (j_ixA hu j_str (j_var 9)) (ja_cons (j_var 15) (ja_cons (j_cmp os_gt nox_opGt (j_op os_mod nox_opMod (j_op os_fdiv nox_opFdiv (j_ixA hu (j_var 6) (j_op os_add nox_opAdd j_int (j_var 9))) j_int) j_int) j_int) (ja_cons (j_ixA hu (j_var 16) j_int) ja_nil))))) ja_nil)))
  (js_cons (js_setLc 17 (own := [(("statement" : Str), 18)]) rfl sc_law_contract.nd (ji_tup (j_ixA hu (j_var 16) j_int)) (blkOk_by (N := [("name" : Str), ("cells" : Str), ("assets" : Str), ("known" : Str), ("asks" : Str), ("small" : Str), ("digits" : Str), ("names" : Str), ("variables" : Str), ("k" : Str), ("holds" : Str), ("asset" : Str), ("procs" : Str), ("links" : Str), ("left" : Str), ("size" : Str), ("body" : Str), ("calls" : Str), ("statement" : Str)]) (sc := (defScope s_law_contract)) (by decide +kernel)) (fun _ _ _ _ _ => pg_name (i := 18) sc_law_contract.nd rfl (.inl rfl)) (tgN_ok 18) (fun _ _ _ _ _ => jc_one (jt_cmp (os_eq hu) nox_opEqB (j_ixA hu (j_var 18) j_int) j_str)) (fun _ _ _ _ _ => (j_var 18)))
  (js_one (js_if (jt_w (jw_and (jt_cmp (os_eq hu) nox_opEqB (j_callB cs_len nox_cLen T.b_len (by decide +kernel) (ja_cons (j_var 17) ja_nil)) j_int) (jw_and1 (jt_not (jt_val (j_var 5))))))
  (js_one (js_expr (j_mt PySem.F.plainAttrs_list PySem.F.slot_list_append PySem.F.type_list_append ms_append nox_mAppend (j_var 13) (ja_cons (j_tup (ja_cons (j_var 0) (ja_cons (j_ixA hu j_str (j_var 9)) ja_nil))) ja_nil)))) js_nil)))))))))
  (js_one (js_ret (j_tup (ja_cons (j_tup (ja_cons (j_var 0) (ja_cons (j_callTy cs_tuple nox_cTuple T.b_tuple (by decide +kernel) (ja_cons (j_var 8) ja_nil)) (ja_cons (j_callTy cs_tuple nox_cTuple T.b_tuple (by decide +kernel) (ja_cons (j_var 10) ja_nil)) (ja_cons (j_callTy cs_tuple nox_cTuple T.b_tuple (by decide +kernel) (ja_cons (j_var 12) ja_nil)) ja_nil))))) (ja_cons (j_var 13) (ja_cons (j_var 14) ja_nil)))))))))))))))
abbrev s_law_house : Stmt := topS 27
theorem sc_law_house : FnScope [("script" : Str), ("at" : Str), ("many" : Str), ("small" : Str), ("digits" : Str), ("assets" : Str), ("contracts" : Str), ("known" : Str), ("left" : Str), ("k" : Str), ("cells" : Str), ("j" : Str), ("made" : Str), ("asset" : Str)] [("script" : Str), ("at" : Str), ("many" : Str), ("small" : Str)] (defScope s_law_house) := ⟨rfl, rfl, rfl, by decide +kernel, rfl, by decide +kernel, by decide +kernel⟩
theorem body_law_house (T : Txt K mg g) {c_law_row : Fn} (d_law_row : DefOk P w K mg base g 1 ("_law_row" : Str) 3 c_law_row) {c_law_cell : Fn} (d_law_cell : DefOk P w K mg base g 1 ("_law_cell" : Str) 2 c_law_cell) {c_law_contract : Fn} (d_law_contract : DefOk P w K mg base g 11 ("_law_contract" : Str) 6 c_law_contract) {f : Addr} {fd : FuncData} (F : Fun K ("_law_house" : Str) ("_law_house" : Str) s_law_house f fd) : FnOk P w K mg base (L2.CX P w) (11 + 1) f fd [("script" : Str), ("at" : Str), ("many" : Str), ("small" : Str)] (spM K g 4 (runF 4 (b_law_house c_law_row c_law_cell c_law_contract) 14)) :=
  fn_body F sc_law_house rfl rfl fun cdv A outer s H E hr0 => by
  have hu : (A.deeper (envOfC ("_law_house" : Str) (defScope s_law_house) s.heap.objs.size f cdv)).units + 64 < cLine := hr0.units
  have hv : (A.deeper (envOfC ("_law_house" : Str) (defScope s_law_house) s.heap.objs.size f cdv)).units + 65 < cLine := by have := hr0.un; omega
  have tk := takes_of (X := cxOf (L2.CX P w) P w K mg base [("script" : Str), ("at" : Str), ("many" : Str), ("small" : Str), ("digits" : Str), ("assets" : Str), ("contracts" : Str), ("known" : Str), ("left" : Str), ("k" : Str), ("cells" : Str), ("j" : Str), ("made" : Str), ("asset" : Str)] ("_law_house" : Str) (defScope s_law_house) f cdv A outer s H E) (E := E) rfl rfl rfl rfl
  have hp := passes_of (X := cxOf (L2.CX P w) P w K mg base [("script" : Str), ("at" : Str), ("many" : Str), ("small" : Str), ("digits" : Str), ("assets" : Str), ("contracts" : Str), ("known" : Str), ("left" : Str), ("k" : Str), ("cells" : Str), ("j" : Str), ("made" : Str), ("asset" : Str)] ("_law_house" : Str) (defScope s_law_house) f cdv A outer s H E) rfl
  exact (js_cons (js_set 4 sc_law_house.nd (j_call d_law_row (hr0.mono (by omega)) tk (ja_cons (j_call d_law_cell (hr0.mono (by omega)) tk (ja_cons (j_var 0) (ja_cons (j_var 1) ja_nil))) (ja_cons j_int (ja_cons j_int ja_nil)))))
  (js_cons (js_set 5 sc_law_house.nd (j_sl (j_lst (ja_cons j_str (ja_cons j_str ja_nil))) jo_none (jo_some (j_callB (cs_min rfl) nox_cMin T.b_min (by decide +kernel) (ja_cons (j_op os_mod nox_opMod (j_ixA hu (j_var 4) j_int) j_int) (ja_cons (j_op os_sub nox_opSub j_int (j_callTy cs_int nox_cInt T.b_int (by decide +kernel) (ja_cons (j_var 3) ja_nil))) ja_nil))))))
  (js_cons (js_set 6 sc_law_house.nd (j_lst ja_nil))
  (js_cons (js_set 7 sc_law_house.nd (j_lst ja_nil))
  (js_cons (js_set 8 sc_law_house.nd j_int)
  (js_cons (js_if (jt_val (j_var 3))
  (js_one (js_set 8 sc_law_house.nd (j_op os_add nox_opAdd j_int (j_op os_mod nox_opMod (j_ixA hu (j_var 4) j_int) j_int)))) js_nil)
  (js_cons (js_for hp rfl (ji_rg1 T.b_range (ja_cons (j_op os_add nox_opAdd j_int (j_op os_mod nox_opMod (j_ixA hu (j_var 4) j_int) (j_var 2))) ja_nil)) (jg_name 9 sc_law_house.nd)
  (js_cons (js_setLc 10 (own := [(("j" : Str), 11)]) rfl sc_law_house.nd (ji_rg1 T.b_range (ja_cons j_int ja_nil)) (blkOk_by (N := [("script" : Str), ("at" : Str), ("many" : Str), ("small" : Str), ("digits" : Str), ("assets" : Str), ("contracts" : Str), ("known" : Str), ("left" : Str), ("k" : Str), ("cells" : Str), ("j" : Str), ("made" : Str), ("asset" : Str)]) (sc := (defScope s_law_house)) (by decide +kernel)) (fun _ _ _ _ _ => pg_name (i := 11) sc_law_house.nd rfl (.inl rfl)) (tgN_ok 11) (fun _ _ _ _ _ => jc_nil) (fun _ _ _ _ _ => (j_call d_law_cell (hr0.mono (by omega)) takes0 (ja_cons (j_var 0) (ja_cons (j_op os_add nox_opAdd (j_op os_add nox_opAdd (j_op os_add nox_opAdd (j_var 1) j_int) (j_op os_mul nox_opMul j_int (j_var 9))) (j_var 11)) ja_nil)))))
  (js_cons (js_set 12 sc_law_house.nd (j_call d_law_contract (hr0.mono (by omega)) tk (ja_cons (j_ixA hu j_str (j_var 9)) (ja_cons (j_var 10) (ja_cons (j_var 5) (ja_cons (j_var 7) (ja_cons (j_var 8) (ja_cons (j_var 3) ja_nil))))))))
  (js_cons (js_expr (j_mt PySem.F.plainAttrs_list PySem.F.slot_list_append PySem.F.type_list_append ms_append nox_mAppend (j_var 6) (ja_cons (j_ixA hu (j_var 12) j_int) ja_nil)))
  (js_cons (js_set 7 sc_law_house.nd (j_ixA hu (j_var 12) j_int))
  (js_one (js_set 8 sc_law_house.nd (j_ixA hu (j_var 12) j_int))))))))
  (js_one (js_ret (j_tup (ja_cons (j_lc (own := [(("asset" : Str), 13)]) rfl sc_law_house.nd (ji_list (j_var 5)) (blkOk_by (N := [("script" : Str), ("at" : Str), ("many" : Str), ("small" : Str), ("digits" : Str), ("assets" : Str), ("contracts" : Str), ("known" : Str), ("left" : Str), ("k" : Str), ("cells" : Str), ("j" : Str), ("made" : Str), ("asset" : Str)]) (sc := (defScope s_law_house)) (by decide +kernel)) (fun _ _ _ _ _ => pg_name (i := 13) sc_law_house.nd rfl (.inl rfl)) (tgN_ok 13) (fun _ _ _ _ _ => jc_nil) (fun _ _ _ _ _ => (j_tup (ja_cons (j_var 13) (ja_cons (j_op os_mod nox_opMod (j_ixA hu (j_var 4) j_int) (j_op os_sub nox_opSub j_int (j_callTy cs_int nox_cInt T.b_int (by decide +kernel) (ja_cons (j_var 3) ja_nil)))) ja_nil))))) (ja_cons (j_var 6) ja_nil))))))))))))
abbrev s_law_called_value : Stmt := topS 34
theorem sc_law_called_value : FnScope [("value" : Str), ("names" : Str)] [("value" : Str), ("names" : Str)] (defScope s_law_called_value) := ⟨rfl, rfl, rfl, by decide +kernel, rfl, by decide +kernel, by decide +kernel⟩
theorem body_law_called_value {j : Nat} (T : Txt K mg g) {c_law_called_value : Fn} (d_law_called_value : DefOk P w K mg base g (0 + j) ("_law_called_value" : Str) 2 c_law_called_value) {f : Addr} {fd : FuncData} (F : Fun K ("_law_called_value" : Str) ("_law_called_value" : Str) s_law_called_value f fd) : FnOk P w K mg base (L2.CX P w) ((0 + j) + 1) f fd [("value" : Str), ("names" : Str)] (spM K g 2 (runF 2 (b_law_called_value c_law_called_value) 2)) :=
  fn_body F sc_law_called_value rfl rfl fun cdv A outer s H E hr0 => by
  have hu : (A.deeper (envOfC ("_law_called_value" : Str) (defScope s_law_called_value) s.heap.objs.size f cdv)).units + 64 < cLine := hr0.units
  have hv : (A.deeper (envOfC ("_law_called_value" : Str) (defScope s_law_called_value) s.heap.objs.size f cdv)).units + 65 < cLine := by have := hr0.un; omega
  have tk := takes_of (X := cxOf (L2.CX P w) P w K mg base [("value" : Str), ("names" : Str)] ("_law_called_value" : Str) (defScope s_law_called_value) f cdv A outer s H E) (E := E) rfl rfl rfl rfl
  have hp := passes_of (X := cxOf (L2.CX P w) P w K mg base [("value" : Str), ("names" : Str)] ("_law_called_value" : Str) (defScope s_law_called_value) f cdv A outer s H E) rfl
  exact (js_cons (js_if (jt_cmp (os_in hv) nox_opInB (j_ixA hu (j_var 0) j_int) (j_tup (ja_cons j_str (ja_cons j_str (ja_cons j_str ja_nil)))))
  (js_one (js_ret (j_tup (ja_cons (j_ixA hu (j_var 0) j_int) (ja_cons (j_ixA hu (j_var 1) (j_ixA hu (j_var 0) j_int)) ja_nil))))) js_nil)
  (js_cons (js_if (jt_cmp (os_eq hu) nox_opEqB (j_callB cs_len nox_cLen T.b_len (by decide +kernel) (ja_cons (j_var 0) ja_nil)) j_int)
  (js_one (js_ret (j_tup (ja_cons (j_ixA hu (j_var 0) j_int) (ja_cons (j_call d_law_called_value (hr0.mono (by omega)) tk (ja_cons (j_ixA hu (j_var 0) j_int) (ja_cons (j_var 1) ja_nil))) (ja_cons (j_call d_law_called_value (hr0.mono (by omega)) tk (ja_cons (j_ixA hu (j_var 0) j_int) (ja_cons (j_var 1) ja_nil))) ja_nil)))))) js_nil)
  (js_one (js_ret (j_var 0)))))
abbrev s_law_called_block : Stmt := topS 35
theorem sc_law_called_block : FnScope [("block" : Str), ("names" : Str), ("result" : Str), ("statement" : Str), ("parts" : Str), ("told" : Str), ("name" : Str)] [("block" : Str), ("names" : Str)] (defScope s_law_called_block) := ⟨rfl, rfl, rfl, by decide +kernel, rfl, by decide +kernel, by decide +kernel⟩
theorem body_law_called_block {j : Nat} (T : Txt K mg g) {c_law_called_block : Fn} (d_law_called_block : DefOk P w K mg base g (8 + j) ("_law_called_block" : Str) 2 c_law_called_block) {c_law_called_value : Fn} (d_law_called_value : DefOk P w K mg base g 8 ("_law_called_value" : Str) 2 c_law_called_value) {f : Addr} {fd : FuncData} (F : Fun K ("_law_called_block" : Str) ("_law_called_block" : Str) s_law_called_block f fd) : FnOk P w K mg base (L2.CX P w) ((8 + j) + 1) f fd [("block" : Str), ("names" : Str)] (spM K g 2 (runF 2 (b_law_called_block c_law_called_block c_law_called_value) 7)) :=
  fn_body F sc_law_called_block rfl rfl fun cdv A outer s H E hr0 => by
  have hu : (A.deeper (envOfC ("_law_called_block" : Str) (defScope s_law_called_block) s.heap.objs.size f cdv)).units + 64 < cLine := hr0.units
  have hv : (A.deeper (envOfC ("_law_called_block" : Str) (defScope s_law_called_block) s.heap.objs.size f cdv)).units + 65 < cLine := by have := hr0.un; omega
  have tk := takes_of (X := cxOf (L2.CX P w) P w K mg base [("block" : Str), ("names" : Str), ("result" : Str), ("statement" : Str), ("parts" : Str), ("told" : Str), ("name" : Str)] ("_law_called_block" : Str) (defScope s_law_called_block) f cdv A outer s H E) (E := E) rfl rfl rfl rfl
  have hp := passes_of (X := cxOf (L2.CX P w) P w K mg base [("block" : Str), ("names" : Str), ("result" : Str), ("statement" : Str), ("parts" : Str), ("told" : Str), ("name" : Str)] ("_law_called_block" : Str) (defScope s_law_called_block) f cdv A outer s H E) rfl
  exact (js_cons (js_set 2 sc_law_called_block.nd (j_lst ja_nil))
  (js_cons (js_for hp rfl (ji_tup (j_var 0)) (jg_name 3 sc_law_called_block.nd)
  (js_one (js_if (jt_cmp (os_eq hu) nox_opEqB (j_ixA hu (j_var 3) j_int) j_str)
  (js_cons (js_set 4 sc_law_called_block.nd (j_tup (ja_cons (j_call d_law_called_block (hr0.mono (by omega)) tk (ja_cons (j_ixA hu (j_var 3) j_int) (ja_cons (j_var 1) ja_nil))) (ja_cons (j_call d_law_called_block (hr0.mono (by omega)) tk (ja_cons (j_ixA hu (j_var 3) j_int) (ja_cons (j_var 1) ja_nil))) ja_nil))))
  (js_one (js_expr (j_mt PySem.F.plainAttrs_list PySem.F.slot_list_append PySem.F.type_list_append ms_append nox_mAppend (j_var 2) (ja_cons (j_tup (ja_cons j_str (ja_cons (j_call d_law_called_value (hr0.mono (by omega)) tk (ja_cons (j_ixA hu (j_var 3) j_int) (ja_cons (j_var 1) ja_nil))) (ja_cons (j_ixA hu (j_var 4) j_int) (ja_cons (j_ixA hu (j_var 4) j_int) ja_nil))))) ja_nil))))) (js_one (js_if (jt_cmp (os_eq hu) nox_opEqB (j_ixA hu (j_var 3) j_int) j_str)
  (js_one (js_expr (j_mt PySem.F.plainAttrs_list PySem.F.slot_list_append PySem.F.type_list_append ms_append nox_mAppend (j_var 2) (ja_cons (j_tup (ja_cons j_str (ja_cons (j_ixA hu (j_var 1) (j_ixA hu (j_var 3) j_int)) (ja_cons (j_ixA hu (j_var 3) j_int) ja_nil)))) ja_nil)))) (js_cons (js_setLc 5 (own := [(("name" : Str), 6)]) rfl sc_law_called_block.nd (ji_tup (j_sl (j_var 3) (jo_some j_int) (jo_some (j_neg j_int)))) (blkOk_by (N := [("block" : Str), ("names" : Str), ("result" : Str), ("statement" : Str), ("parts" : Str), ("told" : Str), ("name" : Str)]) (sc := (defScope s_law_called_block)) (by decide +kernel)) (fun _ _ _ _ _ => pg_name (i := 6) sc_law_called_block.nd rfl (.inl rfl)) (tgN_ok 6) (fun _ _ _ _ _ => jc_nil) (fun _ _ _ _ _ => (j_ixA hu (j_var 1) (j_var 6))))
  (js_one (js_expr (j_mt PySem.F.plainAttrs_list PySem.F.slot_list_append PySem.F.type_list_append ms_append nox_mAppend (j_var 2) (ja_cons (j_op os_add nox_opAdd (j_op os_add nox_opAdd (j_tup (ja_cons (j_ixA hu (j_var 3) j_int) ja_nil)) (j_callTy cs_tuple nox_cTuple T.b_tuple (by decide +kernel) (ja_cons (j_var 5) ja_nil))) (j_tup (ja_cons (j_call d_law_called_value (hr0.mono (by omega)) tk (ja_cons (j_ixA hu (j_var 3) (j_neg j_int)) (ja_cons (j_var 1) ja_nil))) ja_nil))) ja_nil))))))))))
  (js_one (js_ret (j_callTy cs_tuple nox_cTuple T.b_tuple (by decide +kernel) (ja_cons (j_var 2) ja_nil))))))
abbrev s_law_called : Stmt := topS 33
theorem sc_law_called : FnScope [("house" : Str), ("names" : Str), ("key" : Str), ("name" : Str), ("contracts" : Str), ("contract" : Str), ("variables" : Str), ("row" : Str), ("holds" : Str), ("procs" : Str), ("proc" : Str)] [("house" : Str)] (defScope s_law_called) := ⟨rfl, rfl, rfl, by decide +kernel, rfl, by decide +kernel, by decide +kernel⟩
theorem body_law_called (T : Txt K mg g) {c_law_called_block : Fn} (d_law_called_block : DefOk P w K mg base g 16 ("_law_called_block" : Str) 2 c_law_called_block) {f : Addr} {fd : FuncData} (F : Fun K ("_law_called" : Str) ("_law_called" : Str) s_law_called f fd) : FnOk P w K mg base (L2.CX P w) (16 + 1) f fd [("house" : Str)] (spM K g 1 (runF 1 (b_law_called c_law_called_block) 11)) :=
  fn_body F sc_law_called rfl rfl fun cdv A outer s H E hr0 => by
  have hu : (A.deeper (envOfC ("_law_called" : Str) (defScope s_law_called) s.heap.objs.size f cdv)).units + 64 < cLine := hr0.units
  have hv : (A.deeper (envOfC ("_law_called" : Str) (defScope s_law_called) s.heap.objs.size f cdv)).units + 65 < cLine := by have := hr0.un; omega
  have tk := takes_of (X := cxOf (L2.CX P w) P w K mg base [("house" : Str), ("names" : Str), ("key" : Str), ("name" : Str), ("contracts" : Str), ("contract" : Str), ("variables" : Str), ("row" : Str), ("holds" : Str), ("procs" : Str), ("proc" : Str)] ("_law_called" : Str) (defScope s_law_called) f cdv A outer s H E) (E := E) rfl rfl rfl rfl
  have hp := passes_of (X := cxOf (L2.CX P w) P w K mg base [("house" : Str), ("names" : Str), ("key" : Str), ("name" : Str), ("contracts" : Str), ("contract" : Str), ("variables" : Str), ("row" : Str), ("holds" : Str), ("procs" : Str), ("proc" : Str)] ("_law_called" : Str) (defScope s_law_called) f cdv A outer s H E) rfl
  exact (js_cons (js_set 1 sc_law_called.nd (j_disp (jp_cons j_str j_str (jp_cons j_str j_str (jp_cons j_str j_str (jp_cons j_str j_str (jp_cons j_str j_str (jp_cons j_str j_str (jp_cons j_str j_str (jp_cons j_str j_str jp_nil))))))))))
  (js_cons (js_for hp rfl (ji_tup (j_tup (ja_cons (j_tup (ja_cons j_str (ja_cons j_str ja_nil))) (ja_cons (j_tup (ja_cons j_str (ja_cons j_str ja_nil))) (ja_cons (j_tup (ja_cons j_str (ja_cons j_str ja_nil))) (ja_cons (j_tup (ja_cons j_str (ja_cons j_str ja_nil))) (ja_cons (j_tup (ja_cons j_str (ja_cons j_str ja_nil))) ja_nil))))))) (jg_tup (ix := [2, 3]) rfl (pgs_cons (pg_name (i := 2) sc_law_called.nd rfl (by first | exact Or.inl rfl | exact Or.inr rfl)) (pgs_cons (pg_name (i := 3) sc_law_called.nd rfl (by first | exact Or.inl rfl | exact Or.inr rfl)) pgs_nil)))
  (js_one (js_itemA hu (j_var 1) (j_var 2) (j_var 3))))
  (js_cons (js_set 4 sc_law_called.nd (j_lst ja_nil))
  (js_cons (js_for hp rfl (ji_list (j_ixA hu (j_var 0) j_int)) (jg_name 5 sc_law_called.nd)
  (js_cons (js_set 6 sc_law_called.nd (j_callTy cs_tuple nox_cTuple T.b_tuple (by decide +kernel) (ja_cons (j_lc (own := [(("row" : Str), 7)]) rfl sc_law_called.nd (ji_tup (j_ixA hu (j_var 5) j_int)) (blkOk_by (N := [("house" : Str), ("names" : Str), ("key" : Str), ("name" : Str), ("contracts" : Str), ("contract" : Str), ("variables" : Str), ("row" : Str), ("holds" : Str), ("procs" : Str), ("proc" : Str)]) (sc := (defScope s_law_called)) (by decide +kernel)) (fun _ _ _ _ _ => pg_name (i := 7) sc_law_called.nd rfl (.inl rfl)) (tgN_ok 7) (fun _ _ _ _ _ => jc_nil) (fun _ _ _ _ _ => (j_op os_add nox_opAdd (j_tup (ja_cons (j_ixA hu (j_var 1) (j_ixA hu (j_var 7) j_int)) ja_nil)) (j_sl (j_var 7) (jo_some j_int) jo_none)))) ja_nil)))
  (js_cons (js_set 8 sc_law_called.nd (j_callTy cs_tuple nox_cTuple T.b_tuple (by decide +kernel) (ja_cons (j_lc (own := [(("row" : Str), 7)]) rfl sc_law_called.nd (ji_tup (j_ixA hu (j_var 5) j_int)) (blkOk_by (N := [("house" : Str), ("names" : Str), ("key" : Str), ("name" : Str), ("contracts" : Str), ("contract" : Str), ("variables" : Str), ("row" : Str), ("holds" : Str), ("procs" : Str), ("proc" : Str)]) (sc := (defScope s_law_called)) (by decide +kernel)) (fun _ _ _ _ _ => pg_name (i := 7) sc_law_called.nd rfl (.inl rfl)) (tgN_ok 7) (fun _ _ _ _ _ => jc_nil) (fun _ _ _ _ _ => (j_tup (ja_cons (j_ixA hu (j_var 1) (j_ixA hu (j_var 7) j_int)) (ja_cons (j_ixA hu (j_var 7) j_int) ja_nil))))) ja_nil)))
  (js_cons (js_setLc 9 (own := [(("proc" : Str), 10)]) rfl sc_law_called.nd (ji_tup (j_ixA hu (j_var 5) j_int)) (blkOk_by (N := [("house" : Str), ("names" : Str), ("key" : Str), ("name" : Str), ("contracts" : Str), ("contract" : Str), ("variables" : Str), ("row" : Str), ("holds" : Str), ("procs" : Str), ("proc" : Str)]) (sc := (defScope s_law_called)) (by decide +kernel)) (fun _ _ _ _ _ => pg_name (i := 10) sc_law_called.nd rfl (.inl rfl)) (tgN_ok 10) (fun _ _ _ _ _ => jc_nil) (fun _ _ _ _ _ => (j_tup (ja_cons (j_ixA hu (j_var 1) (j_ixA hu (j_var 10) j_int)) (ja_cons (j_ixA hu (j_var 10) j_int) (ja_cons (j_ixA hu (j_var 10) j_int) (ja_cons (j_call d_law_called_block (hr0.mono (by omega)) takes0 (ja_cons (j_ixA hu (j_var 10) j_int) (ja_cons (j_var 1) ja_nil))) ja_nil)))))))
  (js_one (js_expr (j_mt PySem.F.plainAttrs_list PySem.F.slot_list_append PySem.F.type_list_append ms_append nox_mAppend (j_var 4) (ja_cons (j_tup (ja_cons (j_ixA hu (j_var 1) (j_ixA hu (j_var 5) j_int)) (ja_cons (j_var 6) (ja_cons (j_var 8) (ja_cons (j_callTy cs_tuple nox_cTuple T.b_tuple (by decide +kernel) (ja_cons (j_var 9) ja_nil)) ja_nil))))) ja_nil))))))))
  (js_one (js_ret (j_tup (ja_cons (j_lc (own := [(("row" : Str), 7)]) rfl sc_law_called.nd (ji_list (j_ixA hu (j_var 0) j_int)) (blkOk_by (N := [("house" : Str), ("names" : Str), ("key" : Str), ("name" : Str), ("contracts" : Str), ("contract" : Str), ("variables" : Str), ("row" : Str), ("holds" : Str), ("procs" : Str), ("proc" : Str)]) (sc := (defScope s_law_called)) (by decide +kernel)) (fun _ _ _ _ _ => pg_name (i := 7) sc_law_called.nd rfl (.inl rfl)) (tgN_ok 7) (fun _ _ _ _ _ => jc_nil) (fun _ _ _ _ _ => (j_tup (ja_cons (j_ixA hu (j_var 1) (j_ixA hu (j_var 7) j_int)) (ja_cons (j_ixA hu (j_var 7) j_int) ja_nil))))) (ja_cons (j_var 4) ja_nil)))))))))
abbrev s_House_init : Stmt := inClass (topS 9) 0
theorem sc_House_init : FnScope [("self" : Str), ("assets" : Str), ("contracts" : Str)] [("self" : Str), ("assets" : Str), ("contracts" : Str)] (defScope s_House_init) := ⟨rfl, rfl, rfl, by decide +kernel, rfl, by decide +kernel, by decide +kernel⟩
theorem body_House_init (T : Txt K mg g)  {f : Addr} {fd : FuncData} (F : Fun K ("__init__" : Str) ("House.__init__" : Str) s_House_init f fd) : FnOk P w K mg base (L2.CX P w) (0 + 1) f fd [("self" : Str), ("assets" : Str), ("contracts" : Str)] (spM K g 3 (runF 3 (b_House_init ) 3)) :=
  fn_body F sc_House_init rfl rfl fun cdv A outer s H E hr0 => by
  have hu : (A.deeper (envOfC ("House.__init__" : Str) (defScope s_House_init) s.heap.objs.size f cdv)).units + 64 < cLine := hr0.units
  have hv : (A.deeper (envOfC ("House.__init__" : Str) (defScope s_House_init) s.heap.objs.size f cdv)).units + 65 < cLine := by have := hr0.un; omega
  have tk := takes_of (X := cxOf (L2.CX P w) P w K mg base [("self" : Str), ("assets" : Str), ("contracts" : Str)] ("House.__init__" : Str) (defScope s_House_init) f cdv A outer s H E) (E := E) rfl rfl rfl rfl
  have hp := passes_of (X := cxOf (L2.CX P w) P w K mg base [("self" : Str), ("assets" : Str), ("contracts" : Str)] ("House.__init__" : Str) (defScope s_House_init) f cdv A outer s H E) rfl
  exact (js_cons (js_fld T.a_assets (j_var 0) (j_var 1))
  (js_one (js_fld T.a_contracts (j_var 0) (j_var 2))))
abbrev s_law_made : Stmt := topS 32
theorem sc_law_made : FnScope [("house" : Str)] [("house" : Str)] (defScope s_law_made) := ⟨rfl, rfl, rfl, by decide +kernel, rfl, by decide +kernel, by decide +kernel⟩
theorem body_law_made (T : Txt K mg g) {c_House_init : Fn} (d_House_init : MakeOk P w K mg base g 1 7 ("House" : Str) 3 c_House_init) {f : Addr} {fd : FuncData} (F : Fun K ("_law_made" : Str) ("_law_made" : Str) s_law_made f fd) : FnOk P w K mg base (L2.CX P w) (2 + 1) f fd [("house" : Str)] (spM K g 1 (runF 1 (b_law_made c_House_init) 1)) :=
  fn_body F sc_law_made rfl rfl fun cdv A outer s H E hr0 => by
  have hu : (A.deeper (envOfC ("_law_made" : Str) (defScope s_law_made) s.heap.objs.size f cdv)).units + 64 < cLine := hr0.units
  have hv : (A.deeper (envOfC ("_law_made" : Str) (defScope s_law_made) s.heap.objs.size f cdv)).units + 65 < cLine := by have := hr0.un; omega
  have tk := takes_of (X := cxOf (L2.CX P w) P w K mg base [("house" : Str)] ("_law_made" : Str) (defScope s_law_made) f cdv A outer s H E) (E := E) rfl rfl rfl rfl
  have hp := passes_of (X := cxOf (L2.CX P w) P w K mg base [("house" : Str)] ("_law_made" : Str) (defScope s_law_made) f cdv A outer s H E) rfl
  exact (js_one (js_ret (j_make d_House_init (hr0.mono (by omega)) (ja_cons (j_callTy cs_tuple nox_cTuple T.b_tuple (by decide +kernel) (ja_cons (j_ixA hu (j_var 0) j_int) ja_nil)) (ja_cons (j_callTy cs_tuple nox_cTuple T.b_tuple (by decide +kernel) (ja_cons (j_ixA hu (j_var 0) j_int) ja_nil)) ja_nil)))))
abbrev s_law_guarding : Stmt := topS 36
theorem sc_law_guarding : FnScope [("guard" : Str), ("house" : Str), ("cell" : Str), ("contracts" : Str), ("contract" : Str), ("names" : Str), ("proc" : Str), ("asset" : Str)] [("guard" : Str), ("house" : Str), ("cell" : Str)] (defScope s_law_guarding) := ⟨rfl, rfl, rfl, by decide +kernel, rfl, by decide +kernel, by decide +kernel⟩
theorem body_law_guarding (T : Txt K mg g)  {f : Addr} {fd : FuncData} (F : Fun K ("_law_guarding" : Str) ("_law_guarding" : Str) s_law_guarding f fd) : FnOk P w K mg base (L2.CX P w) (0 + 1) f fd [("guard" : Str), ("house" : Str), ("cell" : Str)] (spM K g 3 (runF 3 (b_law_guarding ) 8)) :=
  fn_body F sc_law_guarding rfl rfl fun cdv A outer s H E hr0 => by
  have hu : (A.deeper (envOfC ("_law_guarding" : Str) (defScope s_law_guarding) s.heap.objs.size f cdv)).units + 64 < cLine := hr0.units
  have hv : (A.deeper (envOfC ("_law_guarding" : Str) (defScope s_law_guarding) s.heap.objs.size f cdv)).units + 65 < cLine := by have := hr0.un; omega
  have tk := takes_of (X := cxOf (L2.CX P w) P w K mg base [("guard" : Str), ("house" : Str), ("cell" : Str), ("contracts" : Str), ("contract" : Str), ("names" : Str), ("proc" : Str), ("asset" : Str)] ("_law_guarding" : Str) (defScope s_law_guarding) f cdv A outer s H E) (E := E) rfl rfl rfl rfl
  have hp := passes_of (X := cxOf (L2.CX P w) P w K mg base [("guard" : Str), ("house" : Str), ("cell" : Str), ("contracts" : Str), ("contract" : Str), ("names" : Str), ("proc" : Str), ("asset" : Str)] ("_law_guarding" : Str) (defScope s_law_guarding) f cdv A outer s H E) rfl
  exact (js_cons (js_setLc 3 (own := [(("contract" : Str), 4)]) rfl sc_law_guarding.nd (ji_list (j_ixA hu (j_var 1) j_int)) (blkOk_by (N := [("guard" : Str), ("house" : Str), ("cell" : Str), ("contracts" : Str), ("contract" : Str), ("names" : Str), ("proc" : Str), ("asset" : Str)]) (sc := (defScope s_law_guarding)) (by decide +kernel)) (fun _ _ _ _ _ => pg_name (i := 4) sc_law_guarding.nd rfl (.inl rfl)) (tgN_ok 4) (fun _ _ _ _ _ => jc_one (jt_cmp (os_eq hu) nox_opEqB (j_ixA hu (j_var 4) j_int) (j_ixA hu (j_var 0) j_int))) (fun _ _ _ _ _ => (j_var 4)))
  (js_cons (js_if (jt_w (jw_and (jt_cmp (os_eq hu) nox_opEqB (j_ixA hu (j_var 0) j_int) j_str) (jw_and (jt_cmp (os_eq hu) nox_opEqB (j_op os_mod nox_opMod (j_callTy cs_int nox_cInt T.b_int (by decide +kernel) (ja_cons (j_var 2) ja_nil)) j_int) j_int) (jw_and1 (jt_cmp os_gt nox_opGt (j_callB cs_len nox_cLen T.b_len (by decide +kernel) (ja_cons (j_var 3) ja_nil)) j_int)))))
  (js_cons (js_setLc 5 (own := [(("proc" : Str), 6)]) rfl sc_law_guarding.nd (ji_tup (j_ixA hu (j_ixA hu (j_var 3) j_int) j_int)) (blkOk_by (N := [("guard" : Str), ("house" : Str), ("cell" : Str), ("contracts" : Str), ("contract" : Str), ("names" : Str), ("proc" : Str), ("asset" : Str)]) (sc := (defScope s_law_guarding)) (by decide +kernel)) (fun _ _ _ _ _ => pg_name (i := 6) sc_law_guarding.nd rfl (.inl rfl)) (tgN_ok 6) (fun _ _ _ _ _ => jc_nil) (fun _ _ _ _ _ => (j_ixA hu (j_var 6) j_int)))
  (js_one (js_if (jt_cmp os_gt nox_opGt (j_callB cs_len nox_cLen T.b_len (by decide +kernel) (ja_cons (j_var 5) ja_nil)) j_int)
  (js_one (js_ret (j_tup (ja_cons j_str (ja_cons (j_ixA hu (j_var 0) j_int) (ja_cons (j_ixA hu (j_var 5) (j_op os_mod nox_opMod (j_op os_fdiv nox_opFdiv (j_callTy cs_int nox_cInt T.b_int (by decide +kernel) (ja_cons (j_var 2) ja_nil)) j_int) (j_callB cs_len nox_cLen T.b_len (by decide +kernel) (ja_cons (j_var 5) ja_nil)))) ja_nil)))))) js_nil))) js_nil)
  (js_cons (js_if (jt_cmp (os_eq hu) nox_opEqB (j_ixA hu (j_var 0) j_int) j_str)
  (js_cons (js_set 7 sc_law_guarding.nd (j_ixA hu (j_var 0) j_int))
  (js_cons (js_if (jt_w (jw_and (jt_cmp (os_eq hu) nox_opEqB (j_op os_mod nox_opMod (j_callTy cs_int nox_cInt T.b_int (by decide +kernel) (ja_cons (j_var 2) ja_nil)) j_int) j_int) (jw_and1 (jt_cmp os_gt nox_opGt (j_callB cs_len nox_cLen T.b_len (by decide +kernel) (ja_cons (j_ixA hu (j_var 1) j_int) ja_nil)) j_int))))
  (js_one (js_set 7 sc_law_guarding.nd (j_ixA hu (j_ixA hu (j_ixA hu (j_var 1) j_int) (j_op os_mod nox_opMod (j_op os_fdiv nox_opFdiv (j_callTy cs_int nox_cInt T.b_int (by decide +kernel) (ja_cons (j_var 2) ja_nil)) j_int) (j_callB cs_len nox_cLen T.b_len (by decide +kernel) (ja_cons (j_ixA hu (j_var 1) j_int) ja_nil)))) j_int))) js_nil)
  (js_one (js_ret (j_tup (ja_cons j_str (ja_cons (j_ixA hu (j_var 0) j_int) (ja_cons (j_var 7) (ja_cons (j_ixA hu (j_tup (ja_cons (j_ixA hu (j_var 0) j_int) (ja_cons (j_ixA hu (j_var 0) j_int) (ja_cons (j_neg j_int) (ja_cons j_int (ja_cons j_int (ja_cons j_int ja_nil))))))) (j_op os_mod nox_opMod (j_op os_fdiv nox_opFdiv (j_callTy cs_int nox_cInt T.b_int (by decide +kernel) (ja_cons (j_var 2) ja_nil)) j_int) j_int)) ja_nil))))))))) js_nil)
  (js_one (js_ret (j_var 0))))))
abbrev s_law_guard : Stmt := topS 28
theorem sc_law_guard : FnScope [("cell" : Str), ("house" : Str), ("kind" : Str), ("rest" : Str), ("contract" : Str)] [("cell" : Str), ("house" : Str)] (defScope s_law_guard) := ⟨rfl, rfl, rfl, by decide +kernel, rfl, by decide +kernel, by decide +kernel⟩
theorem body_law_guard (T : Txt K mg g)  {f : Addr} {fd : FuncData} (F : Fun K ("_law_guard" : Str) ("_law_guard" : Str) s_law_guard f fd) : FnOk P w K mg base (L2.CX P w) (0 + 1) f fd [("cell" : Str), ("house" : Str)] (spM K g 2 (runF 2 (b_law_guard ) 5)) :=
  fn_body F sc_law_guard rfl rfl fun cdv A outer s H E hr0 => by
  have hu : (A.deeper (envOfC ("_law_guard" : Str) (defScope s_law_guard) s.heap.objs.size f cdv)).units + 64 < cLine := hr0.units
  have hv : (A.deeper (envOfC ("_law_guard" : Str) (defScope s_law_guard) s.heap.objs.size f cdv)).units + 65 < cLine := by have := hr0.un; omega
  have tk := takes_of (X := cxOf (L2.CX P w) P w K mg base [("cell" : Str), ("house" : Str), ("kind" : Str), ("rest" : Str), ("contract" : Str)] ("_law_guard" : Str) (defScope s_law_guard) f cdv A outer s H E) (E := E) rfl rfl rfl rfl
  have hp := passes_of (X := cxOf (L2.CX P w) P w K mg base [("cell" : Str), ("house" : Str), ("kind" : Str), ("rest" : Str), ("contract" : Str)] ("_law_guard" : Str) (defScope s_law_guard) f cdv A outer s H E) rfl
  exact (js_cons (js_set 2 sc_law_guard.nd (j_op os_mod nox_opMod (j_callTy cs_int nox_cInt T.b_int (by decide +kernel) (ja_cons (j_var 0) ja_nil)) j_int))
  (js_cons (js_set 3 sc_law_guard.nd (j_op os_fdiv nox_opFdiv (j_callTy cs_int nox_cInt T.b_int (by decide +kernel) (ja_cons (j_var 0) ja_nil)) j_int))
  (js_cons (js_set 4 sc_law_guard.nd (j_ixA hu j_str (j_op os_mod nox_opMod (j_var 3) j_int)))
  (js_cons (js_if (jt_cmp os_gt nox_opGt (j_op os_mod nox_opMod (j_op os_fdiv nox_opFdiv (j_var 3) j_int) j_int) j_int)
  (js_one (js_set 4 sc_law_guard.nd (j_ixA hu (j_ixA hu (j_ixA hu (j_var 1) j_int) (j_op os_mod nox_opMod (j_op os_fdiv nox_opFdiv (j_var 3) j_int) (j_callB cs_len nox_cLen T.b_len (by decide +kernel) (ja_cons (j_ixA hu (j_var 1) j_int) ja_nil)))) j_int))) js_nil)
  (js_cons (js_if (jt_cmp (os_eq hu) nox_opEqB (j_var 2) j_int)
  (js_one (js_ret (j_tup (ja_cons j_str (ja_cons (j_var 4) (ja_cons (j_ixA hu j_str (j_op os_mod nox_opMod (j_op os_fdiv nox_opFdiv (j_var 3) j_int) j_int)) ja_nil)))))) js_nil)
  (js_cons (js_if (jt_cmp (os_eq hu) nox_opEqB (j_var 2) j_int)
  (js_one (js_ret (j_tup (ja_cons j_str (ja_cons (j_var 4) ja_nil))))) js_nil)
  (js_one (js_ret (j_tup (ja_cons j_str (ja_cons (j_var 4) (ja_cons (j_ixA hu j_str (j_op os_fdiv nox_opFdiv (j_op os_mod nox_opMod (j_op os_fdiv nox_opFdiv (j_var 3) j_int) j_int) j_int)) (ja_cons (j_op os_mod nox_opMod (j_op os_fdiv nox_opFdiv (j_var 3) j_int) j_int) ja_nil)))))))))))))
abbrev s_law_fits : Stmt := topS 29
theorem sc_law_fits : FnScope [("house" : Str), ("guard" : Str), ("contract" : Str), ("proc" : Str), ("variable" : Str), ("asset" : Str)] [("house" : Str), ("guard" : Str)] (defScope s_law_fits) := ⟨rfl, rfl, rfl, by decide +kernel, rfl, by decide +kernel, by decide +kernel⟩
theorem body_law_fits (T : Txt K mg g)  {f : Addr} {fd : FuncData} (F : Fun K ("_law_fits" : Str) ("_law_fits" : Str) s_law_fits f fd) : FnOk P w K mg base (L2.CX P w) (0 + 1) f fd [("house" : Str), ("guard" : Str)] (spM K g 2 (runF 2 (b_law_fits ) 6)) :=
  fn_body F sc_law_fits rfl rfl fun cdv A outer s H E hr0 => by
  have hu : (A.deeper (envOfC ("_law_fits" : Str) (defScope s_law_fits) s.heap.objs.size f cdv)).units + 64 < cLine := hr0.units
  have hv : (A.deeper (envOfC ("_law_fits" : Str) (defScope s_law_fits) s.heap.objs.size f cdv)).units + 65 < cLine := by have := hr0.un; omega
  have tk := takes_of (X := cxOf (L2.CX P w) P w K mg base [("house" : Str), ("guard" : Str), ("contract" : Str), ("proc" : Str), ("variable" : Str), ("asset" : Str)] ("_law_fits" : Str) (defScope s_law_fits) f cdv A outer s H E) (E := E) rfl rfl rfl rfl
  have hp := passes_of (X := cxOf (L2.CX P w) P w K mg base [("house" : Str), ("guard" : Str), ("contract" : Str), ("proc" : Str), ("variable" : Str), ("asset" : Str)] ("_law_fits" : Str) (defScope s_law_fits) f cdv A outer s H E) rfl
  exact (js_cons (js_for hp rfl (ji_list (j_ixA hu (j_var 0) j_int)) (jg_name 2 sc_law_fits.nd)
  (js_one (js_if (jt_cmp (os_eq hu) nox_opEqB (j_ixA hu (j_var 2) j_int) (j_ixA hu (j_var 1) j_int))
  (js_cons (js_if (jt_cmp (os_eq hu) nox_opEqB (j_ixA hu (j_var 1) j_int) j_str)
  (js_one (js_ret (j_cmp (os_in hv) nox_opInB (j_tup (ja_cons (j_ixA hu (j_var 1) j_int) (ja_cons j_bl ja_nil))) (j_lc (own := [(("proc" : Str), 3)]) rfl sc_law_fits.nd (ji_tup (j_ixA hu (j_var 2) j_int)) (blkOk_by (N := [("house" : Str), ("guard" : Str), ("contract" : Str), ("proc" : Str), ("variable" : Str), ("asset" : Str)]) (sc := (defScope s_law_fits)) (by decide +kernel)) (fun _ _ _ _ _ => pg_name (i := 3) sc_law_fits.nd rfl (.inl rfl)) (tgN_ok 3) (fun _ _ _ _ _ => jc_nil) (fun _ _ _ _ _ => (j_tup (ja_cons (j_ixA hu (j_var 3) j_int) (ja_cons (j_ixA hu (j_var 3) j_int) ja_nil)))))))) js_nil)
  (js_cons (js_if (jt_cmp (os_eq hu) nox_opEqB (j_ixA hu (j_var 1) j_int) j_str)
  (js_one (js_ret (j_cmp (os_notIn hv) nox_opInB j_str (j_lc (own := [(("variable" : Str), 4)]) rfl sc_law_fits.nd (ji_tup (j_ixA hu (j_var 2) j_int)) (blkOk_by (N := [("house" : Str), ("guard" : Str), ("contract" : Str), ("proc" : Str), ("variable" : Str), ("asset" : Str)]) (sc := (defScope s_law_fits)) (by decide +kernel)) (fun _ _ _ _ _ => pg_name (i := 4) sc_law_fits.nd rfl (.inl rfl)) (tgN_ok 4) (fun _ _ _ _ _ => jc_nil) (fun _ _ _ _ _ => (j_ixA hu (j_var 4) j_int)))))) js_nil)
  (js_one (js_ret (j_cmp (os_in hv) nox_opInB (j_ixA hu (j_var 1) j_int) (j_lc (own := [(("asset" : Str), 5)]) rfl sc_law_fits.nd (ji_list (j_ixA hu (j_var 0) j_int)) (blkOk_by (N := [("house" : Str), ("guard" : Str), ("contract" : Str), ("proc" : Str), ("variable" : Str), ("asset" : Str)]) (sc := (defScope s_law_fits)) (by decide +kernel)) (fun _ _ _ _ _ => pg_name (i := 5) sc_law_fits.nd rfl (.inl rfl)) (tgN_ok 5) (fun _ _ _ _ _ => jc_nil) (fun _ _ _ _ _ => (j_ixA hu (j_var 5) j_int)))))))) js_nil)))
  (js_one (js_ret j_bl)))
abbrev s_names_of : Stmt := topS 10
theorem sc_names_of : FnScope [("rows" : Str), ("row" : Str)] [("rows" : Str)] (defScope s_names_of) := ⟨rfl, rfl, rfl, by decide +kernel, rfl, by decide +kernel, by decide +kernel⟩
theorem body_names_of (T : Txt K mg g)  {f : Addr} {fd : FuncData} (F : Fun K ("names_of" : Str) ("names_of" : Str) s_names_of f fd) : FnOk P w K mg base (L2.CX P w) (0 + 1) f fd [("rows" : Str)] (spM K g 1 (runF 1 (b_names_of ) 2)) :=
  fn_body F sc_names_of rfl rfl fun cdv A outer s H E hr0 => by
  have hu : (A.deeper (envOfC ("names_of" : Str) (defScope s_names_of) s.heap.objs.size f cdv)).units + 64 < cLine := hr0.units
  have hv : (A.deeper (envOfC ("names_of" : Str) (defScope s_names_of) s.heap.objs.size f cdv)).units + 65 < cLine := by have := hr0.un; omega
  have tk := takes_of (X := cxOf (L2.CX P w) P w K mg base [("rows" : Str), ("row" : Str)] ("names_of" : Str) (defScope s_names_of) f cdv A outer s H E) (E := E) rfl rfl rfl rfl
  have hp := passes_of (X := cxOf (L2.CX P w) P w K mg base [("rows" : Str), ("row" : Str)] ("names_of" : Str) (defScope s_names_of) f cdv A outer s H E) rfl
  exact (js_one (js_ret (j_lc (own := [(("row" : Str), 1)]) rfl sc_names_of.nd (ji_both (j_var 0)) (blkOk_by (N := [("rows" : Str), ("row" : Str)]) (sc := (defScope s_names_of)) (by decide +kernel)) (fun _ _ _ _ _ => pg_name (i := 1) sc_names_of.nd rfl (.inl rfl)) (tgN_ok 1) (fun _ _ _ _ _ => jc_nil) (fun _ _ _ _ _ => (j_ixA hu (j_var 1) j_int)))))
abbrev s_can_have : Stmt := topS 16
theorem sc_can_have : FnScope [("house" : Str), ("guard" : Str), ("name" : Str), ("variables" : Str), ("_" : Str), ("procedures" : Str), ("procedure" : Str)] [("house" : Str), ("guard" : Str)] (defScope s_can_have) := ⟨rfl, rfl, rfl, by decide +kernel, rfl, by decide +kernel, by decide +kernel⟩
theorem body_can_have (T : Txt K mg g) {c_names_of : Fn} (d_names_of : DefOk P w K mg base g 1 ("names_of" : Str) 1 c_names_of) {f : Addr} {fd : FuncData} (F : Fun K ("can_have" : Str) ("can_have" : Str) s_can_have f fd) : FnOk P w K mg base (L2.CX P w) (1 + 1) f fd [("house" : Str), ("guard" : Str)] (spM K g 2 (runF 2 (b_can_have c_names_of) 7)) :=
  fn_body F sc_can_have rfl rfl fun cdv A outer s H E hr0 => by
  have hu : (A.deeper (envOfC ("can_have" : Str) (defScope s_can_have) s.heap.objs.size f cdv)).units + 64 < cLine := hr0.units
  have hv : (A.deeper (envOfC ("can_have" : Str) (defScope s_can_have) s.heap.objs.size f cdv)).units + 65 < cLine := by have := hr0.un; omega
  have tk := takes_of (X := cxOf (L2.CX P w) P w K mg base [("house" : Str), ("guard" : Str), ("name" : Str), ("variables" : Str), ("_" : Str), ("procedures" : Str), ("procedure" : Str)] ("can_have" : Str) (defScope s_can_have) f cdv A outer s H E) (E := E) rfl rfl rfl rfl
  have hp := passes_of (X := cxOf (L2.CX P w) P w K mg base [("house" : Str), ("guard" : Str), ("name" : Str), ("variables" : Str), ("_" : Str), ("procedures" : Str), ("procedure" : Str)] ("can_have" : Str) (defScope s_can_have) f cdv A outer s H E) rfl
  exact (js_cons (js_for hp rfl (ji_tup (j_fld T.a_contracts (j_var 0))) (jg_tup (ix := [2, 3, 4, 5]) rfl (pgs_cons (pg_name (i := 2) sc_can_have.nd rfl (by first | exact Or.inl rfl | exact Or.inr rfl)) (pgs_cons (pg_name (i := 3) sc_can_have.nd rfl (by first | exact Or.inl rfl | exact Or.inr rfl)) (pgs_cons (pg_name (i := 4) sc_can_have.nd rfl (by first | exact Or.inl rfl | exact Or.inr rfl)) (pgs_cons (pg_name (i := 5) sc_can_have.nd rfl (by first | exact Or.inl rfl | exact Or.inr rfl)) pgs_nil)))))
  (js_cons (js_if (jt_cmp (os_ne hu) nox_opEqB (j_var 2) (j_ixA hu (j_var 1) j_int))
  (js_one js_cnt) js_nil)
  (js_cons (js_if (jt_cmp (os_eq hu) nox_opEqB (j_ixA hu (j_var 1) j_int) j_str)
  (js_one (js_ret (j_cmp (os_in hv) nox_opInB (j_ixA hu (j_var 1) j_int) (j_call d_names_of (hr0.mono (by omega)) tk (ja_cons (j_lc (own := [(("procedure" : Str), 6)]) rfl sc_can_have.nd (ji_tup (j_var 5)) (blkOk_by (N := [("house" : Str), ("guard" : Str), ("name" : Str), ("variables" : Str), ("_" : Str), ("procedures" : Str), ("procedure" : Str)]) (sc := (defScope s_can_have)) (by decide +kernel)) (fun _ _ _ _ _ => pg_name (i := 6) sc_can_have.nd rfl (.inl rfl)) (tgN_ok 6) (fun _ _ _ _ _ => jc_one (jt_val (j_ixA hu (j_var 6) j_int))) (fun _ _ _ _ _ => (j_var 6))) ja_nil))))) js_nil)
  (js_cons (js_if (jt_cmp (os_eq hu) nox_opEqB (j_ixA hu (j_var 1) j_int) j_str)
  (js_one (js_ret (j_cmp (os_notIn hv) nox_opInB j_str (j_call d_names_of (hr0.mono (by omega)) tk (ja_cons (j_var 3) ja_nil))))) js_nil)
  (js_one (js_ret (j_cmp (os_in hv) nox_opInB (j_ixA hu (j_var 1) j_int) (j_call d_names_of (hr0.mono (by omega)) tk (ja_cons (j_fld T.a_assets (j_var 0)) ja_nil)))))))))
  (js_one (js_ret j_bl)))
abbrev s_floor_check : Stmt := topS 18
theorem sc_floor_check : FnScope [("asset" : Str), ("amount" : Str)] [("asset" : Str), ("amount" : Str)] (defScope s_floor_check) := ⟨rfl, rfl, rfl, by decide +kernel, rfl, by decide +kernel, by decide +kernel⟩
theorem body_floor_check (T : Txt K mg g)  {f : Addr} {fd : FuncData} (F : Fun K ("floor_check" : Str) ("floor_check" : Str) s_floor_check f fd) : FnOk P w K mg base (L2.CX P w) (0 + 1) f fd [("asset" : Str), ("amount" : Str)] (spM K g 2 (runF 2 (b_floor_check ) 2)) :=
  fn_body F sc_floor_check rfl rfl fun cdv A outer s H E hr0 => by
  have hu : (A.deeper (envOfC ("floor_check" : Str) (defScope s_floor_check) s.heap.objs.size f cdv)).units + 64 < cLine := hr0.units
  have hv : (A.deeper (envOfC ("floor_check" : Str) (defScope s_floor_check) s.heap.objs.size f cdv)).units + 65 < cLine := by have := hr0.un; omega
  have tk := takes_of (X := cxOf (L2.CX P w) P w K mg base [("asset" : Str), ("amount" : Str)] ("floor_check" : Str) (defScope s_floor_check) f cdv A outer s H E) (E := E) rfl rfl rfl rfl
  have hp := passes_of (X := cxOf (L2.CX P w) P w K mg base [("asset" : Str), ("amount" : Str)] ("floor_check" : Str) (defScope s_floor_check) f cdv A outer s H E) rfl
  exact (js_one (js_ret (j_tup (ja_cons j_str (ja_cons (j_tup (ja_cons j_str (ja_cons (j_tup (ja_cons j_str (ja_cons (j_tup (ja_cons j_str (ja_cons (j_var 0) ja_nil))) (ja_cons (j_tup (ja_cons j_str (ja_cons (j_var 1) ja_nil))) ja_nil)))) (ja_cons (j_tup (ja_cons j_str (ja_cons j_int ja_nil))) ja_nil)))) ja_nil)))))
abbrev s_guarded_contract : Stmt := topS 17
theorem sc_guarded_contract : FnScope [("contract" : Str), ("guards" : Str), ("name" : Str), ("variables" : Str), ("holdings" : Str), ("procedures" : Str), ("front" : Str), ("behind" : Str), ("floors" : Str), ("guard" : Str), ("changed" : Str), ("procedure" : Str), ("size" : Str), ("shown" : Str), ("block" : Str)] [("contract" : Str), ("guards" : Str)] (defScope s_guarded_contract) := ⟨rfl, rfl, rfl, by decide +kernel, rfl, by decide +kernel, by decide +kernel⟩
theorem body_guarded_contract (T : Txt K mg g) {c_floor_check : Fn} (d_floor_check : DefOk P w K mg base g 1 ("floor_check" : Str) 2 c_floor_check) {f : Addr} {fd : FuncData} (F : Fun K ("guarded_contract" : Str) ("guarded_contract" : Str) s_guarded_contract f fd) : FnOk P w K mg base (L2.CX P w) (1 + 1) f fd [("contract" : Str), ("guards" : Str)] (spM K g 2 (runF 2 (b_guarded_contract c_floor_check) 15)) :=
  fn_body F sc_guarded_contract rfl rfl fun cdv A outer s H E hr0 => by
  have hu : (A.deeper (envOfC ("guarded_contract" : Str) (defScope s_guarded_contract) s.heap.objs.size f cdv)).units + 64 < cLine := hr0.units
  have hv : (A.deeper (envOfC ("guarded_contract" : Str) (defScope s_guarded_contract) s.heap.objs.size f cdv)).units + 65 < cLine := by have := hr0.un; omega
  have tk := takes_of (X := cxOf (L2.CX P w) P w K mg base [("contract" : Str), ("guards" : Str), ("name" : Str), ("variables" : Str), ("holdings" : Str), ("procedures" : Str), ("front" : Str), ("behind" : Str), ("floors" : Str), ("guard" : Str), ("changed" : Str), ("procedure" : Str), ("size" : Str), ("shown" : Str), ("block" : Str)] ("guarded_contract" : Str) (defScope s_guarded_contract) f cdv A outer s H E) (E := E) rfl rfl rfl rfl
  have hp := passes_of (X := cxOf (L2.CX P w) P w K mg base [("contract" : Str), ("guards" : Str), ("name" : Str), ("variables" : Str), ("holdings" : Str), ("procedures" : Str), ("front" : Str), ("behind" : Str), ("floors" : Str), ("guard" : Str), ("changed" : Str), ("procedure" : Str), ("size" : Str), ("shown" : Str), ("block" : Str)] ("guarded_contract" : Str) (defScope s_guarded_contract) f cdv A outer s H E) rfl
  exact (js_cons (js_unp (jg_tup (ix := [2, 3, 4, 5]) rfl (pgs_cons (pg_name (i := 2) sc_guarded_contract.nd rfl (by first | exact Or.inl rfl | exact Or.inr rfl)) (pgs_cons (pg_name (i := 3) sc_guarded_contract.nd rfl (by first | exact Or.inl rfl | exact Or.inr rfl)) (pgs_cons (pg_name (i := 4) sc_guarded_contract.nd rfl (by first | exact Or.inl rfl | exact Or.inr rfl)) (pgs_cons (pg_name (i := 5) sc_guarded_contract.nd rfl (by first | exact Or.inl rfl | exact Or.inr rfl)) pgs_nil))))) (j_var 0))
  (js_cons (js_unp (jg_tup (ix := [6, 7]) rfl (pgs_cons (pg_name (i := 6) sc_guarded_contract.nd rfl (by first | exact Or.inl rfl | exact Or.inr rfl)) (pgs_cons (pg_name (i := 7) sc_guarded_contract.nd rfl (by first | exact Or.inl rfl | exact Or.inr rfl)) pgs_nil))) (j_tup (ja_cons (j_tup ja_nil) (ja_cons (j_tup ja_nil) ja_nil))))
  (js_cons (js_if (jt_cmp (os_in hv) nox_opInB (j_tup (ja_cons j_str (ja_cons (j_var 2) ja_nil))) (j_var 1))
  (js_cons (js_set 3 sc_guarded_contract.nd (j_op os_add nox_opAdd (j_var 3) (j_tup (ja_cons (j_glob T.k_LOCK_VARIABLE) ja_nil))))
  (js_one (js_par 6 7 rfl sc_guarded_contract.nd (ja_cons (j_glob T.k_LOCK_FRONT) (ja_cons (j_glob T.k_LOCK_BEHIND) ja_nil))))) js_nil)
  (js_cons (js_setLc 8 (own := [(("guard" : Str), 9)]) rfl sc_guarded_contract.nd (ji_list (j_var 1)) (blkOk_by (N := [("contract" : Str), ("guards" : Str), ("name" : Str), ("variables" : Str), ("holdings" : Str), ("procedures" : Str), ("front" : Str), ("behind" : Str), ("floors" : Str), ("guard" : Str), ("changed" : Str), ("procedure" : Str), ("size" : Str), ("shown" : Str), ("block" : Str)]) (sc := (defScope s_guarded_contract)) (by decide +kernel)) (fun _ _ _ _ _ => pg_name (i := 9) sc_guarded_contract.nd rfl (.inl rfl)) (tgN_ok 9) (fun _ _ _ _ _ => jc_one (jt_cmp (os_eq hu) nox_opEqB (j_sl (j_var 9) jo_none (jo_some j_int)) (j_tup (ja_cons j_str (ja_cons (j_var 2) ja_nil))))) (fun _ _ _ _ _ => (j_call d_floor_check (hr0.mono (by omega)) takes0 (ja_cons (j_ixA hu (j_var 9) j_int) (ja_cons (j_ixA hu (j_var 9) j_int) ja_nil)))))
  (js_cons (js_set 7 sc_guarded_contract.nd (j_op os_add nox_opAdd (j_var 7) (j_callTy cs_tuple nox_cTuple T.b_tuple (by decide +kernel) (ja_cons (j_var 8) ja_nil))))
  (js_cons (js_set 10 sc_guarded_contract.nd (j_lst ja_nil))
  (js_cons (js_for hp rfl (ji_tup (j_var 5)) (jg_tup (ix := [11, 12, 13, 14]) rfl (pgs_cons (pg_name (i := 11) sc_guarded_contract.nd rfl (by first | exact Or.inl rfl | exact Or.inr rfl)) (pgs_cons (pg_name (i := 12) sc_guarded_contract.nd rfl (by first | exact Or.inl rfl | exact Or.inr rfl)) (pgs_cons (pg_name (i := 13) sc_guarded_contract.nd rfl (by first | exact Or.inl rfl | exact Or.inr rfl)) (pgs_cons (pg_name (i := 14) sc_guarded_contract.nd rfl (by first | exact Or.inl rfl | exact Or.inr rfl)) pgs_nil)))))
  (js_cons (js_if (jt_val (j_var 13))
  (js_one (js_set 14 sc_guarded_contract.nd (j_op os_add nox_opAdd (j_op os_add nox_opAdd (j_var 6) (j_var 14)) (j_var 7)))) js_nil)
  (js_one (js_expr (j_mt PySem.F.plainAttrs_list PySem.F.slot_list_append PySem.F.type_list_append ms_append nox_mAppend (j_var 10) (ja_cons (j_tup (ja_cons (j_var 11) (ja_cons (j_var 12) (ja_cons (j_and (j_var 13) (j_one (j_cmp (os_notIn hv) nox_opInB (j_tup (ja_cons j_str (ja_cons (j_var 2) (ja_cons (j_var 11) ja_nil)))) (j_var 1)))) (ja_cons (j_var 14) ja_nil))))) ja_nil))))))
  (js_one (js_ret (j_tup (ja_cons (j_var 2) (ja_cons (j_var 3) (ja_cons (j_var 4) (ja_cons (j_callTy cs_tuple nox_cTuple T.b_tuple (by decide +kernel) (ja_cons (j_var 10) ja_nil)) ja_nil))))))))))))))
abbrev s_guarded : Stmt := topS 15
theorem sc_guarded : FnScope [("house" : Str), ("guards" : Str), ("at" : Str), ("guard" : Str), ("contracts" : Str), ("contract" : Str)] [("house" : Str), ("guards" : Str)] (defScope s_guarded) := ⟨rfl, rfl, rfl, by decide +kernel, rfl, by decide +kernel, by decide +kernel⟩
theorem body_guarded (T : Txt K mg g) {c_can_have : Fn} (d_can_have : DefOk P w K mg base g 2 ("can_have" : Str) 2 c_can_have) {c_guarded_contract : Fn} (d_guarded_contract : DefOk P w K mg base g 2 ("guarded_contract" : Str) 2 c_guarded_contract) {c_House_init : Fn} (d_House_init : MakeOk P w K mg base g 1 7 ("House" : Str) 3 c_House_init) (x_BadGuard : ExOk P w K mg base g 1 3 ("BadGuard" : Str) ("at" : Str)) {f : Addr} {fd : FuncData} (F : Fun K ("guarded" : Str) ("guarded" : Str) s_guarded f fd) : FnOk P w K mg base (L2.CX P w) (2 + 1) f fd [("house" : Str), ("guards" : Str)] (spM K g 2 (runF 2 (b_guarded c_can_have c_guarded_contract c_House_init) 6)) :=
  fn_body F sc_guarded rfl rfl fun cdv A outer s H E hr0 => by
  have hu : (A.deeper (envOfC ("guarded" : Str) (defScope s_guarded) s.heap.objs.size f cdv)).units + 64 < cLine := hr0.units
  have hv : (A.deeper (envOfC ("guarded" : Str) (defScope s_guarded) s.heap.objs.size f cdv)).units + 65 < cLine := by have := hr0.un; omega
  have tk := takes_of (X := cxOf (L2.CX P w) P w K mg base [("house" : Str), ("guards" : Str), ("at" : Str), ("guard" : Str), ("contracts" : Str), ("contract" : Str)] ("guarded" : Str) (defScope s_guarded) f cdv A outer s H E) (E := E) rfl rfl rfl rfl
  have hp := passes_of (X := cxOf (L2.CX P w) P w K mg base [("house" : Str), ("guards" : Str), ("at" : Str), ("guard" : Str), ("contracts" : Str), ("contract" : Str)] ("guarded" : Str) (defScope s_guarded) f cdv A outer s H E) rfl
  exact (js_cons (js_forE hp rfl T.b_enumerate (j_var 1) (jg_tup (ix := [2, 3]) rfl (pgs_cons (pg_name (i := 2) sc_guarded.nd rfl (by first | exact Or.inl rfl | exact Or.inr rfl)) (pgs_cons (pg_name (i := 3) sc_guarded.nd rfl (by first | exact Or.inl rfl | exact Or.inr rfl)) pgs_nil)))
  (js_one (js_if (jt_w (jw_or (jt_cmp (os_in hv) nox_opInB (j_var 3) (j_sl (j_var 1) jo_none (jo_some (j_var 2)))) (jw_or1 (jt_not (jt_val (j_call d_can_have (hr0.mono (by omega)) tk (ja_cons (j_var 0) (ja_cons (j_var 3) ja_nil))))))))
  (js_one (js_raise x_BadGuard rfl (hr0.mono (by omega)) tk (j_var 2))) js_nil)))
  (js_cons (js_setLc 4 (own := [(("contract" : Str), 5)]) rfl sc_guarded.nd (ji_tup (j_fld T.a_contracts (j_var 0))) (blkOk_by (N := [("house" : Str), ("guards" : Str), ("at" : Str), ("guard" : Str), ("contracts" : Str), ("contract" : Str)]) (sc := (defScope s_guarded)) (by decide +kernel)) (fun _ _ _ _ _ => pg_name (i := 5) sc_guarded.nd rfl (.inl rfl)) (tgN_ok 5) (fun _ _ _ _ _ => jc_nil) (fun _ _ _ _ _ => (j_call d_guarded_contract (hr0.mono (by omega)) takes0 (ja_cons (j_var 5) (ja_cons (j_var 1) ja_nil)))))
  (js_one (js_ret (j_make d_House_init (hr0.mono (by omega)) (ja_cons (j_fld T.a_assets (j_var 0)) (ja_cons (j_callTy cs_tuple nox_cTuple T.b_tuple (by decide +kernel) (ja_cons (j_var 4) ja_nil)) ja_nil)))))))
abbrev s_law_is_integer : Stmt := topS 21
theorem sc_law_is_integer : FnScope [("actual" : Str)] [("actual" : Str)] (defScope s_law_is_integer) := ⟨rfl, rfl, rfl, by decide +kernel, rfl, by decide +kernel, by decide +kernel⟩
theorem body_law_is_integer (T : Txt K mg g)  {f : Addr} {fd : FuncData} (F : Fun K ("_law_is_integer" : Str) ("_law_is_integer" : Str) s_law_is_integer f fd) : FnOk P w K mg base (L2.CX P w) (0 + 1) f fd [("actual" : Str)] (spM K g 1 (runF 1 (b_law_is_integer ) 1)) :=
  fn_body F sc_law_is_integer rfl rfl fun cdv A outer s H E hr0 => by
  have hu : (A.deeper (envOfC ("_law_is_integer" : Str) (defScope s_law_is_integer) s.heap.objs.size f cdv)).units + 64 < cLine := hr0.units
  have hv : (A.deeper (envOfC ("_law_is_integer" : Str) (defScope s_law_is_integer) s.heap.objs.size f cdv)).units + 65 < cLine := by have := hr0.un; omega
  have tk := takes_of (X := cxOf (L2.CX P w) P w K mg base [("actual" : Str)] ("_law_is_integer" : Str) (defScope s_law_is_integer) f cdv A outer s H E) (E := E) rfl rfl rfl rfl
  have hp := passes_of (X := cxOf (L2.CX P w) P w K mg base [("actual" : Str)] ("_law_is_integer" : Str) (defScope s_law_is_integer) f cdv A outer s H E) rfl
  exact (js_one (js_ret (j_and (j_callB cs_isi nox_cIsi T.b_isinstance (by decide +kernel) (ja_cons (j_var 0) (ja_cons (j_type T.b_int (by decide +kernel)) ja_nil))) (j_one (j_not (j_callB cs_isi nox_cIsi T.b_isinstance (by decide +kernel) (ja_cons (j_var 0) (ja_cons (j_type T.b_bool (by decide +kernel)) ja_nil))))))))
theorem bodyQ_law_is_integer (T : Txt K mg g) {f : Addr} {fd : FuncData} (F : Fun K ("_law_is_integer" : Str) ("_law_is_integer" : Str) s_law_is_integer f fd) : FnQ P w K mg base (L2.CX P w) (0 + 1) f fd [("actual" : Str)] (spM K g 1 (runF 1 b_law_is_integer 1)) :=
  fnQ_body F sc_law_is_integer rfl rfl fun cdv A outer s H E pin hr0 => by
  have hu : (A.deeper (envOfC ("_law_is_integer" : Str) (defScope s_law_is_integer) s.heap.objs.size f cdv)).units + 64 < cLine := by have := hr0.un; omega
  have hv : (A.deeper (envOfC ("_law_is_integer" : Str) (defScope s_law_is_integer) s.heap.objs.size f cdv)).units + 65 < cLine := by have := hr0.un; omega
  exact (js_one (js_ret (j_and (j_callB cs_isi nox_cIsi T.b_isinstance (by decide +kernel) (ja_cons (j_var 0) (ja_cons (j_type T.b_int (by decide +kernel)) ja_nil))) (j_one (j_not (j_callB cs_isi nox_cIsi T.b_isinstance (by decide +kernel) (ja_cons (j_var 0) (ja_cons (j_type T.b_bool (by decide +kernel)) ja_nil))))))))
abbrev s_law_fenced : Stmt := topS 30
theorem sc_law_fenced : FnScope [("proc" : Str), ("own" : Str), ("block" : Str), ("name" : Str), ("guard" : Str), ("low" : Str), ("hidden" : Str)] [("proc" : Str), ("own" : Str)] (defScope s_law_fenced) := ⟨rfl, rfl, rfl, by decide +kernel, rfl, by decide +kernel, by decide +kernel⟩
theorem body_law_fenced (T : Txt K mg g)  {f : Addr} {fd : FuncData} (F : Fun K ("_law_fenced" : Str) ("_law_fenced" : Str) s_law_fenced f fd) : FnOk P w K mg base (L2.CX P w) (0 + 1) f fd [("proc" : Str), ("own" : Str)] (spM K g 2 (runF 2 (b_law_fenced ) 7)) :=
  fn_body F sc_law_fenced rfl rfl fun cdv A outer s H E hr0 => by
  have hu : (A.deeper (envOfC ("_law_fenced" : Str) (defScope s_law_fenced) s.heap.objs.size f cdv)).units + 64 < cLine := hr0.units
  have hv : (A.deeper (envOfC ("_law_fenced" : Str) (defScope s_law_fenced) s.heap.objs.size f cdv)).units + 65 < cLine := by have := hr0.un; omega
  have tk := takes_of (X := cxOf (L2.CX P w) P w K mg base [("proc" : Str), ("own" : Str), ("block" : Str), ("name" : Str), ("guard" : Str), ("low" : Str), ("hidden" : Str)] ("_law_fenced" : Str) (defScope s_law_fenced) f cdv A outer s H E) (E := E) rfl rfl rfl rfl
  have hp := passes_of (X := cxOf (L2.CX P w) P w K mg base [("proc" : Str), ("own" : Str), ("block" : Str), ("name" : Str), ("guard" : Str), ("low" : Str), ("hidden" : Str)] ("_law_fenced" : Str) (defScope s_law_fenced) f cdv A outer s H E) rfl
  exact (js_cons (js_set 2 sc_law_fenced.nd (j_ixA hu (j_var 0) j_int))
  (js_cons (js_set 3 sc_law_fenced.nd (j_tup (ja_cons j_str (ja_cons j_str ja_nil))))
  (js_cons (js_if (jt_cmp (os_in hv) nox_opInB (j_tup (ja_cons j_str ja_nil)) (j_lc (own := [(("guard" : Str), 4)]) rfl sc_law_fenced.nd (ji_list (j_var 1)) (blkOk_by (N := [("proc" : Str), ("own" : Str), ("block" : Str), ("name" : Str), ("guard" : Str), ("low" : Str), ("hidden" : Str)]) (sc := (defScope s_law_fenced)) (by decide +kernel)) (fun _ _ _ _ _ => pg_name (i := 4) sc_law_fenced.nd rfl (.inl rfl)) (tgN_ok 4) (fun _ _ _ _ _ => jc_nil) (fun _ _ _ _ _ => (j_sl (j_var 4) jo_none (jo_some j_int)))))
  (js_cons (js_set 2 sc_law_fenced.nd (j_op os_add nox_opAdd (j_tup (ja_cons (j_tup (ja_cons j_str (ja_cons (j_tup (ja_cons j_str (ja_cons (j_var 3) (ja_cons (j_tup (ja_cons j_str (ja_cons j_int ja_nil))) ja_nil)))) ja_nil))) (ja_cons (j_tup (ja_cons j_str (ja_cons j_str (ja_cons (j_tup (ja_cons j_str (ja_cons j_int ja_nil))) ja_nil)))) ja_nil))) (j_var 2)))
  (js_one (js_set 2 sc_law_fenced.nd (j_op os_add nox_opAdd (j_var 2) (j_tup (ja_cons (j_tup (ja_cons j_str (ja_cons j_str (ja_cons (j_tup (ja_cons j_str (ja_cons j_int ja_nil))) ja_nil)))) ja_nil)))))) js_nil)
  (js_cons (js_for hp rfl (ji_list (j_var 1)) (jg_name 4 sc_law_fenced.nd)
  (js_one (js_if (jt_cmp (os_eq hu) nox_opEqB (j_ixA hu (j_var 4) j_int) j_str)
  (js_cons (js_set 5 sc_law_fenced.nd (j_tup (ja_cons j_str (ja_cons (j_tup (ja_cons j_str (ja_cons (j_ixA hu (j_var 4) j_int) ja_nil))) (ja_cons (j_tup (ja_cons j_str (ja_cons (j_ixA hu (j_var 4) j_int) ja_nil))) ja_nil)))))
  (js_one (js_set 2 sc_law_fenced.nd (j_op os_add nox_opAdd (j_var 2) (j_tup (ja_cons (j_tup (ja_cons j_str (ja_cons (j_tup (ja_cons j_str (ja_cons (j_var 5) (ja_cons (j_tup (ja_cons j_str (ja_cons j_int ja_nil))) ja_nil)))) ja_nil))) ja_nil)))))) js_nil)))
  (js_cons (js_setLc 6 (own := [(("guard" : Str), 4)]) rfl sc_law_fenced.nd (ji_list (j_var 1)) (blkOk_by (N := [("proc" : Str), ("own" : Str), ("block" : Str), ("name" : Str), ("guard" : Str), ("low" : Str), ("hidden" : Str)]) (sc := (defScope s_law_fenced)) (by decide +kernel)) (fun _ _ _ _ _ => pg_name (i := 4) sc_law_fenced.nd rfl (.inl rfl)) (tgN_ok 4) (fun _ _ _ _ _ => jc_one (jt_cmp (os_eq hu) nox_opEqB (j_ixA hu (j_var 4) j_int) j_str)) (fun _ _ _ _ _ => (j_ixA hu (j_var 4) j_int)))
  (js_one (js_ret (j_tup (ja_cons (j_ixA hu (j_var 0) j_int) (ja_cons (j_ixA hu (j_var 0) j_int) (ja_cons (j_cmp (os_notIn hv) nox_opInB (j_ixA hu (j_var 0) j_int) (j_var 6)) (ja_cons (j_var 2) ja_nil))))))))))))
abbrev s_law_guarded : Stmt := topS 31
theorem sc_law_guarded : FnScope [("house" : Str), ("guards" : Str), ("contracts" : Str), ("contract" : Str), ("own" : Str), ("guard" : Str), ("variables" : Str), ("procs" : Str), ("proc" : Str)] [("house" : Str), ("guards" : Str)] (defScope s_law_guarded) := ⟨rfl, rfl, rfl, by decide +kernel, rfl, by decide +kernel, by decide +kernel⟩
theorem body_law_guarded (T : Txt K mg g) {c_law_fenced : Fn} (d_law_fenced : DefOk P w K mg base g 1 ("_law_fenced" : Str) 2 c_law_fenced) {f : Addr} {fd : FuncData} (F : Fun K ("_law_guarded" : Str) ("_law_guarded" : Str) s_law_guarded f fd) : FnOk P w K mg base (L2.CX P w) (1 + 1) f fd [("house" : Str), ("guards" : Str)] (spM K g 2 (runF 2 (b_law_guarded c_law_fenced) 9)) :=
  fn_body F sc_law_guarded rfl rfl fun cdv A outer s H E hr0 => by
  have hu : (A.deeper (envOfC ("_law_guarded" : Str) (defScope s_law_guarded) s.heap.objs.size f cdv)).units + 64 < cLine := hr0.units
  have hv : (A.deeper (envOfC ("_law_guarded" : Str) (defScope s_law_guarded) s.heap.objs.size f cdv)).units + 65 < cLine := by have := hr0.un; omega
  have tk := takes_of (X := cxOf (L2.CX P w) P w K mg base [("house" : Str), ("guards" : Str), ("contracts" : Str), ("contract" : Str), ("own" : Str), ("guard" : Str), ("variables" : Str), ("procs" : Str), ("proc" : Str)] ("_law_guarded" : Str) (defScope s_law_guarded) f cdv A outer s H E) (E := E) rfl rfl rfl rfl
  have hp := passes_of (X := cxOf (L2.CX P w) P w K mg base [("house" : Str), ("guards" : Str), ("contracts" : Str), ("contract" : Str), ("own" : Str), ("guard" : Str), ("variables" : Str), ("procs" : Str), ("proc" : Str)] ("_law_guarded" : Str) (defScope s_law_guarded) f cdv A outer s H E) rfl
  exact (js_cons (js_set 2 sc_law_guarded.nd (j_lst ja_nil))
  (js_cons (js_for hp rfl (ji_list (j_ixA hu (j_var 0) j_int)) (jg_name 3 sc_law_guarded.nd)
  (js_cons (js_setLc 4 (own := [(("guard" : Str), 5)]) rfl sc_law_guarded.nd (ji_list (j_var 1)) (blkOk_by (N := [("house" : Str), ("guards" : Str), ("contracts" : Str), ("contract" : Str), ("own" : Str), ("guard" : Str), ("variables" : Str), ("procs" : Str), ("proc" : Str)]) (sc := (defScope s_law_guarded)) (by decide +kernel)) (fun _ _ _ _ _ => pg_name (i := 5) sc_law_guarded.nd rfl (.inl rfl)) (tgN_ok 5) (fun _ _ _ _ _ => jc_one (jt_cmp (os_eq hu) nox_opEqB (j_ixA hu (j_var 5) j_int) (j_ixA hu (j_var 3) j_int))) (fun _ _ _ _ _ => (j_var 5)))
  (js_cons (js_set 6 sc_law_guarded.nd (j_ixA hu (j_var 3) j_int))
  (js_cons (js_if (jt_cmp (os_in hv) nox_opInB (j_tup (ja_cons j_str ja_nil)) (j_lc (own := [(("guard" : Str), 5)]) rfl sc_law_guarded.nd (ji_list (j_var 4)) (blkOk_by (N := [("house" : Str), ("guards" : Str), ("contracts" : Str), ("contract" : Str), ("own" : Str), ("guard" : Str), ("variables" : Str), ("procs" : Str), ("proc" : Str)]) (sc := (defScope s_law_guarded)) (by decide +kernel)) (fun _ _ _ _ _ => pg_name (i := 5) sc_law_guarded.nd rfl (.inl rfl)) (tgN_ok 5) (fun _ _ _ _ _ => jc_nil) (fun _ _ _ _ _ => (j_sl (j_var 5) jo_none (jo_some j_int)))))
  (js_one (js_set 6 sc_law_guarded.nd (j_op os_add nox_opAdd (j_var 6) (j_tup (ja_cons (j_tup (ja_cons j_str (ja_cons j_int (ja_cons j_int ja_nil)))) ja_nil))))) js_nil)
  (js_cons (js_set 7 sc_law_guarded.nd (j_lst ja_nil))
  (js_cons (js_for hp rfl (ji_tup (j_ixA hu (j_var 3) j_int)) (jg_name 8 sc_law_guarded.nd)
  (js_one (js_if (jt_val (j_ixA hu (j_var 8) j_int))
  (js_one (js_expr (j_mt PySem.F.plainAttrs_list PySem.F.slot_list_append PySem.F.type_list_append ms_append nox_mAppend (j_var 7) (ja_cons (j_call d_law_fenced (hr0.mono (by omega)) tk (ja_cons (j_var 8) (ja_cons (j_var 4) ja_nil))) ja_nil)))) (js_one (js_expr (j_mt PySem.F.plainAttrs_list PySem.F.slot_list_append PySem.F.type_list_append ms_append nox_mAppend (j_var 7) (ja_cons (j_var 8) ja_nil)))))))
  (js_one (js_expr (j_mt PySem.F.plainAttrs_list PySem.F.slot_list_append PySem.F.type_list_append ms_append nox_mAppend (j_var 2) (ja_cons (j_tup (ja_cons (j_ixA hu (j_var 3) j_int) (ja_cons (j_var 6) (ja_cons (j_ixA hu (j_var 3) j_int) (ja_cons (j_callTy cs_tuple nox_cTuple T.b_tuple (by decide +kernel) (ja_cons (j_var 7) ja_nil)) ja_nil))))) ja_nil))))))))))
  (js_one (js_ret (j_tup (ja_cons (j_ixA hu (j_var 0) j_int) (ja_cons (j_var 2) ja_nil)))))))
abbrev s_law : Stmt := topS 37
theorem sc_law : FnScope [("script" : Str), ("house" : Str), ("made" : Str), ("guards" : Str), ("cell" : Str), ("kept" : Str), ("bad" : Str), ("k" : Str), ("actual" : Str), ("e" : Str), ("due" : Str)] [("script" : Str)] (defScope s_law) := ⟨rfl, rfl, rfl, by decide +kernel, rfl, by decide +kernel, by decide +kernel⟩
theorem body_law (T : Txt K mg g) {c_law_house : Fn} (d_law_house : DefOk P w K mg base g 12 ("_law_house" : Str) 4 c_law_house) {c_law_cell : Fn} (d_law_cell : DefOk P w K mg base g 1 ("_law_cell" : Str) 2 c_law_cell) {c_law_called : Fn} (d_law_called : DefOk P w K mg base g 17 ("_law_called" : Str) 1 c_law_called) {c_law_made : Fn} (d_law_made : DefOk P w K mg base g 3 ("_law_made" : Str) 1 c_law_made) {c_law_guarding : Fn} (d_law_guarding : DefOk P w K mg base g 1 ("_law_guarding" : Str) 3 c_law_guarding) {c_law_guard : Fn} (d_law_guard : DefOk P w K mg base g 1 ("_law_guard" : Str) 2 c_law_guard) {c_law_fits : Fn} (d_law_fits : DefOk P w K mg base g 1 ("_law_fits" : Str) 2 c_law_fits) {c_guarded : Fn} (d_guarded : DefOk P w K mg base g 3 ("guarded" : Str) 2 c_guarded) {c_law_is_integer : Fn} (d_law_is_integer : DefOk P w K mg base g 1 ("_law_is_integer" : Str) 1 c_law_is_integer) (q_law_is_integer : DefQ P w K mg base g 1 ("_law_is_integer" : Str) 1 c_law_is_integer) {c_law_guarded : Fn} (d_law_guarded : DefOk P w K mg base g 2 ("_law_guarded" : Str) 2 c_law_guarded) (e_House : EqOk P w K mg base g 1 7 ("assets" : Str) ("contracts" : Str)) {f : Addr} {fd : FuncData} (F : Fun K ("law" : Str) ("law" : Str) s_law f fd) : FnOk P w K mg base (L2.CX P w) (17 + 1) f fd [("script" : Str)] (spM K g 1 (runF 1 (b_law c_law_house c_law_cell c_law_called c_law_made c_law_guarding c_law_guard c_law_fits c_guarded c_law_is_integer c_law_guarded) 11)) :=
  fn_body F sc_law rfl rfl fun cdv A outer s H E hr0 => by
  have hu : (A.deeper (envOfC ("law" : Str) (defScope s_law) s.heap.objs.size f cdv)).units + 64 < cLine := hr0.units
  have hv : (A.deeper (envOfC ("law" : Str) (defScope s_law) s.heap.objs.size f cdv)).units + 65 < cLine := by have := hr0.un; omega
  have tk := takes_of (X := cxOf (L2.CX P w) P w K mg base [("script" : Str), ("house" : Str), ("made" : Str), ("guards" : Str), ("cell" : Str), ("kept" : Str), ("bad" : Str), ("k" : Str), ("actual" : Str), ("e" : Str), ("due" : Str)] ("law" : Str) (defScope s_law) f cdv A outer s H E) (E := E) rfl rfl rfl rfl
  have hp := passes_of (X := cxOf (L2.CX P w) P w K mg base [("script" : Str), ("house" : Str), ("made" : Str), ("guards" : Str), ("cell" : Str), ("kept" : Str), ("bad" : Str), ("k" : Str), ("actual" : Str), ("e" : Str), ("due" : Str)] ("law" : Str) (defScope s_law) f cdv A outer s H E) rfl
  exact (js_cons (js_set 1 sc_law.nd (j_call d_law_house (hr0.mono (by omega)) tk (ja_cons (j_var 0) (ja_cons j_int (ja_cons j_int (ja_cons j_bl ja_nil))))))
  (js_cons (js_if (jt_cmp (os_eq hu) nox_opEqB (j_op os_mod nox_opMod (j_callTy cs_int nox_cInt T.b_int (by decide +kernel) (ja_cons (j_call d_law_cell (hr0.mono (by omega)) tk (ja_cons (j_var 0) (ja_cons j_int ja_nil))) ja_nil)) j_int) j_int)
  (js_one (js_set 1 sc_law.nd (j_call d_law_called (hr0.mono (by omega)) tk (ja_cons (j_var 1) ja_nil)))) js_nil)
  (js_cons (js_set 2 sc_law.nd (j_call d_law_made (hr0.mono (by omega)) tk (ja_cons (j_var 1) ja_nil)))
  (js_cons (js_setLc 3 (own := [(("cell" : Str), 4)]) rfl sc_law.nd (ji_list (j_sl (j_var 0) (jo_some j_int) (jo_some j_int))) (blkOk_by (N := [("script" : Str), ("house" : Str), ("made" : Str), ("guards" : Str), ("cell" : Str), ("kept" : Str), ("bad" : Str), ("k" : Str), ("actual" : Str), ("e" : Str), ("due" : Str)]) (sc := (defScope s_law)) (by decide +kernel)) (fun _ _ _ _ _ => pg_name (i := 4) sc_law.nd rfl (.inl rfl)) (tgN_ok 4) (fun _ _ _ _ _ => jc_nil) (fun _ _ _ _ _ => (j_call d_law_guarding (hr0.mono (by omega)) takes0 (ja_cons (j_call d_law_guard (hr0.mono (by omega)) takes0 (ja_cons (j_var 4) (ja_cons (j_var 1) ja_nil))) (ja_cons (j_var 1) (ja_cons (j_op os_fdiv nox_opFdiv (j_callB cs_abs nox_cAbs T.b_abs (by decide +kernel) (ja_cons (j_var 4) ja_nil)) j_int) ja_nil))))))
  (js_cons (js_set 5 sc_law.nd (j_callTy cs_list nox_cList T.b_list (by decide +kernel) (ja_cons (j_var 3) ja_nil)))
  (js_cons (js_set 6 sc_law.nd j_non)
  (js_cons (js_for hp rfl (ji_rg1 T.b_range (ja_cons (j_callB cs_len nox_cLen T.b_len (by decide +kernel) (ja_cons (j_var 3) ja_nil)) ja_nil)) (jg_name 7 sc_law.nd)
  (js_one (js_if (jt_w (jw_and (jt_cmp os_isN nox_opIsN (j_var 6) j_non) (jw_and1 (jt_w (jw_or (jt_not (jt_val (j_call d_law_fits (hr0.mono (by omega)) tk (ja_cons (j_var 1) (ja_cons (j_ixA hu (j_var 3) (j_var 7)) ja_nil))))) (jw_or1 (jt_cmp (os_in hv) nox_opInB (j_ixA hu (j_var 3) (j_var 7)) (j_sl (j_var 3) jo_none (jo_some (j_var 7))))))))))
  (js_one (js_set 6 sc_law.nd (j_var 7))) js_nil)))
  (js_cons (js_try T.hes rfl rfl sc_law.nd rfl rfl ⟨rfl, by decide, .inl T.cn_HouseError⟩ tk T.ex_HouseError (fun W2 pn2 xe2 tk2 pe2 => (js_one (js_set 8 sc_law.nd (j_call d_guarded (hr0.mono (by omega)) tk2 (ja_cons (j_var 2) (ja_cons (j_var 3) ja_nil))))))
  (fun a oe c fs dd pn hr hcs hfs hz hf => (js_cons (js_if (jt_w (jw_or (jt_val (jx_isT (c := c) (T.xe c hr) hz hf (T.it_BadAct_BadHouse_BadPaper_BadText_TooLarge c hr) (by simp) T.b_isinstance (pv 9) (pcs_cons T.cn_BadAct (pcs_cons T.cn_BadHouse (pcs_cons T.cn_BadPaper (pcs_cons T.cn_BadText (pcs_cons T.cn_TooLarge pcs_nil))))) (by decide +kernel))) (jw_or1 (jt_cmp (os_ne hu) nox_opEqB (j_var 3) (j_var 5)))))
  (js_one (js_ret j_bl)) js_nil)
  (js_one (js_ret (j_and (j_cmp os_notN nox_opNotN (j_var 6) j_non) (j_and (jx_is (c := c) (u := .ref _) (cv := .ref _) (T.xe c hr) hz hf (fun _ h => h) (T.i1_BadGuard c hr) T.b_isinstance (pv 9) (pe_glob rfl T.cn_BadGuard rfl) (by decide +kernel)) (j_and (jx_call rfl q_law_is_integer (hr0.mono (by omega)) (ja_cons (jx_fld (c := c) hz hf hfs (T.xf c hr) (T.xn_at c hr) (pv 9)) ja_nil)) (j_one (j_cmp (os_eq hu) nox_opEqB (jx_fld (c := c) hz hf hfs (T.xf c hr) (T.xn_at c hr) (pv 9)) (j_var 6)))))))))))
  (js_cons (js_set 10 sc_law.nd (j_call d_law_guarded (hr0.mono (by omega)) tk (ja_cons (j_var 1) (ja_cons (j_var 3) ja_nil))))
  (js_cons (js_if (jt_w (jw_or (jt_cmp os_notN nox_opNotN (j_var 6) j_non) (jw_or (jt_cmp (os_ne hu) nox_opEqB (j_var 3) (j_var 5)) (jw_or1 (jt_not (jt_cmp (os_eq2 e_House (hr0.mono (by omega))) nox_opEq2 (j_var 2) (j_call d_law_made (hr0.mono (by omega)) tk (ja_cons (j_var 1) ja_nil))))))))
  (js_one (js_ret j_bl)) js_nil)
  (js_one (js_ret (j_and (j_cmp (os_eq hu) nox_opEqB (j_fld T.a_assets (j_var 8)) (j_callTy cs_tuple nox_cTuple T.b_tuple (by decide +kernel) (ja_cons (j_ixA hu (j_var 10) j_int) ja_nil))) (j_one (j_cmp (os_eq hu) nox_opEqB (j_fld T.a_contracts (j_var 8)) (j_callTy cs_tuple nox_cTuple T.b_tuple (by decide +kernel) (ja_cons (j_ixA hu (j_var 10) j_int) ja_nil)))))))))))))))))
end
section
def vb_law_row  : VSm :=
  (dsSeq (dsSet 3 (dVar 0))
  (dsSeq (dsSet 4 (dA vLst dNil))
  (dsSeq (dsFor (diR1 (dCons (dVar 1) dNil)) (gN 5)
  (dsIf (dT (d2 vGe (dVar 0) (d2 vPow (dC (.int 10)) (dC (.int 18)))))
  (dsSeq (dsChg "list" 4 (dCons (d2 vMod (dA vInt (dCons (dVar 3) dNil)) (dVar 2)) dNil) fApp)
  (dsSet 3 (d2 vFdiv (dVar 3) (dVar 2)))) (dsSeq (dsSet 3 (d2 vMod (d2 vAdd (d2 vMul (dVar 3) (dC (.int 48271))) (dC (.int 12345))) (dC (.int 2147483647))))
  (dsChg "list" 4 (dCons (d2 vMod (d2 vMod (dA vInt (dCons (d2 vAdd (d2 vMul (dVar 3) (dC (.int 69621))) (d2 vMul (dVar 5) (dC (.int 7919)))) dNil)) (dC (.int 2147483647))) (dVar 2)) dNil) fApp))))
  (dsRet (dVar 4)))))
theorem VB_law_row    : VS [.c, .b, .b, .c, .a, .c] (b_law_row ) (vb_law_row ) :=
  (vs_seq (vs_set 3 (ve_var 0))
  (vs_seq (vs_setN 4 (vn_lst vl_nil))
  (vs_seq (vs_for (vi_r1 (va_b (vb_var 1) va_nil)) (vg_name 5)
  (vs_if (vt_T (ve_b (ve_2 ov_ge (vb_var 0) (ve_b (ve_2 ov_pow (ve_b (ve_c (ic_int _))) (ve_b (ve_c (ic_int _))))))))
  (vs_seq (vs_append 4 (ve_2 ov_mod (ve_b (ve_A oa_int (va_b (vb_var 3) va_nil))) (vb_var 2)))
  (vs_set 3 (ve_2 ov_fdiv (vb_var 3) (vb_var 2)))) (vs_seq (vs_set 3 (ve_2 ov_mod (ve_b (ve_2 ov_add (ve_b (ve_2 ov_mul (vb_var 3) (ve_b (ve_c (ic_int _))))) (ve_b (ve_c (ic_int _))))) (ve_b (ve_c (ic_int _)))))
  (vs_append 4 (ve_2 ov_mod (ve_b (ve_2 ov_mod (ve_b (ve_A oa_int (va_b (ve_b (ve_2 ov_add (ve_b (ve_2 ov_mul (vb_var 3) (ve_b (ve_c (ic_int _))))) (ve_b (ve_2 ov_mul (vb_var 5) (ve_b (ve_c (ic_int _))))))) va_nil))) (ve_b (ve_c (ic_int _))))) (vb_var 2))))))
  (vs_ret (vf_var 4)))))
def v_law_row : List D → VR D := vrun 3 (vb_law_row ) 6
theorem V_law_row : VFn [.c, .b, .b] f_law_row v_law_row := vfn_of (ms := [.c, .b, .b]) (md := [.c, .a, .c]) (VB_law_row ) rfl
def vb_law_cell  : VSm :=
  (dsSeq (dsIf (dT (d2 vLt (dVar 1) (dA vLen (dCons (dVar 0) dNil))))
  (dsRet (d2 vIxA (dVar 0) (dVar 1))) dsNil)
  (dsRet (dC (.int 0))))
theorem VB_law_cell    : VS [.b, .b] (b_law_cell ) (vb_law_cell ) :=
  (vs_seq (vs_if (vt_T (ve_b (ve_2 ov_lt (vb_var 1) (ve_b (ve_A oa_len (va_b (vb_var 0) va_nil))))))
  (vs_ret (ve_f (ve_2 ov_ixA (vb_var 0) (vb_var 1)))) vs_nil)
  (vs_ret (ve_f (ve_c (ic_int _)))))
def v_law_cell : List D → VR D := vrun 2 (vb_law_cell ) 2
theorem V_law_cell : VFn [.b, .b] f_law_cell v_law_cell := vfn_of (ms := [.b, .b]) (md := []) (VB_law_cell ) rfl
def vb_law_expression (v_law_expression : List D → VR D) : VSm :=
  (dsSeq (dsSet 3 (d2 vMod (dA vInt (dCons (dVar 0) dNil)) (dC (.int 8))))
  (dsSeq (dsSet 4 (d2 vFdiv (dA vInt (dCons (dVar 0) dNil)) (dC (.int 8))))
  (dsSeq (dsIf (dAnd (dT (d2 vLt (dVar 3) (dC (.int 2)))) (dT (d2 vGt (dA vLen (dCons (dVar 1) dNil)) (dC (.int 0)))))
  (dsRet (dA vTup (dCons (dC (.str ("variable" : Str))) (dCons (d2 vIxA (dVar 1) (d2 vMod (dVar 4) (dA vLen (dCons (dVar 1) dNil)))) dNil)))) dsNil)
  (dsSeq (dsIf (dT (d2 vEq (dVar 3) (dC (.int 2))))
  (dsRet (dA vTup (dCons (dC (.str ("given" : Str))) dNil))) dsNil)
  (dsSeq (dsIf (dAnd (dT (d2 vEq (dVar 3) (dC (.int 3)))) (dT (d2 vGt (dA vLen (dCons (dVar 2) dNil)) (dC (.int 0)))))
  (dsRet (dA vTup (dCons (d2 vIxA (dA vTup (dCons (dC (.str ("have" : Str))) (dCons (dC (.str ("out" : Str))) dNil))) (d2 vMod (dVar 4) (dC (.int 2)))) (dCons (d2 vIxA (dVar 2) (d2 vMod (d2 vFdiv (dVar 4) (dC (.int 2))) (dA vLen (dCons (dVar 2) dNil)))) dNil)))) dsNil)
  (dsSeq (dsIf (dT (d2 vEq (dVar 3) (dC (.int 4))))
  (dsSeq (dsSet 5 (dA (dLen 3 v_law_expression) (dCons (d2 vMod (d2 vFdiv (dVar 4) (dC (.int 7))) (dC (.int 60))) (dCons (dVar 1) (dCons (dVar 2) dNil)))))
  (dsRet (dA vTup (dCons (d2 vIxA (dA vTup (dCons (dC (.str ("+" : Str))) (dCons (dC (.str ("-" : Str))) (dCons (dC (.str ("*" : Str))) (dCons (dC (.str ("/" : Str))) (dCons (dC (.str ("mod" : Str))) (dCons (dC (.str ("<" : Str))) (dCons (dC (.str ("=" : Str))) dNil)))))))) (d2 vMod (dVar 4) (dC (.int 7)))) (dCons (dVar 5) (dCons (dA (dLen 3 v_law_expression) (dCons (d2 vMod (d2 vFdiv (dVar 4) (dC (.int 420))) (dC (.int 60))) (dCons (dVar 1) (dCons (dVar 2) dNil)))) dNil)))))) dsNil)
  (dsRet (dA vTup (dCons (dC (.str ("number" : Str))) (dCons (d2 vMod (dVar 4) (dC (.int 4))) dNil))))))))))
theorem VB_law_expression {c_law_expression : Fn} {v_law_expression : List D → VR D} (H_law_expression : VFn [.b, .b, .b] c_law_expression v_law_expression) : VS [.b, .b, .b, .c, .c, .c] (b_law_expression c_law_expression) (vb_law_expression v_law_expression) :=
  (vs_seq (vs_set 3 (ve_2 ov_mod (ve_b (ve_A oa_int (va_b (vb_var 0) va_nil))) (ve_b (ve_c (ic_int _)))))
  (vs_seq (vs_set 4 (ve_2 ov_fdiv (ve_b (ve_A oa_int (va_b (vb_var 0) va_nil))) (ve_b (ve_c (ic_int _)))))
  (vs_seq (vs_if (vt_and (vt_T (ve_b (ve_2 ov_lt (vb_var 3) (ve_b (ve_c (ic_int _)))))) (vt_T (ve_b (ve_2 ov_gt (ve_b (ve_A oa_len (va_b (vb_var 1) va_nil))) (ve_b (ve_c (ic_int _)))))))
  (vs_ret (vf_tup (vaf_cons (ve_f (ve_c (ic_str _))) (vaf_cons (ve_f (ve_2 ov_ixA (vb_var 1) (ve_b (ve_2 ov_mod (vb_var 4) (ve_b (ve_A oa_len (va_b (vb_var 1) va_nil))))))) vaf_nil)))) vs_nil)
  (vs_seq (vs_if (vt_T (ve_b (ve_2 (ov_eqB false) (vb_var 3) (ve_b (ve_c (ic_int _))))))
  (vs_ret (vf_tup (vaf_cons (ve_f (ve_c (ic_str _))) vaf_nil))) vs_nil)
  (vs_seq (vs_if (vt_and (vt_T (ve_b (ve_2 (ov_eqB false) (vb_var 3) (ve_b (ve_c (ic_int _)))))) (vt_T (ve_b (ve_2 ov_gt (ve_b (ve_A oa_len (va_b (vb_var 2) va_nil))) (ve_b (ve_c (ic_int _)))))))
  (vs_ret (vf_tup (vaf_cons (ve_f (ve_2 ov_ixA (ve_b (ve_tup (vl_cons (ve_c (ic_str _)) (vl_cons (ve_c (ic_str _)) vl_nil)))) (ve_b (ve_2 ov_mod (vb_var 4) (ve_b (ve_c (ic_int _))))))) (vaf_cons (ve_f (ve_2 ov_ixA (vb_var 2) (ve_b (ve_2 ov_mod (ve_b (ve_2 ov_fdiv (vb_var 4) (ve_b (ve_c (ic_int _))))) (ve_b (ve_A oa_len (va_b (vb_var 2) va_nil))))))) vaf_nil)))) vs_nil)
  (vs_seq (vs_if (vt_T (ve_b (ve_2 (ov_eqB false) (vb_var 3) (ve_b (ve_c (ic_int _))))))
  (vs_seq (vs_set 5 (ve_call H_law_expression (va_b (ve_b (ve_2 ov_mod (ve_b (ve_2 ov_fdiv (vb_var 4) (ve_b (ve_c (ic_int _))))) (ve_b (ve_c (ic_int _))))) (va_b (vb_var 1) (va_b (vb_var 2) va_nil)))))
  (vs_ret (vf_tup (vaf_cons (ve_f (ve_2 ov_ixA (ve_b (ve_tup (vl_cons (ve_c (ic_str _)) (vl_cons (ve_c (ic_str _)) (vl_cons (ve_c (ic_str _)) (vl_cons (ve_c (ic_str _)) (vl_cons (ve_c (ic_str _)) (vl_cons (ve_c (ic_str _)) (vl_cons (ve_c (ic_str _)) vl_nil))))))))) (ve_b (ve_2 ov_mod (vb_var 4) (ve_b (ve_c (ic_int _))))))) (vaf_cons (vf_var 5) (vaf_cons (ve_f (ve_call H_law_expression (va_b (ve_b (ve_2 ov_mod (ve_b (ve_2 ov_fdiv (vb_var 4) (ve_b (ve_c (ic_int _))))) (ve_b (ve_c (ic_int _))))) (va_b (vb_var 1) (va_b (vb_var 2) va_nil))))) vaf_nil)))))) vs_nil)
  (vs_ret (vf_tup (vaf_cons (ve_f (ve_c (ic_str _))) (vaf_cons (ve_f (ve_2 ov_mod (vb_var 4) (ve_b (ve_c (ic_int _))))) vaf_nil))))))))))
def v_law_expression : Nat → List D → VR D
  | 0 => fun _ => .no
  | d + 1 => vrun 3 (vb_law_expression (v_law_expression d)) 6
theorem VR_law_expression : ∀ d, VFn [.b, .b, .b] (f_law_expression d) (v_law_expression d)
  | 0 => vfn_no
  | d + 1 => by
    have ih : VFn [.b, .b, .b] (f_law_expression d) (v_law_expression d) := VR_law_expression d
    exact vfn_of (ms := [.b, .b, .b]) (md := [.c, .c, .c]) (VB_law_expression (ih)) rfl
theorem V_law_expression (d : Nat) : VFn [.b, .b, .b] (f_law_expression d) (v_law_expression d) := VR_law_expression d
def vb_law_statement (v_law_expression : List D → VR D) : VSm :=
  (dsSeq (dsSet 5 (d2 vMod (dA vInt (dCons (dVar 0) dNil)) (dC (.int 7))))
  (dsSeq (dsSet 6 (d2 vFdiv (dA vInt (dCons (dVar 0) dNil)) (dC (.int 7))))
  (dsSeq (dsIf (dAnd (dT (d2 vEq (dVar 5) (dC (.int 0)))) (dT (d2 vGt (dA vLen (dCons (dVar 1) dNil)) (dC (.int 0)))))
  (dsRet (dA vTup (dCons (dC (.str ("set" : Str))) (dCons (d2 vIxA (dVar 1) (d2 vMod (dVar 6) (dA vLen (dCons (dVar 1) dNil)))) (dCons (dA (dLen 3 v_law_expression) (dCons (d2 vFdiv (dVar 6) (dC (.int 6))) (dCons (dVar 1) (dCons (dVar 2) dNil)))) dNil))))) dsNil)
  (dsSeq (dsIf (dT (d2 vEq (dVar 5) (dC (.int 1))))
  (dsRet (dA vTup (dCons (dC (.str ("need" : Str))) (dCons (dA (dLen 3 v_law_expression) (dCons (dVar 6) (dCons (dVar 1) (dCons (dVar 2) dNil)))) dNil)))) dsNil)
  (dsSeq (dsIf (dAnd (dT (d2 vLt (dVar 5) (dC (.int 4)))) (dT (d2 vGt (dA vLen (dCons (dVar 2) dNil)) (dC (.int 0)))))
  (dsRet (dA vTup (dCons (d2 vIxA (dA vTup (dCons (dC (.str ("give" : Str))) (dCons (dC (.str ("get" : Str))) dNil))) (d2 vMod (dVar 6) (dC (.int 2)))) (dCons (d2 vIxA (dVar 2) (d2 vMod (d2 vFdiv (dVar 6) (dC (.int 2))) (dA vLen (dCons (dVar 2) dNil)))) (dCons (dA (dLen 3 v_law_expression) (dCons (d2 vFdiv (dVar 6) (dC (.int 6))) (dCons (dVar 1) (dCons (dVar 2) dNil)))) dNil))))) dsNil)
  (dsSeq (dsIf (dAnd (dT (d2 vEq (dVar 5) (dC (.int 4)))) (dAnd (dT (d2 vGt (dA vLen (dCons (dVar 1) dNil)) (dC (.int 0)))) (dT (d2 vGt (dVar 4) (dC (.int 0))))))
  (dsRet (dA vTup (dCons (dC (.str ("ask" : Str))) (dCons (d2 vIxA (dVar 1) (d2 vMod (dVar 6) (dA vLen (dCons (dVar 1) dNil)))) (dCons (d2 vAdd (dC (.int 1)) (d2 vMod (d2 vFdiv (dVar 6) (dC (.int 6))) (dC (.int 2)))) dNil))))) dsNil)
  (dsSeq (dsIf (dAnd (dT (d2 vEq (dVar 5) (dC (.int 5)))) (dT (d2 vGt (dA vLen (dCons (dVar 3) dNil)) (dC (.int 0)))))
  (dsSeq (dsSet 7 (d2 vIxA (dVar 3) (d2 vMod (dVar 6) (dA vLen (dCons (dVar 3) dNil)))))
  (dsRet (dA vTup (dCons (dC (.str ("call" : Str))) (dCons (d2 vIxA (dVar 7) (dC (.int 0))) (dCons (d2 vIxA (dVar 7) (dC (.int 1))) (dCons (dA (dLen 3 v_law_expression) (dCons (d2 vFdiv (dVar 6) (dC (.int 12))) (dCons (dVar 1) (dCons (dVar 2) dNil)))) dNil))))))) dsNil)
  (dsRet (dIf (dT (d2 vGt (dA vLen (dCons (dVar 1) dNil)) (dC (.int 0)))) (dA vTup (dCons (dC (.str ("set" : Str))) (dCons (d2 vIxA (dVar 1) (dC (.int 0))) (dCons (dA vTup (dCons (dC (.str ("number" : Str))) (dCons (d2 vMod (dVar 6) (dC (.int 3))) dNil))) dNil)))) (dA vTup (dCons (dC (.str ("need" : Str))) (dCons (dA vTup (dCons (dC (.str ("number" : Str))) (dCons (dC (.int 1)) dNil))) dNil))))))))))))
theorem VB_law_statement {c_law_expression : Fn} {v_law_expression : List D → VR D} (H_law_expression : VFn [.b, .b, .b] c_law_expression v_law_expression) : VS [.b, .b, .b, .b, .b, .c, .c, .c] (b_law_statement c_law_expression) (vb_law_statement v_law_expression) :=
  (vs_seq (vs_set 5 (ve_2 ov_mod (ve_b (ve_A oa_int (va_b (vb_var 0) va_nil))) (ve_b (ve_c (ic_int _)))))
  (vs_seq (vs_set 6 (ve_2 ov_fdiv (ve_b (ve_A oa_int (va_b (vb_var 0) va_nil))) (ve_b (ve_c (ic_int _)))))
  (vs_seq (vs_if (vt_and (vt_T (ve_b (ve_2 (ov_eqB false) (vb_var 5) (ve_b (ve_c (ic_int _)))))) (vt_T (ve_b (ve_2 ov_gt (ve_b (ve_A oa_len (va_b (vb_var 1) va_nil))) (ve_b (ve_c (ic_int _)))))))
  (vs_ret (vf_tup (vaf_cons (ve_f (ve_c (ic_str _))) (vaf_cons (ve_f (ve_2 ov_ixA (vb_var 1) (ve_b (ve_2 ov_mod (vb_var 6) (ve_b (ve_A oa_len (va_b (vb_var 1) va_nil))))))) (vaf_cons (ve_f (ve_call H_law_expression (va_b (ve_b (ve_2 ov_fdiv (vb_var 6) (ve_b (ve_c (ic_int _))))) (va_b (vb_var 1) (va_b (vb_var 2) va_nil))))) vaf_nil))))) vs_nil)
  (vs_seq (vs_if (vt_T (ve_b (ve_2 (ov_eqB false) (vb_var 5) (ve_b (ve_c (ic_int _))))))
  (vs_ret (vf_tup (vaf_cons (ve_f (ve_c (ic_str _))) (vaf_cons (ve_f (ve_call H_law_expression (va_b (vb_var 6) (va_b (vb_var 1) (va_b (vb_var 2) va_nil))))) vaf_nil)))) vs_nil)
  (vs_seq (vs_if (vt_and (vt_T (ve_b (ve_2 ov_lt (vb_var 5) (ve_b (ve_c (ic_int _)))))) (vt_T (ve_b (ve_2 ov_gt (ve_b (ve_A oa_len (va_b (vb_var 2) va_nil))) (ve_b (ve_c (ic_int _)))))))
  (vs_ret (vf_tup (vaf_cons (ve_f (ve_2 ov_ixA (ve_b (ve_tup (vl_cons (ve_c (ic_str _)) (vl_cons (ve_c (ic_str _)) vl_nil)))) (ve_b (ve_2 ov_mod (vb_var 6) (ve_b (ve_c (ic_int _))))))) (vaf_cons (ve_f (ve_2 ov_ixA (vb_var 2) (ve_b (ve_2 ov_mod (ve_b (ve_2 ov_fdiv (vb_var 6) (ve_b (ve_c (ic_int _))))) (ve_b (ve_A oa_len (va_b (vb_var 2) va_nil))))))) (vaf_cons (ve_f (ve_call H_law_expression (va_b (ve_b (ve_2 ov_fdiv (vb_var 6) (ve_b (ve_c (ic_int _))))) (va_b (vb_var 1) (va_b (vb_var 2) va_nil))))) vaf_nil))))) vs_nil)
  (vs_seq (vs_if (vt_and (vt_T (ve_b (ve_2 (ov_eqB false) (vb_var 5) (ve_b (ve_c (ic_int _)))))) (vt_and (vt_T (ve_b (ve_2 ov_gt (ve_b (ve_A oa_len (va_b (vb_var 1) va_nil))) (ve_b (ve_c (ic_int _)))))) (vt_T (ve_b (ve_2 ov_gt (vb_var 4) (ve_b (ve_c (ic_int _))))))))
  (vs_ret (vf_tup (vaf_cons (ve_f (ve_c (ic_str _))) (vaf_cons (ve_f (ve_2 ov_ixA (vb_var 1) (ve_b (ve_2 ov_mod (vb_var 6) (ve_b (ve_A oa_len (va_b (vb_var 1) va_nil))))))) (vaf_cons (ve_f (ve_2 ov_add (ve_b (ve_c (ic_int _))) (ve_b (ve_2 ov_mod (ve_b (ve_2 ov_fdiv (vb_var 6) (ve_b (ve_c (ic_int _))))) (ve_b (ve_c (ic_int _))))))) vaf_nil))))) vs_nil)
  (vs_seq (vs_if (vt_and (vt_T (ve_b (ve_2 (ov_eqB false) (vb_var 5) (ve_b (ve_c (ic_int _)))))) (vt_T (ve_b (ve_2 ov_gt (ve_b (ve_A oa_len (va_b (vb_var 3) va_nil))) (ve_b (ve_c (ic_int _)))))))
  (vs_seq (vs_set 7 (ve_2 ov_ixA (vb_var 3) (ve_b (ve_2 ov_mod (vb_var 6) (ve_b (ve_A oa_len (va_b (vb_var 3) va_nil)))))))
  (vs_ret (vf_tup (vaf_cons (ve_f (ve_c (ic_str _))) (vaf_cons (ve_f (ve_2 ov_ixA (vb_var 7) (ve_b (ve_c (ic_int _))))) (vaf_cons (ve_f (ve_2 ov_ixA (vb_var 7) (ve_b (ve_c (ic_int _))))) (vaf_cons (ve_f (ve_call H_law_expression (va_b (ve_b (ve_2 ov_fdiv (vb_var 6) (ve_b (ve_c (ic_int _))))) (va_b (vb_var 1) (va_b (vb_var 2) va_nil))))) vaf_nil))))))) vs_nil)
  (vs_ret (vf_if (vt_T (ve_b (ve_2 ov_gt (ve_b (ve_A oa_len (va_b (vb_var 1) va_nil))) (ve_b (ve_c (ic_int _)))))) (vf_tup (vaf_cons (ve_f (ve_c (ic_str _))) (vaf_cons (ve_f (ve_2 ov_ixA (vb_var 1) (ve_b (ve_c (ic_int _))))) (vaf_cons (vf_tup (vaf_cons (ve_f (ve_c (ic_str _))) (vaf_cons (ve_f (ve_2 ov_mod (vb_var 6) (ve_b (ve_c (ic_int _))))) vaf_nil))) vaf_nil)))) (vf_tup (vaf_cons (ve_f (ve_c (ic_str _))) (vaf_cons (vf_tup (vaf_cons (ve_f (ve_c (ic_str _))) (vaf_cons (ve_f (ve_c (ic_int _))) vaf_nil))) vaf_nil))))))))))))
def v_law_statement : List D → VR D := vrun 5 (vb_law_statement (v_law_expression D_law_expression)) 8
theorem V_law_statement : VFn [.b, .b, .b, .b, .b] f_law_statement v_law_statement := vfn_of (ms := [.b, .b, .b, .b, .b]) (md := [.c, .c, .c]) (VB_law_statement (V_law_expression D_law_expression)) rfl
def vb_law_body (v_law_statement : List D → VR D) (v_law_expression : List D → VR D) : VSm :=
  (dsSeq (dsSet 5 (dA vLst dNil))
  (dsSeq (dsSet 6 (dVar 4))
  (dsSeq (dsFor (diL (dVar 0)) (gN 7)
  (dsIf (dAnd (dT (d2 vEq (d2 vMod (dA vInt (dCons (dVar 7) dNil)) (dC (.int 11))) (dC (.int 5)))) (dT (d2 vGt (dA vLen (dCons (dVar 0) dNil)) (dC (.int 1)))))
  (dsSeq (dsSet 8 (dA (dLen 5 v_law_statement) (dCons (d2 vFdiv (dA vInt (dCons (dVar 7) dNil)) (dC (.int 11))) (dCons (dVar 1) (dCons (dVar 2) (dCons (dA vTup dNil) (dCons (dC (.int 0)) dNil)))))))
  (dsSeq (dsSet 9 (dA vTup dNil))
  (dsSeq (dsIf (dT (d2 vEq (d2 vMod (d2 vFdiv (dA vInt (dCons (dVar 7) dNil)) (dC (.int 11))) (dC (.int 2))) (dC (.int 1))))
  (dsSet 9 (dA vTup (dCons (dA (dLen 5 v_law_statement) (dCons (d2 vFdiv (dA vInt (dCons (dVar 7) dNil)) (dC (.int 77))) (dCons (dVar 1) (dCons (dVar 2) (dCons (dA vTup dNil) (dCons (dC (.int 0)) dNil)))))) dNil))) dsNil)
  (dsChg "list" 5 (dCons (dA vTup (dCons (dC (.str ("if" : Str))) (dCons (dA (dLen 3 v_law_expression) (dCons (d2 vFdiv (dA vInt (dCons (dVar 7) dNil)) (dC (.int 22))) (dCons (dVar 1) (dCons (dVar 2) dNil)))) (dCons (dA vTup (dCons (dVar 8) dNil)) (dCons (dVar 9) dNil))))) dNil) fApp)))) (dsSeq (dsSet 10 (dA (dLen 5 v_law_statement) (dCons (d2 vFdiv (dA vInt (dCons (dVar 7) dNil)) (dC (.int 11))) (dCons (dVar 1) (dCons (dVar 2) (dCons (dVar 3) (dCons (dVar 6) dNil)))))))
  (dsSeq (dsSet 6 (d2 vSub (dVar 6) (dA vInt (dCons (d2 vEq (d2 vIxA (dVar 10) (dC (.int 0))) (dC (.str ("ask" : Str)))) dNil))))
  (dsChg "list" 5 (dCons (dVar 10) dNil) fApp)))))
  (dsRet (dA vTup (dCons (dA vTuple (dCons (dVar 5) dNil)) (dCons (dVar 6) dNil)))))))
theorem VB_law_body {c_law_statement : Fn} {c_law_expression : Fn} {v_law_statement : List D → VR D} {v_law_expression : List D → VR D} (H_law_statement : VFn [.b, .b, .b, .b, .b] c_law_statement v_law_statement) (H_law_expression : VFn [.b, .b, .b] c_law_expression v_law_expression) : VS [.b, .b, .b, .b, .c, .a, .c, .c, .c, .c, .c] (b_law_body c_law_statement c_law_expression) (vb_law_body v_law_statement v_law_expression) :=
  (vs_seq (vs_setN 5 (vn_lst vl_nil))
  (vs_seq (vs_set 6 (ve_var 4))
  (vs_seq (vs_for (vi_listB 0) (vg_name 7)
  (vs_if (vt_and (vt_T (ve_b (ve_2 (ov_eqB false) (ve_b (ve_2 ov_mod (ve_b (ve_A oa_int (va_b (vb_var 7) va_nil))) (ve_b (ve_c (ic_int _))))) (ve_b (ve_c (ic_int _)))))) (vt_T (ve_b (ve_2 ov_gt (ve_b (ve_A oa_len (va_b (vb_var 0) va_nil))) (ve_b (ve_c (ic_int _)))))))
  (vs_seq (vs_set 8 (ve_call H_law_statement (va_b (ve_b (ve_2 ov_fdiv (ve_b (ve_A oa_int (va_b (vb_var 7) va_nil))) (ve_b (ve_c (ic_int _))))) (va_b (vb_var 1) (va_b (vb_var 2) (va_b (ve_b (ve_tup vl_nil)) (va_b (ve_b (ve_c (ic_int _))) va_nil)))))))
  (vs_seq (vs_set 9 (ve_tup vl_nil))
  (vs_seq (vs_if (vt_T (ve_b (ve_2 (ov_eqB false) (ve_b (ve_2 ov_mod (ve_b (ve_2 ov_fdiv (ve_b (ve_A oa_int (va_b (vb_var 7) va_nil))) (ve_b (ve_c (ic_int _))))) (ve_b (ve_c (ic_int _))))) (ve_b (ve_c (ic_int _))))))
  (vs_set 9 (ve_tup (vl_cons (ve_call H_law_statement (va_b (ve_b (ve_2 ov_fdiv (ve_b (ve_A oa_int (va_b (vb_var 7) va_nil))) (ve_b (ve_c (ic_int _))))) (va_b (vb_var 1) (va_b (vb_var 2) (va_b (ve_b (ve_tup vl_nil)) (va_b (ve_b (ve_c (ic_int _))) va_nil)))))) vl_nil))) vs_nil)
  (vs_append 5 (ve_tup (vl_cons (ve_c (ic_str _)) (vl_cons (ve_call H_law_expression (va_b (ve_b (ve_2 ov_fdiv (ve_b (ve_A oa_int (va_b (vb_var 7) va_nil))) (ve_b (ve_c (ic_int _))))) (va_b (vb_var 1) (va_b (vb_var 2) va_nil)))) (vl_cons (ve_tup (vl_cons (ve_var 8) vl_nil)) (vl_cons (ve_var 9) vl_nil))))))))) (vs_seq (vs_set 10 (ve_call H_law_statement (va_b (ve_b (ve_2 ov_fdiv (ve_b (ve_A oa_int (va_b (vb_var 7) va_nil))) (ve_b (ve_c (ic_int _))))) (va_b (vb_var 1) (va_b (vb_var 2) (va_b (vb_var 3) (va_b (vb_var 6) va_nil)))))))
  (vs_seq (vs_set 6 (ve_2 ov_sub (vb_var 6) (ve_b (ve_A oa_int (va_b (ve_b (ve_2 (ov_eqB false) (ve_b (ve_2 ov_ixA (vb_var 10) (ve_b (ve_c (ic_int _))))) (ve_b (ve_c (ic_str _))))) va_nil)))))
  (vs_append 5 (ve_var 10))))))
  (vs_ret (vf_tup (vaf_cons (ve_f (ve_A oa_tuple (va_b (vb_var 5) va_nil))) (vaf_cons (vf_var 6) vaf_nil)))))))
def v_law_body : List D → VR D := vrun 5 (vb_law_body v_law_statement (v_law_expression D_law_expression)) 11
theorem V_law_body : VFn [.b, .b, .b, .b, .c] f_law_body v_law_body := vfn_of (ms := [.b, .b, .b, .b, .c]) (md := [.a, .c, .c, .c, .c, .c]) (VB_law_body (V_law_statement) (V_law_expression D_law_expression)) rfl
def vb_law_contract (v_law_row : List D → VR D) (v_law_body : List D → VR D) : VSm :=
  (dsSeq (dsSet 6 (dA (dLen 3 v_law_row) (dCons (d2 vIxA (dVar 1) (dC (.int 0))) (dCons (dC (.int 12)) (dCons (dC (.int 60)) dNil)))))
  (dsSeq (dsSet 7 (dSl vSlL (dA vLst (dCons (dC (.str ("x" : Str))) (dCons (dC (.str ("y" : Str))) dNil))) (fun _ => .ok none) (dSome (d2 vMod (d2 vIxA (dVar 6) (dC (.int 0))) (dC (.int 3))))))
  (dsSeq (dsIf (dT (dVar 5))
  (dsSet 7 (dSl vSlL (dVar 7) (fun _ => .ok none) (dSome (dC (.int 1))))) dsNil)
  (dsSeq (dsSet 8 (dLc (diR1 (dCons (dA vLen (dCons (dVar 7) dNil)) dNil)) (gN 9) dYes (dA vTup (dCons (d2 vIxA (dVar 7) (dVar 9)) (dCons (d2 vAdd (dC (.int 2)) (d2 vMod (d2 vIxA (dVar 6) (d2 vAdd (dC (.int 1)) (dVar 9))) (d2 vSub (dC (.int 2)) (dA vInt (dCons (dVar 5) dNil))))) (dCons (d2 vMod (d2 vIxA (dVar 6) (d2 vAdd (dC (.int 3)) (dVar 9))) (dC (.int 2))) dNil)))) [9]))
  (dsSeq (dsSet 10 (dLc (diL (dVar 2)) (gN 11) (dT (d2 vGt (d2 vMod (d2 vIxA (dVar 6) (dC (.int 6))) (dC (.int 4))) (dC (.int 0)))) (dA vTup (dCons (dVar 11) (dCons (d2 vMod (d2 vIxA (dVar 6) (dC (.int 5))) (d2 vSub (dC (.int 4)) (dA vInt (dCons (dVar 5) dNil)))) dNil))) [11]))
  (dsSeq (dsSet 12 (dA vLst dNil))
  (dsSeq (dsSet 13 (dA vList (dCons (dVar 3) dNil)))
  (dsSeq (dsSet 14 (dVar 4))
  (dsSeq (dsFor (diR1 (dCons (d2 vMod (d2 vIxA (dVar 6) (dC (.int 7))) (dC (.int 3))) dNil)) (gN 9)
  (dsSeq (dsSet 15 (d2 vIxA (dA vTup (dCons (dC (.int 1)) (dCons (dC (.int 2)) (dCons (dC (.int 3)) dNil)))) (d2 vMod (d2 vIxA (dVar 6) (d2 vAdd (dC (.int 8)) (dVar 9))) (dC (.int 3)))))
  (dsSeq (dsIf (dNot (dT (dVar 5)))
  (dsSet 15 (d2 vIxA (dA vTup (dCons (dC (.int 1)) (dCons (dC (.int 2)) (dCons (dC (.int 3)) (dCons (dC (.int 5)) (dCons (dC (.int 64)) dNil)))))) (d2 vMod (d2 vIxA (dVar 6) (d2 vAdd (dC (.int 8)) (dVar 9))) (dC (.int 5))))) dsNil)
  (dsSeq (dsSet 16 (dA (dLen 5 v_law_body) (dCons (dA (dLen 3 v_law_row) (dCons (d2 vIxA (dVar 1) (d2 vAdd (dC (.int 1)) (dVar 9))) (dCons (d2 vAdd (dC (.int 1)) (d2 vMod (d2 vIxA (dVar 6) (d2 vAdd (dC (.int 10)) (dVar 9))) (dC (.int 4)))) (dCons (d2 vPow (dC (.int 10)) (dC (.int 9))) dNil)))) (dCons (dVar 7) (dCons (dVar 2) (dCons (dVar 13) (dCons (dVar 14) dNil)))))))
  (dsSeq (dsSet 14 (d2 vIxA (dVar 16) (dC (.int 1))))
  (dsSeq (dsChg "list" 12 (dCons (dA vTup (dCons (d2 vIxA (dC (.str ("pq" : Str))) (dVar 9)) (dCons (dVar 15) (dCons (d2 vGt (d2 vMod (d2 vFdiv (d2 vIxA (dVar 6) (d2 vAdd (dC (.int 8)) (dVar 9))) (dC (.int 2))) (dC (.int 5))) (dC (.int 0))) (dCons (d2 vIxA (dVar 16) (dC (.int 0))) dNil))))) dNil) fApp)
  (dsSeq (dsSet 17 (dLc (diT (d2 vIxA (dVar 16) (dC (.int 0)))) (gN 18) (dT (d2 vEq (d2 vIxA (dVar 18) (dC (.int 0))) (dC (.str ("call" : Str))))) (dVar 18) [18]))
  (dsIf (dAnd (dT (d2 vEq (dA vLen (dCons (dVar 17) dNil)) (dC (.int 0)))) (dNot (dT (dVar 5))))
  (dsChg "list" 13 (dCons (dA vTup (dCons (dVar 0) (dCons (d2 vIxA (dC (.str ("pq" : Str))) (dVar 9)) dNil))) dNil) fApp) dsNil))))))))
  (dsRet (dA vTup (dCons (dA vTup (dCons (dVar 0) (dCons (dA vTuple (dCons (dVar 8) dNil)) (dCons (dA vTuple (dCons (dVar 10) dNil)) (dCons (dA vTuple (dCons (dVar 12) dNil)) dNil))))) (dCons (dVar 13) (dCons (dVar 14) dNil))))))))))))))
theorem VB_law_contract {c_law_row : Fn} {c_law_body : Fn} {v_law_row : List D → VR D} {v_law_body : List D → VR D} (H_law_row : VFn [.c, .b, .b] c_law_row v_law_row) (H_law_body : VFn [.b, .b, .b, .b, .c] c_law_body v_law_body) : VS [.c, .b, .b, .b, .c, .b, .c, .c, .c, .c, .c, .c, .a, .a, .c, .c, .c, .c, .c] (b_law_contract c_law_row c_law_body) (vb_law_contract v_law_row v_law_body) :=
  (vs_seq (vs_set 6 (ve_call H_law_row (va_c (ve_2 ov_ixA (vb_var 1) (ve_b (ve_c (ic_int _)))) (va_b (ve_b (ve_c (ic_int _))) (va_b (ve_b (ve_c (ic_int _))) va_nil)))))
  (vs_seq (vs_set 7 (vn_e (vn_sl (ve_b (vn_e (vn_lst (vl_cons (ve_c (ic_str _)) (vl_cons (ve_c (ic_str _)) vl_nil))))) vo_none (vo_some (ve_b (ve_2 ov_mod (ve_b (ve_2 ov_ixA (vb_var 6) (ve_b (ve_c (ic_int _))))) (ve_b (ve_c (ic_int _)))))))))
  (vs_seq (vs_if (vt_T (vb_var 5))
  (vs_set 7 (vn_e (vn_sl (vb_var 7) vo_none (vo_some (ve_b (ve_c (ic_int _))))))) vs_nil)
  (vs_seq (vs_set 8 (vn_e (vn_lc (vi_b (vi_r1 (va_b (ve_b (ve_A oa_len (va_b (vb_var 7) va_nil))) va_nil))) (vg_name 9) vt_yes (ve_tup (vl_cons (ve_2 ov_ixA (vb_var 7) (vb_var 9)) (vl_cons (ve_2 ov_add (ve_b (ve_c (ic_int _))) (ve_b (ve_2 ov_mod (ve_b (ve_2 ov_ixA (vb_var 6) (ve_b (ve_2 ov_add (ve_b (ve_c (ic_int _))) (vb_var 9))))) (ve_b (ve_2 ov_sub (ve_b (ve_c (ic_int _))) (ve_b (ve_A oa_int (va_b (vb_var 5) va_nil)))))))) (vl_cons (ve_2 ov_mod (ve_b (ve_2 ov_ixA (vb_var 6) (ve_b (ve_2 ov_add (ve_b (ve_c (ic_int _))) (vb_var 9))))) (ve_b (ve_c (ic_int _)))) vl_nil)))))))
  (vs_seq (vs_set 10 (vn_e (vn_lc (vib_list (vb_var 2)) (vg_name 11) (vt_T (ve_b (ve_2 ov_gt (ve_b (ve_2 ov_mod (ve_b (ve_2 ov_ixA (vb_var 6) (ve_b (ve_c (ic_int _))))) (ve_b (ve_c (ic_int _))))) (ve_b (ve_c (ic_int _)))))) (ve_tup (vl_cons (ve_var 11) (vl_cons (ve_2 ov_mod (ve_b (ve_2 ov_ixA (vb_var 6) (ve_b (ve_c (ic_int _))))) (ve_b (ve_2 ov_sub (ve_b (ve_c (ic_int _))) (ve_b (ve_A oa_int (va_b (vb_var 5) va_nil)))))) vl_nil))))))
  (vs_seq (vs_setN 12 (vn_lst vl_nil))
  (vs_seq (vs_setN 13 (vn_A on_list (va_b (vb_var 3) va_nil)))
  (vs_seq (vs_set 14 (ve_var 4))
  (vs_seq (vs_for (vi_r1 (va_b (ve_b (ve_2 ov_mod (ve_b (ve_2 ov_ixA (vb_var 6) (ve_b (ve_c (ic_int _))))) (ve_b (ve_c (ic_int _))))) va_nil)) (vg_name 9)
  (vs_seq (vs_set 15 (ve_2 ov_ixA (ve_b (ve_tup (vl_cons (ve_c (ic_int _)) (vl_cons (ve_c (ic_int _)) (vl_cons (ve_c (ic_int _)) vl_nil))))) (ve_b (ve_2 ov_mod (ve_b (ve_2 ov_ixA (vb_var 6) (ve_b (ve_2 ov_add (ve_b (ve_c (ic_int _))) (vb_var 9))))) (ve_b (ve_c (ic_int _)))))))
  (vs_seq (vs_if (vt_not (vt_T (vb_var 5)))
  (vs_set 15 (ve_2 ov_ixA (ve_b (ve_tup (vl_cons (ve_c (ic_int _)) (vl_cons (ve_c (ic_int _)) (vl_cons (ve_c (ic_int _)) (vl_cons (ve_c (ic_int _)) (vl_cons (ve_c (ic_int _)) vl_nil))))))) (ve_b (ve_2 ov_mod (ve_b (ve_2 ov_ixA (vb_var 6) (ve_b (ve_2 ov_add (ve_b (ve_c (ic_int _))) (vb_var 9))))) (ve_b (ve_c (ic_int _))))))) vs_nil)
  (vs_seq (vs_set 16 (ve_call H_law_body (va_b (ve_b (ve_call H_law_row (va_c (ve_2 ov_ixA (vb_var 1) (ve_b (ve_2 ov_add (ve_b (ve_c (ic_int _))) (vb_var 9)))) (va_b (ve_b (ve_2 ov_add (ve_b (ve_c (ic_int _))) (ve_b (ve_2 ov_mod (ve_b (ve_2 ov_ixA (vb_var 6) (ve_b (ve_2 ov_add (ve_b (ve_c (ic_int _))) (vb_var 9))))) (ve_b (ve_c (ic_int _))))))) (va_b (ve_b (ve_2 ov_pow (ve_b (ve_c (ic_int _))) (ve_b (ve_c (ic_int _))))) va_nil))))) (va_b (vb_var 7) (va_b (vb_var 2) (va_b (vb_var 13) (va_c (ve_var 14) va_nil)))))))
  (vs_seq (vs_set 14 (ve_2 ov_ixA (vb_var 16) (ve_b (ve_c (ic_int _)))))
  (vs_seq (vs_append 12 (ve_tup (vl_cons (ve_2 ov_ixA (ve_b (ve_c (ic_str _))) (vb_var 9)) (vl_cons (ve_var 15) (vl_cons (ve_2 ov_gt (ve_b (ve_2 ov_mod (ve_b (ve_2 ov_fdiv (ve_b (ve_2 ov_ixA (vb_var 6) (ve_b (ve_2 ov_add (ve_b (ve_c (ic_int _))) (vb_var 9))))) (ve_b (ve_c (ic_int _))))) (ve_b (ve_c (ic_int _))))) (ve_b (ve_c (ic_int _)))) (vl_cons (ve_2 ov_ixA (vb_var 16) (ve_b (ve_c (ic_int _)))) vl_nil))))))
  (vs_seq (vs_set 17 (vn_e (vn_lc (vi_b (vi_tup (ve_b (ve_2 ov_ixA (vb_var 16) (ve_b (ve_c (ic_int _))))))) (vg_name 18) (vt_T (ve_b (ve_2 (ov_eqB false) (ve_b (ve_2 ov_ixA (vb_var 18) (ve_b (ve_c (ic_int _))))) (ve_b (ve_c (ic_str _)))))) (ve_var 18))))
  (vs_if (vt_and (vt_T (ve_b (ve_2 (ov_eqB false) (ve_b (ve_A oa_len (va_b (vb_var 17) va_nil))) (ve_b (ve_c (ic_int _)))))) (vt_not (vt_T (vb_var 5))))
  (vs_append 13 (ve_tup (vl_cons (ve_var 0) (vl_cons (ve_2 ov_ixA (ve_b (ve_c (ic_str _))) (vb_var 9)) vl_nil)))) vs_nil))))))))
  (vs_ret (vf_tup (vaf_cons (vf_tup (vaf_cons (vf_var 0) (vaf_cons (ve_f (ve_A oa_tuple (va_b (vb_var 8) va_nil))) (vaf_cons (ve_f (ve_A oa_tuple (va_b (vb_var 10) va_nil))) (vaf_cons (ve_f (ve_A oa_tuple (va_b (vb_var 12) va_nil))) vaf_nil))))) (vaf_cons (vf_var 13) (vaf_cons (vf_var 14) vaf_nil))))))))))))))
def v_law_contract : List D → VR D := vrun 6 (vb_law_contract v_law_row v_law_body) 19
theorem V_law_contract : VFn [.c, .b, .b, .b, .c, .b] f_law_contract v_law_contract := vfn_of (ms := [.c, .b, .b, .b, .c, .b]) (md := [.c, .c, .c, .c, .c, .c, .a, .a, .c, .c, .c, .c, .c]) (VB_law_contract (V_law_row) (V_law_body)) rfl
def vb_law_house (v_law_cell : List D → VR D) (v_law_row : List D → VR D) (v_law_contract : List D → VR D) : VSm :=
  (dsSeq (dsSet 4 (dA (dLen 3 v_law_row) (dCons (dA (dLen 2 v_law_cell) (dCons (dVar 0) (dCons (dVar 1) dNil))) (dCons (dC (.int 4)) (dCons (dC (.int 60)) dNil)))))
  (dsSeq (dsSet 5 (dSl vSlL (dA vLst (dCons (dC (.str ("a" : Str))) (dCons (dC (.str ("b" : Str))) dNil))) (fun _ => .ok none) (dSome (dA vMin (dCons (d2 vMod (d2 vIxA (dVar 4) (dC (.int 0))) (dC (.int 3))) (dCons (d2 vSub (dC (.int 2)) (dA vInt (dCons (dVar 3) dNil))) dNil))))))
  (dsSeq (dsSet 6 (dA vLst dNil))
  (dsSeq (dsSet 7 (dA vLst dNil))
  (dsSeq (dsSet 8 (dC (.int 2)))
  (dsSeq (dsIf (dT (dVar 3))
  (dsSet 8 (d2 vAdd (dC (.int 1)) (d2 vMod (d2 vIxA (dVar 4) (dC (.int 3))) (dC (.int 2))))) dsNil)
  (dsSeq (dsFor (diR1 (dCons (d2 vAdd (dC (.int 1)) (d2 vMod (d2 vIxA (dVar 4) (dC (.int 1))) (dVar 2))) dNil)) (gN 9)
  (dsSeq (dsSet 10 (dLc (diR1 (dCons (dC (.int 3)) dNil)) (gN 11) dYes (dA (dLen 2 v_law_cell) (dCons (dVar 0) (dCons (d2 vAdd (d2 vAdd (d2 vAdd (dVar 1) (dC (.int 1))) (d2 vMul (dC (.int 3)) (dVar 9))) (dVar 11)) dNil))) [11]))
  (dsSeq (dsSet 12 (dA (dLen 6 v_law_contract) (dCons (d2 vIxA (dC (.str ("cd" : Str))) (dVar 9)) (dCons (dVar 10) (dCons (dVar 5) (dCons (dVar 7) (dCons (dVar 8) (dCons (dVar 3) dNil))))))))
  (dsSeq (dsChg "list" 6 (dCons (d2 vIxA (dVar 12) (dC (.int 0))) dNil) fApp)
  (dsSeq (dsSet 7 (d2 vIxA (dVar 12) (dC (.int 1))))
  (dsSet 8 (d2 vIxA (dVar 12) (dC (.int 2)))))))))
  (dsRet (dA vTup (dCons (dLc (diL (dVar 5)) (gN 13) dYes (dA vTup (dCons (dVar 13) (dCons (d2 vMod (d2 vIxA (dVar 4) (dC (.int 2))) (d2 vSub (dC (.int 3)) (dA vInt (dCons (dVar 3) dNil)))) dNil))) [13]) (dCons (dVar 6) dNil)))))))))))
theorem VB_law_house {c_law_row : Fn} {c_law_cell : Fn} {c_law_contract : Fn} {v_law_cell : List D → VR D} {v_law_row : List D → VR D} {v_law_contract : List D → VR D} (H_law_cell : VFn [.b, .b] c_law_cell v_law_cell) (H_law_row : VFn [.c, .b, .b] c_law_row v_law_row) (H_law_contract : VFn [.c, .b, .b, .b, .c, .b] c_law_contract v_law_contract) : VS [.b, .b, .b, .b, .c, .c, .a, .c, .c, .c, .c, .c, .c, .c] (b_law_house c_law_row c_law_cell c_law_contract) (vb_law_house v_law_cell v_law_row v_law_contract) :=
  (vs_seq (vs_set 4 (ve_call H_law_row (va_c (ve_call H_law_cell (va_b (vb_var 0) (va_b (vb_var 1) va_nil))) (va_b (ve_b (ve_c (ic_int _))) (va_b (ve_b (ve_c (ic_int _))) va_nil)))))
  (vs_seq (vs_set 5 (vn_e (vn_sl (ve_b (vn_e (vn_lst (vl_cons (ve_c (ic_str _)) (vl_cons (ve_c (ic_str _)) vl_nil))))) vo_none (vo_some (ve_b (ve_A oa_min (va_b (ve_b (ve_2 ov_mod (ve_b (ve_2 ov_ixA (vb_var 4) (ve_b (ve_c (ic_int _))))) (ve_b (ve_c (ic_int _))))) (va_b (ve_b (ve_2 ov_sub (ve_b (ve_c (ic_int _))) (ve_b (ve_A oa_int (va_b (vb_var 3) va_nil))))) va_nil))))))))
  (vs_seq (vs_setN 6 (vn_lst vl_nil))
  (vs_seq (vs_set 7 (vn_e (vn_lst vl_nil)))
  (vs_seq (vs_set 8 (ve_c (ic_int _)))
  (vs_seq (vs_if (vt_T (vb_var 3))
  (vs_set 8 (ve_2 ov_add (ve_b (ve_c (ic_int _))) (ve_b (ve_2 ov_mod (ve_b (ve_2 ov_ixA (vb_var 4) (ve_b (ve_c (ic_int _))))) (ve_b (ve_c (ic_int _))))))) vs_nil)
  (vs_seq (vs_for (vi_r1 (va_b (ve_b (ve_2 ov_add (ve_b (ve_c (ic_int _))) (ve_b (ve_2 ov_mod (ve_b (ve_2 ov_ixA (vb_var 4) (ve_b (ve_c (ic_int _))))) (vb_var 2))))) va_nil)) (vg_name 9)
  (vs_seq (vs_set 10 (vn_e (vn_lc (vi_b (vi_r1 (va_b (ve_b (ve_c (ic_int _))) va_nil))) (vg_name 11) vt_yes (ve_call H_law_cell (va_b (vb_var 0) (va_b (ve_b (ve_2 ov_add (ve_b (ve_2 ov_add (ve_b (ve_2 ov_add (vb_var 1) (ve_b (ve_c (ic_int _))))) (ve_b (ve_2 ov_mul (ve_b (ve_c (ic_int _))) (vb_var 9))))) (vb_var 11))) va_nil))))))
  (vs_seq (vs_set 12 (ve_call H_law_contract (va_c (ve_2 ov_ixA (ve_b (ve_c (ic_str _))) (vb_var 9)) (va_b (vb_var 10) (va_b (vb_var 5) (va_b (vb_var 7) (va_c (ve_var 8) (va_b (vb_var 3) va_nil))))))))
  (vs_seq (vs_append 6 (ve_2 ov_ixA (vb_var 12) (ve_b (ve_c (ic_int _)))))
  (vs_seq (vs_set 7 (ve_2 ov_ixA (vb_var 12) (ve_b (ve_c (ic_int _)))))
  (vs_set 8 (ve_2 ov_ixA (vb_var 12) (ve_b (ve_c (ic_int _))))))))))
  (vs_ret (vf_tup (vaf_cons (ve_f (vn_e (vn_lc (vib_list (vb_var 5)) (vg_name 13) vt_yes (ve_tup (vl_cons (ve_var 13) (vl_cons (ve_2 ov_mod (ve_b (ve_2 ov_ixA (vb_var 4) (ve_b (ve_c (ic_int _))))) (ve_b (ve_2 ov_sub (ve_b (ve_c (ic_int _))) (ve_b (ve_A oa_int (va_b (vb_var 3) va_nil)))))) vl_nil)))))) (vaf_cons (vf_var 6) vaf_nil)))))))))))
def v_law_house : List D → VR D := vrun 4 (vb_law_house v_law_cell v_law_row v_law_contract) 14
theorem V_law_house : VFn [.b, .b, .b, .b] f_law_house v_law_house := vfn_of (ms := [.b, .b, .b, .b]) (md := [.c, .c, .a, .c, .c, .c, .c, .c, .c, .c]) (VB_law_house (V_law_cell) (V_law_row) (V_law_contract)) rfl
def vb_law_called_value (v_law_called_value : List D → VR D) : VSm :=
  (dsSeq (dsIf (dT (d2 vIn (d2 vIxA (dVar 0) (dC (.int 0))) (dA vTup (dCons (dC (.str ("variable" : Str))) (dCons (dC (.str ("have" : Str))) (dCons (dC (.str ("out" : Str))) dNil))))))
  (dsRet (dA vTup (dCons (d2 vIxA (dVar 0) (dC (.int 0))) (dCons (d2 vIxA (dVar 1) (d2 vIxA (dVar 0) (dC (.int 1)))) dNil)))) dsNil)
  (dsSeq (dsIf (dT (d2 vEq (dA vLen (dCons (dVar 0) dNil)) (dC (.int 3))))
  (dsRet (dA vTup (dCons (d2 vIxA (dVar 0) (dC (.int 0))) (dCons (dA (dLen 2 v_law_called_value) (dCons (d2 vIxA (dVar 0) (dC (.int 1))) (dCons (dVar 1) dNil))) (dCons (dA (dLen 2 v_law_called_value) (dCons (d2 vIxA (dVar 0) (dC (.int 2))) (dCons (dVar 1) dNil))) dNil))))) dsNil)
  (dsRet (dVar 0))))
theorem VB_law_called_value {c_law_called_value : Fn} {v_law_called_value : List D → VR D} (H_law_called_value : VFn [.c, .b] c_law_called_value v_law_called_value) : VS [.c, .b] (b_law_called_value c_law_called_value) (vb_law_called_value v_law_called_value) :=
  (vs_seq (vs_if (vt_T (ve_b (ve_2 (ov_inB false) (ve_b (ve_2 ov_ixA (vb_var 0) (ve_b (ve_c (ic_int _))))) (ve_b (ve_tup (vl_cons (ve_c (ic_str _)) (vl_cons (ve_c (ic_str _)) (vl_cons (ve_c (ic_str _)) vl_nil))))))))
  (vs_ret (vf_tup (vaf_cons (ve_f (ve_2 ov_ixA (vb_var 0) (ve_b (ve_c (ic_int _))))) (vaf_cons (ve_f (ve_2 ov_ixA (vb_var 1) (ve_b (ve_2 ov_ixA (vb_var 0) (ve_b (ve_c (ic_int _))))))) vaf_nil)))) vs_nil)
  (vs_seq (vs_if (vt_T (ve_b (ve_2 (ov_eqB false) (ve_b (ve_A oa_len (va_b (vb_var 0) va_nil))) (ve_b (ve_c (ic_int _))))))
  (vs_ret (vf_tup (vaf_cons (ve_f (ve_2 ov_ixA (vb_var 0) (ve_b (ve_c (ic_int _))))) (vaf_cons (ve_f (ve_call H_law_called_value (va_c (ve_2 ov_ixA (vb_var 0) (ve_b (ve_c (ic_int _)))) (va_b (vb_var 1) va_nil)))) (vaf_cons (ve_f (ve_call H_law_called_value (va_c (ve_2 ov_ixA (vb_var 0) (ve_b (ve_c (ic_int _)))) (va_b (vb_var 1) va_nil)))) vaf_nil))))) vs_nil)
  (vs_ret (vf_var 0))))
def v_law_called_value : Nat → List D → VR D
  | 0 => fun _ => .no
  | d + 1 => vrun 2 (vb_law_called_value (v_law_called_value d)) 2
theorem VR_law_called_value : ∀ d, VFn [.c, .b] (f_law_called_value d) (v_law_called_value d)
  | 0 => vfn_no
  | d + 1 => by
    have ih : VFn [.c, .b] (f_law_called_value d) (v_law_called_value d) := VR_law_called_value d
    exact vfn_of (ms := [.c, .b]) (md := []) (VB_law_called_value (ih)) rfl
theorem V_law_called_value (d : Nat) : VFn [.c, .b] (f_law_called_value d) (v_law_called_value d) := VR_law_called_value d
def vb_law_called_block (v_law_called_block : List D → VR D) (v_law_called_value : List D → VR D) : VSm :=
  (dsSeq (dsSet 2 (dA vLst dNil))
  (dsSeq (dsFor (diT (dVar 0)) (gN 3)
  (dsIf (dT (d2 vEq (d2 vIxA (dVar 3) (dC (.int 0))) (dC (.str ("if" : Str)))))
  (dsSeq (dsSet 4 (dA vTup (dCons (dA (dLen 2 v_law_called_block) (dCons (d2 vIxA (dVar 3) (dC (.int 2))) (dCons (dVar 1) dNil))) (dCons (dA (dLen 2 v_law_called_block) (dCons (d2 vIxA (dVar 3) (dC (.int 3))) (dCons (dVar 1) dNil))) dNil))))
  (dsChg "list" 2 (dCons (dA vTup (dCons (dC (.str ("if" : Str))) (dCons (dA (dLen 2 v_law_called_value) (dCons (d2 vIxA (dVar 3) (dC (.int 1))) (dCons (dVar 1) dNil))) (dCons (d2 vIxA (dVar 4) (dC (.int 0))) (dCons (d2 vIxA (dVar 4) (dC (.int 1))) dNil))))) dNil) fApp)) (dsIf (dT (d2 vEq (d2 vIxA (dVar 3) (dC (.int 0))) (dC (.str ("ask" : Str)))))
  (dsChg "list" 2 (dCons (dA vTup (dCons (dC (.str ("ask" : Str))) (dCons (d2 vIxA (dVar 1) (d2 vIxA (dVar 3) (dC (.int 1)))) (dCons (d2 vIxA (dVar 3) (dC (.int 2))) dNil)))) dNil) fApp) (dsSeq (dsSet 5 (dLc (diT (dSl vSl (dVar 3) (dSome (dC (.int 1))) (dSome (d1 vNeg (dC (.int 1)))))) (gN 6) dYes (d2 vIxA (dVar 1) (dVar 6)) [6]))
  (dsChg "list" 2 (dCons (d2 vAdd (d2 vAdd (dA vTup (dCons (d2 vIxA (dVar 3) (dC (.int 0))) dNil)) (dA vTuple (dCons (dVar 5) dNil))) (dA vTup (dCons (dA (dLen 2 v_law_called_value) (dCons (d2 vIxA (dVar 3) (d1 vNeg (dC (.int 1)))) (dCons (dVar 1) dNil))) dNil))) dNil) fApp)))))
  (dsRet (dA vTuple (dCons (dVar 2) dNil)))))
theorem VB_law_called_block {c_law_called_block : Fn} {c_law_called_value : Fn} {v_law_called_block : List D → VR D} {v_law_called_value : List D → VR D} (H_law_called_block : VFn [.b, .b] c_law_called_block v_law_called_block) (H_law_called_value : VFn [.c, .b] c_law_called_value v_law_called_value) : VS [.b, .b, .a, .c, .c, .c, .c] (b_law_called_block c_law_called_block c_law_called_value) (vb_law_called_block v_law_called_block v_law_called_value) :=
  (vs_seq (vs_setN 2 (vn_lst vl_nil))
  (vs_seq (vs_for (vi_tup (vb_var 0)) (vg_name 3)
  (vs_if (vt_T (ve_b (ve_2 (ov_eqB false) (ve_b (ve_2 ov_ixA (vb_var 3) (ve_b (ve_c (ic_int _))))) (ve_b (ve_c (ic_str _))))))
  (vs_seq (vs_set 4 (ve_tup (vl_cons (ve_call H_law_called_block (va_b (ve_b (ve_2 ov_ixA (vb_var 3) (ve_b (ve_c (ic_int _))))) (va_b (vb_var 1) va_nil))) (vl_cons (ve_call H_law_called_block (va_b (ve_b (ve_2 ov_ixA (vb_var 3) (ve_b (ve_c (ic_int _))))) (va_b (vb_var 1) va_nil))) vl_nil))))
  (vs_append 2 (ve_tup (vl_cons (ve_c (ic_str _)) (vl_cons (ve_call H_law_called_value (va_c (ve_2 ov_ixA (vb_var 3) (ve_b (ve_c (ic_int _)))) (va_b (vb_var 1) va_nil))) (vl_cons (ve_2 ov_ixA (vb_var 4) (ve_b (ve_c (ic_int _)))) (vl_cons (ve_2 ov_ixA (vb_var 4) (ve_b (ve_c (ic_int _)))) vl_nil))))))) (vs_if (vt_T (ve_b (ve_2 (ov_eqB false) (ve_b (ve_2 ov_ixA (vb_var 3) (ve_b (ve_c (ic_int _))))) (ve_b (ve_c (ic_str _))))))
  (vs_append 2 (ve_tup (vl_cons (ve_c (ic_str _)) (vl_cons (ve_2 ov_ixA (vb_var 1) (ve_b (ve_2 ov_ixA (vb_var 3) (ve_b (ve_c (ic_int _)))))) (vl_cons (ve_2 ov_ixA (vb_var 3) (ve_b (ve_c (ic_int _)))) vl_nil))))) (vs_seq (vs_set 5 (vn_e (vn_lc (vi_b (vi_tup (ve_b (ve_sl (vb_var 3) (vo_some (ve_b (ve_c (ic_int _)))) (vo_some (ve_b (ve_neg (ve_b (ve_c (ic_int _)))))))))) (vg_name 6) vt_yes (ve_2 ov_ixA (vb_var 1) (vb_var 6)))))
  (vs_append 2 (ve_2 ov_add (ve_b (ve_2 ov_add (ve_b (ve_tup (vl_cons (ve_2 ov_ixA (vb_var 3) (ve_b (ve_c (ic_int _)))) vl_nil))) (ve_b (ve_A oa_tuple (va_b (vb_var 5) va_nil))))) (ve_b (ve_tup (vl_cons (ve_call H_law_called_value (va_c (ve_2 ov_ixA (vb_var 3) (ve_b (ve_neg (ve_b (ve_c (ic_int _)))))) (va_b (vb_var 1) va_nil))) vl_nil)))))))))
  (vs_ret (ve_f (ve_A oa_tuple (va_b (vb_var 2) va_nil))))))
def v_law_called_block : Nat → List D → VR D
  | 0 => fun _ => .no
  | d + 1 => vrun 2 (vb_law_called_block (v_law_called_block d) (v_law_called_value D_law_called_value)) 7
theorem VR_law_called_block : ∀ d, VFn [.b, .b] (f_law_called_block d) (v_law_called_block d)
  | 0 => vfn_no
  | d + 1 => by
    have ih : VFn [.b, .b] (f_law_called_block d) (v_law_called_block d) := VR_law_called_block d
    exact vfn_of (ms := [.b, .b]) (md := [.a, .c, .c, .c, .c]) (VB_law_called_block (ih) (V_law_called_value D_law_called_value)) rfl
theorem V_law_called_block (d : Nat) : VFn [.b, .b] (f_law_called_block d) (v_law_called_block d) := VR_law_called_block d
def vb_law_called (v_law_called_block : List D → VR D) : VSm :=
  (dsSeq (dsSet 1 (dDisp (dpC (dC (.str ("a" : Str))) (dC (.str ("paid" : Str))) (dpC (dC (.str ("b" : Str))) (dC (.str ("paid1" : Str))) (dpC (dC (.str ("z" : Str))) (dC (.str ("paid12" : Str))) (dpC (dC (.str ("x" : Str))) (dC (.str ("paid" : Str))) (dpC (dC (.str ("y" : Str))) (dC (.str ("lock" : Str))) (dpC (dC (.str ("lock" : Str))) (dC (.str ("lock" : Str))) (dpC (dC (.str ("p" : Str))) (dC (.str ("paying" : Str))) (dpC (dC (.str ("q" : Str))) (dC (.str ("payinga" : Str))) dpN))))))))))
  (dsSeq (dsFor (diT (dA vTup (dCons (dA vTup (dCons (dC (.str ("r" : Str))) (dCons (dC (.str ("payingab" : Str))) dNil))) (dCons (dA vTup (dCons (dC (.str ("c" : Str))) (dCons (dC (.str ("houses0hold1" : Str))) dNil))) (dCons (dA vTup (dCons (dC (.str ("d" : Str))) (dCons (dC (.str ("houses0hold2" : Str))) dNil))) (dCons (dA vTup (dCons (dC (.str ("e" : Str))) (dCons (dC (.str ("houses0hold" : Str))) dNil))) (dCons (dA vTup (dCons (dC (.str ("f" : Str))) (dCons (dC (.str ("paid" : Str))) dNil))) dNil))))))) (gT [2, 3])
  (dsItemA 1 (dVar 2) (dVar 3)))
  (dsSeq (dsSet 4 (dA vLst dNil))
  (dsSeq (dsFor (diL (d2 vIxA (dVar 0) (dC (.int 1)))) (gN 5)
  (dsSeq (dsSet 6 (dA vTuple (dCons (dLc (diT (d2 vIxA (dVar 5) (dC (.int 1)))) (gN 7) dYes (d2 vAdd (dA vTup (dCons (d2 vIxA (dVar 1) (d2 vIxA (dVar 7) (dC (.int 0)))) dNil)) (dSl vSl (dVar 7) (dSome (dC (.int 1))) (fun _ => .ok none))) [7]) dNil)))
  (dsSeq (dsSet 8 (dA vTuple (dCons (dLc (diT (d2 vIxA (dVar 5) (dC (.int 2)))) (gN 7) dYes (dA vTup (dCons (d2 vIxA (dVar 1) (d2 vIxA (dVar 7) (dC (.int 0)))) (dCons (d2 vIxA (dVar 7) (dC (.int 1))) dNil))) [7]) dNil)))
  (dsSeq (dsSet 9 (dLc (diT (d2 vIxA (dVar 5) (dC (.int 3)))) (gN 10) dYes (dA vTup (dCons (d2 vIxA (dVar 1) (d2 vIxA (dVar 10) (dC (.int 0)))) (dCons (d2 vIxA (dVar 10) (dC (.int 1))) (dCons (d2 vIxA (dVar 10) (dC (.int 2))) (dCons (dA (dLen 2 v_law_called_block) (dCons (d2 vIxA (dVar 10) (dC (.int 3))) (dCons (dVar 1) dNil))) dNil))))) [10]))
  (dsChg "list" 4 (dCons (dA vTup (dCons (d2 vIxA (dVar 1) (d2 vIxA (dVar 5) (dC (.int 0)))) (dCons (dVar 6) (dCons (dVar 8) (dCons (dA vTuple (dCons (dVar 9) dNil)) dNil))))) dNil) fApp)))))
  (dsRet (dA vTup (dCons (dLc (diL (d2 vIxA (dVar 0) (dC (.int 0)))) (gN 7) dYes (dA vTup (dCons (d2 vIxA (dVar 1) (d2 vIxA (dVar 7) (dC (.int 0)))) (dCons (d2 vIxA (dVar 7) (dC (.int 1))) dNil))) [7]) (dCons (dVar 4) dNil))))))))
theorem VB_law_called {c_law_called_block : Fn} {v_law_called_block : List D → VR D} (H_law_called_block : VFn [.b, .b] c_law_called_block v_law_called_block) : VS [.b, .a, .c, .c, .a, .c, .c, .c, .c, .c, .c] (b_law_called c_law_called_block) (vb_law_called v_law_called_block) :=
  (vs_seq (vs_setN 1 (vn_disp (vp_cons (ve_c (ic_str _)) (ve_c (ic_str _)) (vp_cons (ve_c (ic_str _)) (ve_c (ic_str _)) (vp_cons (ve_c (ic_str _)) (ve_c (ic_str _)) (vp_cons (ve_c (ic_str _)) (ve_c (ic_str _)) (vp_cons (ve_c (ic_str _)) (ve_c (ic_str _)) (vp_cons (ve_c (ic_str _)) (ve_c (ic_str _)) (vp_cons (ve_c (ic_str _)) (ve_c (ic_str _)) (vp_cons (ve_c (ic_str _)) (ve_c (ic_str _)) vp_nil))))))))))
  (vs_seq (vs_for (vi_tup (ve_b (ve_tup (vl_cons (ve_tup (vl_cons (ve_c (ic_str _)) (vl_cons (ve_c (ic_str _)) vl_nil))) (vl_cons (ve_tup (vl_cons (ve_c (ic_str _)) (vl_cons (ve_c (ic_str _)) vl_nil))) (vl_cons (ve_tup (vl_cons (ve_c (ic_str _)) (vl_cons (ve_c (ic_str _)) vl_nil))) (vl_cons (ve_tup (vl_cons (ve_c (ic_str _)) (vl_cons (ve_c (ic_str _)) vl_nil))) (vl_cons (ve_tup (vl_cons (ve_c (ic_str _)) (vl_cons (ve_c (ic_str _)) vl_nil))) vl_nil)))))))) (vg_tup [2, 3])
  (vs_itemA 1 (vb_var 2) (ve_var 3)))
  (vs_seq (vs_setN 4 (vn_lst vl_nil))
  (vs_seq (vs_for (vi_list (ve_2 ov_ixA (vb_var 0) (ve_b (ve_c (ic_int _))))) (vg_name 5)
  (vs_seq (vs_set 6 (ve_A oa_tuple (va_b (ve_b (vn_e (vn_lc (vi_b (vi_tup (ve_b (ve_2 ov_ixA (vb_var 5) (ve_b (ve_c (ic_int _))))))) (vg_name 7) vt_yes (ve_2 ov_add (ve_b (ve_tup (vl_cons (ve_2 ov_ixA (vb_var 1) (ve_b (ve_2 ov_ixA (vb_var 7) (ve_b (ve_c (ic_int _)))))) vl_nil))) (ve_b (ve_sl (vb_var 7) (vo_some (ve_b (ve_c (ic_int _)))) vo_none)))))) va_nil)))
  (vs_seq (vs_set 8 (ve_A oa_tuple (va_b (ve_b (vn_e (vn_lc (vi_b (vi_tup (ve_b (ve_2 ov_ixA (vb_var 5) (ve_b (ve_c (ic_int _))))))) (vg_name 7) vt_yes (ve_tup (vl_cons (ve_2 ov_ixA (vb_var 1) (ve_b (ve_2 ov_ixA (vb_var 7) (ve_b (ve_c (ic_int _)))))) (vl_cons (ve_2 ov_ixA (vb_var 7) (ve_b (ve_c (ic_int _)))) vl_nil)))))) va_nil)))
  (vs_seq (vs_set 9 (vn_e (vn_lc (vi_b (vi_tup (ve_b (ve_2 ov_ixA (vb_var 5) (ve_b (ve_c (ic_int _))))))) (vg_name 10) vt_yes (ve_tup (vl_cons (ve_2 ov_ixA (vb_var 1) (ve_b (ve_2 ov_ixA (vb_var 10) (ve_b (ve_c (ic_int _)))))) (vl_cons (ve_2 ov_ixA (vb_var 10) (ve_b (ve_c (ic_int _)))) (vl_cons (ve_2 ov_ixA (vb_var 10) (ve_b (ve_c (ic_int _)))) (vl_cons (ve_call H_law_called_block (va_b (ve_b (ve_2 ov_ixA (vb_var 10) (ve_b (ve_c (ic_int _))))) (va_b (vb_var 1) va_nil))) vl_nil))))))))
  (vs_append 4 (ve_tup (vl_cons (ve_2 ov_ixA (vb_var 1) (ve_b (ve_2 ov_ixA (vb_var 5) (ve_b (ve_c (ic_int _)))))) (vl_cons (ve_var 6) (vl_cons (ve_var 8) (vl_cons (ve_A oa_tuple (va_b (vb_var 9) va_nil)) vl_nil))))))))))
  (vs_ret (vf_tup (vaf_cons (ve_f (vn_e (vn_lc (vib_list (ve_b (ve_2 ov_ixA (vb_var 0) (ve_b (ve_c (ic_int _)))))) (vg_name 7) vt_yes (ve_tup (vl_cons (ve_2 ov_ixA (vb_var 1) (ve_b (ve_2 ov_ixA (vb_var 7) (ve_b (ve_c (ic_int _)))))) (vl_cons (ve_2 ov_ixA (vb_var 7) (ve_b (ve_c (ic_int _)))) vl_nil)))))) (vaf_cons (vf_var 4) vaf_nil))))))))
def v_law_called : List D → VR D := vrun 1 (vb_law_called (v_law_called_block D_law_called_block)) 11
theorem V_law_called : VFn [.b] f_law_called v_law_called := vfn_of (ms := [.b]) (md := [.a, .c, .c, .a, .c, .c, .c, .c, .c, .c]) (VB_law_called (V_law_called_block D_law_called_block)) rfl
def vb_House_init  : VSm :=
  (dsSeq (dsFld [7] ("assets" : Str) 0 (dVar 1))
  (dsFld [7] ("contracts" : Str) 0 (dVar 2)))
theorem VB_House_init    : VS [.a, .c, .c] (b_House_init ) (vb_House_init ) :=
  (vs_seq (vs_fld [7] ("assets" : Str) 0 (ve_var 1))
  (vs_fld [7] ("contracts" : Str) 0 (ve_var 2)))
def v_House_init : List D → VR D := vmake 7 3 (vb_House_init ) 3
theorem V_House_init : VMk 7 3 f_House_init v_House_init [.c, .c] := vmk_of (ms := [.c, .c]) (md := []) (VB_House_init ) (k_seq k_fld k_fld) rfl
def vb_law_made (v_House_init : List D → VR D) : VSm :=
  (dsRet (dA v_House_init (dCons (dA vTuple (dCons (d2 vIxA (dVar 0) (dC (.int 0))) dNil)) (dCons (dA vTuple (dCons (d2 vIxA (dVar 0) (dC (.int 1))) dNil)) dNil))))
theorem VB_law_made {c_House_init : Fn} {v_House_init : List D → VR D} (H_House_init : VMk 7 3 c_House_init v_House_init [.c, .c]) : VS [.b] (b_law_made c_House_init) (vb_law_made v_House_init) :=
  (vs_ret (ve_f (vn_e (vn_A H_House_init (va_c (ve_A oa_tuple (va_b (ve_b (ve_2 ov_ixA (vb_var 0) (ve_b (ve_c (ic_int _))))) va_nil)) (va_c (ve_A oa_tuple (va_b (ve_b (ve_2 ov_ixA (vb_var 0) (ve_b (ve_c (ic_int _))))) va_nil)) va_nil))))))
def v_law_made : List D → VR D := vrun 1 (vb_law_made v_House_init) 1
theorem V_law_made : VFn [.b] f_law_made v_law_made := vfn_of (ms := [.b]) (md := []) (VB_law_made (V_House_init)) rfl
def vb_law_guarding  : VSm :=
  (dsSeq (dsSet 3 (dLc (diL (d2 vIxA (dVar 1) (dC (.int 1)))) (gN 4) (dT (d2 vEq (d2 vIxA (dVar 4) (dC (.int 0))) (d2 vIxA (dVar 0) (dC (.int 1))))) (dVar 4) [4]))
  (dsSeq (dsIf (dAnd (dT (d2 vEq (d2 vIxA (dVar 0) (dC (.int 0))) (dC (.str ("hide" : Str))))) (dAnd (dT (d2 vEq (d2 vMod (dA vInt (dCons (dVar 2) dNil)) (dC (.int 2))) (dC (.int 1)))) (dT (d2 vGt (dA vLen (dCons (dVar 3) dNil)) (dC (.int 0))))))
  (dsSeq (dsSet 5 (dLc (diT (d2 vIxA (d2 vIxA (dVar 3) (dC (.int 0))) (dC (.int 3)))) (gN 6) dYes (d2 vIxA (dVar 6) (dC (.int 0))) [6]))
  (dsIf (dT (d2 vGt (dA vLen (dCons (dVar 5) dNil)) (dC (.int 0))))
  (dsRet (dA vTup (dCons (dC (.str ("hide" : Str))) (dCons (d2 vIxA (dVar 0) (dC (.int 1))) (dCons (d2 vIxA (dVar 5) (d2 vMod (d2 vFdiv (dA vInt (dCons (dVar 2) dNil)) (dC (.int 2))) (dA vLen (dCons (dVar 5) dNil)))) dNil))))) dsNil)) dsNil)
  (dsSeq (dsIf (dT (d2 vEq (d2 vIxA (dVar 0) (dC (.int 0))) (dC (.str ("floor" : Str)))))
  (dsSeq (dsSet 7 (d2 vIxA (dVar 0) (dC (.int 2))))
  (dsSeq (dsIf (dAnd (dT (d2 vEq (d2 vMod (dA vInt (dCons (dVar 2) dNil)) (dC (.int 2))) (dC (.int 1)))) (dT (d2 vGt (dA vLen (dCons (d2 vIxA (dVar 1) (dC (.int 0))) dNil)) (dC (.int 0)))))
  (dsSet 7 (d2 vIxA (d2 vIxA (d2 vIxA (dVar 1) (dC (.int 0))) (d2 vMod (d2 vFdiv (dA vInt (dCons (dVar 2) dNil)) (dC (.int 2))) (dA vLen (dCons (d2 vIxA (dVar 1) (dC (.int 0))) dNil)))) (dC (.int 0)))) dsNil)
  (dsRet (dA vTup (dCons (dC (.str ("floor" : Str))) (dCons (d2 vIxA (dVar 0) (dC (.int 1))) (dCons (dVar 7) (dCons (d2 vIxA (dA vTup (dCons (d2 vIxA (dVar 0) (dC (.int 3))) (dCons (d2 vIxA (dVar 0) (dC (.int 3))) (dCons (d1 vNeg (dC (.int 3))) (dCons (dC (.int 65535)) (dCons (dC (.int 65536)) (dCons (dC (.int 70000)) dNil))))))) (d2 vMod (d2 vFdiv (dA vInt (dCons (dVar 2) dNil)) (dC (.int 4))) (dC (.int 6)))) dNil)))))))) dsNil)
  (dsRet (dVar 0)))))
theorem VB_law_guarding    : VS [.c, .b, .b, .c, .c, .c, .c, .c] (b_law_guarding ) (vb_law_guarding ) :=
  (vs_seq (vs_set 3 (vn_e (vn_lc (vib_list (ve_b (ve_2 ov_ixA (vb_var 1) (ve_b (ve_c (ic_int _)))))) (vg_name 4) (vt_T (ve_b (ve_2 (ov_eqB false) (ve_b (ve_2 ov_ixA (vb_var 4) (ve_b (ve_c (ic_int _))))) (ve_b (ve_2 ov_ixA (vb_var 0) (ve_b (ve_c (ic_int _)))))))) (ve_var 4))))
  (vs_seq (vs_if (vt_and (vt_T (ve_b (ve_2 (ov_eqB false) (ve_b (ve_2 ov_ixA (vb_var 0) (ve_b (ve_c (ic_int _))))) (ve_b (ve_c (ic_str _)))))) (vt_and (vt_T (ve_b (ve_2 (ov_eqB false) (ve_b (ve_2 ov_mod (ve_b (ve_A oa_int (va_b (vb_var 2) va_nil))) (ve_b (ve_c (ic_int _))))) (ve_b (ve_c (ic_int _)))))) (vt_T (ve_b (ve_2 ov_gt (ve_b (ve_A oa_len (va_b (vb_var 3) va_nil))) (ve_b (ve_c (ic_int _))))))))
  (vs_seq (vs_set 5 (vn_e (vn_lc (vi_b (vi_tup (ve_b (ve_2 ov_ixA (ve_b (ve_2 ov_ixA (vb_var 3) (ve_b (ve_c (ic_int _))))) (ve_b (ve_c (ic_int _))))))) (vg_name 6) vt_yes (ve_2 ov_ixA (vb_var 6) (ve_b (ve_c (ic_int _)))))))
  (vs_if (vt_T (ve_b (ve_2 ov_gt (ve_b (ve_A oa_len (va_b (vb_var 5) va_nil))) (ve_b (ve_c (ic_int _))))))
  (vs_ret (vf_tup (vaf_cons (ve_f (ve_c (ic_str _))) (vaf_cons (ve_f (ve_2 ov_ixA (vb_var 0) (ve_b (ve_c (ic_int _))))) (vaf_cons (ve_f (ve_2 ov_ixA (vb_var 5) (ve_b (ve_2 ov_mod (ve_b (ve_2 ov_fdiv (ve_b (ve_A oa_int (va_b (vb_var 2) va_nil))) (ve_b (ve_c (ic_int _))))) (ve_b (ve_A oa_len (va_b (vb_var 5) va_nil))))))) vaf_nil))))) vs_nil)) vs_nil)
  (vs_seq (vs_if (vt_T (ve_b (ve_2 (ov_eqB false) (ve_b (ve_2 ov_ixA (vb_var 0) (ve_b (ve_c (ic_int _))))) (ve_b (ve_c (ic_str _))))))
  (vs_seq (vs_set 7 (ve_2 ov_ixA (vb_var 0) (ve_b (ve_c (ic_int _)))))
  (vs_seq (vs_if (vt_and (vt_T (ve_b (ve_2 (ov_eqB false) (ve_b (ve_2 ov_mod (ve_b (ve_A oa_int (va_b (vb_var 2) va_nil))) (ve_b (ve_c (ic_int _))))) (ve_b (ve_c (ic_int _)))))) (vt_T (ve_b (ve_2 ov_gt (ve_b (ve_A oa_len (va_b (ve_b (ve_2 ov_ixA (vb_var 1) (ve_b (ve_c (ic_int _))))) va_nil))) (ve_b (ve_c (ic_int _)))))))
  (vs_set 7 (ve_2 ov_ixA (ve_b (ve_2 ov_ixA (ve_b (ve_2 ov_ixA (vb_var 1) (ve_b (ve_c (ic_int _))))) (ve_b (ve_2 ov_mod (ve_b (ve_2 ov_fdiv (ve_b (ve_A oa_int (va_b (vb_var 2) va_nil))) (ve_b (ve_c (ic_int _))))) (ve_b (ve_A oa_len (va_b (ve_b (ve_2 ov_ixA (vb_var 1) (ve_b (ve_c (ic_int _))))) va_nil))))))) (ve_b (ve_c (ic_int _))))) vs_nil)
  (vs_ret (vf_tup (vaf_cons (ve_f (ve_c (ic_str _))) (vaf_cons (ve_f (ve_2 ov_ixA (vb_var 0) (ve_b (ve_c (ic_int _))))) (vaf_cons (vf_var 7) (vaf_cons (ve_f (ve_2 ov_ixA (ve_b (ve_tup (vl_cons (ve_2 ov_ixA (vb_var 0) (ve_b (ve_c (ic_int _)))) (vl_cons (ve_2 ov_ixA (vb_var 0) (ve_b (ve_c (ic_int _)))) (vl_cons (ve_neg (ve_b (ve_c (ic_int _)))) (vl_cons (ve_c (ic_int _)) (vl_cons (ve_c (ic_int _)) (vl_cons (ve_c (ic_int _)) vl_nil)))))))) (ve_b (ve_2 ov_mod (ve_b (ve_2 ov_fdiv (ve_b (ve_A oa_int (va_b (vb_var 2) va_nil))) (ve_b (ve_c (ic_int _))))) (ve_b (ve_c (ic_int _))))))) vaf_nil)))))))) vs_nil)
  (vs_ret (vf_var 0)))))
def v_law_guarding : List D → VR D := vrun 3 (vb_law_guarding ) 8
theorem V_law_guarding : VFn [.c, .b, .b] f_law_guarding v_law_guarding := vfn_of (ms := [.c, .b, .b]) (md := [.c, .c, .c, .c, .c]) (VB_law_guarding ) rfl
def vb_law_guard  : VSm :=
  (dsSeq (dsSet 2 (d2 vMod (dA vInt (dCons (dVar 0) dNil)) (dC (.int 3))))
  (dsSeq (dsSet 3 (d2 vFdiv (dA vInt (dCons (dVar 0) dNil)) (dC (.int 3))))
  (dsSeq (dsSet 4 (d2 vIxA (dC (.str ("cd" : Str))) (d2 vMod (dVar 3) (dC (.int 2)))))
  (dsSeq (dsIf (dT (d2 vGt (d2 vMod (d2 vFdiv (dVar 3) (dC (.int 2))) (dC (.int 4))) (dC (.int 0))))
  (dsSet 4 (d2 vIxA (d2 vIxA (d2 vIxA (dVar 1) (dC (.int 1))) (d2 vMod (d2 vFdiv (dVar 3) (dC (.int 2))) (dA vLen (dCons (d2 vIxA (dVar 1) (dC (.int 1))) dNil)))) (dC (.int 0)))) dsNil)
  (dsSeq (dsIf (dT (d2 vEq (dVar 2) (dC (.int 0))))
  (dsRet (dA vTup (dCons (dC (.str ("hide" : Str))) (dCons (dVar 4) (dCons (d2 vIxA (dC (.str ("pq" : Str))) (d2 vMod (d2 vFdiv (dVar 3) (dC (.int 24))) (dC (.int 2)))) dNil))))) dsNil)
  (dsSeq (dsIf (dT (d2 vEq (dVar 2) (dC (.int 1))))
  (dsRet (dA vTup (dCons (dC (.str ("lock" : Str))) (dCons (dVar 4) dNil)))) dsNil)
  (dsRet (dA vTup (dCons (dC (.str ("floor" : Str))) (dCons (dVar 4) (dCons (d2 vIxA (dC (.str ("ab" : Str))) (d2 vFdiv (d2 vMod (d2 vFdiv (dVar 3) (dC (.int 24))) (dC (.int 5))) (dC (.int 4)))) (dCons (d2 vMod (d2 vFdiv (dVar 3) (dC (.int 120))) (dC (.int 3))) dNil))))))))))))
theorem VB_law_guard    : VS [.b, .b, .c, .c, .c] (b_law_guard ) (vb_law_guard ) :=
  (vs_seq (vs_set 2 (ve_2 ov_mod (ve_b (ve_A oa_int (va_b (vb_var 0) va_nil))) (ve_b (ve_c (ic_int _)))))
  (vs_seq (vs_set 3 (ve_2 ov_fdiv (ve_b (ve_A oa_int (va_b (vb_var 0) va_nil))) (ve_b (ve_c (ic_int _)))))
  (vs_seq (vs_set 4 (ve_2 ov_ixA (ve_b (ve_c (ic_str _))) (ve_b (ve_2 ov_mod (vb_var 3) (ve_b (ve_c (ic_int _)))))))
  (vs_seq (vs_if (vt_T (ve_b (ve_2 ov_gt (ve_b (ve_2 ov_mod (ve_b (ve_2 ov_fdiv (vb_var 3) (ve_b (ve_c (ic_int _))))) (ve_b (ve_c (ic_int _))))) (ve_b (ve_c (ic_int _))))))
  (vs_set 4 (ve_2 ov_ixA (ve_b (ve_2 ov_ixA (ve_b (ve_2 ov_ixA (vb_var 1) (ve_b (ve_c (ic_int _))))) (ve_b (ve_2 ov_mod (ve_b (ve_2 ov_fdiv (vb_var 3) (ve_b (ve_c (ic_int _))))) (ve_b (ve_A oa_len (va_b (ve_b (ve_2 ov_ixA (vb_var 1) (ve_b (ve_c (ic_int _))))) va_nil))))))) (ve_b (ve_c (ic_int _))))) vs_nil)
  (vs_seq (vs_if (vt_T (ve_b (ve_2 (ov_eqB false) (vb_var 2) (ve_b (ve_c (ic_int _))))))
  (vs_ret (vf_tup (vaf_cons (ve_f (ve_c (ic_str _))) (vaf_cons (vf_var 4) (vaf_cons (ve_f (ve_2 ov_ixA (ve_b (ve_c (ic_str _))) (ve_b (ve_2 ov_mod (ve_b (ve_2 ov_fdiv (vb_var 3) (ve_b (ve_c (ic_int _))))) (ve_b (ve_c (ic_int _))))))) vaf_nil))))) vs_nil)
  (vs_seq (vs_if (vt_T (ve_b (ve_2 (ov_eqB false) (vb_var 2) (ve_b (ve_c (ic_int _))))))
  (vs_ret (vf_tup (vaf_cons (ve_f (ve_c (ic_str _))) (vaf_cons (vf_var 4) vaf_nil)))) vs_nil)
  (vs_ret (vf_tup (vaf_cons (ve_f (ve_c (ic_str _))) (vaf_cons (vf_var 4) (vaf_cons (ve_f (ve_2 ov_ixA (ve_b (ve_c (ic_str _))) (ve_b (ve_2 ov_fdiv (ve_b (ve_2 ov_mod (ve_b (ve_2 ov_fdiv (vb_var 3) (ve_b (ve_c (ic_int _))))) (ve_b (ve_c (ic_int _))))) (ve_b (ve_c (ic_int _))))))) (vaf_cons (ve_f (ve_2 ov_mod (ve_b (ve_2 ov_fdiv (vb_var 3) (ve_b (ve_c (ic_int _))))) (ve_b (ve_c (ic_int _))))) vaf_nil))))))))))))
def v_law_guard : List D → VR D := vrun 2 (vb_law_guard ) 5
theorem V_law_guard : VFn [.b, .b] f_law_guard v_law_guard := vfn_of (ms := [.b, .b]) (md := [.c, .c, .c]) (VB_law_guard ) rfl
def vb_law_fits  : VSm :=
  (dsSeq (dsFor (diL (d2 vIxA (dVar 0) (dC (.int 1)))) (gN 2)
  (dsIf (dT (d2 vEq (d2 vIxA (dVar 2) (dC (.int 0))) (d2 vIxA (dVar 1) (dC (.int 1)))))
  (dsSeq (dsIf (dT (d2 vEq (d2 vIxA (dVar 1) (dC (.int 0))) (dC (.str ("hide" : Str)))))
  (dsRet (d2 vIn (dA vTup (dCons (d2 vIxA (dVar 1) (dC (.int 2))) (dCons (dC (.bl true)) dNil))) (dLc (diT (d2 vIxA (dVar 2) (dC (.int 3)))) (gN 3) dYes (dA vTup (dCons (d2 vIxA (dVar 3) (dC (.int 0))) (dCons (d2 vIxA (dVar 3) (dC (.int 2))) dNil))) [3]))) dsNil)
  (dsSeq (dsIf (dT (d2 vEq (d2 vIxA (dVar 1) (dC (.int 0))) (dC (.str ("lock" : Str)))))
  (dsRet (d2 vNotIn (dC (.str ("lock" : Str))) (dLc (diT (d2 vIxA (dVar 2) (dC (.int 1)))) (gN 4) dYes (d2 vIxA (dVar 4) (dC (.int 0))) [4]))) dsNil)
  (dsRet (d2 vIn (d2 vIxA (dVar 1) (dC (.int 2))) (dLc (diL (d2 vIxA (dVar 0) (dC (.int 0)))) (gN 5) dYes (d2 vIxA (dVar 5) (dC (.int 0))) [5]))))) dsNil))
  (dsRet (dC (.bl false))))
theorem VB_law_fits    : VS [.b, .b, .c, .c, .c, .c] (b_law_fits ) (vb_law_fits ) :=
  (vs_seq (vs_for (vi_list (ve_2 ov_ixA (vb_var 0) (ve_b (ve_c (ic_int _))))) (vg_name 2)
  (vs_if (vt_T (ve_b (ve_2 (ov_eqB false) (ve_b (ve_2 ov_ixA (vb_var 2) (ve_b (ve_c (ic_int _))))) (ve_b (ve_2 ov_ixA (vb_var 1) (ve_b (ve_c (ic_int _))))))))
  (vs_seq (vs_if (vt_T (ve_b (ve_2 (ov_eqB false) (ve_b (ve_2 ov_ixA (vb_var 1) (ve_b (ve_c (ic_int _))))) (ve_b (ve_c (ic_str _))))))
  (vs_ret (ve_f (ve_2 (ov_inB false) (ve_b (ve_tup (vl_cons (ve_2 ov_ixA (vb_var 1) (ve_b (ve_c (ic_int _)))) (vl_cons (ve_c (ic_bl _)) vl_nil)))) (ve_b (vn_e (vn_lc (vi_b (vi_tup (ve_b (ve_2 ov_ixA (vb_var 2) (ve_b (ve_c (ic_int _))))))) (vg_name 3) vt_yes (ve_tup (vl_cons (ve_2 ov_ixA (vb_var 3) (ve_b (ve_c (ic_int _)))) (vl_cons (ve_2 ov_ixA (vb_var 3) (ve_b (ve_c (ic_int _)))) vl_nil))))))))) vs_nil)
  (vs_seq (vs_if (vt_T (ve_b (ve_2 (ov_eqB false) (ve_b (ve_2 ov_ixA (vb_var 1) (ve_b (ve_c (ic_int _))))) (ve_b (ve_c (ic_str _))))))
  (vs_ret (ve_f (ve_2 (ov_inB true) (ve_b (ve_c (ic_str _))) (ve_b (vn_e (vn_lc (vi_b (vi_tup (ve_b (ve_2 ov_ixA (vb_var 2) (ve_b (ve_c (ic_int _))))))) (vg_name 4) vt_yes (ve_2 ov_ixA (vb_var 4) (ve_b (ve_c (ic_int _)))))))))) vs_nil)
  (vs_ret (ve_f (ve_2 (ov_inB false) (ve_b (ve_2 ov_ixA (vb_var 1) (ve_b (ve_c (ic_int _))))) (ve_b (vn_e (vn_lc (vib_list (ve_b (ve_2 ov_ixA (vb_var 0) (ve_b (ve_c (ic_int _)))))) (vg_name 5) vt_yes (ve_2 ov_ixA (vb_var 5) (ve_b (ve_c (ic_int _)))))))))))) vs_nil))
  (vs_ret (ve_f (ve_c (ic_bl _)))))
def v_law_fits : List D → VR D := vrun 2 (vb_law_fits ) 6
theorem V_law_fits : VFn [.b, .b] f_law_fits v_law_fits := vfn_of (ms := [.b, .b]) (md := [.c, .c, .c, .c]) (VB_law_fits ) rfl
def vb_names_of  : VSm :=
  (dsRet (dLc (diB (dVar 0)) (gN 1) dYes (d2 vIxA (dVar 1) (dC (.int 0))) [1]))
theorem VB_names_of    : VS [.b, .c] (b_names_of ) (vb_names_of ) :=
  (vs_ret (ve_f (vn_e (vn_lc (vib_both (vb_var 0)) (vg_name 1) vt_yes (ve_2 ov_ixA (vb_var 1) (ve_b (ve_c (ic_int _))))))))
def v_names_of : List D → VR D := vrun 1 (vb_names_of ) 2
theorem V_names_of : VFn [.b] f_names_of v_names_of := vfn_of (ms := [.b]) (md := [.c]) (VB_names_of ) rfl
def vb_can_have (v_names_of : List D → VR D) : VSm :=
  (dsSeq (dsFor (diT (dFld [7] ("contracts" : Str) (dVar 0))) (gT [2, 3, 4, 5])
  (dsSeq (dsIf (dT (d2 vNe (dVar 2) (d2 vIxA (dVar 1) (dC (.int 1)))))
  dsCnt dsNil)
  (dsSeq (dsIf (dT (d2 vEq (d2 vIxA (dVar 1) (dC (.int 0))) (dC (.str ("hide" : Str)))))
  (dsRet (d2 vIn (d2 vIxA (dVar 1) (dC (.int 2))) (dA (dLen 1 v_names_of) (dCons (dLc (diT (dVar 5)) (gN 6) (dT (d2 vIxA (dVar 6) (dC (.int 2)))) (dVar 6) [6]) dNil)))) dsNil)
  (dsSeq (dsIf (dT (d2 vEq (d2 vIxA (dVar 1) (dC (.int 0))) (dC (.str ("lock" : Str)))))
  (dsRet (d2 vNotIn (dC (.str ("lock" : Str))) (dA (dLen 1 v_names_of) (dCons (dVar 3) dNil)))) dsNil)
  (dsRet (d2 vIn (d2 vIxA (dVar 1) (dC (.int 2))) (dA (dLen 1 v_names_of) (dCons (dFld [7] ("assets" : Str) (dVar 0)) dNil))))))))
  (dsRet (dC (.bl false))))
theorem VB_can_have {c_names_of : Fn} {v_names_of : List D → VR D} (H_names_of : VFn [.b] c_names_of v_names_of) : VS [.b, .b, .c, .c, .c, .c, .c] (b_can_have c_names_of) (vb_can_have v_names_of) :=
  (vs_seq (vs_for (vi_tup (ve_b (ve_fld (vb_var 0)))) (vg_tup [2, 3, 4, 5])
  (vs_seq (vs_if (vt_T (ve_b (ve_2 (ov_eqB true) (vb_var 2) (ve_b (ve_2 ov_ixA (vb_var 1) (ve_b (ve_c (ic_int _))))))))
  vs_cnt vs_nil)
  (vs_seq (vs_if (vt_T (ve_b (ve_2 (ov_eqB false) (ve_b (ve_2 ov_ixA (vb_var 1) (ve_b (ve_c (ic_int _))))) (ve_b (ve_c (ic_str _))))))
  (vs_ret (ve_f (ve_2 (ov_inB false) (ve_b (ve_2 ov_ixA (vb_var 1) (ve_b (ve_c (ic_int _))))) (ve_b (ve_call H_names_of (va_b (ve_b (vn_e (vn_lc (vi_b (vi_tup (vb_var 5))) (vg_name 6) (vt_T (ve_b (ve_2 ov_ixA (vb_var 6) (ve_b (ve_c (ic_int _)))))) (ve_var 6)))) va_nil)))))) vs_nil)
  (vs_seq (vs_if (vt_T (ve_b (ve_2 (ov_eqB false) (ve_b (ve_2 ov_ixA (vb_var 1) (ve_b (ve_c (ic_int _))))) (ve_b (ve_c (ic_str _))))))
  (vs_ret (ve_f (ve_2 (ov_inB true) (ve_b (ve_c (ic_str _))) (ve_b (ve_call H_names_of (va_b (vb_var 3) va_nil)))))) vs_nil)
  (vs_ret (ve_f (ve_2 (ov_inB false) (ve_b (ve_2 ov_ixA (vb_var 1) (ve_b (ve_c (ic_int _))))) (ve_b (ve_call H_names_of (va_b (ve_b (ve_fld (vb_var 0))) va_nil))))))))))
  (vs_ret (ve_f (ve_c (ic_bl _)))))
def v_can_have : List D → VR D := vrun 2 (vb_can_have v_names_of) 7
theorem V_can_have : VFn [.b, .b] f_can_have v_can_have := vfn_of (ms := [.b, .b]) (md := [.c, .c, .c, .c, .c]) (VB_can_have (V_names_of)) rfl
def vb_floor_check  : VSm :=
  (dsRet (dA vTup (dCons (dC (.str ("need" : Str))) (dCons (dA vTup (dCons (dC (.str ("=" : Str))) (dCons (dA vTup (dCons (dC (.str ("<" : Str))) (dCons (dA vTup (dCons (dC (.str ("have" : Str))) (dCons (dVar 0) dNil))) (dCons (dA vTup (dCons (dC (.str ("number" : Str))) (dCons (dVar 1) dNil))) dNil)))) (dCons (dA vTup (dCons (dC (.str ("number" : Str))) (dCons (dC (.int 0)) dNil))) dNil)))) dNil))))
theorem VB_floor_check    : VS [.c, .c] (b_floor_check ) (vb_floor_check ) :=
  (vs_ret (vf_tup (vaf_cons (ve_f (ve_c (ic_str _))) (vaf_cons (vf_tup (vaf_cons (ve_f (ve_c (ic_str _))) (vaf_cons (vf_tup (vaf_cons (ve_f (ve_c (ic_str _))) (vaf_cons (vf_tup (vaf_cons (ve_f (ve_c (ic_str _))) (vaf_cons (vf_var 0) vaf_nil))) (vaf_cons (vf_tup (vaf_cons (ve_f (ve_c (ic_str _))) (vaf_cons (vf_var 1) vaf_nil))) vaf_nil)))) (vaf_cons (vf_tup (vaf_cons (ve_f (ve_c (ic_str _))) (vaf_cons (ve_f (ve_c (ic_int _))) vaf_nil))) vaf_nil)))) vaf_nil))))
def v_floor_check : List D → VR D := vrun 2 (vb_floor_check ) 2
theorem V_floor_check : VFn [.c, .c] f_floor_check v_floor_check := vfn_of (ms := [.c, .c]) (md := []) (VB_floor_check ) rfl
def vb_guarded_contract (v_floor_check : List D → VR D) : VSm :=
  (dsSeq (dsUnp (gT [2, 3, 4, 5]) (dVar 0))
  (dsSeq (dsUnp (gT [6, 7]) (dA vTup (dCons (dA vTup dNil) (dCons (dA vTup dNil) dNil))))
  (dsSeq (dsIf (dT (d2 vIn (dA vTup (dCons (dC (.str ("lock" : Str))) (dCons (dVar 2) dNil))) (dVar 1)))
  (dsSeq (dsSet 3 (d2 vAdd (dVar 3) (dA vTup (dCons (dC DK_LOCK_VARIABLE) dNil))))
  (dsPar 6 7 (dCons (dC DK_LOCK_FRONT) (dCons (dC DK_LOCK_BEHIND) dNil)))) dsNil)
  (dsSeq (dsSet 8 (dLc (diL (dVar 1)) (gN 9) (dT (d2 vEq (dSl vSl (dVar 9) (fun _ => .ok none) (dSome (dC (.int 2)))) (dA vTup (dCons (dC (.str ("floor" : Str))) (dCons (dVar 2) dNil))))) (dA (dLen 2 v_floor_check) (dCons (d2 vIxA (dVar 9) (dC (.int 2))) (dCons (d2 vIxA (dVar 9) (dC (.int 3))) dNil))) [9]))
  (dsSeq (dsSet 7 (d2 vAdd (dVar 7) (dA vTuple (dCons (dVar 8) dNil))))
  (dsSeq (dsSet 10 (dA vLst dNil))
  (dsSeq (dsFor (diT (dVar 5)) (gT [11, 12, 13, 14])
  (dsSeq (dsIf (dT (dVar 13))
  (dsSet 14 (d2 vAdd (d2 vAdd (dVar 6) (dVar 14)) (dVar 7))) dsNil)
  (dsChg "list" 10 (dCons (dA vTup (dCons (dVar 11) (dCons (dVar 12) (dCons (wAnd (dVar 13) (d2 vNotIn (dA vTup (dCons (dC (.str ("hide" : Str))) (dCons (dVar 2) (dCons (dVar 11) dNil)))) (dVar 1))) (dCons (dVar 14) dNil))))) dNil) fApp)))
  (dsRet (dA vTup (dCons (dVar 2) (dCons (dVar 3) (dCons (dVar 4) (dCons (dA vTuple (dCons (dVar 10) dNil)) dNil)))))))))))))
theorem VB_guarded_contract {c_floor_check : Fn} {v_floor_check : List D → VR D} (H_floor_check : VFn [.c, .c] c_floor_check v_floor_check) : VS [.c, .b, .c, .c, .c, .c, .c, .c, .c, .c, .a, .c, .c, .c, .c] (b_guarded_contract c_floor_check) (vb_guarded_contract v_floor_check) :=
  (vs_seq (vs_unp (vg_tup [2, 3, 4, 5]) (ve_var 0))
  (vs_seq (vs_unp (vg_tup [6, 7]) (ve_tup (vl_cons (ve_tup vl_nil) (vl_cons (ve_tup vl_nil) vl_nil))))
  (vs_seq (vs_if (vt_T (ve_b (ve_2 (ov_inB false) (ve_b (ve_tup (vl_cons (ve_c (ic_str _)) (vl_cons (ve_var 2) vl_nil)))) (vb_var 1))))
  (vs_seq (vs_set 3 (ve_2 ov_add (vb_var 3) (ve_b (ve_tup (vl_cons (ve_c IC_LOCK_VARIABLE) vl_nil)))))
  (vs_par 6 7 (va_c (ve_c IC_LOCK_FRONT) (va_c (ve_c IC_LOCK_BEHIND) va_nil)))) vs_nil)
  (vs_seq (vs_set 8 (vn_e (vn_lc (vib_list (vb_var 1)) (vg_name 9) (vt_T (ve_b (ve_2 (ov_eqB false) (ve_b (ve_sl (vb_var 9) vo_none (vo_some (ve_b (ve_c (ic_int _)))))) (ve_b (ve_tup (vl_cons (ve_c (ic_str _)) (vl_cons (ve_var 2) vl_nil))))))) (ve_call H_floor_check (va_c (ve_2 ov_ixA (vb_var 9) (ve_b (ve_c (ic_int _)))) (va_c (ve_2 ov_ixA (vb_var 9) (ve_b (ve_c (ic_int _)))) va_nil))))))
  (vs_seq (vs_set 7 (ve_2 ov_add (vb_var 7) (ve_b (ve_A oa_tuple (va_b (vb_var 8) va_nil)))))
  (vs_seq (vs_setN 10 (vn_lst vl_nil))
  (vs_seq (vs_for (vi_tup (vb_var 5)) (vg_tup [11, 12, 13, 14])
  (vs_seq (vs_if (vt_T (vb_var 13))
  (vs_set 14 (ve_2 ov_add (ve_b (ve_2 ov_add (vb_var 6) (vb_var 14))) (vb_var 7))) vs_nil)
  (vs_append 10 (ve_tup (vl_cons (ve_var 11) (vl_cons (ve_var 12) (vl_cons (ve_and (ve_var 13) (ve_2 (ov_inB true) (ve_b (ve_tup (vl_cons (ve_c (ic_str _)) (vl_cons (ve_var 2) (vl_cons (ve_var 11) vl_nil))))) (vb_var 1))) (vl_cons (ve_var 14) vl_nil))))))))
  (vs_ret (vf_tup (vaf_cons (vf_var 2) (vaf_cons (vf_var 3) (vaf_cons (vf_var 4) (vaf_cons (ve_f (ve_A oa_tuple (va_b (vb_var 10) va_nil))) vaf_nil)))))))))))))
def v_guarded_contract : List D → VR D := vrun 2 (vb_guarded_contract v_floor_check) 15
theorem V_guarded_contract : VFn [.c, .b] f_guarded_contract v_guarded_contract := vfn_of (ms := [.c, .b]) (md := [.c, .c, .c, .c, .c, .c, .c, .c, .a, .c, .c, .c, .c]) (VB_guarded_contract (V_floor_check)) rfl
def vb_guarded (v_can_have : List D → VR D) (v_guarded_contract : List D → VR D) (v_House_init : List D → VR D) : VSm :=
  (dsSeq (dsForE (dVar 1) (gT [2, 3])
  (dsIf (dOr (dT (d2 vIn (dVar 3) (dSl vSlL (dVar 1) (fun _ => .ok none) (dSome (dVar 2))))) (dNot (dT (dA (dLen 2 v_can_have) (dCons (dVar 0) (dCons (dVar 3) dNil))))))
  (dsRaise 3 ("at" : Str) (dVar 2)) dsNil))
  (dsSeq (dsSet 4 (dLc (diT (dFld [7] ("contracts" : Str) (dVar 0))) (gN 5) dYes (dA (dLen 2 v_guarded_contract) (dCons (dVar 5) (dCons (dVar 1) dNil))) [5]))
  (dsRet (dA v_House_init (dCons (dFld [7] ("assets" : Str) (dVar 0)) (dCons (dA vTuple (dCons (dVar 4) dNil)) dNil))))))
theorem VB_guarded {c_can_have : Fn} {c_guarded_contract : Fn} {c_House_init : Fn} {v_can_have : List D → VR D} {v_guarded_contract : List D → VR D} {v_House_init : List D → VR D} (H_can_have : VFn [.b, .b] c_can_have v_can_have) (H_guarded_contract : VFn [.c, .b] c_guarded_contract v_guarded_contract) (H_House_init : VMk 7 3 c_House_init v_House_init [.c, .c]) : VS [.b, .b, .c, .c, .c, .c] (b_guarded c_can_have c_guarded_contract c_House_init) (vb_guarded v_can_have v_guarded_contract v_House_init) :=
  (vs_seq (vs_forEB 1 (vg_tup [2, 3])
  (vs_if (vt_or (vt_T (ve_b (ve_2 (ov_inB false) (vb_var 3) (ve_b (vn_e (vn_sl (vb_var 1) vo_none (vo_some (vb_var 2)))))))) (vt_not (vt_T (ve_b (ve_call H_can_have (va_b (vb_var 0) (va_b (vb_var 3) va_nil)))))))
  (vs_raise (ve_var 2)) vs_nil))
  (vs_seq (vs_set 4 (vn_e (vn_lc (vi_b (vi_tup (ve_b (ve_fld (vb_var 0))))) (vg_name 5) vt_yes (ve_call H_guarded_contract (va_c (ve_var 5) (va_b (vb_var 1) va_nil))))))
  (vs_ret (ve_f (vn_e (vn_A H_House_init (va_c (ve_fld (vb_var 0)) (va_c (ve_A oa_tuple (va_b (vb_var 4) va_nil)) va_nil))))))))
def v_guarded : List D → VR D := vrun 2 (vb_guarded v_can_have v_guarded_contract v_House_init) 6
theorem V_guarded : VFn [.b, .b] f_guarded v_guarded := vfn_of (ms := [.b, .b]) (md := [.c, .c, .c, .c]) (VB_guarded (V_can_have) (V_guarded_contract) (V_House_init)) rfl
def vb_law_is_integer  : VSm :=
  (dsRet (wAnd (dA vIsi (dCons (dVar 0) (dCons (dC (.cst (.ty "int"))) dNil))) (wNot (dA vIsi (dCons (dVar 0) (dCons (dC (.cst (.ty "bool"))) dNil))))))
theorem VB_law_is_integer    : VS [.b] (b_law_is_integer ) (vb_law_is_integer ) :=
  (vs_ret (ve_f (ve_and (ve_A oa_isi (va_b (vb_var 0) (va_b (ve_b (ve_c (ic_cst _))) va_nil))) (ve_not (ve_A oa_isi (va_b (vb_var 0) (va_b (ve_b (ve_c (ic_cst _))) va_nil)))))))
def v_law_is_integer : List D → VR D := vrun 1 (vb_law_is_integer ) 1
theorem V_law_is_integer : VFn [.b] f_law_is_integer v_law_is_integer := vfn_of (ms := [.b]) (md := []) (VB_law_is_integer ) rfl
def vb_law_fenced  : VSm :=
  (dsSeq (dsSet 2 (d2 vIxA (dVar 0) (dC (.int 3))))
  (dsSeq (dsSet 3 (dA vTup (dCons (dC (.str ("variable" : Str))) (dCons (dC (.str ("lock" : Str))) dNil))))
  (dsSeq (dsIf (dT (d2 vIn (dA vTup (dCons (dC (.str ("lock" : Str))) dNil)) (dLc (diL (dVar 1)) (gN 4) dYes (dSl vSl (dVar 4) (fun _ => .ok none) (dSome (dC (.int 1)))) [4])))
  (dsSeq (dsSet 2 (d2 vAdd (dA vTup (dCons (dA vTup (dCons (dC (.str ("need" : Str))) (dCons (dA vTup (dCons (dC (.str ("=" : Str))) (dCons (dVar 3) (dCons (dA vTup (dCons (dC (.str ("number" : Str))) (dCons (dC (.int 0)) dNil))) dNil)))) dNil))) (dCons (dA vTup (dCons (dC (.str ("set" : Str))) (dCons (dC (.str ("lock" : Str))) (dCons (dA vTup (dCons (dC (.str ("number" : Str))) (dCons (dC (.int 1)) dNil))) dNil)))) dNil))) (dVar 2)))
  (dsSet 2 (d2 vAdd (dVar 2) (dA vTup (dCons (dA vTup (dCons (dC (.str ("set" : Str))) (dCons (dC (.str ("lock" : Str))) (dCons (dA vTup (dCons (dC (.str ("number" : Str))) (dCons (dC (.int 0)) dNil))) dNil)))) dNil))))) dsNil)
  (dsSeq (dsFor (diL (dVar 1)) (gN 4)
  (dsIf (dT (d2 vEq (d2 vIxA (dVar 4) (dC (.int 0))) (dC (.str ("floor" : Str)))))
  (dsSeq (dsSet 5 (dA vTup (dCons (dC (.str ("<" : Str))) (dCons (dA vTup (dCons (dC (.str ("have" : Str))) (dCons (d2 vIxA (dVar 4) (dC (.int 2))) dNil))) (dCons (dA vTup (dCons (dC (.str ("number" : Str))) (dCons (d2 vIxA (dVar 4) (dC (.int 3))) dNil))) dNil)))))
  (dsSet 2 (d2 vAdd (dVar 2) (dA vTup (dCons (dA vTup (dCons (dC (.str ("need" : Str))) (dCons (dA vTup (dCons (dC (.str ("=" : Str))) (dCons (dVar 5) (dCons (dA vTup (dCons (dC (.str ("number" : Str))) (dCons (dC (.int 0)) dNil))) dNil)))) dNil))) dNil))))) dsNil))
  (dsSeq (dsSet 6 (dLc (diL (dVar 1)) (gN 4) (dT (d2 vEq (d2 vIxA (dVar 4) (dC (.int 0))) (dC (.str ("hide" : Str))))) (d2 vIxA (dVar 4) (dC (.int 2))) [4]))
  (dsRet (dA vTup (dCons (d2 vIxA (dVar 0) (dC (.int 0))) (dCons (d2 vIxA (dVar 0) (dC (.int 1))) (dCons (d2 vNotIn (d2 vIxA (dVar 0) (dC (.int 0))) (dVar 6)) (dCons (dVar 2) dNil)))))))))))
theorem VB_law_fenced    : VS [.b, .b, .c, .c, .c, .c, .c] (b_law_fenced ) (vb_law_fenced ) :=
  (vs_seq (vs_set 2 (ve_2 ov_ixA (vb_var 0) (ve_b (ve_c (ic_int _)))))
  (vs_seq (vs_set 3 (ve_tup (vl_cons (ve_c (ic_str _)) (vl_cons (ve_c (ic_str _)) vl_nil))))
  (vs_seq (vs_if (vt_T (ve_b (ve_2 (ov_inB false) (ve_b (ve_tup (vl_cons (ve_c (ic_str _)) vl_nil))) (ve_b (vn_e (vn_lc (vib_list (vb_var 1)) (vg_name 4) vt_yes (ve_sl (vb_var 4) vo_none (vo_some (ve_b (ve_c (ic_int _)))))))))))
  (vs_seq (vs_set 2 (ve_2 ov_add (ve_b (ve_tup (vl_cons (ve_tup (vl_cons (ve_c (ic_str _)) (vl_cons (ve_tup (vl_cons (ve_c (ic_str _)) (vl_cons (ve_var 3) (vl_cons (ve_tup (vl_cons (ve_c (ic_str _)) (vl_cons (ve_c (ic_int _)) vl_nil))) vl_nil)))) vl_nil))) (vl_cons (ve_tup (vl_cons (ve_c (ic_str _)) (vl_cons (ve_c (ic_str _)) (vl_cons (ve_tup (vl_cons (ve_c (ic_str _)) (vl_cons (ve_c (ic_int _)) vl_nil))) vl_nil)))) vl_nil)))) (vb_var 2)))
  (vs_set 2 (ve_2 ov_add (vb_var 2) (ve_b (ve_tup (vl_cons (ve_tup (vl_cons (ve_c (ic_str _)) (vl_cons (ve_c (ic_str _)) (vl_cons (ve_tup (vl_cons (ve_c (ic_str _)) (vl_cons (ve_c (ic_int _)) vl_nil))) vl_nil)))) vl_nil)))))) vs_nil)
  (vs_seq (vs_for (vi_listB 1) (vg_name 4)
  (vs_if (vt_T (ve_b (ve_2 (ov_eqB false) (ve_b (ve_2 ov_ixA (vb_var 4) (ve_b (ve_c (ic_int _))))) (ve_b (ve_c (ic_str _))))))
  (vs_seq (vs_set 5 (ve_tup (vl_cons (ve_c (ic_str _)) (vl_cons (ve_tup (vl_cons (ve_c (ic_str _)) (vl_cons (ve_2 ov_ixA (vb_var 4) (ve_b (ve_c (ic_int _)))) vl_nil))) (vl_cons (ve_tup (vl_cons (ve_c (ic_str _)) (vl_cons (ve_2 ov_ixA (vb_var 4) (ve_b (ve_c (ic_int _)))) vl_nil))) vl_nil)))))
  (vs_set 2 (ve_2 ov_add (vb_var 2) (ve_b (ve_tup (vl_cons (ve_tup (vl_cons (ve_c (ic_str _)) (vl_cons (ve_tup (vl_cons (ve_c (ic_str _)) (vl_cons (ve_var 5) (vl_cons (ve_tup (vl_cons (ve_c (ic_str _)) (vl_cons (ve_c (ic_int _)) vl_nil))) vl_nil)))) vl_nil))) vl_nil)))))) vs_nil))
  (vs_seq (vs_set 6 (vn_e (vn_lc (vib_list (vb_var 1)) (vg_name 4) (vt_T (ve_b (ve_2 (ov_eqB false) (ve_b (ve_2 ov_ixA (vb_var 4) (ve_b (ve_c (ic_int _))))) (ve_b (ve_c (ic_str _)))))) (ve_2 ov_ixA (vb_var 4) (ve_b (ve_c (ic_int _)))))))
  (vs_ret (vf_tup (vaf_cons (ve_f (ve_2 ov_ixA (vb_var 0) (ve_b (ve_c (ic_int _))))) (vaf_cons (ve_f (ve_2 ov_ixA (vb_var 0) (ve_b (ve_c (ic_int _))))) (vaf_cons (ve_f (ve_2 (ov_inB true) (ve_b (ve_2 ov_ixA (vb_var 0) (ve_b (ve_c (ic_int _))))) (vb_var 6))) (vaf_cons (vf_var 2) vaf_nil)))))))))))
def v_law_fenced : List D → VR D := vrun 2 (vb_law_fenced ) 7
theorem V_law_fenced : VFn [.b, .b] f_law_fenced v_law_fenced := vfn_of (ms := [.b, .b]) (md := [.c, .c, .c, .c, .c]) (VB_law_fenced ) rfl
def vb_law_guarded (v_law_fenced : List D → VR D) : VSm :=
  (dsSeq (dsSet 2 (dA vLst dNil))
  (dsSeq (dsFor (diL (d2 vIxA (dVar 0) (dC (.int 1)))) (gN 3)
  (dsSeq (dsSet 4 (dLc (diL (dVar 1)) (gN 5) (dT (d2 vEq (d2 vIxA (dVar 5) (dC (.int 1))) (d2 vIxA (dVar 3) (dC (.int 0))))) (dVar 5) [5]))
  (dsSeq (dsSet 6 (d2 vIxA (dVar 3) (dC (.int 1))))
  (dsSeq (dsIf (dT (d2 vIn (dA vTup (dCons (dC (.str ("lock" : Str))) dNil)) (dLc (diL (dVar 4)) (gN 5) dYes (dSl vSl (dVar 5) (fun _ => .ok none) (dSome (dC (.int 1)))) [5])))
  (dsSet 6 (d2 vAdd (dVar 6) (dA vTup (dCons (dA vTup (dCons (dC (.str ("lock" : Str))) (dCons (dC (.int 2)) (dCons (dC (.int 0)) dNil)))) dNil)))) dsNil)
  (dsSeq (dsSet 7 (dA vLst dNil))
  (dsSeq (dsFor (diT (d2 vIxA (dVar 3) (dC (.int 3)))) (gN 8)
  (dsIf (dT (d2 vIxA (dVar 8) (dC (.int 2))))
  (dsChg "list" 7 (dCons (dA (dLen 2 v_law_fenced) (dCons (dVar 8) (dCons (dVar 4) dNil))) dNil) fApp) (dsChg "list" 7 (dCons (dVar 8) dNil) fApp)))
  (dsChg "list" 2 (dCons (dA vTup (dCons (d2 vIxA (dVar 3) (dC (.int 0))) (dCons (dVar 6) (dCons (d2 vIxA (dVar 3) (dC (.int 2))) (dCons (dA vTuple (dCons (dVar 7) dNil)) dNil))))) dNil) fApp)))))))
  (dsRet (dA vTup (dCons (d2 vIxA (dVar 0) (dC (.int 0))) (dCons (dVar 2) dNil))))))
theorem VB_law_guarded {c_law_fenced : Fn} {v_law_fenced : List D → VR D} (H_law_fenced : VFn [.b, .b] c_law_fenced v_law_fenced) : VS [.b, .b, .a, .c, .c, .c, .c, .a, .c] (b_law_guarded c_law_fenced) (vb_law_guarded v_law_fenced) :=
  (vs_seq (vs_setN 2 (vn_lst vl_nil))
  (vs_seq (vs_for (vi_list (ve_2 ov_ixA (vb_var 0) (ve_b (ve_c (ic_int _))))) (vg_name 3)
  (vs_seq (vs_set 4 (vn_e (vn_lc (vib_list (vb_var 1)) (vg_name 5) (vt_T (ve_b (ve_2 (ov_eqB false) (ve_b (ve_2 ov_ixA (vb_var 5) (ve_b (ve_c (ic_int _))))) (ve_b (ve_2 ov_ixA (vb_var 3) (ve_b (ve_c (ic_int _)))))))) (ve_var 5))))
  (vs_seq (vs_set 6 (ve_2 ov_ixA (vb_var 3) (ve_b (ve_c (ic_int _)))))
  (vs_seq (vs_if (vt_T (ve_b (ve_2 (ov_inB false) (ve_b (ve_tup (vl_cons (ve_c (ic_str _)) vl_nil))) (ve_b (vn_e (vn_lc (vib_list (vb_var 4)) (vg_name 5) vt_yes (ve_sl (vb_var 5) vo_none (vo_some (ve_b (ve_c (ic_int _)))))))))))
  (vs_set 6 (ve_2 ov_add (vb_var 6) (ve_b (ve_tup (vl_cons (ve_tup (vl_cons (ve_c (ic_str _)) (vl_cons (ve_c (ic_int _)) (vl_cons (ve_c (ic_int _)) vl_nil)))) vl_nil))))) vs_nil)
  (vs_seq (vs_setN 7 (vn_lst vl_nil))
  (vs_seq (vs_for (vi_tup (ve_b (ve_2 ov_ixA (vb_var 3) (ve_b (ve_c (ic_int _)))))) (vg_name 8)
  (vs_if (vt_T (ve_b (ve_2 ov_ixA (vb_var 8) (ve_b (ve_c (ic_int _))))))
  (vs_append 7 (ve_call H_law_fenced (va_b (vb_var 8) (va_b (vb_var 4) va_nil)))) (vs_append 7 (ve_var 8))))
  (vs_append 2 (ve_tup (vl_cons (ve_2 ov_ixA (vb_var 3) (ve_b (ve_c (ic_int _)))) (vl_cons (ve_var 6) (vl_cons (ve_2 ov_ixA (vb_var 3) (ve_b (ve_c (ic_int _)))) (vl_cons (ve_A oa_tuple (va_b (vb_var 7) va_nil)) vl_nil))))))))))))
  (vs_ret (vf_tup (vaf_cons (ve_f (ve_2 ov_ixA (vb_var 0) (ve_b (ve_c (ic_int _))))) (vaf_cons (vf_var 2) vaf_nil))))))
def v_law_guarded : List D → VR D := vrun 2 (vb_law_guarded v_law_fenced) 9
theorem V_law_guarded : VFn [.b, .b] f_law_guarded v_law_guarded := vfn_of (ms := [.b, .b]) (md := [.a, .c, .c, .c, .c, .a, .c]) (VB_law_guarded (V_law_fenced)) rfl
def vb_law (v_law_house : List D → VR D) (v_law_cell : List D → VR D) (v_law_called : List D → VR D) (v_law_made : List D → VR D) (v_law_guard : List D → VR D) (v_law_guarding : List D → VR D) (v_law_fits : List D → VR D) (v_guarded : List D → VR D) (v_law_is_integer : List D → VR D) (v_law_guarded : List D → VR D) : VSm :=
  (dsSeq (dsSet 1 (dA (dLen 4 v_law_house) (dCons (dVar 0) (dCons (dC (.int 0)) (dCons (dC (.int 2)) (dCons (dC (.bl false)) dNil))))))
  (dsSeq (dsIf (dT (d2 vEq (d2 vMod (dA vInt (dCons (dA (dLen 2 v_law_cell) (dCons (dVar 0) (dCons (dC (.int 7)) dNil))) dNil)) (dC (.int 3))) (dC (.int 1))))
  (dsSet 1 (dA (dLen 1 v_law_called) (dCons (dVar 1) dNil))) dsNil)
  (dsSeq (dsSet 2 (dA (dLen 1 v_law_made) (dCons (dVar 1) dNil)))
  (dsSeq (dsSet 3 (dLc (diL (dSl vSlL (dVar 0) (dSome (dC (.int 8))) (dSome (dC (.int 14))))) (gN 4) dYes (dA (dLen 3 v_law_guarding) (dCons (dA (dLen 2 v_law_guard) (dCons (dVar 4) (dCons (dVar 1) dNil))) (dCons (dVar 1) (dCons (d2 vFdiv (dA vAbs (dCons (dVar 4) dNil)) (dC (.int 5))) dNil)))) [4]))
  (dsSeq (dsSet 5 (dA vList (dCons (dVar 3) dNil)))
  (dsSeq (dsSet 6 (dC (.non)))
  (dsSeq (dsFor (diR1 (dCons (dA vLen (dCons (dVar 3) dNil)) dNil)) (gN 7)
  (dsIf (dAnd (dT (d2 vIsN (dVar 6) (dC (.non)))) (dOr (dNot (dT (dA (dLen 2 v_law_fits) (dCons (dVar 1) (dCons (d2 vIxA (dVar 3) (dVar 7)) dNil))))) (dT (d2 vIn (d2 vIxA (dVar 3) (dVar 7)) (dSl vSlL (dVar 3) (fun _ => .ok none) (dSome (dVar 7)))))))
  (dsSet 6 (dVar 7)) dsNil))
  (dsSeq (dsTry 9 [3] [3] (dsSet 8 (dA (dLen 2 v_guarded) (dCons (dVar 2) (dCons (dVar 3) dNil))))
  (fun c fs => (dsSeq (dsIf (dOr (dT (dXi (decide (c ∈ ([] : List Nat))))) (dT (d2 vNe (dVar 3) (dVar 5))))
  (dsRet (dC (.bl false))) dsNil)
  (dsRet (wAnd (d2 vNotN (dVar 6) (dC (.non))) (wAnd (dXi (decide (c ∈ ([3] : List Nat)))) (wAnd (dA (dLen 1 v_law_is_integer) (dCons (dXf fs ("at" : Str)) dNil)) (d2 vEq (dXf fs ("at" : Str)) (dVar 6)))))))))
  (dsSeq (dsSet 10 (dA (dLen 2 v_law_guarded) (dCons (dVar 1) (dCons (dVar 3) dNil))))
  (dsSeq (dsIf (dOr (dT (d2 vNotN (dVar 6) (dC (.non)))) (dOr (dT (d2 vNe (dVar 3) (dVar 5))) (dNot (dT (d2 (vEq2 7 ("assets" : Str) ("contracts" : Str)) (dVar 2) (dA (dLen 1 v_law_made) (dCons (dVar 1) dNil)))))))
  (dsRet (dC (.bl false))) dsNil)
  (dsRet (wAnd (d2 vEq (dFld [7] ("assets" : Str) (dVar 8)) (dA vTuple (dCons (d2 vIxA (dVar 10) (dC (.int 0))) dNil))) (d2 vEq (dFld [7] ("contracts" : Str) (dVar 8)) (dA vTuple (dCons (d2 vIxA (dVar 10) (dC (.int 1))) dNil)))))))))))))))
theorem VB_law {c_law_house : Fn} {c_law_cell : Fn} {c_law_called : Fn} {c_law_made : Fn} {c_law_guarding : Fn} {c_law_guard : Fn} {c_law_fits : Fn} {c_guarded : Fn} {c_law_is_integer : Fn} {c_law_guarded : Fn} {v_law_house : List D → VR D} {v_law_cell : List D → VR D} {v_law_called : List D → VR D} {v_law_made : List D → VR D} {v_law_guard : List D → VR D} {v_law_guarding : List D → VR D} {v_law_fits : List D → VR D} {v_guarded : List D → VR D} {v_law_is_integer : List D → VR D} {v_law_guarded : List D → VR D} (H_law_house : VFn [.b, .b, .b, .b] c_law_house v_law_house) (H_law_cell : VFn [.b, .b] c_law_cell v_law_cell) (H_law_called : VFn [.b] c_law_called v_law_called) (H_law_made : VFn [.b] c_law_made v_law_made) (H_law_guard : VFn [.b, .b] c_law_guard v_law_guard) (H_law_guarding : VFn [.c, .b, .b] c_law_guarding v_law_guarding) (H_law_fits : VFn [.b, .b] c_law_fits v_law_fits) (H_guarded : VFn [.b, .b] c_guarded v_guarded) (H_law_is_integer : VFn [.b] c_law_is_integer v_law_is_integer) (H_law_guarded : VFn [.b, .b] c_law_guarded v_law_guarded) : VS [.b, .c, .c, .c, .c, .c, .c, .c, .c, .c, .c] (b_law c_law_house c_law_cell c_law_called c_law_made c_law_guarding c_law_guard c_law_fits c_guarded c_law_is_integer c_law_guarded) (vb_law v_law_house v_law_cell v_law_called v_law_made v_law_guard v_law_guarding v_law_fits v_guarded v_law_is_integer v_law_guarded) :=
  (vs_seq (vs_set 1 (ve_call H_law_house (va_b (vb_var 0) (va_b (ve_b (ve_c (ic_int _))) (va_b (ve_b (ve_c (ic_int _))) (va_b (ve_b (ve_c (ic_bl _))) va_nil))))))
  (vs_seq (vs_if (vt_T (ve_b (ve_2 (ov_eqB false) (ve_b (ve_2 ov_mod (ve_b (ve_A oa_int (va_b (ve_b (ve_call H_law_cell (va_b (vb_var 0) (va_b (ve_b (ve_c (ic_int _))) va_nil)))) va_nil))) (ve_b (ve_c (ic_int _))))) (ve_b (ve_c (ic_int _))))))
  (vs_set 1 (ve_call H_law_called (va_b (vb_var 1) va_nil))) vs_nil)
  (vs_seq (vs_set 2 (ve_call H_law_made (va_b (vb_var 1) va_nil)))
  (vs_seq (vs_set 3 (vn_e (vn_lc (vib_list (ve_b (vn_e (vn_sl (vb_var 0) (vo_some (ve_b (ve_c (ic_int _)))) (vo_some (ve_b (ve_c (ic_int _)))))))) (vg_name 4) vt_yes (ve_call H_law_guarding (va_c (ve_call H_law_guard (va_b (vb_var 4) (va_b (vb_var 1) va_nil))) (va_b (vb_var 1) (va_b (ve_b (ve_2 ov_fdiv (ve_b (ve_A oa_abs (va_b (vb_var 4) va_nil))) (ve_b (ve_c (ic_int _))))) va_nil)))))))
  (vs_seq (vs_set 5 (vn_e (vn_A on_list (va_b (vb_var 3) va_nil))))
  (vs_seq (vs_set 6 (ve_c ic_non))
  (vs_seq (vs_for (vi_r1 (va_b (ve_b (ve_A oa_len (va_b (vb_var 3) va_nil))) va_nil)) (vg_name 7)
  (vs_if (vt_and (vt_T (ve_b (ve_2 ov_isN (vb_var 6) (ve_b (ve_c ic_non))))) (vt_or (vt_not (vt_T (ve_b (ve_call H_law_fits (va_b (vb_var 1) (va_b (ve_b (ve_2 ov_ixA (vb_var 3) (vb_var 7))) va_nil)))))) (vt_T (ve_b (ve_2 (ov_inB false) (ve_b (ve_2 ov_ixA (vb_var 3) (vb_var 7))) (ve_b (vn_e (vn_sl (vb_var 3) vo_none (vo_some (vb_var 7))))))))))
  (vs_set 6 (ve_var 7)) vs_nil))
  (vs_seq (vs_try (i := 9) (vs_set 8 (ve_call H_guarded (va_b (vb_var 2) (va_b (vb_var 3) va_nil))))
  (fun c fs hfs => (vs_seq (vs_if (vt_or (vt_T (ve_b (ve_xi rfl))) (vt_T (ve_b (ve_2 (ov_eqB true) (vb_var 3) (vb_var 5)))))
  (vs_ret (ve_f (ve_c (ic_bl _)))) vs_nil)
  (vs_ret (ve_f (ve_and (ve_2 ov_notN (vb_var 6) (ve_b (ve_c ic_non))) (ve_and (ve_xi rfl) (ve_and (ve_call H_law_is_integer (va_b (ve_b (ve_xf hfs rfl)) va_nil)) (ve_2 (ov_eqB false) (ve_b (ve_xf hfs rfl)) (vb_var 6))))))))) (by decide) rfl)
  (vs_seq (vs_set 10 (ve_call H_law_guarded (va_b (vb_var 1) (va_b (vb_var 3) va_nil))))
  (vs_seq (vs_if (vt_or (vt_T (ve_b (ve_2 ov_notN (vb_var 6) (ve_b (ve_c ic_non))))) (vt_or (vt_T (ve_b (ve_2 (ov_eqB true) (vb_var 3) (vb_var 5)))) (vt_not (vt_T (ve_b (ve_2 ov_eq2 (vb_var 2) (ve_b (ve_call H_law_made (va_b (vb_var 1) va_nil)))))))))
  (vs_ret (ve_f (ve_c (ic_bl _)))) vs_nil)
  (vs_ret (ve_f (ve_and (ve_2 (ov_eqB false) (ve_b (ve_fld (vb_var 8))) (ve_b (ve_A oa_tuple (va_b (ve_b (ve_2 ov_ixA (vb_var 10) (ve_b (ve_c (ic_int _))))) va_nil)))) (ve_2 (ov_eqB false) (ve_b (ve_fld (vb_var 8))) (ve_b (ve_A oa_tuple (va_b (ve_b (ve_2 ov_ixA (vb_var 10) (ve_b (ve_c (ic_int _))))) va_nil)))))))))))))))))
def v_law : List D → VR D := vrun 1 (vb_law v_law_house v_law_cell v_law_called v_law_made v_law_guard v_law_guarding v_law_fits v_guarded v_law_is_integer v_law_guarded) 11
theorem V_law : VFn [.b] f_law v_law := vfn_of (ms := [.b]) (md := [.c, .c, .c, .c, .c, .c, .c, .c, .c, .c]) (VB_law (V_law_house) (V_law_cell) (V_law_called) (V_law_made) (V_law_guard) (V_law_guarding) (V_law_fits) (V_guarded) (V_law_is_integer) (V_law_guarded)) rfl
end
/-! the text as the top leaves it -/
theorem all_mk {P : Program} {w : World} {K : PySem.W.Frag} {h : Heap} {mg : Str → Option Value} {fa : Addr} (X : K.In h) (G : h.Ns mainGlobals mg) (hfa : mg "law" = some (.ref fa))
    {f0 : Addr} {od0 an0 : Option Addr} {sl0 : Array (Option Value)} {oc0 kV0 dc0 pm0 cd0 ct0 : Value}
    (l0 : K.lookup f0 = some ⟨oc0, od0, .func (PySem.W.fnOf ("__init__" : Str) ("House.__init__" : Str) (defArgs s_House_init) (defBody s_House_init) (defScope s_House_init) .none kV0 dc0 pm0 an0 cd0 ct0), sl0⟩) (c0 : PySem.W.codeIn K cd0 ("House.__init__" : Str) = true) (k0 : PySem.W.keepIn K (.ref f0) = true)
    {f1 : Addr} {od1 an1 : Option Addr} {sl1 : Array (Option Value)} {oc1 kV1 dc1 pm1 cd1 ct1 : Value}
    (a1 : PySem.W.nsIn K mainGlobals ("names_of" : Str) = some (some (.ref f1)))
    (l1 : K.lookup f1 = some ⟨oc1, od1, .func (PySem.W.fnOf ("names_of" : Str) ("names_of" : Str) (defArgs s_names_of) (defBody s_names_of) (defScope s_names_of) .none kV1 dc1 pm1 an1 cd1 ct1), sl1⟩) (c1 : PySem.W.codeIn K cd1 ("names_of" : Str) = true) (k1 : PySem.W.keepIn K (.ref f1) = true)
    {f2 : Addr} {od2 an2 : Option Addr} {sl2 : Array (Option Value)} {oc2 kV2 dc2 pm2 cd2 ct2 : Value}
    (a2 : PySem.W.nsIn K mainGlobals ("guarded" : Str) = some (some (.ref f2)))
    (l2 : K.lookup f2 = some ⟨oc2, od2, .func (PySem.W.fnOf ("guarded" : Str) ("guarded" : Str) (defArgs s_guarded) (defBody s_guarded) (defScope s_guarded) .none kV2 dc2 pm2 an2 cd2 ct2), sl2⟩) (c2 : PySem.W.codeIn K cd2 ("guarded" : Str) = true) (k2 : PySem.W.keepIn K (.ref f2) = true)
    {f3 : Addr} {od3 an3 : Option Addr} {sl3 : Array (Option Value)} {oc3 kV3 dc3 pm3 cd3 ct3 : Value}
    (a3 : PySem.W.nsIn K mainGlobals ("can_have" : Str) = some (some (.ref f3)))
    (l3 : K.lookup f3 = some ⟨oc3, od3, .func (PySem.W.fnOf ("can_have" : Str) ("can_have" : Str) (defArgs s_can_have) (defBody s_can_have) (defScope s_can_have) .none kV3 dc3 pm3 an3 cd3 ct3), sl3⟩) (c3 : PySem.W.codeIn K cd3 ("can_have" : Str) = true) (k3 : PySem.W.keepIn K (.ref f3) = true)
    {f4 : Addr} {od4 an4 : Option Addr} {sl4 : Array (Option Value)} {oc4 kV4 dc4 pm4 cd4 ct4 : Value}
    (a4 : PySem.W.nsIn K mainGlobals ("guarded_contract" : Str) = some (some (.ref f4)))
    (l4 : K.lookup f4 = some ⟨oc4, od4, .func (PySem.W.fnOf ("guarded_contract" : Str) ("guarded_contract" : Str) (defArgs s_guarded_contract) (defBody s_guarded_contract) (defScope s_guarded_contract) .none kV4 dc4 pm4 an4 cd4 ct4), sl4⟩) (c4 : PySem.W.codeIn K cd4 ("guarded_contract" : Str) = true) (k4 : PySem.W.keepIn K (.ref f4) = true)
    {f5 : Addr} {od5 an5 : Option Addr} {sl5 : Array (Option Value)} {oc5 kV5 dc5 pm5 cd5 ct5 : Value}
    (a5 : PySem.W.nsIn K mainGlobals ("floor_check" : Str) = some (some (.ref f5)))
    (l5 : K.lookup f5 = some ⟨oc5, od5, .func (PySem.W.fnOf ("floor_check" : Str) ("floor_check" : Str) (defArgs s_floor_check) (defBody s_floor_check) (defScope s_floor_check) .none kV5 dc5 pm5 an5 cd5 ct5), sl5⟩) (c5 : PySem.W.codeIn K cd5 ("floor_check" : Str) = true) (k5 : PySem.W.keepIn K (.ref f5) = true)
    {f6 : Addr} {od6 an6 : Option Addr} {sl6 : Array (Option Value)} {oc6 kV6 dc6 pm6 cd6 ct6 : Value}
    (a6 : PySem.W.nsIn K mainGlobals ("_law_cell" : Str) = some (some (.ref f6)))
    (l6 : K.lookup f6 = some ⟨oc6, od6, .func (PySem.W.fnOf ("_law_cell" : Str) ("_law_cell" : Str) (defArgs s_law_cell) (defBody s_law_cell) (defScope s_law_cell) .none kV6 dc6 pm6 an6 cd6 ct6), sl6⟩) (c6 : PySem.W.codeIn K cd6 ("_law_cell" : Str) = true) (k6 : PySem.W.keepIn K (.ref f6) = true)
    {f7 : Addr} {od7 an7 : Option Addr} {sl7 : Array (Option Value)} {oc7 kV7 dc7 pm7 cd7 ct7 : Value}
    (a7 : PySem.W.nsIn K mainGlobals ("_law_is_integer" : Str) = some (some (.ref f7)))
    (l7 : K.lookup f7 = some ⟨oc7, od7, .func (PySem.W.fnOf ("_law_is_integer" : Str) ("_law_is_integer" : Str) (defArgs s_law_is_integer) (defBody s_law_is_integer) (defScope s_law_is_integer) .none kV7 dc7 pm7 an7 cd7 ct7), sl7⟩) (c7 : PySem.W.codeIn K cd7 ("_law_is_integer" : Str) = true) (k7 : PySem.W.keepIn K (.ref f7) = true)
    {f8 : Addr} {od8 an8 : Option Addr} {sl8 : Array (Option Value)} {oc8 kV8 dc8 pm8 cd8 ct8 : Value}
    (a8 : PySem.W.nsIn K mainGlobals ("_law_row" : Str) = some (some (.ref f8)))
    (l8 : K.lookup f8 = some ⟨oc8, od8, .func (PySem.W.fnOf ("_law_row" : Str) ("_law_row" : Str) (defArgs s_law_row) (defBody s_law_row) (defScope s_law_row) .none kV8 dc8 pm8 an8 cd8 ct8), sl8⟩) (c8 : PySem.W.codeIn K cd8 ("_law_row" : Str) = true) (k8 : PySem.W.keepIn K (.ref f8) = true)
    {f9 : Addr} {od9 an9 : Option Addr} {sl9 : Array (Option Value)} {oc9 kV9 dc9 pm9 cd9 ct9 : Value}
    (a9 : PySem.W.nsIn K mainGlobals ("_law_expression" : Str) = some (some (.ref f9)))
    (l9 : K.lookup f9 = some ⟨oc9, od9, .func (PySem.W.fnOf ("_law_expression" : Str) ("_law_expression" : Str) (defArgs s_law_expression) (defBody s_law_expression) (defScope s_law_expression) .none kV9 dc9 pm9 an9 cd9 ct9), sl9⟩) (c9 : PySem.W.codeIn K cd9 ("_law_expression" : Str) = true) (k9 : PySem.W.keepIn K (.ref f9) = true)
    {f10 : Addr} {od10 an10 : Option Addr} {sl10 : Array (Option Value)} {oc10 kV10 dc10 pm10 cd10 ct10 : Value}
    (a10 : PySem.W.nsIn K mainGlobals ("_law_statement" : Str) = some (some (.ref f10)))
    (l10 : K.lookup f10 = some ⟨oc10, od10, .func (PySem.W.fnOf ("_law_statement" : Str) ("_law_statement" : Str) (defArgs s_law_statement) (defBody s_law_statement) (defScope s_law_statement) .none kV10 dc10 pm10 an10 cd10 ct10), sl10⟩) (c10 : PySem.W.codeIn K cd10 ("_law_statement" : Str) = true) (k10 : PySem.W.keepIn K (.ref f10) = true)
    {f11 : Addr} {od11 an11 : Option Addr} {sl11 : Array (Option Value)} {oc11 kV11 dc11 pm11 cd11 ct11 : Value}
    (a11 : PySem.W.nsIn K mainGlobals ("_law_body" : Str) = some (some (.ref f11)))
    (l11 : K.lookup f11 = some ⟨oc11, od11, .func (PySem.W.fnOf ("_law_body" : Str) ("_law_body" : Str) (defArgs s_law_body) (defBody s_law_body) (defScope s_law_body) .none kV11 dc11 pm11 an11 cd11 ct11), sl11⟩) (c11 : PySem.W.codeIn K cd11 ("_law_body" : Str) = true) (k11 : PySem.W.keepIn K (.ref f11) = true)
    {f12 : Addr} {od12 an12 : Option Addr} {sl12 : Array (Option Value)} {oc12 kV12 dc12 pm12 cd12 ct12 : Value}
    (a12 : PySem.W.nsIn K mainGlobals ("_law_contract" : Str) = some (some (.ref f12)))
    (l12 : K.lookup f12 = some ⟨oc12, od12, .func (PySem.W.fnOf ("_law_contract" : Str) ("_law_contract" : Str) (defArgs s_law_contract) (defBody s_law_contract) (defScope s_law_contract) .none kV12 dc12 pm12 an12 cd12 ct12), sl12⟩) (c12 : PySem.W.codeIn K cd12 ("_law_contract" : Str) = true) (k12 : PySem.W.keepIn K (.ref f12) = true)
    {f13 : Addr} {od13 an13 : Option Addr} {sl13 : Array (Option Value)} {oc13 kV13 dc13 pm13 cd13 ct13 : Value}
    (a13 : PySem.W.nsIn K mainGlobals ("_law_house" : Str) = some (some (.ref f13)))
    (l13 : K.lookup f13 = some ⟨oc13, od13, .func (PySem.W.fnOf ("_law_house" : Str) ("_law_house" : Str) (defArgs s_law_house) (defBody s_law_house) (defScope s_law_house) .none kV13 dc13 pm13 an13 cd13 ct13), sl13⟩) (c13 : PySem.W.codeIn K cd13 ("_law_house" : Str) = true) (k13 : PySem.W.keepIn K (.ref f13) = true)
    {f14 : Addr} {od14 an14 : Option Addr} {sl14 : Array (Option Value)} {oc14 kV14 dc14 pm14 cd14 ct14 : Value}
    (a14 : PySem.W.nsIn K mainGlobals ("_law_guard" : Str) = some (some (.ref f14)))
    (l14 : K.lookup f14 = some ⟨oc14, od14, .func (PySem.W.fnOf ("_law_guard" : Str) ("_law_guard" : Str) (defArgs s_law_guard) (defBody s_law_guard) (defScope s_law_guard) .none kV14 dc14 pm14 an14 cd14 ct14), sl14⟩) (c14 : PySem.W.codeIn K cd14 ("_law_guard" : Str) = true) (k14 : PySem.W.keepIn K (.ref f14) = true)
    {f15 : Addr} {od15 an15 : Option Addr} {sl15 : Array (Option Value)} {oc15 kV15 dc15 pm15 cd15 ct15 : Value}
    (a15 : PySem.W.nsIn K mainGlobals ("_law_fits" : Str) = some (some (.ref f15)))
    (l15 : K.lookup f15 = some ⟨oc15, od15, .func (PySem.W.fnOf ("_law_fits" : Str) ("_law_fits" : Str) (defArgs s_law_fits) (defBody s_law_fits) (defScope s_law_fits) .none kV15 dc15 pm15 an15 cd15 ct15), sl15⟩) (c15 : PySem.W.codeIn K cd15 ("_law_fits" : Str) = true) (k15 : PySem.W.keepIn K (.ref f15) = true)
    {f16 : Addr} {od16 an16 : Option Addr} {sl16 : Array (Option Value)} {oc16 kV16 dc16 pm16 cd16 ct16 : Value}
    (a16 : PySem.W.nsIn K mainGlobals ("_law_fenced" : Str) = some (some (.ref f16)))
    (l16 : K.lookup f16 = some ⟨oc16, od16, .func (PySem.W.fnOf ("_law_fenced" : Str) ("_law_fenced" : Str) (defArgs s_law_fenced) (defBody s_law_fenced) (defScope s_law_fenced) .none kV16 dc16 pm16 an16 cd16 ct16), sl16⟩) (c16 : PySem.W.codeIn K cd16 ("_law_fenced" : Str) = true) (k16 : PySem.W.keepIn K (.ref f16) = true)
    {f17 : Addr} {od17 an17 : Option Addr} {sl17 : Array (Option Value)} {oc17 kV17 dc17 pm17 cd17 ct17 : Value}
    (a17 : PySem.W.nsIn K mainGlobals ("_law_guarded" : Str) = some (some (.ref f17)))
    (l17 : K.lookup f17 = some ⟨oc17, od17, .func (PySem.W.fnOf ("_law_guarded" : Str) ("_law_guarded" : Str) (defArgs s_law_guarded) (defBody s_law_guarded) (defScope s_law_guarded) .none kV17 dc17 pm17 an17 cd17 ct17), sl17⟩) (c17 : PySem.W.codeIn K cd17 ("_law_guarded" : Str) = true) (k17 : PySem.W.keepIn K (.ref f17) = true)
    {f18 : Addr} {od18 an18 : Option Addr} {sl18 : Array (Option Value)} {oc18 kV18 dc18 pm18 cd18 ct18 : Value}
    (a18 : PySem.W.nsIn K mainGlobals ("_law_made" : Str) = some (some (.ref f18)))
    (l18 : K.lookup f18 = some ⟨oc18, od18, .func (PySem.W.fnOf ("_law_made" : Str) ("_law_made" : Str) (defArgs s_law_made) (defBody s_law_made) (defScope s_law_made) .none kV18 dc18 pm18 an18 cd18 ct18), sl18⟩) (c18 : PySem.W.codeIn K cd18 ("_law_made" : Str) = true) (k18 : PySem.W.keepIn K (.ref f18) = true)
    {f19 : Addr} {od19 an19 : Option Addr} {sl19 : Array (Option Value)} {oc19 kV19 dc19 pm19 cd19 ct19 : Value}
    (a19 : PySem.W.nsIn K mainGlobals ("_law_called" : Str) = some (some (.ref f19)))
    (l19 : K.lookup f19 = some ⟨oc19, od19, .func (PySem.W.fnOf ("_law_called" : Str) ("_law_called" : Str) (defArgs s_law_called) (defBody s_law_called) (defScope s_law_called) .none kV19 dc19 pm19 an19 cd19 ct19), sl19⟩) (c19 : PySem.W.codeIn K cd19 ("_law_called" : Str) = true) (k19 : PySem.W.keepIn K (.ref f19) = true)
    {f20 : Addr} {od20 an20 : Option Addr} {sl20 : Array (Option Value)} {oc20 kV20 dc20 pm20 cd20 ct20 : Value}
    (a20 : PySem.W.nsIn K mainGlobals ("_law_called_value" : Str) = some (some (.ref f20)))
    (l20 : K.lookup f20 = some ⟨oc20, od20, .func (PySem.W.fnOf ("_law_called_value" : Str) ("_law_called_value" : Str) (defArgs s_law_called_value) (defBody s_law_called_value) (defScope s_law_called_value) .none kV20 dc20 pm20 an20 cd20 ct20), sl20⟩) (c20 : PySem.W.codeIn K cd20 ("_law_called_value" : Str) = true) (k20 : PySem.W.keepIn K (.ref f20) = true)
    {f21 : Addr} {od21 an21 : Option Addr} {sl21 : Array (Option Value)} {oc21 kV21 dc21 pm21 cd21 ct21 : Value}
    (a21 : PySem.W.nsIn K mainGlobals ("_law_called_block" : Str) = some (some (.ref f21)))
    (l21 : K.lookup f21 = some ⟨oc21, od21, .func (PySem.W.fnOf ("_law_called_block" : Str) ("_law_called_block" : Str) (defArgs s_law_called_block) (defBody s_law_called_block) (defScope s_law_called_block) .none kV21 dc21 pm21 an21 cd21 ct21), sl21⟩) (c21 : PySem.W.codeIn K cd21 ("_law_called_block" : Str) = true) (k21 : PySem.W.keepIn K (.ref f21) = true)
    {f22 : Addr} {od22 an22 : Option Addr} {sl22 : Array (Option Value)} {oc22 kV22 dc22 pm22 cd22 ct22 : Value}
    (a22 : PySem.W.nsIn K mainGlobals ("_law_guarding" : Str) = some (some (.ref f22)))
    (l22 : K.lookup f22 = some ⟨oc22, od22, .func (PySem.W.fnOf ("_law_guarding" : Str) ("_law_guarding" : Str) (defArgs s_law_guarding) (defBody s_law_guarding) (defScope s_law_guarding) .none kV22 dc22 pm22 an22 cd22 ct22), sl22⟩) (c22 : PySem.W.codeIn K cd22 ("_law_guarding" : Str) = true) (k22 : PySem.W.keepIn K (.ref f22) = true)
    {f23 : Addr} {od23 an23 : Option Addr} {sl23 : Array (Option Value)} {oc23 kV23 dc23 pm23 cd23 ct23 : Value}
    (a23 : PySem.W.nsIn K mainGlobals ("law" : Str) = some (some (.ref f23)))
    (l23 : K.lookup f23 = some ⟨oc23, od23, .func (PySem.W.fnOf ("law" : Str) ("law" : Str) (defArgs s_law) (defBody s_law) (defScope s_law) .none kV23 dc23 pm23 an23 cd23 ct23), sl23⟩) (c23 : PySem.W.codeIn K cd23 ("law" : Str) = true) (k23 : PySem.W.keepIn K (.ref f23) = true)
    {f24 : Addr} {od24 an24 : Option Addr} {sl24 : Array (Option Value)} {oc24 kV24 dc24 pm24 cd24 ct24 : Value}
    (l24 : K.lookup f24 = some ⟨oc24, od24, .func (PySem.W.fnOf ("__init__" : Str) ("BadGuard.__init__" : Str) (defArgs s_BadGuard_init) (defBody s_BadGuard_init) (defScope s_BadGuard_init) .none kV24 dc24 pm24 an24 cd24 ct24), sl24⟩) (c24 : PySem.W.codeIn K cd24 ("BadGuard.__init__" : Str) = true) (k24 : PySem.W.keepIn K (.ref f24) = true)
    {f25 : Addr} {od25 an25 : Option Addr} {sl25 : Array (Option Value)} {oc25 kV25 dc25 pm25 cd25 ct25 : Value}
    (l25 : K.lookup f25 = some ⟨oc25, od25, .func (PySem.W.fnOf ("__eq__" : Str) ("House.__eq__" : Str) (defArgs s_House_eq) (defBody s_House_eq) (defScope s_House_eq) .none kV25 dc25 pm25 an25 cd25 ct25), sl25⟩) (c25 : PySem.W.codeIn K cd25 ("House.__eq__" : Str) = true) (k25 : PySem.W.keepIn K (.ref f25) = true)
    (z_abs : PySem.W.nsIn K mainGlobals "abs" = some none)
    (z_bool : PySem.W.nsIn K mainGlobals "bool" = some none)
    (z_enumerate : PySem.W.nsIn K mainGlobals "enumerate" = some none)
    (z_int : PySem.W.nsIn K mainGlobals "int" = some none)
    (z_isinstance : PySem.W.nsIn K mainGlobals "isinstance" = some none)
    (z_len : PySem.W.nsIn K mainGlobals "len" = some none)
    (z_list : PySem.W.nsIn K mainGlobals "list" = some none)
    (z_min : PySem.W.nsIn K mainGlobals "min" = some none)
    (z_range : PySem.W.nsIn K mainGlobals "range" = some none)
    (z_tuple : PySem.W.nsIn K mainGlobals "tuple" = some none)
    {a_LOCK_BEHIND_0 : Addr} {od_LOCK_BEHIND_0 : Option Addr} {sl_LOCK_BEHIND_0 : Array (Option Value)}
    (n_LOCK_BEHIND : PySem.W.nsIn K mainGlobals "LOCK_BEHIND" = some (some (.ref a_LOCK_BEHIND_0)))
    {a_LOCK_BEHIND_1 : Addr} {od_LOCK_BEHIND_1 : Option Addr} {sl_LOCK_BEHIND_1 : Array (Option Value)}
    {t_LOCK_BEHIND_1_0 : Tok}
    {t_LOCK_BEHIND_1_1 : Tok}
    {a_LOCK_BEHIND_2 : Addr} {od_LOCK_BEHIND_2 : Option Addr} {sl_LOCK_BEHIND_2 : Array (Option Value)}
    {t_LOCK_BEHIND_2_0 : Tok}
    {t_LOCK_BEHIND_2_1 : Tok}
    (lo_LOCK_BEHIND_2 : K.lookup a_LOCK_BEHIND_2 = some ⟨.type "tuple", od_LOCK_BEHIND_2, .seq #[.str ("number" : Str) t_LOCK_BEHIND_2_0, .int (0) t_LOCK_BEHIND_2_1], sl_LOCK_BEHIND_2⟩)
    (q_LOCK_BEHIND_2 : nestOk (⟨.type "tuple", od_LOCK_BEHIND_2, .seq #[.str ("number" : Str) t_LOCK_BEHIND_2_0, .int (0) t_LOCK_BEHIND_2_1], sl_LOCK_BEHIND_2⟩ : Obj) [.inl (Va.str ("number" : Str)), .inl (Va.int 0)] = true)
    (lo_LOCK_BEHIND_1 : K.lookup a_LOCK_BEHIND_1 = some ⟨.type "tuple", od_LOCK_BEHIND_1, .seq #[.str ("set" : Str) t_LOCK_BEHIND_1_0, .str ("lock" : Str) t_LOCK_BEHIND_1_1, .ref a_LOCK_BEHIND_2], sl_LOCK_BEHIND_1⟩)
    (q_LOCK_BEHIND_1 : nestOk (⟨.type "tuple", od_LOCK_BEHIND_1, .seq #[.str ("set" : Str) t_LOCK_BEHIND_1_0, .str ("lock" : Str) t_LOCK_BEHIND_1_1, .ref a_LOCK_BEHIND_2], sl_LOCK_BEHIND_1⟩ : Obj) [.inl (Va.str ("set" : Str)), .inl (Va.str ("lock" : Str)), .inr ((Va.ktp [(Va.str ("number" : Str)), (Va.int 0)]), a_LOCK_BEHIND_2)] = true)
    (lo_LOCK_BEHIND_0 : K.lookup a_LOCK_BEHIND_0 = some ⟨.type "tuple", od_LOCK_BEHIND_0, .seq #[.ref a_LOCK_BEHIND_1], sl_LOCK_BEHIND_0⟩)
    (q_LOCK_BEHIND_0 : nestOk (⟨.type "tuple", od_LOCK_BEHIND_0, .seq #[.ref a_LOCK_BEHIND_1], sl_LOCK_BEHIND_0⟩ : Obj) [.inr ((Va.ktp [(Va.str ("set" : Str)), (Va.str ("lock" : Str)), (Va.ktp [(Va.str ("number" : Str)), (Va.int 0)])]), a_LOCK_BEHIND_1)] = true)
    {a_LOCK_FRONT_0 : Addr} {od_LOCK_FRONT_0 : Option Addr} {sl_LOCK_FRONT_0 : Array (Option Value)}
    (n_LOCK_FRONT : PySem.W.nsIn K mainGlobals "LOCK_FRONT" = some (some (.ref a_LOCK_FRONT_0)))
    {a_LOCK_FRONT_1 : Addr} {od_LOCK_FRONT_1 : Option Addr} {sl_LOCK_FRONT_1 : Array (Option Value)}
    {t_LOCK_FRONT_1_0 : Tok}
    {a_LOCK_FRONT_2 : Addr} {od_LOCK_FRONT_2 : Option Addr} {sl_LOCK_FRONT_2 : Array (Option Value)}
    {t_LOCK_FRONT_2_0 : Tok}
    {a_LOCK_FRONT_3 : Addr} {od_LOCK_FRONT_3 : Option Addr} {sl_LOCK_FRONT_3 : Array (Option Value)}
    {t_LOCK_FRONT_3_0 : Tok}
    {t_LOCK_FRONT_3_1 : Tok}
    (lo_LOCK_FRONT_3 : K.lookup a_LOCK_FRONT_3 = some ⟨.type "tuple", od_LOCK_FRONT_3, .seq #[.str ("variable" : Str) t_LOCK_FRONT_3_0, .str ("lock" : Str) t_LOCK_FRONT_3_1], sl_LOCK_FRONT_3⟩)
    (q_LOCK_FRONT_3 : nestOk (⟨.type "tuple", od_LOCK_FRONT_3, .seq #[.str ("variable" : Str) t_LOCK_FRONT_3_0, .str ("lock" : Str) t_LOCK_FRONT_3_1], sl_LOCK_FRONT_3⟩ : Obj) [.inl (Va.str ("variable" : Str)), .inl (Va.str ("lock" : Str))] = true)
    {a_LOCK_FRONT_4 : Addr} {od_LOCK_FRONT_4 : Option Addr} {sl_LOCK_FRONT_4 : Array (Option Value)}
    {t_LOCK_FRONT_4_0 : Tok}
    {t_LOCK_FRONT_4_1 : Tok}
    (lo_LOCK_FRONT_4 : K.lookup a_LOCK_FRONT_4 = some ⟨.type "tuple", od_LOCK_FRONT_4, .seq #[.str ("number" : Str) t_LOCK_FRONT_4_0, .int (0) t_LOCK_FRONT_4_1], sl_LOCK_FRONT_4⟩)
    (q_LOCK_FRONT_4 : nestOk (⟨.type "tuple", od_LOCK_FRONT_4, .seq #[.str ("number" : Str) t_LOCK_FRONT_4_0, .int (0) t_LOCK_FRONT_4_1], sl_LOCK_FRONT_4⟩ : Obj) [.inl (Va.str ("number" : Str)), .inl (Va.int 0)] = true)
    (lo_LOCK_FRONT_2 : K.lookup a_LOCK_FRONT_2 = some ⟨.type "tuple", od_LOCK_FRONT_2, .seq #[.str ("=" : Str) t_LOCK_FRONT_2_0, .ref a_LOCK_FRONT_3, .ref a_LOCK_FRONT_4], sl_LOCK_FRONT_2⟩)
    (q_LOCK_FRONT_2 : nestOk (⟨.type "tuple", od_LOCK_FRONT_2, .seq #[.str ("=" : Str) t_LOCK_FRONT_2_0, .ref a_LOCK_FRONT_3, .ref a_LOCK_FRONT_4], sl_LOCK_FRONT_2⟩ : Obj) [.inl (Va.str ("=" : Str)), .inr ((Va.ktp [(Va.str ("variable" : Str)), (Va.str ("lock" : Str))]), a_LOCK_FRONT_3), .inr ((Va.ktp [(Va.str ("number" : Str)), (Va.int 0)]), a_LOCK_FRONT_4)] = true)
    (lo_LOCK_FRONT_1 : K.lookup a_LOCK_FRONT_1 = some ⟨.type "tuple", od_LOCK_FRONT_1, .seq #[.str ("need" : Str) t_LOCK_FRONT_1_0, .ref a_LOCK_FRONT_2], sl_LOCK_FRONT_1⟩)
    (q_LOCK_FRONT_1 : nestOk (⟨.type "tuple", od_LOCK_FRONT_1, .seq #[.str ("need" : Str) t_LOCK_FRONT_1_0, .ref a_LOCK_FRONT_2], sl_LOCK_FRONT_1⟩ : Obj) [.inl (Va.str ("need" : Str)), .inr ((Va.ktp [(Va.str ("=" : Str)), (Va.ktp [(Va.str ("variable" : Str)), (Va.str ("lock" : Str))]), (Va.ktp [(Va.str ("number" : Str)), (Va.int 0)])]), a_LOCK_FRONT_2)] = true)
    {a_LOCK_FRONT_5 : Addr} {od_LOCK_FRONT_5 : Option Addr} {sl_LOCK_FRONT_5 : Array (Option Value)}
    {t_LOCK_FRONT_5_0 : Tok}
    {t_LOCK_FRONT_5_1 : Tok}
    {a_LOCK_FRONT_6 : Addr} {od_LOCK_FRONT_6 : Option Addr} {sl_LOCK_FRONT_6 : Array (Option Value)}
    {t_LOCK_FRONT_6_0 : Tok}
    {t_LOCK_FRONT_6_1 : Tok}
    (lo_LOCK_FRONT_6 : K.lookup a_LOCK_FRONT_6 = some ⟨.type "tuple", od_LOCK_FRONT_6, .seq #[.str ("number" : Str) t_LOCK_FRONT_6_0, .int (1) t_LOCK_FRONT_6_1], sl_LOCK_FRONT_6⟩)
    (q_LOCK_FRONT_6 : nestOk (⟨.type "tuple", od_LOCK_FRONT_6, .seq #[.str ("number" : Str) t_LOCK_FRONT_6_0, .int (1) t_LOCK_FRONT_6_1], sl_LOCK_FRONT_6⟩ : Obj) [.inl (Va.str ("number" : Str)), .inl (Va.int 1)] = true)
    (lo_LOCK_FRONT_5 : K.lookup a_LOCK_FRONT_5 = some ⟨.type "tuple", od_LOCK_FRONT_5, .seq #[.str ("set" : Str) t_LOCK_FRONT_5_0, .str ("lock" : Str) t_LOCK_FRONT_5_1, .ref a_LOCK_FRONT_6], sl_LOCK_FRONT_5⟩)
    (q_LOCK_FRONT_5 : nestOk (⟨.type "tuple", od_LOCK_FRONT_5, .seq #[.str ("set" : Str) t_LOCK_FRONT_5_0, .str ("lock" : Str) t_LOCK_FRONT_5_1, .ref a_LOCK_FRONT_6], sl_LOCK_FRONT_5⟩ : Obj) [.inl (Va.str ("set" : Str)), .inl (Va.str ("lock" : Str)), .inr ((Va.ktp [(Va.str ("number" : Str)), (Va.int 1)]), a_LOCK_FRONT_6)] = true)
    (lo_LOCK_FRONT_0 : K.lookup a_LOCK_FRONT_0 = some ⟨.type "tuple", od_LOCK_FRONT_0, .seq #[.ref a_LOCK_FRONT_1, .ref a_LOCK_FRONT_5], sl_LOCK_FRONT_0⟩)
    (q_LOCK_FRONT_0 : nestOk (⟨.type "tuple", od_LOCK_FRONT_0, .seq #[.ref a_LOCK_FRONT_1, .ref a_LOCK_FRONT_5], sl_LOCK_FRONT_0⟩ : Obj) [.inr ((Va.ktp [(Va.str ("need" : Str)), (Va.ktp [(Va.str ("=" : Str)), (Va.ktp [(Va.str ("variable" : Str)), (Va.str ("lock" : Str))]), (Va.ktp [(Va.str ("number" : Str)), (Va.int 0)])])]), a_LOCK_FRONT_1), .inr ((Va.ktp [(Va.str ("set" : Str)), (Va.str ("lock" : Str)), (Va.ktp [(Va.str ("number" : Str)), (Va.int 1)])]), a_LOCK_FRONT_5)] = true)
    {a_LOCK_VARIABLE_0 : Addr} {od_LOCK_VARIABLE_0 : Option Addr} {sl_LOCK_VARIABLE_0 : Array (Option Value)}
    (n_LOCK_VARIABLE : PySem.W.nsIn K mainGlobals "LOCK_VARIABLE" = some (some (.ref a_LOCK_VARIABLE_0)))
    {t_LOCK_VARIABLE_0_0 : Tok}
    {t_LOCK_VARIABLE_0_1 : Tok}
    {t_LOCK_VARIABLE_0_2 : Tok}
    (lo_LOCK_VARIABLE_0 : K.lookup a_LOCK_VARIABLE_0 = some ⟨.type "tuple", od_LOCK_VARIABLE_0, .seq #[.str ("lock" : Str) t_LOCK_VARIABLE_0_0, .int (2) t_LOCK_VARIABLE_0_1, .int (0) t_LOCK_VARIABLE_0_2], sl_LOCK_VARIABLE_0⟩)
    (q_LOCK_VARIABLE_0 : nestOk (⟨.type "tuple", od_LOCK_VARIABLE_0, .seq #[.str ("lock" : Str) t_LOCK_VARIABLE_0_0, .int (2) t_LOCK_VARIABLE_0_1, .int (0) t_LOCK_VARIABLE_0_2], sl_LOCK_VARIABLE_0⟩ : Obj) [.inl (Va.str ("lock" : Str)), .inl (Va.int 2), .inl (Va.int 0)] = true)
    {C7 : Addr}
    (aC7 : PySem.W.nsIn K mainGlobals ("House" : Str) = some (some (.ref C7)))
    (pg7 : PySem.W.plainGet K C7 PySem.Str.empty = true)
    (hd7 : PySem.W.hasDictIn K C7 = true)
    (po7 : PySem.W.plainOver K C7 = true)
    (sa7 : PySem.W.findIn K (.ref C7) "__setattr__" = some (some (.builtin "object.__setattr__")))
    (mk7 : PySem.W.makesIn K C7 = true)
    (kc7 : PySem.W.keepIn K (.ref C7) = true)
    (at0 : PySem.W.findIn K (.ref C7) ("__init__" : Str) = some (some (.ref f0)))
    (fn0 : PySem.W.isFn K (.ref f0) = true)
    (at25 : PySem.W.findIn K (.ref C7) "__eq__" = some (some (.ref f25)))
    (fn25 : PySem.W.isFn K (.ref f25) = true)
    (ke7 : PySem.W.kitOne K (.ref C7) (.ref C7) = some true)
    (ca7 : PySem.W.findIn K (.ref C7) "__class__" = some (some (.builtin "object.__class__")))
    (mr7 : PySem.W.mroIn K C7 (.type "object") = some true)
    (no7_assets : PySem.W.findIn K (.ref C7) ("assets" : Str) = some none)
    (no7_contracts : PySem.W.findIn K (.ref C7) ("contracts" : Str) = some none)
    (gsn : PySem.W.specialIn K (.builtin "object.__class__") "__get__" = some (some (.builtin "getset_descriptor.__get__")))
    (gst : PySem.W.takesIn K (.builtin "object.__class__") = some true)
    {C0 : Addr}
    (aC0 : PySem.W.nsIn K mainGlobals ("HouseError" : Str) = some (some (.ref C0)))
    {C1 : Addr}
    (aC1 : PySem.W.nsIn K mainGlobals ("BadText" : Str) = some (some (.ref C1)))
    {C2 : Addr}
    (aC2 : PySem.W.nsIn K mainGlobals ("BadAct" : Str) = some (some (.ref C2)))
    {C3 : Addr}
    (aC3 : PySem.W.nsIn K mainGlobals ("BadGuard" : Str) = some (some (.ref C3)))
    {C4 : Addr}
    (aC4 : PySem.W.nsIn K mainGlobals ("BadPaper" : Str) = some (some (.ref C4)))
    {C5 : Addr}
    (aC5 : PySem.W.nsIn K mainGlobals ("TooLarge" : Str) = some (some (.ref C5)))
    {C6 : Addr}
    (aC6 : PySem.W.nsIn K mainGlobals ("BadHouse" : Str) = some (some (.ref C6)))
    {nm3 q3 : Str} {N3 : Addr} {bs3 bm3 : List Value} {sn3 : List Str} {sub3 : List Value} {ab3 : Bool} {col3 : Option Bool} {dd3 : Option Addr} {u0_3 u1_3 u2_3 u3_3 u5_3 : Option Value}
    (xL3 : K.lookup C3 = some (excClassObj nm3 q3 C3 N3 bs3 bm3 true sn3 sub3 ab3 col3 dd3 u0_3 u1_3 u2_3 u3_3 u5_3 "ValueError.__new__"))
    (xR3 : PySem.HandSPX.refsVE bm3 = true)
    (xs3 : PySem.W.findIn K (.ref C3) "__setattr__" = some (some (.builtin "object.__setattr__")))
    (xb3 : PySem.W.subIn K (.ref C3) (.type "BaseException") = some true)
    (xt3 : PySem.W.typeIn K (.ref C3) = some (.type "type"))
    (xk3 : PySem.W.keepIn K (.ref C3) = true)
    (xn3 : PySem.W.findIn K (.ref C3) ("at" : Str) = some none)
    (xi3 : PySem.W.findIn K (.ref C3) "__init__" = some (some (.ref f24)))
    (xy3 : PySem.W.typeIn K (.ref f24) = some (.type "function"))
    (xga3 : PySem.W.findIn K (.ref C3) "__getattribute__" = some (some (.builtin "BaseException.__getattribute__")))
    (xgg3 : PySem.W.findIn K (.ref C3) "__getattr__" = some none)
    (xhd3 : PySem.W.hasDictIn K C3 = true)
    (xca3 : PySem.W.findIn K (.ref C3) "__class__" = some (some (.builtin "object.__class__")))
    (xmr3 : PySem.W.mroIn K C3 (.type "object") = some true)
    (xe3_HouseError : PySem.W.exmOne K (.ref C3) (.ref C0) = some true)
    (xit_BadAct_BadHouse_BadPaper_BadText_TooLarge_3 : PySem.W.kitAny K (.ref C3) [.ref C2, .ref C6, .ref C4, .ref C1, .ref C5] = some false)
    (xi13_BadGuard : PySem.W.kitOne K (.ref C3) (.ref C3) = some true)
    {CB : Addr} {mcB : Value}
    (aB : PySem.W.nsIn K mainGlobals "HouseError" = some (some (.ref CB)))
    (sB : PySem.W.specialIn K (.ref CB) "__getattribute__" = some (some (.builtin "type.__getattribute__")))
    (tB : PySem.W.typeIn K (.ref CB) = some mcB)
    (rB : PySem.W.readsIn K CB mcB = true)
    (iB : PySem.W.findCls K (.ref CB) mcB "__init__" = some (.val (.builtin "ValueError.__init__"))) :
    ∃ fd : FuncData, (∀ (s : Shared) (v : Value), BindsTo s fd ⟨[v], []⟩ [("script", v)]) ∧ ∀ base : Heap, K.In base → base.Ns mainGlobals mg → FnOk P w K mg base (L2.CX P w) 18 fa fd ["script"] (spLaw K f_law) := by
  have e := hfa.symm.trans (PySem.W.mg_of X G a23)
  cases e
  have F0 := fun_mk (st := s_House_init) l0 c0 k0
  have b0 := F0.binds (ps := [("self" : Str), ("assets" : Str), ("contracts" : Str)]) fun _ _ _ _ _ _ us hl => match us, hl with | [_, _, _], _ => rfl
  have F1 := fun_mk (st := s_names_of) l1 c1 k1
  have b1 := F1.binds (ps := [("rows" : Str)]) fun _ _ _ _ _ _ us hl => match us, hl with | [_], _ => rfl
  have F2 := fun_mk (st := s_guarded) l2 c2 k2
  have b2 := F2.binds (ps := [("house" : Str), ("guards" : Str)]) fun _ _ _ _ _ _ us hl => match us, hl with | [_, _], _ => rfl
  have F3 := fun_mk (st := s_can_have) l3 c3 k3
  have b3 := F3.binds (ps := [("house" : Str), ("guard" : Str)]) fun _ _ _ _ _ _ us hl => match us, hl with | [_, _], _ => rfl
  have F4 := fun_mk (st := s_guarded_contract) l4 c4 k4
  have b4 := F4.binds (ps := [("contract" : Str), ("guards" : Str)]) fun _ _ _ _ _ _ us hl => match us, hl with | [_, _], _ => rfl
  have F5 := fun_mk (st := s_floor_check) l5 c5 k5
  have b5 := F5.binds (ps := [("asset" : Str), ("amount" : Str)]) fun _ _ _ _ _ _ us hl => match us, hl with | [_, _], _ => rfl
  have F6 := fun_mk (st := s_law_cell) l6 c6 k6
  have b6 := F6.binds (ps := [("script" : Str), ("k" : Str)]) fun _ _ _ _ _ _ us hl => match us, hl with | [_, _], _ => rfl
  have F7 := fun_mk (st := s_law_is_integer) l7 c7 k7
  have b7 := F7.binds (ps := [("actual" : Str)]) fun _ _ _ _ _ _ us hl => match us, hl with | [_], _ => rfl
  have F8 := fun_mk (st := s_law_row) l8 c8 k8
  have b8 := F8.binds (ps := [("cell" : Str), ("count" : Str), ("size" : Str)]) fun _ _ _ _ _ _ us hl => match us, hl with | [_, _, _], _ => rfl
  have F9 := fun_mk (st := s_law_expression) l9 c9 k9
  have b9 := F9.binds (ps := [("cell" : Str), ("names" : Str), ("assets" : Str)]) fun _ _ _ _ _ _ us hl => match us, hl with | [_, _, _], _ => rfl
  have F10 := fun_mk (st := s_law_statement) l10 c10 k10
  have b10 := F10.binds (ps := [("cell" : Str), ("names" : Str), ("assets" : Str), ("known" : Str), ("asks" : Str)]) fun _ _ _ _ _ _ us hl => match us, hl with | [_, _, _, _, _], _ => rfl
  have F11 := fun_mk (st := s_law_body) l11 c11 k11
  have b11 := F11.binds (ps := [("cells" : Str), ("names" : Str), ("assets" : Str), ("known" : Str), ("asks" : Str)]) fun _ _ _ _ _ _ us hl => match us, hl with | [_, _, _, _, _], _ => rfl
  have F12 := fun_mk (st := s_law_contract) l12 c12 k12
  have b12 := F12.binds (ps := [("name" : Str), ("cells" : Str), ("assets" : Str), ("known" : Str), ("asks" : Str), ("small" : Str)]) fun _ _ _ _ _ _ us hl => match us, hl with | [_, _, _, _, _, _], _ => rfl
  have F13 := fun_mk (st := s_law_house) l13 c13 k13
  have b13 := F13.binds (ps := [("script" : Str), ("at" : Str), ("many" : Str), ("small" : Str)]) fun _ _ _ _ _ _ us hl => match us, hl with | [_, _, _, _], _ => rfl
  have F14 := fun_mk (st := s_law_guard) l14 c14 k14
  have b14 := F14.binds (ps := [("cell" : Str), ("house" : Str)]) fun _ _ _ _ _ _ us hl => match us, hl with | [_, _], _ => rfl
  have F15 := fun_mk (st := s_law_fits) l15 c15 k15
  have b15 := F15.binds (ps := [("house" : Str), ("guard" : Str)]) fun _ _ _ _ _ _ us hl => match us, hl with | [_, _], _ => rfl
  have F16 := fun_mk (st := s_law_fenced) l16 c16 k16
  have b16 := F16.binds (ps := [("proc" : Str), ("own" : Str)]) fun _ _ _ _ _ _ us hl => match us, hl with | [_, _], _ => rfl
  have F17 := fun_mk (st := s_law_guarded) l17 c17 k17
  have b17 := F17.binds (ps := [("house" : Str), ("guards" : Str)]) fun _ _ _ _ _ _ us hl => match us, hl with | [_, _], _ => rfl
  have F18 := fun_mk (st := s_law_made) l18 c18 k18
  have b18 := F18.binds (ps := [("house" : Str)]) fun _ _ _ _ _ _ us hl => match us, hl with | [_], _ => rfl
  have F19 := fun_mk (st := s_law_called) l19 c19 k19
  have b19 := F19.binds (ps := [("house" : Str)]) fun _ _ _ _ _ _ us hl => match us, hl with | [_], _ => rfl
  have F20 := fun_mk (st := s_law_called_value) l20 c20 k20
  have b20 := F20.binds (ps := [("value" : Str), ("names" : Str)]) fun _ _ _ _ _ _ us hl => match us, hl with | [_, _], _ => rfl
  have F21 := fun_mk (st := s_law_called_block) l21 c21 k21
  have b21 := F21.binds (ps := [("block" : Str), ("names" : Str)]) fun _ _ _ _ _ _ us hl => match us, hl with | [_, _], _ => rfl
  have F22 := fun_mk (st := s_law_guarding) l22 c22 k22
  have b22 := F22.binds (ps := [("guard" : Str), ("house" : Str), ("cell" : Str)]) fun _ _ _ _ _ _ us hl => match us, hl with | [_, _, _], _ => rfl
  have F23 := fun_mk (st := s_law) l23 c23 k23
  have b23 := F23.binds (ps := [("script" : Str)]) fun _ _ _ _ _ _ us hl => match us, hl with | [_], _ => rfl
  have F24 := fun_mk (st := s_BadGuard_init) l24 c24 k24
  have b24 := F24.binds (ps := [("self" : Str), ("at" : Str)]) fun _ _ _ _ _ _ us hl => match us, hl with | [_, _], _ => rfl
  have F25 := fun_mk (st := s_House_eq) l25 c25 k25
  have b25 := F25.binds (ps := [("self" : Str), ("other" : Str)]) fun _ _ _ _ _ _ us hl => match us, hl with | [_, _], _ => rfl
  refine ⟨PySem.W.fnOf "law" "law" (defArgs s_law) (defBody s_law) (defScope s_law) .none kV23 dc23 pm23 an23 cd23 ct23, fun s v => .of_eq rfl, fun base _ _ => law_fn (fun c => if c = 7 then C7 else if c = 0 then C0 else if c = 1 then C1 else if c = 2 then C2 else if c = 3 then C3 else if c = 4 then C4 else if c = 5 then C5 else if c = 6 then C6 else 0) fun H0 => ?_⟩
  have T : Txt K mg ⟨fun c => if c = 7 then C7 else if c = 0 then C0 else if c = 1 then C1 else if c = 2 then C2 else if c = 3 then C3 else if c = 4 then C4 else if c = 5 then C5 else if c = 6 then C6 else 0, H0, [], []⟩ := ⟨rfl,
    PySem.W.mg_none_of X G z_abs,
    PySem.W.mg_none_of X G z_bool,
    PySem.W.mg_none_of X G z_enumerate,
    PySem.W.mg_none_of X G z_int,
    PySem.W.mg_none_of X G z_isinstance,
    PySem.W.mg_none_of X G z_len,
    PySem.W.mg_none_of X G z_list,
    PySem.W.mg_none_of X G z_min,
    PySem.W.mg_none_of X G z_range,
    PySem.W.mg_none_of X G z_tuple,
    gv_nest (PySem.W.mg_of X G n_LOCK_BEHIND) (rv_nest lo_LOCK_BEHIND_0 q_LOCK_BEHIND_0 ⟨(rv_nest lo_LOCK_BEHIND_1 q_LOCK_BEHIND_1 ⟨(rv_nest lo_LOCK_BEHIND_2 q_LOCK_BEHIND_2 True.intro), True.intro⟩), True.intro⟩),
    gv_nest (PySem.W.mg_of X G n_LOCK_FRONT) (rv_nest lo_LOCK_FRONT_0 q_LOCK_FRONT_0 ⟨(rv_nest lo_LOCK_FRONT_1 q_LOCK_FRONT_1 ⟨(rv_nest lo_LOCK_FRONT_2 q_LOCK_FRONT_2 ⟨(rv_nest lo_LOCK_FRONT_3 q_LOCK_FRONT_3 True.intro), (rv_nest lo_LOCK_FRONT_4 q_LOCK_FRONT_4 True.intro), True.intro⟩), True.intro⟩), (rv_nest lo_LOCK_FRONT_5 q_LOCK_FRONT_5 ⟨(rv_nest lo_LOCK_FRONT_6 q_LOCK_FRONT_6 True.intro), True.intro⟩), True.intro⟩),
    gv_nest (PySem.W.mg_of X G n_LOCK_VARIABLE) (rv_nest lo_LOCK_VARIABLE_0 q_LOCK_VARIABLE_0 True.intro),
    (fldOk_cons ⟨pg7, hd7, po7, sa7⟩ no7_assets fldOk_nil),
    (fldOk_cons ⟨pg7, hd7, po7, sa7⟩ no7_contracts fldOk_nil),
    PySem.W.mg_of X G aC2,
    PySem.W.mg_of X G aC3,
    PySem.W.mg_of X G aC6,
    PySem.W.mg_of X G aC4,
    PySem.W.mg_of X G aC1,
    PySem.W.mg_of X G aC0,
    PySem.W.mg_of X G aC5,
    (forall_cons ⟨xga3, xgg3, xb3, xhd3⟩ (forall_nil _)),
    (forall_cons ⟨xga3, xgg3, xb3, xhd3, xca3, gsn, gst, xmr3⟩ (forall_nil _)),
    (forall_cons xn3 (forall_nil _)),
    (forall_cons xe3_HouseError (forall_nil _)),
    (forall_cons xit_BadAct_BadHouse_BadPaper_BadText_TooLarge_3 (forall_nil _)),
    (forall_cons xi13_BadGuard (forall_nil _))⟩
  have XB : XBase K mg "HouseError" CB mcB := ⟨PySem.W.mg_of X G aB, sB, rB, iB⟩
  have x_BadGuard : ExOk P w K mg base ⟨fun c => if c = 7 then C7 else if c = 0 then C0 else if c = 1 then C1 else if c = 2 then C2 else if c = 3 then C3 else if c = 4 then C4 else if c = 5 then C5 else if c = 6 then C6 else 0, H0, [], []⟩ 1 3 ("BadGuard" : Str) ("at" : Str) := ⟨⟨⟨_, _, _, _, _, _, _, _, _, _, _, _, _, _, _, xL3, xR3⟩, xs3, xb3, xt3, xk3⟩, xn3, ⟨_, _, _, xi3, xy3, xi_BadGuard (g := ⟨fun c => if c = 7 then C7 else if c = 0 then C0 else if c = 1 then C1 else if c = 2 then C2 else if c = 3 then C3 else if c = 4 then C4 else if c = 5 then C5 else if c = 6 then C6 else 0, H0, [], []⟩) XB F24, b24⟩, PySem.W.mg_of X G aC3⟩
  have e_House : EqOk P w K mg base ⟨fun c => if c = 7 then C7 else if c = 0 then C0 else if c = 1 then C1 else if c = 2 then C2 else if c = 3 then C3 else if c = 4 then C4 else if c = 5 then C5 else if c = 6 then C6 else 0, H0, [], []⟩ 1 7 ("assets" : Str) ("contracts" : Str) := ⟨⟨_, _, _, eq_House (g := ⟨fun c => if c = 7 then C7 else if c = 0 then C0 else if c = 1 then C1 else if c = 2 then C2 else if c = 3 then C3 else if c = 4 then C4 else if c = 5 then C5 else if c = 6 then C6 else 0, H0, [], []⟩) (PySem.W.mg_of X G aC7) (PySem.W.mg_none_of X G z_isinstance) ⟨⟨pg7, hd7, po7, sa7⟩, ca7, gsn, gst, mr7⟩ ke7 no7_assets no7_contracts F25, b25, at25, fn25⟩⟩
  have d8 : DefOk P w K mg base ⟨fun c => if c = 7 then C7 else if c = 0 then C0 else if c = 1 then C1 else if c = 2 then C2 else if c = 3 then C3 else if c = 4 then C4 else if c = 5 then C5 else if c = 6 then C6 else 0, H0, [], []⟩ 1 ("_law_row" : Str) 3 f_law_row := ⟨⟨_, _, _, body_law_row T  F8, rfl, b8, PySem.W.mg_of X G a8, k8⟩⟩
  have d6 : DefOk P w K mg base ⟨fun c => if c = 7 then C7 else if c = 0 then C0 else if c = 1 then C1 else if c = 2 then C2 else if c = 3 then C3 else if c = 4 then C4 else if c = 5 then C5 else if c = 6 then C6 else 0, H0, [], []⟩ 1 ("_law_cell" : Str) 2 f_law_cell := ⟨⟨_, _, _, body_law_cell T  F6, rfl, b6, PySem.W.mg_of X G a6, k6⟩⟩
  have R_law_expression : ∀ j, DefOk P w K mg base ⟨fun c => if c = 7 then C7 else if c = 0 then C0 else if c = 1 then C1 else if c = 2 then C2 else if c = 3 then C3 else if c = 4 then C4 else if c = 5 then C5 else if c = 6 then C6 else 0, H0, [], []⟩ (0 + j) ("_law_expression" : Str) 3 (f_law_expression j) := by
    intro j
    induction j with
    | zero => exact ⟨⟨_, _, _, fn_no (by rfl), rfl, b9, PySem.W.mg_of X G a9, k9⟩⟩
    | succ j ih => exact ⟨⟨_, _, _, body_law_expression T (ih) F9, rfl, b9, PySem.W.mg_of X G a9, k9⟩⟩
  have d9 := R_law_expression D_law_expression
  have d10 : DefOk P w K mg base ⟨fun c => if c = 7 then C7 else if c = 0 then C0 else if c = 1 then C1 else if c = 2 then C2 else if c = 3 then C3 else if c = 4 then C4 else if c = 5 then C5 else if c = 6 then C6 else 0, H0, [], []⟩ 9 ("_law_statement" : Str) 5 f_law_statement := ⟨⟨_, _, _, body_law_statement T d9 F10, rfl, b10, PySem.W.mg_of X G a10, k10⟩⟩
  have d11 : DefOk P w K mg base ⟨fun c => if c = 7 then C7 else if c = 0 then C0 else if c = 1 then C1 else if c = 2 then C2 else if c = 3 then C3 else if c = 4 then C4 else if c = 5 then C5 else if c = 6 then C6 else 0, H0, [], []⟩ 10 ("_law_body" : Str) 5 f_law_body := ⟨⟨_, _, _, body_law_body T d10 d9 F11, rfl, b11, PySem.W.mg_of X G a11, k11⟩⟩
  have d12 : DefOk P w K mg base ⟨fun c => if c = 7 then C7 else if c = 0 then C0 else if c = 1 then C1 else if c = 2 then C2 else if c = 3 then C3 else if c = 4 then C4 else if c = 5 then C5 else if c = 6 then C6 else 0, H0, [], []⟩ 11 ("_law_contract" : Str) 6 f_law_contract := ⟨⟨_, _, _, body_law_contract T d8 d11 F12, rfl, b12, PySem.W.mg_of X G a12, k12⟩⟩
  have d13 : DefOk P w K mg base ⟨fun c => if c = 7 then C7 else if c = 0 then C0 else if c = 1 then C1 else if c = 2 then C2 else if c = 3 then C3 else if c = 4 then C4 else if c = 5 then C5 else if c = 6 then C6 else 0, H0, [], []⟩ 12 ("_law_house" : Str) 4 f_law_house := ⟨⟨_, _, _, body_law_house T d8 d6 d12 F13, rfl, b13, PySem.W.mg_of X G a13, k13⟩⟩
  have R_law_called_value : ∀ j, DefOk P w K mg base ⟨fun c => if c = 7 then C7 else if c = 0 then C0 else if c = 1 then C1 else if c = 2 then C2 else if c = 3 then C3 else if c = 4 then C4 else if c = 5 then C5 else if c = 6 then C6 else 0, H0, [], []⟩ (0 + j) ("_law_called_value" : Str) 2 (f_law_called_value j) := by
    intro j
    induction j with
    | zero => exact ⟨⟨_, _, _, fn_no (by rfl), rfl, b20, PySem.W.mg_of X G a20, k20⟩⟩
    | succ j ih => exact ⟨⟨_, _, _, body_law_called_value T (ih) F20, rfl, b20, PySem.W.mg_of X G a20, k20⟩⟩
  have d20 := R_law_called_value D_law_called_value
  have R_law_called_block : ∀ j, DefOk P w K mg base ⟨fun c => if c = 7 then C7 else if c = 0 then C0 else if c = 1 then C1 else if c = 2 then C2 else if c = 3 then C3 else if c = 4 then C4 else if c = 5 then C5 else if c = 6 then C6 else 0, H0, [], []⟩ (8 + j) ("_law_called_block" : Str) 2 (f_law_called_block j) := by
    intro j
    induction j with
    | zero => exact ⟨⟨_, _, _, fn_no (by rfl), rfl, b21, PySem.W.mg_of X G a21, k21⟩⟩
    | succ j ih => exact ⟨⟨_, _, _, body_law_called_block T (ih) d20 F21, rfl, b21, PySem.W.mg_of X G a21, k21⟩⟩
  have d21 := R_law_called_block D_law_called_block
  have d19 : DefOk P w K mg base ⟨fun c => if c = 7 then C7 else if c = 0 then C0 else if c = 1 then C1 else if c = 2 then C2 else if c = 3 then C3 else if c = 4 then C4 else if c = 5 then C5 else if c = 6 then C6 else 0, H0, [], []⟩ 17 ("_law_called" : Str) 1 f_law_called := ⟨⟨_, _, _, body_law_called T d21 F19, rfl, b19, PySem.W.mg_of X G a19, k19⟩⟩
  have d0 : MakeOk P w K mg base ⟨fun c => if c = 7 then C7 else if c = 0 then C0 else if c = 1 then C1 else if c = 2 then C2 else if c = 3 then C3 else if c = 4 then C4 else if c = 5 then C5 else if c = 6 then C6 else 0, H0, [], []⟩ 1 7 ("House" : Str) 3 f_House_init := ⟨⟨_, _, _, body_House_init T  F0, rfl, b0, ⟨mk7, at0, fn0, kc7⟩, PySem.W.mg_of X G aC7⟩⟩
  have d18 : DefOk P w K mg base ⟨fun c => if c = 7 then C7 else if c = 0 then C0 else if c = 1 then C1 else if c = 2 then C2 else if c = 3 then C3 else if c = 4 then C4 else if c = 5 then C5 else if c = 6 then C6 else 0, H0, [], []⟩ 3 ("_law_made" : Str) 1 f_law_made := ⟨⟨_, _, _, body_law_made T d0 F18, rfl, b18, PySem.W.mg_of X G a18, k18⟩⟩
  have d22 : DefOk P w K mg base ⟨fun c => if c = 7 then C7 else if c = 0 then C0 else if c = 1 then C1 else if c = 2 then C2 else if c = 3 then C3 else if c = 4 then C4 else if c = 5 then C5 else if c = 6 then C6 else 0, H0, [], []⟩ 1 ("_law_guarding" : Str) 3 f_law_guarding := ⟨⟨_, _, _, body_law_guarding T  F22, rfl, b22, PySem.W.mg_of X G a22, k22⟩⟩
  have d14 : DefOk P w K mg base ⟨fun c => if c = 7 then C7 else if c = 0 then C0 else if c = 1 then C1 else if c = 2 then C2 else if c = 3 then C3 else if c = 4 then C4 else if c = 5 then C5 else if c = 6 then C6 else 0, H0, [], []⟩ 1 ("_law_guard" : Str) 2 f_law_guard := ⟨⟨_, _, _, body_law_guard T  F14, rfl, b14, PySem.W.mg_of X G a14, k14⟩⟩
  have d15 : DefOk P w K mg base ⟨fun c => if c = 7 then C7 else if c = 0 then C0 else if c = 1 then C1 else if c = 2 then C2 else if c = 3 then C3 else if c = 4 then C4 else if c = 5 then C5 else if c = 6 then C6 else 0, H0, [], []⟩ 1 ("_law_fits" : Str) 2 f_law_fits := ⟨⟨_, _, _, body_law_fits T  F15, rfl, b15, PySem.W.mg_of X G a15, k15⟩⟩
  have d1 : DefOk P w K mg base ⟨fun c => if c = 7 then C7 else if c = 0 then C0 else if c = 1 then C1 else if c = 2 then C2 else if c = 3 then C3 else if c = 4 then C4 else if c = 5 then C5 else if c = 6 then C6 else 0, H0, [], []⟩ 1 ("names_of" : Str) 1 f_names_of := ⟨⟨_, _, _, body_names_of T  F1, rfl, b1, PySem.W.mg_of X G a1, k1⟩⟩
  have d3 : DefOk P w K mg base ⟨fun c => if c = 7 then C7 else if c = 0 then C0 else if c = 1 then C1 else if c = 2 then C2 else if c = 3 then C3 else if c = 4 then C4 else if c = 5 then C5 else if c = 6 then C6 else 0, H0, [], []⟩ 2 ("can_have" : Str) 2 f_can_have := ⟨⟨_, _, _, body_can_have T d1 F3, rfl, b3, PySem.W.mg_of X G a3, k3⟩⟩
  have d5 : DefOk P w K mg base ⟨fun c => if c = 7 then C7 else if c = 0 then C0 else if c = 1 then C1 else if c = 2 then C2 else if c = 3 then C3 else if c = 4 then C4 else if c = 5 then C5 else if c = 6 then C6 else 0, H0, [], []⟩ 1 ("floor_check" : Str) 2 f_floor_check := ⟨⟨_, _, _, body_floor_check T  F5, rfl, b5, PySem.W.mg_of X G a5, k5⟩⟩
  have d4 : DefOk P w K mg base ⟨fun c => if c = 7 then C7 else if c = 0 then C0 else if c = 1 then C1 else if c = 2 then C2 else if c = 3 then C3 else if c = 4 then C4 else if c = 5 then C5 else if c = 6 then C6 else 0, H0, [], []⟩ 2 ("guarded_contract" : Str) 2 f_guarded_contract := ⟨⟨_, _, _, body_guarded_contract T d5 F4, rfl, b4, PySem.W.mg_of X G a4, k4⟩⟩
  have d2 : DefOk P w K mg base ⟨fun c => if c = 7 then C7 else if c = 0 then C0 else if c = 1 then C1 else if c = 2 then C2 else if c = 3 then C3 else if c = 4 then C4 else if c = 5 then C5 else if c = 6 then C6 else 0, H0, [], []⟩ 3 ("guarded" : Str) 2 f_guarded := ⟨⟨_, _, _, body_guarded T d3 d4 d0 x_BadGuard F2, rfl, b2, PySem.W.mg_of X G a2, k2⟩⟩
  have d7 : DefOk P w K mg base ⟨fun c => if c = 7 then C7 else if c = 0 then C0 else if c = 1 then C1 else if c = 2 then C2 else if c = 3 then C3 else if c = 4 then C4 else if c = 5 then C5 else if c = 6 then C6 else 0, H0, [], []⟩ 1 ("_law_is_integer" : Str) 1 f_law_is_integer := ⟨⟨_, _, _, body_law_is_integer T  F7, rfl, b7, PySem.W.mg_of X G a7, k7⟩⟩
  have q7 : DefQ P w K mg base ⟨fun c => if c = 7 then C7 else if c = 0 then C0 else if c = 1 then C1 else if c = 2 then C2 else if c = 3 then C3 else if c = 4 then C4 else if c = 5 then C5 else if c = 6 then C6 else 0, H0, [], []⟩ 1 ("_law_is_integer" : Str) 1 f_law_is_integer := ⟨⟨_, _, _, bodyQ_law_is_integer T F7, rfl, b7, PySem.W.mg_of X G a7, k7⟩⟩
  have d16 : DefOk P w K mg base ⟨fun c => if c = 7 then C7 else if c = 0 then C0 else if c = 1 then C1 else if c = 2 then C2 else if c = 3 then C3 else if c = 4 then C4 else if c = 5 then C5 else if c = 6 then C6 else 0, H0, [], []⟩ 1 ("_law_fenced" : Str) 2 f_law_fenced := ⟨⟨_, _, _, body_law_fenced T  F16, rfl, b16, PySem.W.mg_of X G a16, k16⟩⟩
  have d17 : DefOk P w K mg base ⟨fun c => if c = 7 then C7 else if c = 0 then C0 else if c = 1 then C1 else if c = 2 then C2 else if c = 3 then C3 else if c = 4 then C4 else if c = 5 then C5 else if c = 6 then C6 else 0, H0, [], []⟩ 2 ("_law_guarded" : Str) 2 f_law_guarded := ⟨⟨_, _, _, body_law_guarded T d16 F17, rfl, b17, PySem.W.mg_of X G a17, k17⟩⟩
  exact body_law T d13 d6 d19 d18 d22 d14 d15 d2 d7 q7 d17 e_House F23
end Pr
/-- what is left: the plain law is true -/
def Pr.Goal : Prop := ∀ ns : List Int, ns.length ≤ 63 → ∃ st, Pr.f_law [.scr (ns.map Sh.Va.int)] [] = .ok (.bl true) st
theorem Pr.goal_of (h : ∀ ns : List Int, ns.length ≤ 63 → Pr.v_law [.scr (ns.map Vl.D.int)] = .ok (.bl true)) : Pr.Goal := fun ns hn => Vl.goal_v Pr.V_law (h ns hn)

set_option Elab.async false
set_option linter.all false
set_option maxRecDepth 100000
set_option maxHeartbeats 4000000
namespace Vl
open PySem PySem.Spec PyProof.Rows L2 Sh Pr
abbrev X0 : XP := fun _ _ => False
theorem sm64_r (i : Int) (j : Int) (h : sm64 j = true) : (sm64 i || sm64 j) = true := by rw [h, Bool.or_true]
theorem cell_ok (ns : List Int) (i : Int) (h : 0 ≤ i) : RP (v_law_cell [.scr (ns.map D.int), .int i]) (fun d => ∃ c : Int, d = .int c) X0 := by
  unfold v_law_cell vb_law_cell
  rw [rp_run]
  simp [f_seq, f_if]
  intro hl
  refine ixP_of h (by simpa using hl) fun d hd => ?_
  rw [List.mem_map] at hd
  obtain ⟨c, _, rfl⟩ := hd
  exact ⟨c, rfl⟩
theorem row_ok (c n s : Int) (hn : 0 ≤ n) (hn2 : n ≤ 100) (hs : 0 < s) (hs2 : s ≤ 1000000000) : RP (v_law_row [.int c, .int n, .int s]) (fun d => ∃ r : List Int, d = .lst (r.map D.int) ∧ r.length = n.toNat ∧ ∀ x ∈ r, 0 ≤ x ∧ x < s) X0 := by
  unfold v_law_row vb_law_row
  rw [rp_run]
  simp [f_seq]
  refine ⟨by omega, ?_⟩
  refine for_ok (fun pre ve => ∃ (st : Int) (r : List Int) (k : Option D), ve = [some (D.int c), some (D.int n), some (D.int s), some (D.int st), some (D.lst (r.map D.int)), k] ∧ r.length = pre.length ∧ ∀ x ∈ r, 0 ≤ x ∧ x < s) (pre := []) ⟨c, [], none, rfl, rfl, fun _ h => absurd h List.not_mem_nil⟩ ?_ ?_
  · rintro p d q ve hd ⟨st, r, k, rfl, hr, hb⟩
    obtain ⟨rfl, hlt⟩ := range_at hd
    have h64 : ∀ i : Int, (sm64 i || sm64 48271) = true := fun i => sm64_r _ _ (by decide)
    have h65 : ∀ i : Int, (sm64 i || sm64 69621) = true := fun i => sm64_r _ _ (by decide)
    have h66 : ∀ i : Int, (sm64 i || sm64 7919) = true := fun i => sm64_r _ _ (by decide)
    have hlen : r.length < 16777216 := by omega
    have app : ∀ y : Int, 0 ≤ y → y < s → ∀ st' : Int, ∃ (st : Int) (r' : List Int) (k : Option D), [some (D.int c), some (D.int n), some (D.int s), some (D.int st'), some (D.lst (r.map D.int ++ [D.int y])), some (D.int (p.length : Nat))] = [some (D.int c), some (D.int n), some (D.int s), some (D.int st), some (D.lst (r'.map D.int)), k] ∧ r'.length = (p ++ [D.int p.length]).length ∧ ∀ x ∈ r', 0 ≤ x ∧ x < s := fun y h1 h2 st' =>
      ⟨st', r ++ [y], some (D.int (p.length : Nat)), by simp, by simp [hr], fun x hx => by
        rcases List.mem_append.mp hx with hx | hx
        · exact hb x hx
        · rw [List.mem_singleton] at hx; subst hx; exact ⟨h1, h2⟩⟩
    simp only [gN_eq, tgP_some, f_if, rp_dT, rp_d2, rp_var, rp_dc, rp_pow, rp_ge, isBl_bl, List.set_cons_succ, List.set_cons_zero, at_0, at_n]
    refine ⟨by decide, ?_⟩
    split
    · simp [f_seq]
      have a1 := Int.emod_nonneg st (by omega : s ≠ 0)
      have a2 := Int.emod_lt_of_pos st hs
      exact ⟨hs, hlen, ⟨hs, by omega⟩, by simpa using app _ a1 a2 _⟩
    · simp [f_seq]
      simp only [← Bool.or_eq_true, h64, h65, h66, true_and]
      have a1 := Int.emod_nonneg (((st * 48271 + 12345) % 2147483647 * 69621 + (p.length : Int) * 7919) % 2147483647) (by omega : s ≠ 0)
      have a2 := Int.emod_lt_of_pos (((st * 48271 + 12345) % 2147483647 * 69621 + (p.length : Int) * 7919) % 2147483647) hs
      exact ⟨hs, hlen, by simpa using app _ a1 a2 _⟩
  · rintro ve ⟨st, r, k, rfl, hr, hb⟩
    simp only [List.nil_append, at_0, at_n] at hr ⊢
    exact ⟨r, rfl, by rw [hr]; simp [rangeD], hb⟩
/-! expressions, statements -/
def sL (l : List Str) : List D := l.map D.str
inductive WE (N A : List Str) : Nat → D → Prop
  | var {k : Nat} {n : Str} : n ∈ N → WE N A (k + 1) (.tup [.str "variable", .str n])
  | given {k : Nat} : WE N A (k + 1) (.tup [.str "given"])
  | hold {k : Nat} {o a : Str} : (o = "have" ∨ o = "out") → a ∈ A → WE N A (k + 1) (.tup [.str o, .str a])
  | bin {k : Nat} {o : Str} {l r : D} : o ∈ (["+", "-", "*", "/", "mod", "<", "="] : List Str) → WE N A k l → WE N A k r → WE N A (k + 1) (.tup [.str o, l, r])
  | num {k : Nat} {n : Int} : WE N A (k + 1) (.tup [.str "number", .int n])
theorem WE.up {N A : List Str} : ∀ {k : Nat} {d : D}, WE N A k d → WE N A (k + 1) d
  | _, _, .var h => .var h
  | _, _, .given => .given
  | _, _, .hold h g => .hold h g
  | _, _, .bin h a b => .bin h a.up b.up
  | _, _, .num => .num
theorem mem_sL {l : List Str} {d : D} (h : d ∈ sL l) : ∃ s ∈ l, d = .str s := by
  unfold sL at h
  rw [List.mem_map] at h
  obtain ⟨s, hs, rfl⟩ := h
  exact ⟨s, hs, rfl⟩
theorem sL_len (l : List Str) : (sL l).length = l.length := by simp [sL]
theorem expr_step {N A : List Str} {d k : Nat} {c : Int} (hc : 0 ≤ c) (h1 : c % 8 = 4 → RP (v_law_expression d [.int (c / 8 / 7 % 60), .lst (sL N), .lst (sL A)]) (WE N A k) X0) (h2 : c % 8 = 4 → RP (v_law_expression d [.int (c / 8 / 420 % 60), .lst (sL N), .lst (sL A)]) (WE N A k) X0) :
    RP (v_law_expression (d + 1) [.int c, .lst (sL N), .lst (sL A)]) (WE N A (k + 1)) X0 := by
  show RP (vrun 3 (vb_law_expression (v_law_expression d)) 6 _) _ _
  unfold vb_law_expression
  rw [rp_run]
  refine seq_of ?_
  simp
  refine seq_of ?_
  simp
  refine seq_if (c % 8 < 2 ∧ 0 < (N.length : Int)) (rp_and _ _ (by simp) fun _ => by simp [sL_len]) (fun h => ?_) fun _ => ?_
  · simp
    rw [sL_len]
    refine ⟨by omega, ixP_of (Int.emod_nonneg _ (by omega)) (by rw [sL_len]; exact Int.emod_lt_of_pos _ h.2) fun x hx => ?_⟩
    obtain ⟨s, hs, rfl⟩ := mem_sL hx
    exact .var hs
  refine seq_if (c % 8 = 2) (by simp) (fun h => by simp; exact .given) fun _ => ?_
  refine seq_if (c % 8 = 3 ∧ 0 < (A.length : Int)) (rp_and _ _ (by simp) fun _ => by simp [sL_len]) (fun h => ?_) fun _ => ?_
  · simp
    refine ixP_of (Int.emod_nonneg _ (by omega)) (by simp; omega) fun x hx => ?_
    rw [sL_len]
    refine ⟨by omega, ixP_of (Int.emod_nonneg _ (by omega)) (by rw [sL_len]; exact Int.emod_lt_of_pos _ h.2) fun y hy => ?_⟩
    obtain ⟨s, hs, rfl⟩ := mem_sL hy
    simp at hx
    rcases hx with rfl | rfl
    · exact .hold (.inl rfl) hs
    · exact .hold (.inr rfl) hs
  refine seq_if (c % 8 = 4) (by simp) (fun h => ?_) fun _ => ?_
  · refine seq_of ?_
    simp
    refine (h1 h).imp fun l hl => ?_
    refine ixP_of (Int.emod_nonneg _ (by omega)) (by simp; omega) fun x hx => ?_
    refine (h2 h).imp fun r hr => ?_
    simp at hx
    rcases hx with rfl | rfl | rfl | rfl | rfl | rfl | rfl <;> exact .bin (by decide) hl hr
  · simp
    exact .num
theorem expr_ok {N A : List Str} (c : Int) (hc : 0 ≤ c) (d : Nat) : RP (v_law_expression (d + 3) [.int c, .lst (sL N), .lst (sL A)]) (WE N A 3) X0 := by
  refine expr_step hc (fun h => ?_) (fun h => ?_) <;>
  · refine expr_step (by omega) (fun h => ?_) (fun h => ?_) <;>
    · refine expr_step (by omega) (fun h => ?_) (fun h => ?_) <;> omega

/-! a statement: k tells how deep «if» may go -/
inductive WS (N A P C : List Str) : Nat → D → Prop
  | set {k : Nat} {n : Str} {e : D} : n ∈ N → WE N A 3 e → WS N A P C k (.tup [.str "set", .str n, e])
  | need {k : Nat} {e : D} : WE N A 3 e → WS N A P C k (.tup [.str "need", e])
  | give {k : Nat} {o a : Str} {e : D} : (o = "give" ∨ o = "get") → a ∈ A → WE N A 3 e → WS N A P C k (.tup [.str o, .str a, e])
  | ask {k : Nat} {n : Str} {i : Int} : n ∈ N → WS N A P C k (.tup [.str "ask", .str n, .int i])
  | call {k : Nat} {c p : Str} {e : D} : c ∈ C → p ∈ P → WE N A 3 e → WS N A P C k (.tup [.str "call", .str c, .str p, e])
  | ife {k : Nat} {e : D} {b1 b2 : List D} : b1.length ≤ 1000 → b2.length ≤ 1000 → WE N A 3 e → (∀ s ∈ b1, WS N A P C k s) → (∀ s ∈ b2, WS N A P C k s) → WS N A P C (k + 1) (.tup [.str "if", e, .tup b1, .tup b2])
def isLT (d : D) (xs : List D) : Prop := d = .lst xs ∨ d = .tup xs
theorem rp_lenLT {d : D} {xs : List D} (h : isLT d xs) {P : D → Prop} {X : XP} : RP (vLen [d]) P X = P (.int xs.length) := by
  rcases h with rfl | rfl <;> exact rp_ok _
theorem rp_ixLT {d : D} {xs : List D} {i : Int} (h : isLT d xs) {P : D → Prop} {X : XP} : RP (vIxA d (.int i)) P X = ixP xs i P := by
  rcases h with rfl | rfl <;> simp
def pairs (l : List (Str × Str)) : List D := l.map fun p => D.tup [.str p.1, .str p.2]
theorem mem_pairs {l : List (Str × Str)} {d : D} (h : d ∈ pairs l) : ∃ s ∈ l, d = D.tup [.str s.1, .str s.2] := by
  unfold pairs at h
  rw [List.mem_map] at h
  obtain ⟨s, hs, rfl⟩ := h
  exact ⟨s, hs, rfl⟩
theorem pairs_len (l : List (Str × Str)) : (pairs l).length = l.length := by simp [pairs]
theorem stmt_ok {N A P C : List Str} {L : List (Str × Str)} (hL : ∀ p ∈ L, p.1 ∈ C ∧ p.2 ∈ P) {c a : Int} (hc : 0 ≤ c) {kn : D} (hk : isLT kn (pairs L)) (k : Nat) :
    RP (v_law_statement [.int c, .lst (sL N), .lst (sL A), kn, .int a]) (fun d => WS N A P C k d) X0 := by
  unfold v_law_statement vb_law_statement
  rw [rp_run]
  refine seq_of ?_
  simp
  refine seq_of ?_
  simp
  have hq : 0 ≤ c / 7 := by omega
  have E := fun (c : Int) (hc : 0 ≤ c) => expr_ok (N := N) (A := A) c hc 5
  refine seq_if (c % 7 = 0 ∧ 0 < (N.length : Int)) (rp_and _ _ (by simp) fun _ => by simp [sL_len]) (fun h => ?_) fun _ => ?_
  · simp
    rw [sL_len]
    refine ⟨by omega, ixP_of (Int.emod_nonneg _ (by omega)) (by rw [sL_len]; exact Int.emod_lt_of_pos _ h.2) fun x hx => ?_⟩
    obtain ⟨s, hs, rfl⟩ := mem_sL hx
    exact (E _ (by omega)).imp fun e he => .set hs he
  refine seq_if (c % 7 = 1) (by simp) (fun h => by simp; exact (E _ hq).imp fun e he => .need he) fun _ => ?_
  refine seq_if (c % 7 < 4 ∧ 0 < (A.length : Int)) (rp_and _ _ (by simp) fun _ => by simp [sL_len]) (fun h => ?_) fun _ => ?_
  · simp
    refine ixP_of (Int.emod_nonneg _ (by omega)) (by simp; omega) fun x hx => ?_
    rw [sL_len]
    refine ⟨by omega, ixP_of (Int.emod_nonneg _ (by omega)) (by rw [sL_len]; exact Int.emod_lt_of_pos _ h.2) fun y hy => ?_⟩
    obtain ⟨s, hs, rfl⟩ := mem_sL hy
    simp at hx
    refine (E _ (by omega)).imp fun e he => ?_
    rcases hx with rfl | rfl
    · exact .give (.inl rfl) hs he
    · exact .give (.inr rfl) hs he
  refine seq_if (c % 7 = 4 ∧ 0 < (N.length : Int) ∧ 0 < a) (rp_and _ _ (by simp) fun _ => rp_and _ _ (by simp [sL_len]) fun _ => by simp) (fun h => ?_) fun _ => ?_
  · simp
    rw [sL_len]
    refine ⟨by omega, ixP_of (Int.emod_nonneg _ (by omega)) (by rw [sL_len]; exact Int.emod_lt_of_pos _ h.2.1) fun x hx => ?_⟩
    obtain ⟨s, hs, rfl⟩ := mem_sL hx
    exact .ask hs
  refine seq_if (c % 7 = 5 ∧ 0 < (L.length : Int)) (rp_and _ _ (by simp) fun _ => by simp [rp_lenLT hk, pairs_len]) (fun h => ?_) fun _ => ?_
  · refine seq_of ?_
    simp [rp_lenLT hk, rp_ixLT hk]
    rw [pairs_len]
    refine ⟨by omega, ixP_of (Int.emod_nonneg _ (by omega)) (by rw [pairs_len]; exact Int.emod_lt_of_pos _ h.2) fun x hx => ?_⟩
    obtain ⟨s, hs, rfl⟩ := mem_pairs hx
    simp
    exact (E _ (by omega)).imp fun e he => .call (hL _ hs).1 (hL _ hs).2 he
  simp
  cases N with
  | nil => simp [sL]; exact .need .num
  | cons n N => simp [sL]; exact .set List.mem_cons_self .num

theorem WE.mono {N A N' A' : List Str} (hn : ∀ n ∈ N, n ∈ N') (ha : ∀ n ∈ A, n ∈ A') : ∀ {k : Nat} {d : D}, WE N A k d → WE N' A' k d
  | _, _, .var h => .var (hn _ h)
  | _, _, .given => .given
  | _, _, .hold h g => .hold h (ha _ g)
  | _, _, .bin h a b => .bin h (a.mono hn ha) (b.mono hn ha)
  | _, _, .num => .num
theorem WS.mono {N A N' A' P C : List Str} (hn : ∀ n ∈ N, n ∈ N') (ha : ∀ n ∈ A, n ∈ A') : ∀ {k : Nat} {d : D}, WS N A P C k d → WS N' A' P C k d
  | _, _, .set h e => .set (hn _ h) (e.mono hn ha)
  | _, _, .need e => .need (e.mono hn ha)
  | _, _, .give h g e => .give h (ha _ g) (e.mono hn ha)
  | _, _, .ask h => .ask (hn _ h)
  | _, _, .call h g e => .call h g (e.mono hn ha)
  | _, _, .ife l1 l2 e h1 h2 => .ife l1 l2 (e.mono hn ha) (fun s hs => (h1 s hs).mono hn ha) (fun s hs => (h2 s hs).mono hn ha)
def iL (l : List Int) : List D := l.map D.int
theorem iL_len (l : List Int) : (iL l).length = l.length := by simp [iL]
theorem mem_iL {l : List Int} {d : D} (h : d ∈ iL l) : ∃ s ∈ l, d = .int s := by
  unfold iL at h
  rw [List.mem_map] at h
  obtain ⟨s, hs, rfl⟩ := h
  exact ⟨s, hs, rfl⟩
theorem body_ok {N A P C : List Str} {L : List (Str × Str)} (hL : ∀ p ∈ L, p.1 ∈ C ∧ p.2 ∈ P) {r : List Int} (hr : ∀ x ∈ r, 0 ≤ x) (hl : r.length ≤ 1000) {a : Int} :
    RP (v_law_body [.lst (iL r), .lst (sL N), .lst (sL A), .lst (pairs L), .int a]) (fun d => ∃ (b : List D) (l : Int), d = .tup [.tup b, .int l] ∧ b.length ≤ 1000 ∧ ∀ s ∈ b, WS N A P C 1 s) X0 := by
  unfold v_law_body vb_law_body
  rw [rp_run]
  refine seq_of ?_
  simp
  refine seq_of ?_
  simp
  refine seq_of ?_
  simp
  have E := fun (c : Int) (hc : 0 ≤ c) => expr_ok (N := N) (A := A) c hc 5
  have S0 := fun (c : Int) (hc : 0 ≤ c) => stmt_ok (N := N) (A := A) (P := P) (C := C) (L := []) (fun _ h => absurd h List.not_mem_nil) (a := 0) hc (kn := .tup []) (.inr rfl) 0
  have S1 := fun (c b : Int) (hc : 0 ≤ c) => stmt_ok (N := N) (A := A) (P := P) (C := C) hL (a := b) hc (kn := .lst (pairs L)) (.inl rfl) 1
  refine for_ok (fun pre ve => ∃ (b : List D) (l : Int) (k x y z : Option D), ve = [some (D.lst (iL r)), some (D.lst (sL N)), some (D.lst (sL A)), some (D.lst (pairs L)), some (D.int a), some (D.lst b), some (D.int l), k, x, y, z] ∧ b.length = pre.length ∧ ∀ s ∈ b, WS N A P C 1 s) (pre := []) ⟨[], a, none, none, none, none, rfl, rfl, fun _ h => absurd h List.not_mem_nil⟩ ?_ ?_
  · rintro p d q ve hd ⟨b, l, k, x, y, z, rfl, hb, hw⟩
    rw [List.nil_append] at hd
    have hm : d ∈ iL r := by rw [hd]; simp
    have hlen : b.length < 16777216 := by
      have : (iL r).length = p.length + (q.length + 1) := by rw [hd]; simp
      rw [iL_len] at this
      omega
    obtain ⟨c, hcm, rfl⟩ := mem_iL hm
    have hc := hr c hcm
    have fin : ∀ (s : D), WS N A P C 1 s → ∀ t, t ∈ b ∨ t = s → WS N A P C 1 t := fun s hs t ht => ht.elim (hw t) fun e => e ▸ hs
    simp
    refine st_if (c % 11 = 5 ∧ 1 < (r.length : Int)) (rp_and _ _ (by simp) fun _ => by simp [iL_len]) (fun h => ?_) fun _ => ?_
    · refine seq_of ?_
      simp
      refine (S0 _ (by omega)).imp fun s hs => ?_
      refine seq_of ?_
      simp
      refine seq_if (c / 11 % 2 = 1) (by simp) (fun h => ?_) fun _ => ?_
      · simp
        refine (S0 _ (by omega)).imp fun s' hs' => ?_
        refine (E _ (by omega)).imp fun e he => ⟨hlen, hb, fin _ (.ife (by simp) (by simp) he ?_ ?_)⟩
        · intro t ht; rw [List.mem_singleton] at ht; subst ht; exact hs
        · intro t ht; rw [List.mem_singleton] at ht; subst ht; exact hs'
      · simp
        refine (E _ (by omega)).imp fun e he => ⟨hlen, hb, fin _ (.ife (by simp) (by simp) he ?_ ?_)⟩
        · intro t ht; rw [List.mem_singleton] at ht; subst ht; exact hs
        · intro t ht; exact absurd ht List.not_mem_nil
    · refine seq_of ?_
      simp
      refine (S1 _ _ (by omega)).imp fun s hs => ?_
      refine seq_of ?_
      simp
      have hx : ∃ (o : Str) (t : List D), s = .tup (.str o :: t) := by cases hs <;> exact ⟨_, _, rfl⟩
      obtain ⟨o, t, rfl⟩ := hx
      simp
      exact ⟨hlen, hb, fin _ hs⟩
  · rintro ve ⟨b, l, k, x, y, z, rfl, hb, hw⟩
    simp
    exact ⟨by rw [hb]; simp [iL_len]; exact hl, hw⟩

/-! contracts, houses -/
structure Pc where
  nm : Str
  sz : Int
  sn : Bool
  bk : List D
structure Ct where
  nm : Str
  vs : List (Str × Int × Int)
  hs : List (Str × Int)
  ps : List Pc
def eV (v : Str × Int × Int) : D := .tup [.str v.1, .int v.2.1, .int v.2.2]
def eA (v : Str × Int) : D := .tup [.str v.1, .int v.2]
def eP (p : Pc) : D := .tup [.str p.nm, .int p.sz, .bl p.sn, .tup p.bk]
def eCt (c : Ct) : D := .tup [.str c.nm, .tup (c.vs.map eV), .tup (c.hs.map eA), .tup (c.ps.map eP)]
abbrev NN : List Str := ["x", "y"]
abbrev AA : List Str := ["a", "b"]
abbrev PP : List Str := ["p", "q"]
abbrev CC : List Str := ["c", "d"]
abbrev WB (b : List D) : Prop := b.length ≤ 1000 ∧ ∀ s ∈ b, WS NN AA PP CC 1 s
structure CtOk (c : Ct) : Prop where
  nm : c.nm ∈ CC
  vs : ∀ v ∈ c.vs, v.1 ∈ NN
  hs : ∀ v ∈ c.hs, v.1 ∈ AA
  ps : ∀ p ∈ c.ps, p.nm ∈ PP ∧ WB p.bk
  lv : c.vs.length ≤ 2
  lh : c.hs.length ≤ 2
  lp : c.ps.length ≤ 2
theorem ex_map {α : Type} {R : α → Prop} {f : α → D} : ∀ {ys : List D}, (∀ y ∈ ys, ∃ v, R v ∧ y = f v) → ∃ vs : List α, ys = vs.map f ∧ (∀ v ∈ vs, R v) ∧ vs.length = ys.length
  | [], _ => ⟨[], rfl, fun _ h => absurd h List.not_mem_nil, rfl⟩
  | y :: ys, h => by
    obtain ⟨v, hv, e⟩ := h y List.mem_cons_self
    obtain ⟨vs, e2', hvs, hl⟩ := ex_map fun z hz => h z (List.mem_cons_of_mem _ hz)
    exact ⟨v :: vs, by rw [e, e2']; rfl, fun z hz => by
      rcases List.mem_cons.mp hz with rfl | hz
      · exact hv
      · exact hvs _ hz, by simp [hl]⟩
@[simp] theorem rp_slL {xs : List D} {lo hi : Option Int} {P : D → Prop} {X : XP} : RP (vSlL lo hi (.lst xs)) P X = P (.lst (cutD xs lo hi)) := rp_ok _
@[simp] theorem rp_slR {xs : List D} {lo hi : Option Int} {P : D → Prop} {X : XP} : RP (vSlL lo hi (.scr xs)) P X = P (.lst (cutD xs lo hi)) := rp_ok _
@[simp] theorem rp_slT {xs : List D} {lo hi : Option Int} {P : D → Prop} {X : XP} : RP (vSl lo hi (.tup xs)) P X = P (.tup (cutD xs lo hi)) := rp_ok _
theorem cut_sL (N : List Str) (lo hi : Option Int) : ∃ N' : List Str, cutD (sL N) lo hi = sL N' ∧ (∀ n ∈ N', n ∈ N) ∧ N'.length ≤ N.length :=
  ⟨(N.drop (HT.sIx (sL N).length 0 lo)).take (HT.sIx (sL N).length (sL N).length hi - HT.sIx (sL N).length 0 lo), by unfold cutD sL; rw [List.map_take, List.map_drop],
    fun n hn => List.mem_of_mem_drop (List.mem_of_mem_take hn), by rw [List.length_take, List.length_drop]; omega⟩
theorem pq_at {k : Int} (h0 : 0 ≤ k) (h1 : k < 2) {P : D → Prop} {X : XP} (hp : P (.str "p")) (hq : P (.str "q")) : RP (vIxA (.str "pq") (.int k)) P X := by
  have : k = 0 ∨ k = 1 := by omega
  rcases this with rfl | rfl
  · exact rp_mk hp
  · exact rp_mk hq
theorem cd_at {k : Int} (h0 : 0 ≤ k) (h1 : k < 2) {P : D → Prop} {X : XP} (hp : P (.str "c")) (hq : P (.str "d")) : RP (vIxA (.str "cd") (.int k)) P X := by
  have : k = 0 ∨ k = 1 := by omega
  rcases this with rfl | rfl
  · exact rp_mk hp
  · exact rp_mk hq
theorem ab_at {k : Int} (h0 : 0 ≤ k) (h1 : k < 2) {P : D → Prop} {X : XP} (hp : P (.str "a")) (hq : P (.str "b")) : RP (vIxA (.str "ab") (.int k)) P X := by
  have : k = 0 ∨ k = 1 := by omega
  rcases this with rfl | rfl
  · exact rp_mk hp
  · exact rp_mk hq
/-- an entry of a list of numbers -/
theorem ix_iL {l : List Int} {i : Int} {P : D → Prop} (h0 : 0 ≤ i) (h1 : i < l.length) (h : ∀ x ∈ l, P (.int x)) : ixP (iL l) i P :=
  ixP_of h0 (by rw [iL_len]; exact h1) fun d hd => by
    obtain ⟨x, hx, rfl⟩ := mem_iL hd
    exact h x hx
theorem set_same {ve : VEn} {i : Nat} {x : Option D} (h : ve[i]? = some x) : ve.set i x = ve := by
  apply List.ext_getElem?
  intro j
  rw [List.getElem?_set]
  split
  · rename_i e
    subst e
    split
    · exact h.symm
    · rename_i hl
      rw [List.getElem?_eq_none (by omega)] at h
      cases h
  · rfl
theorem small_cut {ve : VEn} {rest : VSm} {Q : Po} {N0 : List Str} {sm : Bool} (h5 : ve[5]? = some (some (.bl sm))) (h7 : ve[7]? = some (some (.lst (sL N0)))) (k : ∀ N : List Str, (∀ n ∈ N, n ∈ N0) → N.length ≤ N0.length → FOk Q (rest (ve.set 7 (some (.lst (sL N)))))) :
    FOk Q (dsSeq (dsIf (dT (dVar 5)) (dsSet 7 (dSl vSlL (dVar 7) (fun _ => .ok none) (dSome (dC (.int 1))))) dsNil) rest ve) := by
  refine seq_if (sm = true) (by simp [atP, h5]) (fun _ => ?_) fun _ => ?_
  · obtain ⟨N, e, h1, h2⟩ := cut_sL N0 none (some 1)
    simp [atP, h7, e]
    exact k N h1 h2
  · have := k N0 (fun _ h => h) (Nat.le_refl _)
    rw [set_same h7] at this
    exact this
theorem RP.x0 {α : Type} {r : VR α} {P : α → Prop} {X : XP} (h : RP r P X0) : RP r P X := by
  cases r with
  | ok a => rw [rp_ok] at h ⊢; exact h
  | exc c fs => rw [rp_exc] at h; exact h.elim
  | no => rw [rp_no] at h; exact h.elim
end Vl

set_option Elab.async false
set_option linter.all false
set_option maxRecDepth 100000
set_option maxHeartbeats 4000000
namespace Vl
open PySem PySem.Spec PyProof.Rows L2 Sh Pr
def isV (y : D) : Prop := ∃ v : Str × Int × Int, v.1 ∈ NN ∧ y = eV v
def isA (y : D) : Prop := ∃ v : Str × Int, v.1 ∈ AA ∧ y = eA v
theorem size_if {ve : VEn} {e : VM D} {rest : VSm} {Q : Po} {sm : Bool} (h5 : ve[5]? = some (some (.bl sm))) (h15 : ∃ z : Int, ve[15]? = some (some (.int z))) (hx : ∀ P : D → Prop, (∀ n : Int, P (.int n)) → RP (e ve) P Q.xc) (k : ∀ n : Int, FOk Q (rest (ve.set 15 (some (.int n))))) :
    FOk Q (dsSeq (dsIf (dNot (dT (dVar 5))) (dsSet 15 e) dsNil) rest ve) := by
  refine seq_if (sm = false) (by simp [atP, h5]) (fun _ => ?_) fun _ => ?_
  · rw [f_set]
    exact hx _ k
  · obtain ⟨z, h⟩ := h15
    have := k z
    rw [set_same h] at this
    exact this
theorem contract_ok {nm : Str} (hnm : nm ∈ CC) {cells : List Int} (hc : cells.length = 3) {A : List Str} (hA : ∀ a ∈ A, a ∈ AA) (hAl : A.length ≤ 2) {L : List (Str × Str)} (hL : ∀ p ∈ L, p.1 ∈ CC ∧ p.2 ∈ PP) (hLl : L.length ≤ 100) {a : Int} {sm : Bool}
    {Q : D → Prop} (K : ∀ (c : Ct) (L' : List (Str × Str)) (l : Int), CtOk c → c.nm = nm → (∀ p ∈ L', p.1 ∈ CC ∧ p.2 ∈ PP) → L'.length ≤ L.length + 2 → Q (.tup [eCt c, .lst (pairs L'), .int l])) :
    RP (v_law_contract [.str nm, .lst (iL cells), .lst (sL A), .lst (pairs L), .int a, .bl sm]) Q X0 := by
  unfold v_law_contract vb_law_contract
  rw [rp_run]
  refine seq_of ?_
  simp
  refine ix_iL (by omega) (by omega) fun c0 _ => ?_
  refine (row_ok c0 12 60 (by omega) (by omega) (by omega) (by omega)).imp ?_
  rintro d ⟨dg, rfl, dl, db⟩
  have dl : dg.length = 12 := dl
  have eiL : List.map D.int dg = iL dg := rfl
  rw [eiL]
  have DI : ∀ {i : Int} {P : D → Prop}, 0 ≤ i → i < 12 → (∀ x : Int, 0 ≤ x → x < 60 → P (.int x)) → ixP (iL dg) i P := fun h0 h1 h => ix_iL h0 (by omega) fun x hx => h x (db x hx).1 (db x hx).2
  refine seq_of ?_
  simp
  refine DI (by omega) (by omega) fun x0 hx0 hx1 => ?_
  obtain ⟨N0, eN0, hN0, hN0l⟩ := cut_sL NN none (some (x0 % 3))
  have eN0' : cutD [D.str (Str.ofString "x"), D.str (Str.ofString "y")] none (some (x0 % 3)) = sL N0 := eN0
  simp [eN0']
  have hN0l : N0.length ≤ 2 := hN0l
  have hs2 : (0 : Int) < 2 - (if sm = true then 1 else 0) := by cases sm <;> decide
  have hs4 : (0 : Int) < 4 - (if sm = true then 1 else 0) := by cases sm <;> decide
  refine small_cut rfl rfl fun N hN1 hNl => ?_
  have hN := fun n hn => hN0 n (hN1 n hn)
  have hNl : N.length ≤ 2 := by omega
  clear hN1 hN0 hN0l eN0'
  refine seq_of ?_
  simp [sL_len]
  refine ⟨by omega, by simp [rangeD]; omega, ?_⟩
  refine comp_allP isV (fun d hd => ?_) fun ys hys hyl => ?_
  · obtain ⟨k, rfl, hk⟩ := mem_range hd
    simp [wipeD]
    refine ixP_of (by omega) (by rw [sL_len]; omega) fun y hy => ?_
    obtain ⟨n, hn, rfl⟩ := mem_sL hy
    refine DI (by omega) (by omega) fun x1 _ _ => ?_
    simp
    refine ⟨by omega, ?_⟩
    refine DI (by omega) (by omega) fun x2 _ _ => ?_
    simp
    exact ⟨(n, _, _), hN n hn, rfl⟩
  obtain ⟨vs, rfl, hvs, hvl⟩ := ex_map hys
  have hvl2 : vs.length ≤ 2 := by rw [hvl, hyl]; simp [rangeD]; omega
  clear hys hyl hvl
  refine seq_of ?_
  simp
  refine ⟨by rw [sL_len]; omega, ?_⟩
  refine comp_rpP isA (fun d hd => ?_) fun ys hys hyl => ?_
  · obtain ⟨n, hn, rfl⟩ := mem_sL hd
    simp [wipeD]
    refine DI (by omega) (by omega) fun x1 _ _ => ?_
    simp
    intro _
    refine DI (by omega) (by omega) fun x2 _ _ => ?_
    simp
    exact ⟨by omega, (n, _), hA n hn, rfl⟩
  obtain ⟨hh, rfl, hhs, hhl⟩ := ex_map hys
  have hhl2 : hh.length ≤ 2 := by rw [hhl]; rw [sL_len] at hyl; omega
  clear hys hyl hhl
  refine seq_of ?_
  simp
  refine seq_of ?_
  simp
  refine seq_of ?_
  simp
  refine seq_of ?_
  simp [f_for]
  refine DI (by omega) (by omega) fun x7 _ _ => ?_
  simp
  refine ⟨by omega, ?_⟩
  obtain ⟨I, hI⟩ : ∃ I : List D → VEn → Prop, ∀ pre ve, I pre ve ↔ ∃ (ps : List Pc) (L' : List (Str × Str)) (l : Int) (k y z u v : Option D), ve = [some (D.str nm), some (D.lst (iL cells)), some (D.lst (sL A)), some (D.lst (pairs L)), some (D.int a), some (D.bl sm), some (D.lst (iL dg)), some (D.lst (sL N)), some (D.lst (vs.map eV)), k, some (D.lst (hh.map eA)), none, some (D.lst (ps.map eP)), some (D.lst (pairs L')), some (D.int l), y, z, u, v] ∧ ps.length = pre.length ∧ L'.length ≤ L.length + pre.length ∧ (∀ p ∈ ps, p.nm ∈ PP ∧ WB p.bk) ∧ ∀ p ∈ L', p.1 ∈ CC ∧ p.2 ∈ PP := ⟨_, fun _ _ => Iff.rfl⟩
  refine for_ok I (pre := []) ((hI _ _).mpr ⟨[], L, a, none, none, none, none, none, rfl, rfl, Nat.le_refl _, fun _ h => absurd h List.not_mem_nil, hL⟩) ?_ ?_
  · intro p d q ve hd hi
    obtain ⟨ps, L', l, k, y, z, u, v, rfl, hp, hl', hps, hL'⟩ := (hI _ _).mp hi
    obtain ⟨rfl, hlt⟩ := range_at hd
    have hp2 : p.length < 2 := by omega
    simp
    refine seq_of ?_
    simp
    refine DI (by omega) (by omega) fun x8 h80 h81 => ?_
    simp
    refine ixP_of (by omega) (by simp; omega) fun y3 hy3 => ?_
    have hy3' : ∃ n : Int, y3 = .int n := by
      simp at hy3
      rcases hy3 with rfl | rfl | rfl <;> exact ⟨_, rfl⟩
    obtain ⟨n3, rfl⟩ := hy3'
    clear hy3
    refine size_if rfl ⟨n3, rfl⟩ (fun P hP => ?_) fun n4 => ?_
    · simp
      refine DI (by omega) (by omega) fun x _ _ => ?_
      simp
      refine ixP_of (by omega) (by simp; omega) fun y5 hy5 => ?_
      simp at hy5
      rcases hy5 with rfl | rfl | rfl | rfl | rfl <;> exact hP _
    refine seq_of ?_
    simp
    refine ix_iL (by omega) (by omega) fun c1 _ => ?_
    refine DI (by omega) (by omega) fun x10 _ _ => ?_
    simp
    refine (row_ok c1 (1 + x10 % 4) 1000000000 (by omega) (by omega) (by omega) (by omega)).imp ?_
    rintro d ⟨rw', rfl, rl, rb⟩
    refine (body_ok (N := N) (A := A) (P := PP) (C := CC) (L := L') hL' (r := rw') (fun x hx => (rb x hx).1) (by rw [rl]; omega) (a := l)).imp ?_
    rintro d ⟨bk, l', rfl, hbl, hbk⟩
    have hbl' : bk.length ≤ 1000 := hbl
    have hbl : bk.length ≤ 16777216 := by omega
    have hbk' : WB bk := ⟨hbl', fun t ht => (hbk t ht).mono hN hA⟩
    refine seq_of ?_
    simp
    refine seq_of ?_
    simp
    have hlen : ps.length < 16777216 := by omega
    have hpq : ∀ {P : D → Prop}, (∀ s : Str, s ∈ PP → P (.str s)) → RP (vIxA (.str (Str.ofString "pq")) (.int (p.length : Nat))) P X0 := fun h => pq_at (by omega) (by omega) (h _ (by decide)) (h _ (by decide))
    refine hpq fun nm' hnm' => ?_
    refine DI (by omega) (by omega) fun x11 _ _ => ?_
    simp
    refine ⟨hlen, ?_⟩
    refine seq_of ?_
    simp
    refine ⟨hbl, ?_⟩
    refine comp_rpP (fun _ => True) (fun d hd => ?_) fun ys _ _ => ?_
    · have hx : ∃ (o : Str) (t : List D), d = .tup (.str o :: t) := by
        have := hbk d hd
        cases this <;> exact ⟨_, _, rfl⟩
      obtain ⟨o, t, rfl⟩ := hx
      simp [wipeD]
    have hok : ∀ p' ∈ ps ++ [(⟨nm', n4, decide (0 < x11 / 2 % 5), bk⟩ : Pc)], p'.nm ∈ PP ∧ WB p'.bk := fun p' hp' => by
      rcases List.mem_append.mp hp' with h | h
      · exact hps _ h
      · rw [List.mem_singleton] at h; subst h; exact ⟨hnm', hbk'⟩
    have hel : (ps.map eP ++ [D.tup [D.str nm', D.int n4, D.bl (decide (0 < x11 / 2 % 5)), D.tup bk]]) = (ps ++ [(⟨nm', n4, decide (0 < x11 / 2 % 5), bk⟩ : Pc)]).map eP := by simp [eP]
    rw [hel]
    refine st_if (ys.length = 0 ∧ sm = false) (rp_and _ _ (by simp) fun _ => by simp) (fun h => ?_) fun _ => ?_
    · simp only [f_app, at_0, at_n, isTd_lst, true_and, rp_cons, rp_dA, rp_var, rp_d2, rp_dc, rp_nil]
      refine hpq fun nm2 hnm2 => ?_
      simp only [rp_tup, appP_lst, pairs_len, List.set_cons_succ, List.set_cons_zero]
      refine ⟨by simp, by omega, ?_⟩
      refine (hI _ _).mpr ⟨_, L' ++ [(nm, nm2)], l', some (.int (p.length : Nat)), some (.int n4), some (D.tup [D.tup bk, D.int l']), some (D.lst ys), v, ?_, by simp [hp], by simp; omega, hok, ?_⟩
      · simp [pairs]
      · intro p' hp'
        rcases List.mem_append.mp hp' with h | h
        · exact hL' _ h
        · rw [List.mem_singleton] at h; subst h; exact ⟨hnm, hnm2⟩
    · rw [f_nil]
      exact (hI _ _).mpr ⟨_, L', l', some (.int (p.length : Nat)), some (.int n4), some (D.tup [D.tup bk, D.int l']), some (D.lst ys), v, rfl, by simp [hp], by simp; omega, hok, hL'⟩
  · intro ve hi
    obtain ⟨ps, L', l, k, y, z, u, v, rfl, hp, hl', hps, hL'⟩ := (hI _ _).mp hi
    simp
    have hp2 : ps.length ≤ 2 := by rw [hp]; simp [rangeD]; omega
    have := K ⟨nm, vs, hh, ps⟩ L' l ⟨hnm, hvs, hhs, hps, hvl2, hhl2, hp2⟩ rfl hL' (by rw [List.nil_append] at hl'; simp [rangeD] at hl'; omega)
    exact this
end Vl

set_option Elab.async false
set_option linter.all false
set_option maxRecDepth 100000
set_option maxHeartbeats 4000000
namespace Vl
open PySem PySem.Spec PyProof.Rows L2 Sh Pr
structure Ho where
  as : List (Str × Int)
  cs : List Ct
structure HoOk (h : Ho) : Prop where
  as : ∀ a ∈ h.as, a.1 ∈ AA
  la : h.as.length ≤ 2
  cs : ∀ c ∈ h.cs, CtOk c
  lc : h.cs.length ≤ 2
  l1 : 1 ≤ h.cs.length
def eHo (h : Ho) : D := .tup [.lst (h.as.map eA), .lst (h.cs.map eCt)]
theorem left_if {ve : VEn} {e : VM D} {rest : VSm} {Q : Po} {sm : Bool} (h3 : ve[3]? = some (some (.bl sm))) (h8 : ∃ z : Int, ve[8]? = some (some (.int z))) (hx : ∀ P : D → Prop, (∀ n : Int, P (.int n)) → RP (e ve) P Q.xc) (k : ∀ n : Int, FOk Q (rest (ve.set 8 (some (.int n))))) :
    FOk Q (dsSeq (dsIf (dT (dVar 3)) (dsSet 8 e) dsNil) rest ve) := by
  refine seq_if (sm = true) (by simp [atP, h3]) (fun _ => ?_) fun _ => ?_
  · rw [f_set]
    exact hx _ k
  · obtain ⟨z, h⟩ := h8
    have := k z
    rw [set_same h] at this
    exact this
def isI (y : D) : Prop := ∃ i : Int, y = .int i
theorem house_ok {ns : List Int} {at0 many : Int} (h0 : 0 ≤ at0) (hm : 0 < many) (hm2 : many ≤ 2) {sm : Bool} {Q : D → Prop} (K : ∀ h : Ho, HoOk h → Q (eHo h)) : RP (v_law_house [.scr (ns.map D.int), .int at0, .int many, .bl sm]) Q X0 := by
  unfold v_law_house vb_law_house
  rw [rp_run]
  refine seq_of ?_
  simp
  refine (cell_ok ns at0 h0).imp ?_
  rintro d ⟨c0, rfl⟩
  refine (row_ok c0 4 60 (by omega) (by omega) (by omega) (by omega)).imp ?_
  rintro d ⟨dg, rfl, dl, db⟩
  have dl : dg.length = 4 := dl
  have eiL : List.map D.int dg = iL dg := rfl
  rw [eiL]
  have DI : ∀ {i : Int} {P : D → Prop}, 0 ≤ i → i < 4 → (∀ x : Int, 0 ≤ x → x < 60 → P (.int x)) → ixP (iL dg) i P := fun h0 h1 h => ix_iL h0 (by omega) fun x hx => h x (db x hx).1 (db x hx).2
  refine seq_of ?_
  simp
  refine DI (by omega) (by omega) fun x0 _ _ => ?_
  simp
  have hs3 : (if sm = true then 1 else 0 : Int) < 3 := by cases sm <;> decide
  generalize hmn : (if 2 - (if sm = true then 1 else 0 : Int) < x0 % 3 then 2 - (if sm = true then 1 else 0 : Int) else x0 % 3) = mn
  obtain ⟨A, eA0, hA, hAl⟩ := cut_sL AA none (some mn)
  have eA' : cutD [D.str (Str.ofString "a"), D.str (Str.ofString "b")] none (some mn) = sL A := eA0
  simp [eA']
  have hAl : A.length ≤ 2 := hAl
  refine seq_of ?_
  simp
  refine seq_of ?_
  simp
  refine seq_of ?_
  simp
  refine left_if rfl ⟨_, rfl⟩ (fun P hP => ?_) fun left0 => ?_
  · simp
    refine DI (by omega) (by omega) fun x _ _ => ?_
    simp
    exact hP _
  refine seq_of ?_
  simp [f_for]
  refine DI (by omega) (by omega) fun x1 _ _ => ?_
  simp
  have hx1 : 0 ≤ x1 % many := Int.emod_nonneg _ (by omega)
  have hx2 : x1 % many < many := Int.emod_lt_of_pos _ hm
  refine ⟨hm, by omega, ?_⟩
  obtain ⟨I, hI⟩ : ∃ I : List D → VEn → Prop, ∀ pre ve, I pre ve ↔ ∃ (cs : List Ct) (L' : List (Str × Str)) (l : Int) (k y z : Option D), ve = [some (D.scr (ns.map D.int)), some (D.int at0), some (D.int many), some (D.bl sm), some (D.lst (iL dg)), some (D.lst (sL A)), some (D.lst (cs.map eCt)), some (D.lst (pairs L')), some (D.int l), k, y, none, z, none] ∧ cs.length = pre.length ∧ L'.length ≤ 2 * pre.length ∧ (∀ c ∈ cs, CtOk c) ∧ ∀ p ∈ L', p.1 ∈ CC ∧ p.2 ∈ PP := ⟨_, fun _ _ => Iff.rfl⟩
  refine for_ok I (pre := []) ((hI _ _).mpr ⟨[], [], left0, none, none, none, rfl, rfl, Nat.le_refl _, fun _ h => absurd h List.not_mem_nil, fun _ h => absurd h List.not_mem_nil⟩) ?_ ?_
  · intro p d q ve hd hi
    obtain ⟨cs, L', l, k, y, z, rfl, hp, hl', hcs, hL'⟩ := (hI _ _).mp hi
    obtain ⟨rfl, hlt⟩ := range_at hd
    have hp2 : p.length < 2 := by omega
    simp
    refine seq_of ?_
    simp
    refine ⟨by decide, ?_⟩
    refine comp_allP isI (fun d hd => ?_) fun ys hys hyl => ?_
    · obtain ⟨j, rfl, hj⟩ := mem_range hd
      simp [wipeD]
      refine ⟨.inl (by decide), ?_⟩
      exact cell_ok ns _ (by omega)
    have hys' : ∃ cl : List Int, ys = iL cl ∧ cl.length = 3 := by
      obtain ⟨cl, e, _, hl⟩ := ex_map (R := fun _ : Int => True) (f := D.int) fun y hy => by
        obtain ⟨i, e⟩ := hys y hy
        exact ⟨i, trivial, e⟩
      exact ⟨cl, e, by rw [hl, hyl]; rfl⟩
    obtain ⟨cl, rfl, hcl⟩ := hys'
    refine seq_of ?_
    simp
    have hcd : ∀ {P : D → Prop}, (∀ s : Str, s ∈ CC → P (.str s)) → RP (vIxA (.str (Str.ofString "cd")) (.int (p.length : Nat))) P X0 := fun h => cd_at (by omega) (by omega) (h _ (by decide)) (h _ (by decide))
    refine hcd fun nm hnm => ?_
    refine contract_ok hnm hcl hA hAl hL' (by omega) (a := l) (sm := sm) fun c L2' l2 hc _ hL2 hL2l => ?_
    refine seq_of ?_
    simp
    refine ⟨by omega, ?_⟩
    refine seq_of ?_
    simp
    refine (hI _ _).mpr ⟨cs ++ [c], L2', l2, some (.int (p.length : Nat)), some (.lst (iL cl)), some (.tup [eCt c, .lst (pairs L2'), .int l2]), by simp, by simp [hp], by simp; omega, ?_, hL2⟩
    intro c' hc'
    rcases List.mem_append.mp hc' with h | h
    · exact hcs _ h
    · rw [List.mem_singleton] at h; subst h; exact hc
  · intro ve hi
    obtain ⟨cs, L', l, k, y, z, rfl, hp, hl', hcs, hL'⟩ := (hI _ _).mp hi
    simp
    refine ⟨by rw [sL_len]; omega, ?_⟩
    refine comp_allP isA (fun d hd => ?_) fun ys hys hyl => ?_
    · obtain ⟨n, hn, rfl⟩ := mem_sL hd
      simp [wipeD]
      refine DI (by omega) (by omega) fun x2 _ _ => ?_
      simp
      exact ⟨by omega, (n, _), hA n hn, rfl⟩
    obtain ⟨hh, rfl, hhs, hhl⟩ := ex_map hys
    have hlen : cs.length = (1 + x1 % many).toNat := by rw [hp]; simp [rangeD]
    generalize x1 % many = r at *
    exact K ⟨hh, cs⟩ ⟨hhs, by rw [hhl, hyl, sL_len]; exact hAl, hcs, (by omega : cs.length ≤ 2), (by omega : 1 ≤ cs.length)⟩
end Vl

set_option Elab.async false
set_option linter.all false
set_option maxRecDepth 100000
set_option maxHeartbeats 4000000
namespace Vl
open PySem PySem.Spec PyProof.Rows L2 Sh Pr
/-! data of a depth -/
def sh : Nat → D → Prop
  | _, .non => True
  | _, .bl _ => True
  | _, .int _ => True
  | _, .str s => PyData.strOk s = true
  | n + 1, .tup xs => ∀ x ∈ xs, sh n x
  | n + 1, .lst xs => ∀ x ∈ xs, sh n x
  | n + 1, .scr xs => ∀ x ∈ xs, sh n x
  | _, _ => False
theorem sh_py : ∀ (n : Nat) (d : D), sh n d → ∃ p, py d = some p ∧ p.canLay0 = true ∧ p.depth ≤ n := by
  have inner : ∀ (n : Nat), (∀ d : D, sh n d → ∃ p, py d = some p ∧ p.canLay0 = true ∧ p.depth ≤ n) → ∀ xs : List D, (∀ x ∈ xs, sh n x) → ∃ ps, pyL xs = some ps ∧ PyData.canLayAll0 ps = true ∧ PyData.depthAll ps ≤ n := by
    intro n ih xs
    induction xs with
    | nil => exact fun _ => ⟨[], by rw [pyL], rfl, Nat.zero_le _⟩
    | cons x t ih2 =>
      intro h
      obtain ⟨p, q1, q2, q3⟩ := ih x (h x List.mem_cons_self)
      obtain ⟨ps, r1, r2, r3⟩ := ih2 fun y hy => h y (List.mem_cons_of_mem _ hy)
      exact ⟨p :: ps, by rw [pyL, q1, r1], by simp [PyData.canLayAll0, q2, r2], by simp [PyData.depthAll]; omega⟩
  intro n
  induction n with
  | zero =>
    intro d h
    cases d <;> simp [sh] at h <;> exact ⟨_, by rw [py], by simp [PyData.canLay0, h], by simp [PyData.depth]⟩
  | succ n ih =>
    intro d h
    cases d with
    | tup xs =>
      obtain ⟨ps, r1, r2, r3⟩ := inner n ih xs h
      exact ⟨.tuple ps, by rw [py, r1]; rfl, by simpa [PyData.canLay0] using r2, by simp [PyData.depth]; exact r3⟩
    | lst xs =>
      obtain ⟨ps, r1, r2, r3⟩ := inner n ih xs h
      exact ⟨.list ps, by rw [py, r1]; rfl, by simpa [PyData.canLay0] using r2, by simp [PyData.depth]; exact r3⟩
    | scr xs =>
      obtain ⟨ps, r1, r2, r3⟩ := inner n ih xs h
      exact ⟨.list ps, by rw [py, r1]; rfl, by simpa [PyData.canLay0] using r2, by simp [PyData.depth]; exact r3⟩
    | dct _ => simp [sh] at h
    | dtp _ => simp [sh] at h
    | ins _ _ => simp [sh] at h
    | cst _ => simp [sh] at h
    | str s => exact ⟨_, by rw [py], by have h' : PyData.strOk s = true := h; simpa [PyData.canLay0] using h', by simp [PyData.depth]⟩
    | _ => exact ⟨_, by rw [py], by simp [PyData.canLay0], by simp [PyData.depth]⟩
theorem sh_up : ∀ (n : Nat) (d : D), sh n d → sh (n + 1) d := by
  intro n
  induction n with
  | zero => intro d h; cases d <;> simp [sh] at h ⊢ <;> exact h
  | succ n ih =>
    intro d h
    cases d <;> first | exact trivial | exact fun x hx => ih x (h x hx) | exact h
theorem sh_le {n m : Nat} {d : D} (h : sh n d) (hm : n ≤ m) : sh m d := by
  induction m with
  | zero => have : n = 0 := by omega
            subst this; exact h
  | succ m ih =>
    by_cases e : n = m + 1
    · subst e; exact h
    · exact sh_up _ _ (ih (by omega))
theorem sh_str {n : Nat} {s : Str} (h : PyData.strOk s = true := by decide +kernel) : sh n (.str s) := by cases n <;> exact h
theorem sh_int {n : Nat} {s : Int} : sh n (.int s) := by cases n <;> exact trivial
theorem sh_bl {n : Nat} {s : Bool} : sh n (.bl s) := by cases n <;> exact trivial
theorem sh_tup {n : Nat} {xs : List D} (h : ∀ x ∈ xs, sh n x) : sh (n + 1) (.tup xs) := h
theorem sh_lst {n : Nat} {xs : List D} (h : ∀ x ∈ xs, sh n x) : sh (n + 1) (.lst xs) := h
theorem all_nil {R : D → Prop} : ∀ x ∈ ([] : List D), R x := fun _ h => absurd h List.not_mem_nil
theorem all_cons {R : D → Prop} {d : D} {l : List D} (h : R d) (t : ∀ x ∈ l, R x) : ∀ x ∈ d :: l, R x := fun x hx => by
  rcases List.mem_cons.mp hx with rfl | hx
  · exact h
  · exact t x hx
abbrev SOk (l : List Str) : Prop := ∀ s ∈ l, PyData.strOk s = true
theorem WE.sh {N A : List Str} (hN : SOk N) (hA : SOk A) : ∀ {k : Nat} {d : D}, WE N A k d → sh k d
  | _, _, .var h => sh_tup (all_cons sh_str (all_cons (sh_str (hN _ h)) all_nil))
  | _, _, .given => sh_tup (all_cons sh_str all_nil)
  | _, _, .hold ho h => sh_tup (all_cons (sh_str (by rcases ho with rfl | rfl <;> decide +kernel)) (all_cons (sh_str (hA _ h)) all_nil))
  | _, _, .bin ho a b => sh_tup (all_cons (sh_str (by simp at ho; rcases ho with rfl | rfl | rfl | rfl | rfl | rfl | rfl <;> decide +kernel)) (all_cons (a.sh hN hA) (all_cons (b.sh hN hA) all_nil)))
  | _, _, .num => sh_tup (all_cons sh_str (all_cons sh_int all_nil))
theorem WS.sh {N A P C : List Str} (hN : SOk N) (hA : SOk A) (hP : SOk P) (hC : SOk C) : ∀ {k : Nat} {d : D}, WS N A P C k d → sh (2 * k + 4) d
  | _, _, .set h e => sh_tup (all_cons sh_str (all_cons (sh_str (hN _ h)) (all_cons (sh_le (e.sh hN hA) (by omega)) all_nil)))
  | _, _, .need e => sh_tup (all_cons sh_str (all_cons (sh_le (e.sh hN hA) (by omega)) all_nil))
  | _, _, .give ho h e => sh_tup (all_cons (sh_str (by rcases ho with rfl | rfl <;> decide +kernel)) (all_cons (sh_str (hA _ h)) (all_cons (sh_le (e.sh hN hA) (by omega)) all_nil)))
  | _, _, .ask h => sh_tup (all_cons sh_str (all_cons (sh_str (hN _ h)) (all_cons sh_int all_nil)))
  | _, _, .call h h' e => sh_tup (all_cons sh_str (all_cons (sh_str (hC _ h)) (all_cons (sh_str (hP _ h')) (all_cons (sh_le (e.sh hN hA) (by omega)) all_nil))))
  | _, _, .ife _ _ e h1 h2 => sh_tup (all_cons sh_str (all_cons (sh_le (e.sh hN hA) (by omega)) (all_cons (sh_tup fun x hx => (h1 x hx).sh hN hA hP hC) (all_cons (sh_tup fun x hx => (h2 x hx).sh hN hA hP hC) all_nil))))
/-! names put for names -/
abbrev Nm (nm : D) (l : List Str) : Prop := ∀ s ∈ l, ∃ t : Str, vIxA nm (.str s) = .ok (.str t) ∧ PyData.strOk t = true
theorem nm_at {nm : D} {l : List Str} (h : Nm nm l) {s : Str} (hs : s ∈ l) {P : D → Prop} {X : XP} (k : ∀ t : Str, PyData.strOk t = true → P (.str t)) : RP (vIxA nm (.str s)) P X := by
  obtain ⟨t, e, o⟩ := h s hs
  rw [e]
  exact rp_mk (k t o)
theorem rp_in3 {x a b c : Str} {P : D → Prop} {X : XP} : RP (vInB false (.str x) (.tup [.str a, .str b, .str c])) P X = P (.bl (a == x || (b == x || c == x))) := by
  simp [vInB, flatD, eqFl]
theorem cval_ok {nm : D} {N A : List Str} (hN : Nm nm N) (hA : Nm nm A) : ∀ (k d : Nat) (e : D), WE N A k e → k ≤ d → RP (v_law_called_value d [e, nm]) (sh k) X0
  | 0, _, _, h, _ => by cases h
  | k + 1, 0, _, _, hd => by omega
  | k + 1, d + 1, e, h, hd => by
    show RP (vrun 2 (vb_law_called_value (v_law_called_value d)) 2 _) _ _
    unfold vb_law_called_value
    rw [rp_run]
    cases h with
    | var hn =>
      refine seq_if True (by simp [rp_in3]) (fun _ => ?_) fun h => absurd trivial h
      simp
      exact nm_at hN hn fun t ht => sh_tup (all_cons sh_str (all_cons (sh_str ht) all_nil))
    | given =>
      refine seq_if False (by simp [rp_in3]; decide) (fun h => h.elim) fun _ => ?_
      refine seq_if False (by simp) (fun h => h.elim) fun _ => ?_
      simp
      exact sh_tup (all_cons sh_str all_nil)
    | hold ho ha =>
      refine seq_if True (by rcases ho with rfl | rfl <;> simp [rp_in3]) (fun _ => ?_) fun h => absurd trivial h
      simp
      exact nm_at hA ha fun t ht => sh_tup (all_cons (sh_str (by rcases ho with rfl | rfl <;> decide +kernel)) (all_cons (sh_str ht) all_nil))
    | bin ho h1 h2 =>
      refine seq_if False (by simp [rp_in3]; simp at ho; rcases ho with rfl | rfl | rfl | rfl | rfl | rfl | rfl <;> decide) (fun h => h.elim) fun _ => ?_
      refine seq_if True (by simp) (fun _ => ?_) fun h => absurd trivial h
      simp
      refine (cval_ok hN hA k d _ h1 (by omega)).imp fun l hl => ?_
      refine (cval_ok hN hA k d _ h2 (by omega)).imp fun r hr => ?_
      exact sh_tup (all_cons (sh_str (by simp at ho; rcases ho with rfl | rfl | rfl | rfl | rfl | rfl | rfl <;> decide +kernel)) (all_cons hl (all_cons hr all_nil)))
    | num =>
      refine seq_if False (by simp [rp_in3]; decide) (fun h => h.elim) fun _ => ?_
      refine seq_if False (by simp) (fun h => h.elim) fun _ => ?_
      simp
      exact sh_tup (all_cons sh_str (all_cons sh_int all_nil))

@[simp] theorem neg_2 {a b : D} {P : D → Prop} : ixP [a, b] (-1) P = P b := rfl
@[simp] theorem neg_3 {a b c : D} {P : D → Prop} : ixP [a, b, c] (-1) P = P c := rfl
@[simp] theorem neg_4 {a b c d : D} {P : D → Prop} : ixP [a, b, c, d] (-1) P = P d := rfl
@[simp] theorem cut_2 {a b : D} : cutD [a, b] (some 1) (some (-1)) = [] := rfl
@[simp] theorem cut_3 {a b c : D} : cutD [a, b, c] (some 1) (some (-1)) = [b] := rfl
@[simp] theorem cut_4 {a b c d : D} : cutD [a, b, c, d] (some 1) (some (-1)) = [b, c] := rfl
def isSt (y : D) : Prop := ∃ t : Str, y = .str t ∧ PyData.strOk t = true
theorem cblk_ok {nm : D} {N A P C : List Str} (hN : Nm nm N) (hA : Nm nm A) (hP : Nm nm P) (hC : Nm nm C) : ∀ (d k : Nat) (b : List D), (∀ s ∈ b, WS N A P C k s) → k < d → b.length ≤ 1000 → RP (v_law_called_block d [.tup b, nm]) (fun r => ∃ b' : List D, r = .tup b' ∧ b'.length ≤ 1000 ∧ ∀ t ∈ b', sh (2 * k + 4) t) X0
  | 0, _, _, _, hd, _ => by omega
  | d + 1, k, b, hb, hd, hl => by
    have E := fun (e : D) (he : WE N A 3 e) => cval_ok hN hA 3 8 e he (by omega)
    show RP (vrun 2 (vb_law_called_block (v_law_called_block d) (v_law_called_value 8)) 7 _) _ _
    unfold vb_law_called_block
    rw [rp_run]
    refine seq_of ?_
    simp
    refine seq_of ?_
    simp [f_for]
    obtain ⟨I, hI⟩ : ∃ I : List D → VEn → Prop, ∀ pre ve, I pre ve ↔ ∃ (r : List D) (x y z u : Option D), ve = [some (.tup b), some nm, some (.lst r), x, y, z, u] ∧ r.length = pre.length ∧ ∀ t ∈ r, sh (2 * k + 4) t := ⟨_, fun _ _ => Iff.rfl⟩
    refine for_ok I (pre := []) ((hI _ _).mpr ⟨[], none, none, none, none, rfl, rfl, all_nil⟩) ?_ ?_
    · intro p s q ve hd' hi
      obtain ⟨r, x, y, z, u, rfl, hr, hs⟩ := (hI _ _).mp hi
      have hm : s ∈ b := by rw [List.nil_append] at hd'; rw [hd']; simp
      have hlen : r.length < 16777216 := by
        have : b.length = p.length + (q.length + 1) := by rw [List.nil_append] at hd'; rw [hd']; simp
        omega
      have fin : ∀ (t : D) (x y z u : Option D), sh (2 * k + 4) t → I (p ++ [s]) [some (.tup b), some nm, some (.lst (r ++ [t])), x, y, z, u] := fun t x y z u ht =>
        (hI _ _).mpr ⟨r ++ [t], x, y, z, u, rfl, by simp [hr], fun t' ht' => by
          rcases List.mem_append.mp ht' with h | h
          · exact hs _ h
          · rw [List.mem_singleton] at h; subst h; exact ht⟩
      have hw := hb s hm
      simp
      cases hw with
      | set hn he =>
        refine st_if False (by simp; decide) (fun h => h.elim) fun _ => ?_
        refine st_if False (by simp; decide) (fun h => h.elim) fun _ => ?_
        refine seq_of ?_
        simp
        refine comp_allP isSt (fun d hd => ?_) fun ys hys hyl => ?_
        · simp at hd
          subst hd
          simp [wipeD]
          exact nm_at hN hn fun t ht => ⟨t, rfl, ht⟩
        have hyl2 : ys.length ≤ 2 := by simp at hyl; omega
        refine ⟨by omega, (E _ he).imp fun e' he' => ⟨by omega, hlen, fin _ _ _ _ _ (sh_tup (all_cons sh_str ?_))⟩⟩
        intro t ht
        rcases List.mem_append.mp ht with h | h
        · obtain ⟨t', rfl, ht'⟩ := hys t h
          exact sh_str ht'
        · rw [List.mem_singleton] at h; subst h; exact sh_le he' (by omega)
      | need he =>
        refine st_if False (by simp; decide) (fun h => h.elim) fun _ => ?_
        refine st_if False (by simp; decide) (fun h => h.elim) fun _ => ?_
        refine seq_of ?_
        simp
        refine comp_allP isSt (fun d hd => absurd hd List.not_mem_nil) fun ys hys hyl => ?_
        have hyl2 : ys.length = 0 := hyl
        refine ⟨by omega, (E _ he).imp fun e' he' => ⟨by omega, hlen, fin _ _ _ _ _ (sh_tup (all_cons sh_str ?_))⟩⟩
        intro t ht
        rcases List.mem_append.mp ht with h | h
        · obtain ⟨t', rfl, ht'⟩ := hys t h
          exact sh_str ht'
        · rw [List.mem_singleton] at h; subst h; exact sh_le he' (by omega)
      | give ho ha he =>
        refine st_if False (by simp; rcases ho with rfl | rfl <;> decide) (fun h => h.elim) fun _ => ?_
        refine st_if False (by simp; rcases ho with rfl | rfl <;> decide) (fun h => h.elim) fun _ => ?_
        refine seq_of ?_
        simp
        refine comp_allP isSt (fun d hd => ?_) fun ys hys hyl => ?_
        · simp at hd
          subst hd
          simp [wipeD]
          exact nm_at hA ha fun t ht => ⟨t, rfl, ht⟩
        have hyl2 : ys.length ≤ 2 := by simp at hyl; omega
        refine ⟨by omega, (E _ he).imp fun e' he' => ⟨by omega, hlen, fin _ _ _ _ _ (sh_tup (all_cons (sh_str (by rcases ho with rfl | rfl <;> decide +kernel)) ?_))⟩⟩
        intro t ht
        rcases List.mem_append.mp ht with h | h
        · obtain ⟨t', rfl, ht'⟩ := hys t h
          exact sh_str ht'
        · rw [List.mem_singleton] at h; subst h; exact sh_le he' (by omega)
      | ask hn =>
        refine st_if False (by simp; decide) (fun h => h.elim) fun _ => ?_
        refine st_if True (by simp) (fun _ => ?_) fun h => absurd trivial h
        simp
        exact nm_at hN hn fun t ht => ⟨hlen, fin _ _ _ _ _ (sh_tup (all_cons sh_str (all_cons (sh_str ht) (all_cons sh_int all_nil))))⟩
      | call hc hp he =>
        refine st_if False (by simp; decide) (fun h => h.elim) fun _ => ?_
        refine st_if False (by simp; decide) (fun h => h.elim) fun _ => ?_
        refine seq_of ?_
        simp
        refine comp_allP isSt (fun d hd => ?_) fun ys hys hyl => ?_
        · simp at hd
          rcases hd with rfl | rfl
          · simp [wipeD]
            exact nm_at hC hc fun t ht => ⟨t, rfl, ht⟩
          · simp [wipeD]
            exact nm_at hP hp fun t ht => ⟨t, rfl, ht⟩
        have hyl2 : ys.length ≤ 2 := by simp at hyl; omega
        refine ⟨by omega, (E _ he).imp fun e' he' => ⟨by omega, hlen, fin _ _ _ _ _ (sh_tup (all_cons sh_str ?_))⟩⟩
        intro t ht
        rcases List.mem_append.mp ht with h | h
        · obtain ⟨t', rfl, ht'⟩ := hys t h
          exact sh_str ht'
        · rw [List.mem_singleton] at h; subst h; exact sh_le he' (by omega)
      | @ife k e b1 b2 l1 l2 he h1 h2 =>
        refine st_if True (by simp) (fun _ => ?_) fun h => absurd trivial h
        refine seq_of ?_
        simp
        refine (cblk_ok hN hA hP hC d k b1 h1 (by omega) l1).imp ?_
        rintro r1 ⟨b1', rfl, _, hb1⟩
        refine (cblk_ok hN hA hP hC d k b2 h2 (by omega) l2).imp ?_
        rintro r2 ⟨b2', rfl, _, hb2⟩
        refine (E _ he).imp fun e' he' => ⟨hlen, fin _ _ _ _ _ (sh_tup (all_cons sh_str (all_cons (sh_le he' (by omega)) (all_cons (sh_tup hb1) (all_cons (sh_tup hb2) all_nil)))))⟩
    · intro ve hi
      obtain ⟨r, x, y, z, u, rfl, hr, hs⟩ := (hI _ _).mp hi
      simp
      exact ⟨by rw [hr]; simpa using hl, hs⟩
end Vl

set_option Elab.async false
set_option linter.all false
set_option maxRecDepth 100000
set_option maxHeartbeats 4000000
namespace Vl
open PySem PySem.Spec PyProof.Rows L2 Sh Pr
structure CtW (c : Ct) : Prop where
  nm : PyData.strOk c.nm = true
  vs : ∀ v ∈ c.vs, PyData.strOk v.1 = true
  hs : ∀ v ∈ c.hs, PyData.strOk v.1 = true
  ps : ∀ p ∈ c.ps, PyData.strOk p.nm = true ∧ p.bk.length ≤ 1000 ∧ ∀ t ∈ p.bk, sh 6 t
  lv : c.vs.length ≤ 2
  lh : c.hs.length ≤ 2
  lp : c.ps.length ≤ 2
structure HoW (h : Ho) : Prop where
  as : ∀ a ∈ h.as, PyData.strOk a.1 = true
  la : h.as.length ≤ 2
  cs : ∀ c ∈ h.cs, CtW c
  lc : h.cs.length ≤ 2
  l1 : 1 ≤ h.cs.length
theorem sNN : SOk NN := by intro s hs; simp at hs; rcases hs with rfl | rfl <;> decide +kernel
theorem sAA : SOk AA := by intro s hs; simp at hs; rcases hs with rfl | rfl <;> decide +kernel
theorem sPP : SOk PP := by intro s hs; simp at hs; rcases hs with rfl | rfl <;> decide +kernel
theorem sCC : SOk CC := by intro s hs; simp at hs; rcases hs with rfl | rfl <;> decide +kernel
theorem HoOk.w {h : Ho} (k : HoOk h) : HoW h where
  as := fun a ha => sAA _ (k.as a ha)
  la := k.la
  lc := k.lc
  l1 := k.l1
  cs := fun c hc => have q := k.cs c hc
    { nm := sCC _ q.nm, vs := fun v hv => sNN _ (q.vs v hv), hs := fun v hv => sAA _ (q.hs v hv), ps := fun p hp => ⟨sPP _ (q.ps p hp).1, (q.ps p hp).2.1, fun t ht => ((q.ps p hp).2.2 t ht).sh sNN sAA sPP sCC⟩, lv := q.lv, lh := q.lh, lp := q.lp }
section
variable {Q : Po} {ve : VEn} {X : XP} {P : D → Prop}
theorem for_nil {tg : VTg} {body : VSm} : FOk Q (dForF tg body [] ve) = Q.nx ve := by unfold dForF; exact f_nx
theorem for_cons {tg : VTg} {body : VSm} {d : D} {r : List D} (h : tgP (tg d ve) fun ve1 => FOk ⟨fun ve2 => FOk Q (dForF tg body r ve2), Q.rt, fun ve2 => FOk Q (dForF tg body r ve2), Q.nx, Q.xc⟩ (body ve1)) : FOk Q (dForF tg body (d :: r) ve) := by
  unfold dForF
  cases e : tg d ve with
  | none => rw [e] at h; exact h.elim
  | some ve1 =>
    rw [e] at h
    dsimp only [tgP] at h ⊢
    revert h
    cases body ve1 <;> (intro h; simp only [f_nx, f_rt, f_ct, f_bk, f_xc, f_no] at h ⊢; try exact h)
theorem f_itemD {i : Nat} {mi mv : VM D} {kvs : List (D × D)} (hi : ve[i]? = some (some (.dct kvs))) (hl : kvs.length < 16777216) (h : RP (mv ve) (fun y => RP (mi ve) (fun k => ∃ κ, keyOf k = some κ ∧ Q.nx (ve.set i (some (.dct (putD kvs κ y))))) Q.xc) Q.xc) : FOk Q (dsItemA i mi mv ve) := by
  unfold dsItemA
  rw [f_bs]
  refine h.imp fun y hy => ?_
  rw [hi]
  dsimp only
  rw [f_bs]
  refine hy.imp fun k hk => ?_
  obtain ⟨κ, e, q⟩ := hk
  rw [e]
  dsimp only
  rw [if_pos hl, f_nx]
  exact q
theorem rp_disp (m : VM (List (D × D))) : RP (dDisp m ve) P X = RP (m ve) (fun ps => match toK ps with
    | some kvs => kvs.length ≤ 15 ∧ P (.dct (mergeD [] kvs))
    | none => False) X := by
  unfold dDisp
  rw [rp_vb]
  congr 1
  funext ps
  cases toK ps with
  | none => exact rp_no
  | some kvs => exact rp_iteo _ _
end
def KV0 : List (D × D) := mergeD [] [(.inr "a", .str "paid"), (.inr "b", .str "paid1"), (.inr "z", .str "paid12"), (.inr "x", .str "paid"), (.inr "y", .str "lock"), (.inr "lock", .str "lock"), (.inr "p", .str "paying"), (.inr "q", .str "payinga")]
def KV1 : List (D × D) := putD KV0 (.inr "r") (.str "payingab")
def KV2 : List (D × D) := putD KV1 (.inr "c") (.str "houses0hold1")
def KV3 : List (D × D) := putD KV2 (.inr "d") (.str "houses0hold2")
def KV4 : List (D × D) := putD KV3 (.inr "e") (.str "houses0hold")
def KV5 : List (D × D) := putD KV4 (.inr "f") (.str "paid")
def lookS (kvs : List (D × D)) (s : Str) : Bool := match lookD kvs (.inr s) with
  | some (.str u) => PyData.strOk u
  | _ => false
theorem lookS_nm {kvs : List (D × D)} {s : Str} (h : lookS kvs s = true) : ∃ t : Str, vIxA (.dct kvs) (.str s) = .ok (.str t) ∧ PyData.strOk t = true := by
  unfold lookS at h
  split at h
  · rename_i u e
    refine ⟨u, ?_, h⟩
    show (match lookD kvs (.inr s) with
      | some d => VR.ok d
      | none => VR.no) = _
    rw [e]
  · cases h
theorem nmKV : Nm (.dct KV5) NN ∧ Nm (.dct KV5) AA ∧ Nm (.dct KV5) PP ∧ Nm (.dct KV5) CC := by
  refine ⟨?_, ?_, ?_, ?_⟩ <;> (intro s hs; refine lookS_nm ?_; simp at hs; rcases hs with rfl | rfl <;> decide +kernel)
@[simp] theorem rp_dpN {ve : VEn} {X : XP} {P : List (D × D) → Prop} : RP (dpN ve) P X = P [] := rp_ok _
@[simp] theorem rp_dpC {ve : VEn} {X : XP} {P : List (D × D) → Prop} (a b : VM D) (r : VM (List (D × D))) : RP (dpC a b r ve) P X = RP (a ve) (fun x => RP (b ve) (fun y => RP (r ve) (fun ps => P ((x, y) :: ps)) X) X) X := by simp [dpC]
def isVW (y : D) : Prop := ∃ v : Str × Int × Int, PyData.strOk v.1 = true ∧ y = eV v
def isAW (y : D) : Prop := ∃ v : Str × Int, PyData.strOk v.1 = true ∧ y = eA v
def isPW (y : D) : Prop := ∃ p : Pc, (PyData.strOk p.nm = true ∧ p.bk.length ≤ 1000 ∧ ∀ t ∈ p.bk, sh 6 t) ∧ y = eP p
@[simp] theorem cut_t3 {a b c : D} : cutD [a, b, c] (some 1) none = [b, c] := rfl
theorem called_ok {h : Ho} (hh : HoOk h) {Q : D → Prop} (K : ∀ h' : Ho, HoW h' → Q (eHo h')) : RP (v_law_called [eHo h]) Q X0 := by
  unfold v_law_called vb_law_called
  rw [rp_run]
  refine seq_of ?_
  rw [f_set, rp_disp]
  simp only [rp_dpC, rp_dpN, rp_dc, toK, keyOf, List.length_cons, List.length_nil]
  refine ⟨by decide, ?_⟩
  show FOk _ (dsSeq _ _ [some (eHo h), some (D.dct KV0), none, none, none, none, none, none, none, none, none])
  refine seq_of ?_
  rw [f_for]
  simp only [rp_diT, rp_dA, rp_cons, rp_nil, rp_tup, rp_dc, isTp_tup, List.length_cons, List.length_nil]
  refine ⟨by decide, by decide, by decide, by decide, by decide, by decide, ?_⟩
  have st : ∀ {Q : Po} {A B : List (D × D)} {k v : Str} {r : List D} {x y : Option D}, A.length < 16777216 → B = putD A (.inr k) (.str v) → FOk Q (dForF (gT [2, 3]) (dsItemA 1 (dVar 2) (dVar 3)) r [some (eHo h), some (D.dct B), some (D.str k), some (D.str v), none, none, none, none, none, none, none]) →
      FOk Q (dForF (gT [2, 3]) (dsItemA 1 (dVar 2) (dVar 3)) (D.tup [.str k, .str v] :: r) [some (eHo h), some (D.dct A), x, y, none, none, none, none, none, none, none]) := fun hl hB hk => for_cons (by
    show tgP (some _) _
    rw [tgP_some]
    refine f_itemD rfl hl ?_
    simp only [rp_var, at_0, at_n]
    subst hB
    exact ⟨_, rfl, hk⟩)
  refine st (by decide +kernel) (show KV1 = _ from rfl) ?_
  refine st (by decide +kernel) (show KV2 = _ from rfl) ?_
  refine st (by decide +kernel) (show KV3 = _ from rfl) ?_
  refine st (by decide +kernel) (show KV4 = _ from rfl) ?_
  refine st (by decide +kernel) (show KV5 = _ from rfl) ?_
  rw [for_nil]
  obtain ⟨hN, hA, hP, hC⟩ := nmKV
  generalize D.dct KV5 = nm at *
  dsimp only
  refine seq_of ?_
  simp
  refine seq_of ?_
  simp [f_for, eHo]
  obtain ⟨I, hI⟩ : ∃ I : List D → VEn → Prop, ∀ pre ve, I pre ve ↔ ∃ (cs : List Ct) (x y z u : Option D), ve = [some (.tup [.lst (h.as.map eA), .lst (h.cs.map eCt)]), some nm, some (.str "f"), some (.str "paid"), some (.lst (cs.map eCt)), x, y, none, z, u, none] ∧ cs.length = pre.length ∧ ∀ c ∈ cs, CtW c := ⟨_, fun _ _ => Iff.rfl⟩
  refine for_ok I (pre := []) ((hI _ _).mpr ⟨[], none, none, none, none, rfl, rfl, fun _ h => absurd h List.not_mem_nil⟩) ?_ ?_
  · intro p d q ve hd hi
    obtain ⟨cs, x, y, z, u, rfl, hp, hcs⟩ := (hI _ _).mp hi
    rw [List.nil_append] at hd
    have hm : d ∈ h.cs.map eCt := by rw [hd]; simp
    have hlen : p.length + (q.length + 1) = h.cs.length := by
      have : (h.cs.map eCt).length = p.length + (q.length + 1) := by rw [hd]; simp
      rw [← this, List.length_map]
    have hlc := hh.lc
    rw [List.mem_map] at hm
    obtain ⟨c, hc, rfl⟩ := hm
    have ok := hh.cs c hc
    simp
    refine seq_of ?_
    simp [eCt]
    refine ⟨by have := ok.lv; omega, ?_⟩
    refine comp_allP isVW (fun d hd => ?_) fun ys hys hyl => ?_
    · rw [List.mem_map] at hd
      obtain ⟨v, hv, rfl⟩ := hd
      simp [wipeD, eV]
      exact nm_at hN (ok.vs v hv) fun t ht => ⟨(t, v.2.1, v.2.2), ht, rfl⟩
    obtain ⟨vs', rfl, hvs, hvl⟩ := ex_map hys
    have hvl2 : vs'.length ≤ 2 := by rw [hvl, hyl, List.length_map]; exact ok.lv
    refine seq_of ?_
    simp
    refine ⟨by have := ok.lh; omega, ?_⟩
    refine comp_allP isAW (fun d hd => ?_) fun ys hys hyl => ?_
    · rw [List.mem_map] at hd
      obtain ⟨v, hv, rfl⟩ := hd
      simp [wipeD, eA]
      exact nm_at hA (ok.hs v hv) fun t ht => ⟨(t, v.2), ht, rfl⟩
    obtain ⟨hs', rfl, hhs, hhl⟩ := ex_map hys
    have hhl2 : hs'.length ≤ 2 := by rw [hhl, hyl, List.length_map]; exact ok.lh
    refine seq_of ?_
    simp
    refine ⟨by have := ok.lp; omega, ?_⟩
    refine comp_allP isPW (fun d hd => ?_) fun ys hys hyl => ?_
    · rw [List.mem_map] at hd
      obtain ⟨v, hv, rfl⟩ := hd
      have ov := ok.ps v hv
      simp [wipeD, eP]
      refine nm_at hP ov.1 fun t ht => ?_
      refine (cblk_ok hN hA hP hC 8 1 v.bk ov.2.2 (by omega) ov.2.1).imp ?_
      rintro r ⟨b', rfl, hb1, hb2⟩
      exact ⟨⟨t, v.sz, v.sn, b'⟩, ⟨ht, hb1, hb2⟩, rfl⟩
    obtain ⟨ps', rfl, hps, hpl⟩ := ex_map hys
    have hpl2 : ps'.length ≤ 2 := by rw [hpl, hyl, List.length_map]; exact ok.lp
    refine nm_at hC ok.nm fun t ht => ?_
    refine ⟨by omega, (hI _ _).mpr ⟨cs ++ [⟨t, vs', hs', ps'⟩], _, _, _, _, by simp [eCt]; exact ⟨rfl, rfl, rfl, rfl⟩, by simp [hp], ?_⟩⟩
    intro c' hc'
    rcases List.mem_append.mp hc' with h | h
    · exact hcs _ h
    · rw [List.mem_singleton] at h; subst h; exact ⟨ht, hvs, hhs, hps, hvl2, hhl2, hpl2⟩
  · intro ve hi
    obtain ⟨cs, x, y, z, u, rfl, hp, hcs⟩ := (hI _ _).mp hi
    dsimp only
    simp
    refine ⟨by have := hh.la; omega, ?_⟩
    refine comp_allP isAW (fun d hd => ?_) fun ys hys hyl => ?_
    · rw [List.mem_map] at hd
      obtain ⟨v, hv, rfl⟩ := hd
      simp [wipeD, eA]
      exact nm_at hA (hh.as v hv) fun t ht => ⟨(t, v.2), ht, rfl⟩
    obtain ⟨hs', rfl, hhs, hhl⟩ := ex_map hys
    have hl : cs.length = h.cs.length := by rw [hp]; simp
    exact K ⟨hs', cs⟩ ⟨hhs, by rw [hhl, hyl, List.length_map]; exact hh.la, hcs, (by rw [hl]; exact hh.lc : cs.length ≤ 2), (by rw [hl]; exact hh.l1 : 1 ≤ cs.length)⟩
end Vl

set_option Elab.async false
set_option linter.all false
set_option maxRecDepth 100000
set_option maxHeartbeats 4000000
namespace Vl
open PySem PySem.Spec PyProof.Rows L2 Sh Pr
/-! guards -/
inductive Gd where
  | hide (c p : Str) | lock (c : Str) | floor (c a : Str) (n : Int)
def eG : Gd → D
  | .hide c p => .tup [.str "hide", .str c, .str p]
  | .lock c => .tup [.str "lock", .str c]
  | .floor c a n => .tup [.str "floor", .str c, .str a, .int n]
def GdOk : Gd → Prop
  | .hide c p => PyData.strOk c = true ∧ PyData.strOk p = true
  | .lock c => PyData.strOk c = true
  | .floor c a _ => PyData.strOk c = true ∧ PyData.strOk a = true
def Gd.c : Gd → Str
  | .hide c _ => c
  | .lock c => c
  | .floor c _ _ => c
def isG (d : D) : Prop := ∃ g, GdOk g ∧ d = eG g
theorem set_if {ve : VEn} {i : Nat} {t : VM Bool} {e : VM D} {rest : VSm} {Q : Po} {R : D → Prop} (c : Prop) (ht : RP (t ve) (fun x => (x = true) = c) Q.xc) (h0 : ∃ d, ve[i]? = some (some d) ∧ R d) (he : c → RP (e ve) R Q.xc) (k : ∀ d, R d → FOk Q (rest (ve.set i (some d)))) : FOk Q (dsSeq (dsIf t (dsSet i e) dsNil) rest ve) := by
  refine seq_if c ht (fun hc => ?_) fun _ => ?_
  · rw [f_set]
    exact (he hc).imp k
  · obtain ⟨d, h, r⟩ := h0
    have := k d r
    rw [set_same h] at this
    exact this
theorem sPq : ∀ {k : Int} {P : D → Prop} {X : XP}, 0 ≤ k → k < 2 → (∀ s : Str, PyData.strOk s = true → P (.str s)) → RP (vIxA (.str (Str.ofString "pq")) (.int k)) P X := fun h0 h1 h => pq_at h0 h1 (h _ (by decide +kernel)) (h _ (by decide +kernel))
theorem sCd : ∀ {k : Int} {P : D → Prop} {X : XP}, 0 ≤ k → k < 2 → (∀ s : Str, PyData.strOk s = true → P (.str s)) → RP (vIxA (.str (Str.ofString "cd")) (.int k)) P X := fun h0 h1 h => cd_at h0 h1 (h _ (by decide +kernel)) (h _ (by decide +kernel))
theorem sAb : ∀ {k : Int} {P : D → Prop} {X : XP}, 0 ≤ k → k < 2 → (∀ s : Str, PyData.strOk s = true → P (.str s)) → RP (vIxA (.str (Str.ofString "ab")) (.int k)) P X := fun h0 h1 h => ab_at h0 h1 (h _ (by decide +kernel)) (h _ (by decide +kernel))
theorem ix_map {α : Type} {f : α → D} {l : List α} {i : Int} {P : D → Prop} (h0 : 0 ≤ i) (h1 : i < l.length) (h : ∀ x ∈ l, P (f x)) : ixP (l.map f) i P :=
  ixP_of h0 (by rw [List.length_map]; exact h1) fun d hd => by
    rw [List.mem_map] at hd
    obtain ⟨x, hx, rfl⟩ := hd
    exact h x hx
theorem guard_ok {h : Ho} (hh : HoW h) (cell : Int) : RP (v_law_guard [.int cell, eHo h]) isG X0 := by
  unfold v_law_guard vb_law_guard
  rw [rp_run]
  have hl := hh.l1
  refine seq_of ?_
  simp
  refine seq_of ?_
  simp
  refine seq_of ?_
  simp
  refine sCd (by omega) (by omega) fun c0 hc0 => ?_
  refine set_if (0 < cell / 3 / 2 % 4) (R := isSt) (by simp) ⟨_, rfl, c0, rfl, hc0⟩ (fun hc => ?_) fun d hd => ?_
  · simp [eHo]
    refine ⟨by omega, ?_⟩
    refine ix_map (Int.emod_nonneg _ (by omega)) (Int.emod_lt_of_pos _ (by omega)) fun c hc => ?_
    simp [eCt]
    exact ⟨c.nm, rfl, (hh.cs c hc).nm⟩
  obtain ⟨c, rfl, hc⟩ := hd
  refine seq_if (cell % 3 = 0) (by simp) (fun _ => ?_) fun _ => ?_
  · simp
    exact sPq (by omega) (by omega) fun p hp => ⟨.hide c p, ⟨hc, hp⟩, rfl⟩
  refine seq_if (cell % 3 = 1) (by simp) (fun _ => ?_) fun _ => ?_
  · simp
    exact ⟨.lock c, hc, rfl⟩
  simp
  exact sAb (by omega) (by omega) fun a ha => ⟨.floor c a _, ⟨hc, ha⟩, rfl⟩
def isCt (h : Ho) (d : D) : Prop := ∃ c, c ∈ h.cs ∧ d = eCt c
theorem guarding_ok {h : Ho} (hh : HoW h) {g : Gd} (hg : GdOk g) (cell : Int) : RP (v_law_guarding [eG g, eHo h, .int cell]) isG X0 := by
  unfold v_law_guarding vb_law_guarding
  rw [rp_run]
  have hl := hh.lc
  have gc : ∀ {P : D → Prop} {X : XP}, P (.str g.c) → RP (vIxA (eG g) (.int 1)) P X := fun h => by cases g <;> simpa [eG, Gd.c] using h
  refine seq_of ?_
  simp [eHo]
  refine ⟨by omega, ?_⟩
  refine comp_rpP (isCt h) (fun d hd => ?_) fun ys hys hyl => ?_
  · rw [List.mem_map] at hd
    obtain ⟨c, hc, rfl⟩ := hd
    simp [wipeD, eCt]
    refine gc ?_
    simp
    intro _
    exact ⟨c, hc, rfl⟩
  obtain ⟨cs, rfl, hcs, hcl⟩ := ex_map hys
  have fin : ∀ {g : Gd}, GdOk g → isG (eG g) := fun h => ⟨_, h, rfl⟩
  cases g with
  | lock c =>
    refine seq_if False (by simp [eG]; intro h; exact absurd h (by decide)) (fun h => h.elim) fun _ => ?_
    refine seq_if False (by simp [eG]; decide) (fun h => h.elim) fun _ => ?_
    simp
    exact fin hg
  | hide c p =>
    refine seq_if (cell % 2 = 1 ∧ 0 < (cs.length : Int)) (by
      have := rp_and (ve := [some (eG (.hide c p)), some (.tup [.lst (h.as.map eA), .lst (h.cs.map eCt)]), some (.int cell), some (.lst (cs.map eCt)), none, none, none, none]) (X := X0) (m := dT (d2 vEq (d2 vIxA (dVar 0) (dC (.int 0))) (dC (.str "hide")))) (n := dAnd (dT (d2 vEq (d2 vMod (dA vInt (dCons (dVar 2) dNil)) (dC (.int 2))) (dC (.int 1)))) (dT (d2 vGt (dA vLen (dCons (dVar 3) dNil)) (dC (.int 0))))) True (cell % 2 = 1 ∧ 0 < (cs.length : Int)) (by simp [eG]) fun _ => rp_and _ _ (by simp) fun _ => by simp
      simpa only [true_and] using this) (fun hc => ?_) fun _ => ?_
    · refine seq_of ?_
      simp
      refine ix_map (by omega) (by omega) fun c1 hc1 => ?_
      have ok := hh.cs c1 (hcs c1 hc1)
      simp [eCt]
      refine ⟨by have := ok.lp; omega, ?_⟩
      refine comp_allP isSt (fun d hd => ?_) fun ys hys hyl => ?_
      · rw [List.mem_map] at hd
        obtain ⟨q, hq, rfl⟩ := hd
        simp [wipeD, eP]
        exact ⟨q.nm, rfl, (ok.ps q hq).1⟩
      refine st_if (0 < (ys.length : Int)) (by simp) (fun hl => ?_) fun _ => ?_
      · simp
        refine gc ?_
        refine ⟨by omega, ixP_of (Int.emod_nonneg _ (by omega)) (Int.emod_lt_of_pos _ hl) fun y hy => ?_⟩
        obtain ⟨t, rfl, ht⟩ := hys y hy
        exact ⟨.hide c t, ⟨hg.1, ht⟩, rfl⟩
      · rw [f_nil]
        dsimp only
        refine seq_if False (by simp [eG]; decide) (fun h => h.elim) fun _ => ?_
        simp
        exact fin hg
    · refine seq_if False (by simp [eG]; decide) (fun h => h.elim) fun _ => ?_
      simp
      exact fin hg
  | floor c a n =>
    refine seq_if False (by simp [eG]; intro h; exact absurd h (by decide)) (fun h => h.elim) fun _ => ?_
    refine seq_if True (by simp [eG]) (fun _ => ?_) fun h => absurd trivial h
    refine seq_of ?_
    simp [eG]
    refine set_if (cell % 2 = 1 ∧ 0 < (h.as.length : Int)) (R := isSt) (rp_and _ _ (by simp) fun _ => by simp) ⟨_, rfl, a, rfl, hg.2⟩ (fun hc => ?_) fun d hd => ?_
    · simp
      refine ⟨by omega, ?_⟩
      refine ix_map (Int.emod_nonneg _ (by omega)) (Int.emod_lt_of_pos _ hc.2) fun v hv => ?_
      simp [eA]
      exact ⟨v.1, rfl, hh.as v hv⟩
    obtain ⟨a', rfl, ha'⟩ := hd
    simp
    refine ixP_of (Int.emod_nonneg _ (by omega)) (by simp; omega) fun y hy => ?_
    simp at hy
    rcases hy with rfl | rfl | rfl | rfl | rfl <;> exact ⟨.floor c a' _, ⟨hg.1, ha'⟩, rfl⟩
end Vl

set_option Elab.async false
set_option linter.all false
set_option maxRecDepth 100000
set_option maxHeartbeats 4000000
namespace Vl
open PySem PySem.Spec PyProof.Rows L2 Sh Pr
section
variable {ve : VEn} {X : XP} {P : D → Prop}
theorem comp_map {α : Type} {f k : α → D} {tg : VTg} {e : VM D} {R : List D → Prop} : ∀ {l : List α}, (∀ x ∈ l, tgP (tg (f x) ve) fun ve1 => RP (e ve1) (fun y => y = k x) X0) → dCompF tg dYes e ve (l.map f) = .ok (l.map k)
  | [], _ => rfl
  | x :: l, h => by
    have h1 := h x List.mem_cons_self
    have ih := comp_map (R := R) (l := l) fun y hy => h y (List.mem_cons_of_mem _ hy)
    rw [List.map_cons, List.map_cons]
    unfold dCompF
    cases q : tg (f x) ve with
    | none => rw [q] at h1; exact h1.elim
    | some ve1 =>
      rw [q] at h1
      have := RP.eq h1
      simp [dYes, vnex, vb, this, ih]
theorem comp_mapP {α : Type} {f k : α → D} {tg : VTg} {e : VM D} {R : List D → Prop} {l : List α} (h : ∀ x ∈ l, tgP (tg (f x) ve) fun ve1 => RP (e ve1) (fun y => y = k x) X0) (q : R (l.map k)) : RP (dCompF tg dYes e ve (l.map f)) R X := by
  rw [comp_map (R := R) h]
  exact rp_mk q
theorem comp_fmap {α : Type} {f k : α → D} (p : α → Bool) {tg : VTg} {t : VM Bool} {e : VM D} : ∀ {l : List α}, (∀ x ∈ l, tgP (tg (f x) ve) fun ve1 => RP (t ve1) (fun b => b = p x ∧ (p x = true → RP (e ve1) (fun y => y = k x) X0)) X0) → dCompF tg t e ve (l.map f) = .ok ((l.filter p).map k)
  | [], _ => rfl
  | x :: l, h => by
    have h1 := h x List.mem_cons_self
    have ih := comp_fmap (k := k) p (l := l) fun y hy => h y (List.mem_cons_of_mem _ hy)
    rw [List.map_cons]
    unfold dCompF
    cases q : tg (f x) ve with
    | none => rw [q] at h1; exact h1.elim
    | some ve1 =>
      rw [q] at h1
      obtain ⟨b, eb, rfl, h2⟩ := RP.ex h1
      dsimp only
      rw [eb]
      cases hp : p x with
      | true => simp [vnex, vb, (h2 hp).eq, ih, hp]
      | false => simp [vnex, vb, ih, hp]
theorem comp_fmapP {α : Type} {f k : α → D} (p : α → Bool) {tg : VTg} {t : VM Bool} {e : VM D} {R : List D → Prop} {l : List α} (h : ∀ x ∈ l, tgP (tg (f x) ve) fun ve1 => RP (t ve1) (fun b => b = p x ∧ (p x = true → RP (e ve1) (fun y => y = k x) X0)) X0) (q : R ((l.filter p).map k)) : RP (dCompF tg t e ve (l.map f)) R X := by
  rw [comp_fmap p h]
  exact rp_mk q
theorem pyL_map {α : Type} {f : α → D} {g : α → PyData} : ∀ {l : List α}, (∀ x ∈ l, py (f x) = some (g x)) → pyL (l.map f) = some (l.map g)
  | [], _ => by rw [List.map_nil, pyL]; rfl
  | x :: l, h => by
    rw [List.map_cons, pyL, h x List.mem_cons_self, pyL_map fun y hy => h y (List.mem_cons_of_mem _ hy)]
    rfl
theorem sh_shaped {n : Nat} {d : D} {p : PyData} (h : sh n d) (hn : n ≤ 64) (e : py d = some p) : SeqAt.shaped p = true := by
  obtain ⟨q, e', c, dp⟩ := sh_py n d h
  rw [e] at e'
  cases e'
  unfold SeqAt.shaped
  rw [c]
  simp
  omega
theorem in_map {α : Type} {f : α → D} {g : α → PyData} {neg : Bool} {x : D} {p : PyData} (hx : py x = some p) (hs : sh 3 x) {l : List α} (hl : ∀ y ∈ l, py (f y) = some (g y) ∧ sh 3 (f y)) (k : P (.bl (xor neg (l.any fun y => (g y).eqv p)))) : RP (vInB neg x (.lst (l.map f))) P X := by
  have e2' := pyL_map fun y hy => (hl y hy).1
  have s1 := sh_shaped hs (by omega) hx
  have s2 : SeqAt.shaped (.list (l.map g)) = true := sh_shaped (d := .lst (l.map f)) (n := 4) (fun y hy => by
    rw [List.mem_map] at hy
    obtain ⟨z, hz, rfl⟩ := hy
    exact (hl z hz).2) (by omega) (by rw [py, e2']; rfl)
  unfold vInB
  dsimp only
  rw [hx, e2']
  dsimp only
  rw [s1, s2, Bool.true_and, if_pos rfl]
  rw [List.any_map] 
  exact rp_mk k
theorem eq_py {neg : Bool} {a b : D} {p q : PyData} {n : Nat} (hs : scalD a b = none) (ha : py a = some p) (hb : py b = some q) (sa : sh n a) (sb : sh n b) (hn : n ≤ 64) (k : P (.bl (xor neg (PyData.eqv p q)))) : RP (vEqB neg a b) P X := by
  unfold vEqB
  rw [hs]
  dsimp only
  rw [ha, hb]
  dsimp only
  rw [sh_shaped sa hn ha, sh_shaped sb hn hb, Bool.true_and, if_pos rfl]
  exact rp_mk k
end
def pG : Gd → PyData
  | .hide c p => .tuple [.str "hide", .str c, .str p]
  | .lock c => .tuple [.str "lock", .str c]
  | .floor c a n => .tuple [.str "floor", .str c, .str a, .int n]
theorem py_eG (g : Gd) : py (eG g) = some (pG g) := by cases g <;> simp [eG, pG, py, pyL]
theorem sh_eG {g : Gd} (h : GdOk g) : sh 3 (eG g) := by
  cases g with
  | hide c p => exact sh_tup (all_cons sh_str (all_cons (sh_str h.1) (all_cons (sh_str h.2) all_nil)))
  | lock c => exact sh_tup (all_cons sh_str (all_cons (sh_str h) all_nil))
  | floor c a n => exact sh_tup (all_cons sh_str (all_cons (sh_str h.1) (all_cons (sh_str h.2) (all_cons sh_int all_nil))))
/-! which guards a house can have -/
def tst (as : List (Str × Int)) (c : Ct) : Gd → Bool
  | .hide _ p => c.ps.any fun q => q.nm == p && q.sn
  | .lock _ => !(c.vs.any fun v => v.1 == "lock")
  | .floor _ a _ => as.any fun v => v.1 == a
def fitIn (as : List (Str × Int)) (g : Gd) : List Ct → Bool
  | [] => false
  | c :: r => if c.nm = g.c then tst as c g else fitIn as g r
theorem fits_ok {h : Ho} (hh : HoW h) {g : Gd} (hg : GdOk g) {Q : D → Prop} (K : Q (.bl (fitIn h.as g h.cs))) : RP (v_law_fits [eHo h, eG g]) Q X0 := by
  unfold v_law_fits vb_law_fits
  rw [rp_run]
  have gc : ∀ {P : D → Prop} {X : XP}, P (.str g.c) → RP (vIxA (eG g) (.int 1)) P X := fun h => by cases g <;> simpa [eG, Gd.c] using h
  refine seq_of ?_
  simp [f_for, eHo]
  have go : ∀ (cs : List Ct), (∀ c ∈ cs, CtW c) → ∀ (x : Option D), Q (.bl (fitIn h.as g cs)) → FOk ⟨fun _ => Q (.bl false), Q, fun _ => False, fun _ => False, X0⟩ (dForF (gN 2) (dsIf (dT (d2 vEq (d2 vIxA (dVar 2) (dC (.int 0))) (d2 vIxA (dVar 1) (dC (.int 1)))))
  (dsSeq (dsIf (dT (d2 vEq (d2 vIxA (dVar 1) (dC (.int 0))) (dC (.str ("hide" : Str)))))
  (dsRet (d2 vIn (dA vTup (dCons (d2 vIxA (dVar 1) (dC (.int 2))) (dCons (dC (.bl true)) dNil))) (dLc (diT (d2 vIxA (dVar 2) (dC (.int 3)))) (gN 3) dYes (dA vTup (dCons (d2 vIxA (dVar 3) (dC (.int 0))) (dCons (d2 vIxA (dVar 3) (dC (.int 2))) dNil))) [3]))) dsNil)
  (dsSeq (dsIf (dT (d2 vEq (d2 vIxA (dVar 1) (dC (.int 0))) (dC (.str ("lock" : Str)))))
  (dsRet (d2 vNotIn (dC (.str ("lock" : Str))) (dLc (diT (d2 vIxA (dVar 2) (dC (.int 1)))) (gN 4) dYes (d2 vIxA (dVar 4) (dC (.int 0))) [4]))) dsNil)
  (dsRet (d2 vIn (d2 vIxA (dVar 1) (dC (.int 2))) (dLc (diL (d2 vIxA (dVar 0) (dC (.int 0)))) (gN 5) dYes (d2 vIxA (dVar 5) (dC (.int 0))) [5]))))) dsNil) (cs.map eCt) [some (.tup [.lst (h.as.map eA), .lst (h.cs.map eCt)]), some (eG g), x, none, none, none]) := by
    intro cs
    induction cs with
    | nil => exact fun _ x hq => by rw [List.map_nil, for_nil]; exact hq
    | cons c r ih =>
      intro hcs x hq
      have ok := hcs c List.mem_cons_self
      rw [List.map_cons]
      refine for_cons ?_
      simp
      refine st_if (c.nm = g.c) (by simp [eCt]; exact gc (by simp)) (fun hc => ?_) fun hc => ?_
      · rw [fitIn, if_pos hc] at hq
        cases g with
        | hide c' p =>
          refine seq_if True (by simp [eG]) (fun _ => ?_) fun h => absurd trivial h
          simp [eG, eCt]
          refine ⟨by have := ok.lp; omega, ?_⟩
          refine comp_mapP (k := fun q : Pc => D.tup [.str q.nm, .bl q.sn]) (fun q hq => by simp [wipeD, eP]) ?_
          refine in_map (g := fun q : Pc => PyData.tuple [.str q.nm, .bool q.sn]) (p := .tuple [.str p, .bool true]) (by simp [py, pyL]) (sh_tup (all_cons (sh_str hg.2) (all_cons sh_bl all_nil))) (fun q hq => ⟨by simp [py, pyL], sh_tup (all_cons (sh_str (ok.ps q hq).1) (all_cons sh_bl all_nil))⟩) ?_
          simpa [PyData.eqv, PyData.eqvAll, tst] using hq
        | lock c' =>
          refine seq_if False (by simp [eG]; decide) (fun h => h.elim) fun _ => ?_
          refine seq_if True (by simp [eG]) (fun _ => ?_) fun h => absurd trivial h
          simp [eG, eCt]
          refine ⟨by have := ok.lv; omega, ?_⟩
          refine comp_mapP (k := fun v : Str × Int × Int => D.str v.1) (fun q hq => by simp [wipeD, eV]) ?_
          refine in_map (g := fun v : Str × Int × Int => PyData.str v.1) (p := .str "lock") (by simp [py]) sh_str (fun q hq => ⟨by simp [py], sh_str (ok.vs q hq)⟩) ?_
          simpa [PyData.eqv, tst] using hq
        | floor c' a n =>
          refine seq_if False (by simp [eG]; decide) (fun h => h.elim) fun _ => ?_
          refine seq_if False (by simp [eG]; decide) (fun h => h.elim) fun _ => ?_
          simp [eG]
          refine ⟨by have := hh.la; omega, ?_⟩
          refine comp_mapP (k := fun v : Str × Int => D.str v.1) (fun q hq => by simp [wipeD, eA]) ?_
          refine in_map (g := fun v : Str × Int => PyData.str v.1) (p := .str a) (by simp [py]) (sh_str hg.2) (fun q hq => ⟨by simp [py], sh_str (hh.as q hq)⟩) ?_
          simpa [PyData.eqv, tst] using hq
      · rw [fitIn, if_neg hc] at hq
        rw [f_nil]
        exact ih (fun c hc => hcs c (List.mem_cons_of_mem _ hc)) _ hq
  exact go h.cs hh.cs none K
end Vl

set_option Elab.async false
set_option linter.all false
set_option maxRecDepth 100000
set_option maxHeartbeats 4000000
namespace Vl
open PySem PySem.Spec PyProof.Rows L2 Sh Pr
def mk (h : Ho) : D := .ins 7 [("assets", .tup (h.as.map eA)), ("contracts", .tup (h.cs.map eCt))]
theorem lk_a {x y : D} : ([(Str.ofString "assets", x), (Str.ofString "contracts", y)] : List (Str × D)).lookup (Str.ofString "assets") = some x := rfl
theorem lk_c {x y : D} : ([(Str.ofString "assets", x), (Str.ofString "contracts", y)] : List (Str × D)).lookup (Str.ofString "contracts") = some y := rfl
theorem fld_c {h : Ho} {m : VM D} {ve : VEn} {P : D → Prop} {X : XP} (k : RP (m ve) (fun d => d = mk h ∧ P (.tup (h.cs.map eCt))) X) : RP (dFld [7] ("contracts" : Str) m ve) P X := by
  unfold dFld
  rw [rp_vb]
  refine k.imp fun d hd => ?_
  obtain ⟨rfl, hp⟩ := hd
  unfold mk
  dsimp only
  rw [if_pos (by decide), lk_c]
  exact rp_mk hp
theorem fld_a {h : Ho} {m : VM D} {ve : VEn} {P : D → Prop} {X : XP} (k : RP (m ve) (fun d => d = mk h ∧ P (.tup (h.as.map eA))) X) : RP (dFld [7] ("assets" : Str) m ve) P X := by
  unfold dFld
  rw [rp_vb]
  refine k.imp fun d hd => ?_
  obtain ⟨rfl, hp⟩ := hd
  unfold mk
  dsimp only
  rw [if_pos (by decide), lk_a]
  exact rp_mk hp
theorem names_ok {α : Type} {f : α → D} {k : α → Str} {l : List α} {d : D} (hd : d = .lst (l.map f) ∨ d = .tup (l.map f)) (hl : l.length ≤ 16777216) (h : ∀ x ∈ l, ∃ t, f x = .tup (.str (k x) :: t)) {Q : D → Prop} (K : Q (.lst (l.map fun x => .str (k x)))) : RP (v_names_of [d]) Q X0 := by
  unfold v_names_of vb_names_of
  rw [rp_run]
  have e : ∀ {L : List D → Prop}, isSq d L = L (l.map f) := fun {L} => by rcases hd with rfl | rfl <;> rfl
  simp [e]
  refine ⟨hl, comp_mapP (k := fun x => D.str (k x)) (fun x hx => ?_) K⟩
  obtain ⟨t, et⟩ := h x hx
  simp [wipeD, et]
theorem can_ok {h : Ho} (hh : HoW h) {g : Gd} (hg : GdOk g) {Q : D → Prop} (K : Q (.bl (fitIn h.as g h.cs))) : RP (v_can_have [mk h, eG g]) Q X0 := by
  unfold v_can_have vb_can_have
  rw [rp_run]
  have gc : ∀ {P : D → Prop} {X : XP}, P (.str g.c) → RP (vIxA (eG g) (.int 1)) P X := fun h => by cases g <;> simpa [eG, Gd.c] using h
  refine seq_of ?_
  rw [f_for, rp_diT]
  refine fld_c (h := h) ?_
  simp
  have go : ∀ (cs : List Ct), (∀ c ∈ cs, CtW c) → ∀ (x y z u : Option D), Q (.bl (fitIn h.as g cs)) → FOk ⟨fun _ => Q (.bl false), Q, fun _ => False, fun _ => False, X0⟩ (dForF (gT [2, 3, 4, 5])
  (dsSeq (dsIf (dT (d2 vNe (dVar 2) (d2 vIxA (dVar 1) (dC (.int 1)))))
  dsCnt dsNil)
  (dsSeq (dsIf (dT (d2 vEq (d2 vIxA (dVar 1) (dC (.int 0))) (dC (.str ("hide" : Str)))))
  (dsRet (d2 vIn (d2 vIxA (dVar 1) (dC (.int 2))) (dA (dLen 1 v_names_of) (dCons (dLc (diT (dVar 5)) (gN 6) (dT (d2 vIxA (dVar 6) (dC (.int 2)))) (dVar 6) [6]) dNil)))) dsNil)
  (dsSeq (dsIf (dT (d2 vEq (d2 vIxA (dVar 1) (dC (.int 0))) (dC (.str ("lock" : Str)))))
  (dsRet (d2 vNotIn (dC (.str ("lock" : Str))) (dA (dLen 1 v_names_of) (dCons (dVar 3) dNil)))) dsNil)
  (dsRet (d2 vIn (d2 vIxA (dVar 1) (dC (.int 2))) (dA (dLen 1 v_names_of) (dCons (dFld [7] ("assets" : Str) (dVar 0)) dNil))))))) (cs.map eCt) [some (mk h), some (eG g), x, y, z, u, none]) := by
    intro cs
    induction cs with
    | nil => exact fun _ x y z u hq => by rw [List.map_nil, for_nil]; exact hq
    | cons c r ih =>
      intro hcs x y z u hq
      have ok := hcs c List.mem_cons_self
      rw [List.map_cons]
      refine for_cons ?_
      show tgP (some _) _
      rw [tgP_some]
      show FOk _ (dsSeq _ _ [some (mk h), some (eG g), some (.str c.nm), some (.tup (c.vs.map eV)), some (.tup (c.hs.map eA)), some (.tup (c.ps.map eP)), none])
      refine seq_if (c.nm ≠ g.c) (by simp; exact gc (by simp)) (fun hc => ?_) fun hc => ?_
      · rw [fitIn, if_neg hc] at hq
        rw [f_cnt]
        exact ih (fun c hc => hcs c (List.mem_cons_of_mem _ hc)) _ _ _ _ hq
      · rw [fitIn, if_pos (Classical.not_not.mp hc)] at hq
        cases g with
        | hide c' p =>
          refine seq_if True (by simp [eG]) (fun _ => ?_) fun h => absurd trivial h
          simp [eG]
          refine ⟨by have := ok.lp; omega, ?_⟩
          refine comp_fmapP (k := eP) (fun q : Pc => q.sn) (fun q hq => by simp [wipeD, eP]) ?_
          refine names_ok (k := fun q : Pc => q.nm) (.inl rfl) (by have := List.length_filter_le (fun q : Pc => q.sn) c.ps; have := ok.lp; omega) (fun q hq => ⟨_, rfl⟩) ?_
          refine in_map (g := fun q : Pc => PyData.str q.nm) (p := .str p) (by simp [py]) (sh_str hg.2) (fun q hq => ⟨by simp [py], sh_str (ok.ps q (List.mem_filter.mp hq).1).1⟩) ?_
          rw [List.any_filter]
          simpa [PyData.eqv, tst, Bool.and_comm] using hq
        | lock c' =>
          refine seq_if False (by simp [eG]; decide) (fun h => h.elim) fun _ => ?_
          refine seq_if True (by simp [eG]) (fun _ => ?_) fun h => absurd trivial h
          simp
          refine names_ok (k := fun v : Str × Int × Int => v.1) (.inr rfl) (by have := ok.lv; omega) (fun q hq => ⟨_, rfl⟩) ?_
          refine in_map (g := fun v : Str × Int × Int => PyData.str v.1) (p := .str "lock") (by simp [py]) sh_str (fun q hq => ⟨by simp [py], sh_str (ok.vs q hq)⟩) ?_
          simpa [PyData.eqv, tst] using hq
        | floor c' a n =>
          refine seq_if False (by simp [eG]; decide) (fun h => h.elim) fun _ => ?_
          refine seq_if False (by simp [eG]; decide) (fun h => h.elim) fun _ => ?_
          simp [eG]
          refine fld_a (h := h) ?_
          simp
          refine names_ok (k := fun v : Str × Int => v.1) (.inr rfl) (by have := hh.la; omega) (fun q hq => ⟨_, rfl⟩) ?_
          refine in_map (g := fun v : Str × Int => PyData.str v.1) (p := .str a) (by simp [py]) (sh_str hg.2) (fun q hq => ⟨by simp [py], sh_str (hh.as q hq)⟩) ?_
          simpa [PyData.eqv, tst] using hq
  exact go h.cs hh.cs none none none none K
end Vl

set_option Elab.async false
set_option linter.all false
set_option maxRecDepth 100000
set_option maxHeartbeats 4000000
namespace Vl
open PySem PySem.Spec PyProof.Rows L2 Sh Pr
def isLk (n : Str) : Gd → Bool
  | .lock c => c == n
  | _ => false
def isFl (n : Str) : Gd → Bool
  | .floor c _ _ => c == n
  | _ => false
def isHd (n p : Str) : Gd → Bool
  | .hide c q => c == n && q == p
  | _ => false
def flD (a : Str) (x : Int) : D := .tup [.str "need", .tup [.str "=", .tup [.str "<", .tup [.str "have", .str a], .tup [.str "number", .int x]], .tup [.str "number", .int 0]]]
def fl : Gd → D
  | .floor _ a x => flD a x
  | _ => .non
def flr (n : Str) (G : List Gd) : List D := (G.filter (isFl n)).map fl
def FRT : List D := [.tup [.str "need", .tup [.str "=", .tup [.str "variable", .str "lock"], .tup [.str "number", .int 0]]], .tup [.str "set", .str "lock", .tup [.str "number", .int 1]]]
def BHD : List D := [.tup [.str "set", .str "lock", .tup [.str "number", .int 0]]]
def LKV : D := .tup [.str "lock", .int 2, .int 0]
def gp (n : Str) (G : List Gd) (FR BH : List D) (p : Pc) : D := if p.sn = true then .tup [.str p.nm, .int p.sz, .bl (!(G.any (isHd n p.nm))), .tup (FR ++ p.bk ++ (BH ++ flr n G))] else eP p
theorem lit1 : (Str.ofString "lock" == Str.ofString "hide") = false := by decide
theorem lit2 : (Str.ofString "floor" == Str.ofString "hide") = false := by decide
theorem lit3 : (Str.ofString "hide" == Str.ofString "lock") = false := by decide
theorem lit4 : (Str.ofString "floor" == Str.ofString "lock") = false := by decide
theorem lit5 : (Str.ofString "hide" == Str.ofString "floor") = false := by decide
theorem lit6 : (Str.ofString "lock" == Str.ofString "floor") = false := by decide
theorem eqv_lk (n : Str) (g : Gd) : (pG g).eqv (.tuple [.str "lock", .str n]) = isLk n g := by
  cases g <;> simp [pG, PyData.eqv, PyData.eqvAll, isLk, lit3, lit4]
theorem eqv_hd (n p : Str) (g : Gd) : (pG g).eqv (.tuple [.str "hide", .str n, .str p]) = isHd n p g := by
  cases g <;> simp [pG, PyData.eqv, PyData.eqvAll, isHd, lit1, lit2]
abbrev GsOk (G : List Gd) : Prop := ∀ g ∈ G, GdOk g
theorem in_gs {neg : Bool} {x : D} {p : PyData} {G : List Gd} {P : D → Prop} {X : XP} (hG : GsOk G) (hx : py x = some p) (hs : sh 3 x) (k : P (.bl (xor neg (G.any fun g => (pG g).eqv p)))) : RP (vInB neg x (.lst (G.map eG))) P X :=
  in_map hx hs (fun g hg => ⟨py_eG g, sh_eG (hG g hg)⟩) k
@[simp] theorem cut_0_2 {a b : D} : cutD [a, b] none (some 2) = [a, b] := rfl
@[simp] theorem cut_0_3 {a b c : D} : cutD [a, b, c] none (some 2) = [a, b] := rfl
@[simp] theorem cut_0_4 {a b c d : D} : cutD [a, b, c, d] none (some 2) = [a, b] := rfl
@[simp] theorem cut_1_2 {a b : D} : cutD [a, b] none (some 1) = [a] := rfl
@[simp] theorem cut_1_3 {a b c : D} : cutD [a, b, c] none (some 1) = [a] := rfl
@[simp] theorem cut_1_4 {a b c d : D} : cutD [a, b, c, d] none (some 1) = [a] := rfl
theorem eq_2s {a b c d : Str} (ha : PyData.strOk a = true) (hb : PyData.strOk b = true) (hc : PyData.strOk c = true) (hd : PyData.strOk d = true) {P : D → Prop} {X : XP} (k : P (.bl (a == c && b == d))) : RP (vEqB false (.tup [.str a, .str b]) (.tup [.str c, .str d])) P X :=
  eq_py (n := 1) (p := .tuple [.str a, .str b]) (q := .tuple [.str c, .str d]) rfl (by simp [py, pyL]) (by simp [py, pyL]) (sh_tup (all_cons (sh_str ha) (all_cons (sh_str hb) all_nil))) (sh_tup (all_cons (sh_str hc) (all_cons (sh_str hd) all_nil))) (by omega) (by simpa [PyData.eqv, PyData.eqvAll] using k)
theorem gc_tail {c : Ct} {G : List Gd} {VS FR BH : List D} (ok : CtW c) (hG : GsOk G) (hl : G.length ≤ 1000) (hf : FR.length ≤ 100) (hb : BH.length ≤ 100) {Q : D → Prop} (K : Q (.tup [.str c.nm, .tup VS, .tup (c.hs.map eA), .tup (c.ps.map (gp c.nm G FR BH))])) :
    FOk ⟨fun _ => Q .non, Q, fun _ => False, fun _ => False, X0⟩ (dsSeq (dsSet 8 (dLc (diL (dVar 1)) (gN 9) (dT (d2 vEq (dSl vSl (dVar 9) (fun _ => .ok none) (dSome (dC (.int 2)))) (dA vTup (dCons (dC (.str ("floor" : Str))) (dCons (dVar 2) dNil))))) (dA (dLen 2 v_floor_check) (dCons (d2 vIxA (dVar 9) (dC (.int 2))) (dCons (d2 vIxA (dVar 9) (dC (.int 3))) dNil))) [9]))
  (dsSeq (dsSet 7 (d2 vAdd (dVar 7) (dA vTuple (dCons (dVar 8) dNil))))
  (dsSeq (dsSet 10 (dA vLst dNil))
  (dsSeq (dsFor (diT (dVar 5)) (gT [11, 12, 13, 14])
  (dsSeq (dsIf (dT (dVar 13))
  (dsSet 14 (d2 vAdd (d2 vAdd (dVar 6) (dVar 14)) (dVar 7))) dsNil)
  (dsChg "list" 10 (dCons (dA vTup (dCons (dVar 11) (dCons (dVar 12) (dCons (wAnd (dVar 13) (d2 vNotIn (dA vTup (dCons (dC (.str ("hide" : Str))) (dCons (dVar 2) (dCons (dVar 11) dNil)))) (dVar 1))) (dCons (dVar 14) dNil))))) dNil) fApp)))
  (dsRet (dA vTup (dCons (dVar 2) (dCons (dVar 3) (dCons (dVar 4) (dCons (dA vTuple (dCons (dVar 10) dNil)) dNil))))))))) [some (eCt c), some (.lst (G.map eG)), some (.str c.nm), some (.tup VS), some (.tup (c.hs.map eA)), some (.tup (c.ps.map eP)), some (.tup FR), some (.tup BH), none, none, none, none, none, none, none]) := by
  have hfl : (flr c.nm G).length ≤ 1000 := by
    unfold flr
    rw [List.length_map]
    have := List.length_filter_le (isFl c.nm) G
    omega
  refine seq_of ?_
  simp
  refine ⟨by omega, ?_⟩
  refine comp_fmapP (k := fl) (isFl c.nm) (fun g hg => ?_) ?_
  · have og := hG g hg
    simp [wipeD]
    cases g with
    | hide a b => 
      simp [eG]
      exact eq_2s (by decide +kernel) og.1 (by decide +kernel) ok.nm (by simp [isFl, lit5])
    | lock a =>
      simp [eG]
      exact eq_2s (by decide +kernel) og (by decide +kernel) ok.nm (by simp [isFl, lit6])
    | floor a b x =>
      simp [eG]
      refine eq_2s (by decide +kernel) og.1 (by decide +kernel) ok.nm ?_
      simp [isFl]
      intro _
      unfold v_floor_check vb_floor_check
      rw [rp_run]
      simp [fl, flD]
  rw [show (G.filter (isFl c.nm)).map fl = flr c.nm G from rfl]
  refine seq_of ?_
  simp
  refine ⟨by omega, ?_⟩
  refine seq_of ?_
  simp
  refine seq_of ?_
  simp [f_for]
  have go : ∀ (N : VEn → Prop), (∀ (dn : List D) (x y z u : Option D), Q (.tup [.str c.nm, .tup VS, .tup (c.hs.map eA), .tup dn]) → N [some (eCt c), some (.lst (G.map eG)), some (.str c.nm), some (.tup VS), some (.tup (c.hs.map eA)), some (.tup (c.ps.map eP)), some (.tup FR), some (.tup (BH ++ flr c.nm G)), some (.lst (flr c.nm G)), none, some (.lst dn), x, y, z, u]) → ∀ (ps : List Pc), (∀ p ∈ ps, p ∈ c.ps) → ∀ (dn : List D) (x y z u : Option D), dn.length + ps.length ≤ 100 → Q (.tup [.str c.nm, .tup VS, .tup (c.hs.map eA), .tup (dn ++ ps.map (gp c.nm G FR BH))]) → FOk ⟨N, Q, fun _ => False, fun _ => False, X0⟩ (dForF (gT [11, 12, 13, 14])
  (dsSeq (dsIf (dT (dVar 13))
  (dsSet 14 (d2 vAdd (d2 vAdd (dVar 6) (dVar 14)) (dVar 7))) dsNil)
  (dsChg "list" 10 (dCons (dA vTup (dCons (dVar 11) (dCons (dVar 12) (dCons (wAnd (dVar 13) (d2 vNotIn (dA vTup (dCons (dC (.str ("hide" : Str))) (dCons (dVar 2) (dCons (dVar 11) dNil)))) (dVar 1))) (dCons (dVar 14) dNil))))) dNil) fApp)) (ps.map eP) [some (eCt c), some (.lst (G.map eG)), some (.str c.nm), some (.tup VS), some (.tup (c.hs.map eA)), some (.tup (c.ps.map eP)), some (.tup FR), some (.tup (BH ++ flr c.nm G)), some (.lst (flr c.nm G)), none, some (.lst dn), x, y, z, u]) := by
    intro N hN ps
    induction ps with
    | nil =>
      intro _ dn x y z u _ hq
      rw [List.map_nil, for_nil]
      exact hN _ _ _ _ _ (by simpa using hq)
    | cons p r ih =>
      intro hm dn x y z u hlen hq
      have op := ok.ps p (hm p List.mem_cons_self)
      rw [List.length_cons] at hlen
      rw [List.map_cons]
      refine for_cons ?_
      show tgP (some _) _
      rw [tgP_some]
      show FOk _ (dsSeq _ _ [some (eCt c), some (.lst (G.map eG)), some (.str c.nm), some (.tup VS), some (.tup (c.hs.map eA)), some (.tup (c.ps.map eP)), some (.tup FR), some (.tup (BH ++ flr c.nm G)), some (.lst (flr c.nm G)), none, some (.lst dn), some (.str p.nm), some (.int p.sz), some (.bl p.sn), some (.tup p.bk)])
      refine seq_if (p.sn = true) (by simp) (fun hs => ?_) fun hs => ?_
      · simp
        refine ⟨by have := op.2.1; omega, by have := op.2.1; omega, ?_⟩
        rw [if_pos hs]
        refine in_gs hG (p := .tuple [.str "hide", .str c.nm, .str p.nm]) (by simp [py, pyL]) (sh_tup (all_cons sh_str (all_cons (sh_str ok.nm) (all_cons (sh_str op.1) all_nil)))) ?_
        refine ⟨by omega, ?_⟩
        refine ih (fun q hq => hm q (List.mem_cons_of_mem _ hq)) _ _ _ _ _ ?_ ?_
        · rw [List.length_append, List.length_singleton]; omega
        simp only [eqv_hd]
        rw [List.map_cons, gp, if_pos hs] at hq
        simpa using hq
      · simp
        rw [if_neg hs]
        refine ⟨by omega, ?_⟩
        refine ih (fun q hq => hm q (List.mem_cons_of_mem _ hq)) _ _ _ _ _ ?_ ?_
        · rw [List.length_append, List.length_singleton]; omega
        rw [List.map_cons, gp, if_neg hs] at hq
        have hs' : p.sn = false := by simpa using hs
        simpa [eP, hs'] using hq
  exact go _ (fun dn x y z u h => by simpa using h) c.ps (fun _ h => h) [] none none none none (by have := ok.lp; simp; omega) (by simpa using K)
end Vl

set_option Elab.async false
set_option linter.all false
set_option maxRecDepth 100000
set_option maxHeartbeats 4000000
namespace Vl
open PySem PySem.Spec PyProof.Rows L2 Sh Pr
def VSf (c : Ct) (G : List Gd) : List D := if G.any (isLk c.nm) = true then c.vs.map eV ++ [LKV] else c.vs.map eV
def FRf (n : Str) (G : List Gd) : List D := if G.any (isLk n) = true then FRT else []
def BHf (n : Str) (G : List Gd) : List D := if G.any (isLk n) = true then BHD else []
def gcD (G : List Gd) (c : Ct) : D := .tup [.str c.nm, .tup (VSf c G), .tup (c.hs.map eA), .tup (c.ps.map (gp c.nm G (FRf c.nm G) (BHf c.nm G)))]
@[simp] theorem f_par2 {Q : Po} {ve : VEn} (i j : Nat) (a b : VM D) : FOk Q (dsPar i j (dCons a (dCons b dNil)) ve) = RP (a ve) (fun x => RP (b ve) (fun y => Q.nx ((ve.set i (some x)).set j (some y))) Q.xc) Q.xc := by
  unfold dsPar
  rw [f_bs, rp_cons]
  congr 1
  funext x
  rw [rp_cons]
  congr 1
  funext y
  rw [rp_nil]
  exact f_nx
theorem gcon_ok {c : Ct} {G : List Gd} (ok : CtW c) (hG : GsOk G) (hl : G.length ≤ 1000) {Q : D → Prop} (K : Q (gcD G c)) : RP (v_guarded_contract [eCt c, .lst (G.map eG)]) Q X0 := by
  unfold v_guarded_contract vb_guarded_contract
  rw [rp_run]
  refine seq_of ?_
  simp only [List.map_cons, List.map_nil, List.cons_append, List.nil_append, f_unp, rp_var, at_0]
  show tgP (some _) _
  rw [tgP_some]
  show FOk _ (dsSeq _ _ [some (eCt c), some (.lst (G.map eG)), some (.str c.nm), some (.tup (c.vs.map eV)), some (.tup (c.hs.map eA)), some (.tup (c.ps.map eP)), none, none, none, none, none, none, none, none, none])
  refine seq_of ?_
  simp
  show tgP (some _) _
  rw [tgP_some]
  show FOk _ (dsSeq _ _ [some (eCt c), some (.lst (G.map eG)), some (.str c.nm), some (.tup (c.vs.map eV)), some (.tup (c.hs.map eA)), some (.tup (c.ps.map eP)), some (.tup []), some (.tup []), none, none, none, none, none, none, none])
  refine seq_if (G.any (isLk c.nm) = true) (by
    simp
    refine in_gs hG (p := .tuple [.str "lock", .str c.nm]) (by simp [py, pyL]) (sh_tup (all_cons sh_str (all_cons (sh_str ok.nm) all_nil))) ?_
    simp only [eqv_lk]
    simp) (fun hk => ?_) fun hk => ?_
  · refine seq_of ?_
    simp
    refine ⟨by have := ok.lv; omega, ?_⟩
    show FOk _ (dsSeq _ _ [some (eCt c), some (.lst (G.map eG)), some (.str c.nm), some (.tup (c.vs.map eV ++ [LKV])), some (.tup (c.hs.map eA)), some (.tup (c.ps.map eP)), some (.tup FRT), some (.tup BHD), none, none, none, none, none, none, none])
    refine gc_tail ok hG hl (by decide) (by decide) ?_
    unfold gcD VSf FRf BHf at K
    simp only [if_pos hk] at K
    exact K
  · refine gc_tail ok hG hl (by decide) (by decide) ?_
    unfold gcD VSf FRf BHf at K
    simp only [if_neg hk] at K
    exact K
/-! the law's own -/
def kd : Gd → Str
  | .hide _ _ => "hide"
  | .lock _ => "lock"
  | .floor _ _ _ => "floor"
def g2 : Gd → Str
  | .hide _ p => p
  | .lock c => c
  | .floor _ a _ => a
def ownOf (n : Str) (G : List Gd) : List Gd := G.filter fun g => g.c == n
theorem own_lk (n : Str) (G : List Gd) : ((ownOf n G).any fun g => kd g == Str.ofString "lock") = G.any (isLk n) := by
  unfold ownOf
  rw [List.any_filter]
  congr 1
  funext g
  cases g <;> simp [Gd.c, kd, isLk, lit3, lit4]
theorem own_fl (n : Str) (G : List Gd) : ((ownOf n G).filter fun g => kd g == Str.ofString "floor").map fl = flr n G := by
  unfold ownOf flr
  rw [List.filter_filter]
  congr 2
  funext g
  cases g <;> simp [Gd.c, kd, isFl, lit5, lit6]
theorem own_hd (n p : Str) (G : List Gd) : (((ownOf n G).filter fun g => kd g == Str.ofString "hide").any fun g => g2 g == p) = G.any (isHd n p) := by
  unfold ownOf
  rw [List.filter_filter, List.any_filter]
  congr 1
  funext g
  cases g <;> simp [Gd.c, kd, isHd, g2, lit1, lit2]
theorem kd_ok (g : Gd) : PyData.strOk (kd g) = true := by
  cases g with
  | hide _ _ => exact (by decide +kernel : PyData.strOk (Str.ofString "hide") = true)
  | lock _ => exact (by decide +kernel : PyData.strOk (Str.ofString "lock") = true)
  | floor _ _ _ => exact (by decide +kernel : PyData.strOk (Str.ofString "floor") = true)
theorem g2_ok {g : Gd} (h : GdOk g) (hk : kd g ≠ "lock") : PyData.strOk (g2 g) = true := by
  cases g with
  | hide _ _ => exact h.2
  | lock _ => exact absurd rfl hk
  | floor _ _ _ => exact h.2
theorem ix_kd {g : Gd} {P : D → Prop} {X : XP} (h : P (.str (kd g))) : RP (vIxA (eG g) (.int 0)) P X := by cases g <;> simpa [eG, kd] using h
theorem ix_c {g : Gd} {P : D → Prop} {X : XP} (h : P (.str g.c)) : RP (vIxA (eG g) (.int 1)) P X := by cases g <;> simpa [eG, Gd.c] using h
theorem fence_tail {p : Pc} {n : Str} {G : List Gd} {B : List D} {y : Option D} (hp : PyData.strOk p.nm = true) (hG : GsOk G) (hl : G.length ≤ 1000) (hB : B.length ≤ 2000) {Q : D → Prop} (K : Q (.tup [.str p.nm, .int p.sz, .bl (!(G.any (isHd n p.nm))), .tup (B ++ flr n G)])) :
    FOk ⟨fun _ => Q .non, Q, fun _ => False, fun _ => False, X0⟩ (dsSeq (dsFor (diL (dVar 1)) (gN 4)
  (dsIf (dT (d2 vEq (d2 vIxA (dVar 4) (dC (.int 0))) (dC (.str ("floor" : Str)))))
  (dsSeq (dsSet 5 (dA vTup (dCons (dC (.str ("<" : Str))) (dCons (dA vTup (dCons (dC (.str ("have" : Str))) (dCons (d2 vIxA (dVar 4) (dC (.int 2))) dNil))) (dCons (dA vTup (dCons (dC (.str ("number" : Str))) (dCons (d2 vIxA (dVar 4) (dC (.int 3))) dNil))) dNil)))))
  (dsSet 2 (d2 vAdd (dVar 2) (dA vTup (dCons (dA vTup (dCons (dC (.str ("need" : Str))) (dCons (dA vTup (dCons (dC (.str ("=" : Str))) (dCons (dVar 5) (dCons (dA vTup (dCons (dC (.str ("number" : Str))) (dCons (dC (.int 0)) dNil))) dNil)))) dNil))) dNil))))) dsNil))
  (dsSeq (dsSet 6 (dLc (diL (dVar 1)) (gN 4) (dT (d2 vEq (d2 vIxA (dVar 4) (dC (.int 0))) (dC (.str ("hide" : Str))))) (d2 vIxA (dVar 4) (dC (.int 2))) [4]))
  (dsRet (dA vTup (dCons (d2 vIxA (dVar 0) (dC (.int 0))) (dCons (d2 vIxA (dVar 0) (dC (.int 1))) (dCons (d2 vNotIn (d2 vIxA (dVar 0) (dC (.int 0))) (dVar 6)) (dCons (dVar 2) dNil))))))) [some (eP p), some (.lst ((ownOf n G).map eG)), some (.tup B), y, none, none, none]) := by
  have hol : (ownOf n G).length ≤ 1000 := by
    have := List.length_filter_le (fun g : Gd => g.c == n) G
    unfold ownOf
    omega
  have hoG : GsOk (ownOf n G) := fun g hg => hG g (List.mem_filter.mp hg).1
  refine seq_of ?_
  simp [f_for]
  have go : ∀ (N : VEn → Prop), (∀ (x z : Option D), N [some (eP p), some (.lst ((ownOf n G).map eG)), some (.tup (B ++ flr n G)), y, x, z, none]) → ∀ (gs : List Gd) (B' : List D) (x z : Option D), B'.length + gs.length ≤ 10000 → B' ++ (gs.filter fun g => kd g == Str.ofString "floor").map fl = B ++ flr n G →
      FOk ⟨N, Q, fun _ => False, fun _ => False, X0⟩ (dForF (gN 4)
  (dsIf (dT (d2 vEq (d2 vIxA (dVar 4) (dC (.int 0))) (dC (.str ("floor" : Str)))))
  (dsSeq (dsSet 5 (dA vTup (dCons (dC (.str ("<" : Str))) (dCons (dA vTup (dCons (dC (.str ("have" : Str))) (dCons (d2 vIxA (dVar 4) (dC (.int 2))) dNil))) (dCons (dA vTup (dCons (dC (.str ("number" : Str))) (dCons (d2 vIxA (dVar 4) (dC (.int 3))) dNil))) dNil)))))
  (dsSet 2 (d2 vAdd (dVar 2) (dA vTup (dCons (dA vTup (dCons (dC (.str ("need" : Str))) (dCons (dA vTup (dCons (dC (.str ("=" : Str))) (dCons (dVar 5) (dCons (dA vTup (dCons (dC (.str ("number" : Str))) (dCons (dC (.int 0)) dNil))) dNil)))) dNil))) dNil))))) dsNil) (gs.map eG) [some (eP p), some (.lst ((ownOf n G).map eG)), some (.tup B'), y, x, z, none]) := by
    intro N hN gs
    induction gs with
    | nil =>
      intro B' x z _ e
      rw [List.map_nil, for_nil]
      have : B' = B ++ flr n G := by simpa using e
      rw [this]
      exact hN x z
    | cons g r ih =>
      intro B' x z hlen e
      rw [List.length_cons] at hlen
      rw [List.map_cons]
      refine for_cons ?_
      simp
      cases g with
      | hide a b =>
        refine st_if False (by simp [eG]; decide) (fun h => h.elim) fun _ => ?_
        rw [f_nil]
        refine ih _ _ _ (by omega) ?_
        rw [List.filter_cons_of_neg (by simp [kd]; decide)] at e
        exact e
      | lock a =>
        refine st_if False (by simp [eG]; decide) (fun h => h.elim) fun _ => ?_
        rw [f_nil]
        refine ih _ _ _ (by omega) ?_
        rw [List.filter_cons_of_neg (by simp [kd]; decide)] at e
        exact e
      | floor a b v =>
        refine st_if True (by simp [eG]) (fun _ => ?_) fun h => absurd trivial h
        refine seq_of ?_
        simp [eG]
        refine ⟨by omega, ?_⟩
        refine ih _ _ _ ?_ ?_
        · rw [List.length_append, List.length_singleton]; omega
        · rw [List.filter_cons_of_pos (by simp [kd])] at e
          simpa [fl, flD] using e
  refine go _ (fun x z => ?_) (ownOf n G) B none none (by omega) (by rw [own_fl])
  refine seq_of ?_
  simp
  refine ⟨by omega, ?_⟩
  refine comp_fmapP (k := fun g => D.str (g2 g)) (fun g => kd g == Str.ofString "hide") (fun g hg => ?_) ?_
  · simp [wipeD]
    refine ix_kd ?_
    cases g <;> simp [kd, eG, g2]
    intro h
    exact absurd h (by decide)
  simp [eP]
  refine in_map (g := fun g => PyData.str (g2 g)) (p := .str p.nm) (by simp [py]) (sh_str hp) (fun g hg => ⟨by simp [py], sh_str ?_⟩) ?_
  · obtain ⟨h1, h2⟩ := List.mem_filter.mp hg
    refine g2_ok (hoG g h1) fun e => ?_
    rw [e] at h2
    exact absurd h2 (by decide)
  · have e := own_hd n p.nm G
    simp only [PyData.eqv]
    rw [e]
    simpa using K

theorem fenced_ok {p : Pc} {n : Str} {G : List Gd} (hp : PyData.strOk p.nm = true) (hb : p.bk.length ≤ 1000) (hs : p.sn = true) (hG : GsOk G) (hl : G.length ≤ 1000) {Q : D → Prop} (K : Q (gp n G (FRf n G) (BHf n G) p)) : RP (v_law_fenced [eP p, .lst ((ownOf n G).map eG)]) Q X0 := by
  unfold v_law_fenced vb_law_fenced
  rw [rp_run]
  have hol : (ownOf n G).length ≤ 1000 := by
    have := List.length_filter_le (fun g : Gd => g.c == n) G
    unfold ownOf
    omega
  have K' : Q (.tup [.str p.nm, .int p.sz, .bl (!(G.any (isHd n p.nm))), .tup (FRf n G ++ p.bk ++ BHf n G ++ flr n G)]) := by
    rw [gp, if_pos hs] at K
    simpa using K
  refine seq_of ?_
  simp [eP]
  refine seq_of ?_
  simp
  refine seq_if (G.any (isLk n) = true) (by
    simp
    refine ⟨by omega, ?_⟩
    refine comp_mapP (k := fun g => D.tup [.str (kd g)]) (fun g hg => by cases g <;> simp [wipeD, eG, kd]) ?_
    refine in_map (g := fun g => PyData.tuple [.str (kd g)]) (p := .tuple [.str "lock"]) (by simp [py, pyL]) (sh_tup (all_cons sh_str all_nil)) (fun g hg => ⟨by simp [py, pyL], sh_tup (all_cons (sh_str (kd_ok g)) all_nil)⟩) ?_
    have e := own_lk n G
    simp only [PyData.eqv, PyData.eqvAll, Bool.and_true]
    rw [e]
    simp) (fun hk => ?_) fun hk => ?_
  · refine seq_of ?_
    simp
    refine ⟨by omega, by omega, ?_⟩
    show FOk _ (dsSeq _ _ [some (eP p), some (.lst ((ownOf n G).map eG)), some (.tup (FRT ++ p.bk ++ BHD)), _, none, none, none])
    refine fence_tail hp hG hl (by rw [List.length_append, List.length_append]; have : FRT.length = 2 := rfl; have : BHD.length = 1 := rfl; omega) ?_
    unfold FRf BHf at K'
    simpa only [if_pos hk] using K'
  · show FOk _ (dsSeq _ _ [some (eP p), some (.lst ((ownOf n G).map eG)), some (.tup p.bk), _, none, none, none])
    refine fence_tail hp hG hl (by omega) ?_
    unfold FRf BHf at K'
    simpa only [if_neg hk, List.nil_append, List.append_nil] using K'
end Vl

set_option Elab.async false
set_option linter.all false
set_option maxRecDepth 100000
set_option maxHeartbeats 4000000
namespace Vl
open PySem PySem.Spec PyProof.Rows L2 Sh Pr
theorem lg_tail {h : Ho} {c : Ct} {G : List Gd} (ok : CtW c) (hG : GsOk G) (hl : G.length ≤ 1000) {dn : List D} (hd : dn.length ≤ 1000) {Q : D → Prop} {N B0 : VEn → Prop} {x y : Option D} (hN : ∀ (x y : Option D), N [some (eHo h), some (.lst (G.map eG)), some (.lst (dn ++ [gcD G c])), some (eCt c), some (.lst ((ownOf c.nm G).map eG)), none, some (.tup (VSf c G)), x, y]) :
    FOk ⟨N, Q, N, B0, X0⟩ (dsSeq (dsSet 7 (dA vLst dNil))
  (dsSeq (dsFor (diT (d2 vIxA (dVar 3) (dC (.int 3)))) (gN 8)
  (dsIf (dT (d2 vIxA (dVar 8) (dC (.int 2))))
  (dsChg "list" 7 (dCons (dA (dLen 2 v_law_fenced) (dCons (dVar 8) (dCons (dVar 4) dNil))) dNil) fApp) (dsChg "list" 7 (dCons (dVar 8) dNil) fApp)))
  (dsChg "list" 2 (dCons (dA vTup (dCons (d2 vIxA (dVar 3) (dC (.int 0))) (dCons (dVar 6) (dCons (d2 vIxA (dVar 3) (dC (.int 2))) (dCons (dA vTuple (dCons (dVar 7) dNil)) dNil))))) dNil) fApp)) [some (eHo h), some (.lst (G.map eG)), some (.lst dn), some (eCt c), some (.lst ((ownOf c.nm G).map eG)), none, some (.tup (VSf c G)), x, y]) := by
  refine seq_of ?_
  simp
  refine seq_of ?_
  simp [f_for, eCt]
  have go : ∀ (M : VEn → Prop), (∀ (y : Option D), M [some (eHo h), some (.lst (G.map eG)), some (.lst dn), some (eCt c), some (.lst ((ownOf c.nm G).map eG)), none, some (.tup (VSf c G)), some (.lst (c.ps.map (gp c.nm G (FRf c.nm G) (BHf c.nm G)))), y]) → ∀ (B : VEn → Prop) (ps : List Pc), (∀ p ∈ ps, p ∈ c.ps) → ∀ (dp : List D) (y : Option D), dp.length + ps.length ≤ 100 → dp ++ ps.map (gp c.nm G (FRf c.nm G) (BHf c.nm G)) = c.ps.map (gp c.nm G (FRf c.nm G) (BHf c.nm G)) →
      FOk ⟨M, Q, N, B, X0⟩ (dForF (gN 8)
  (dsIf (dT (d2 vIxA (dVar 8) (dC (.int 2))))
  (dsChg "list" 7 (dCons (dA (dLen 2 v_law_fenced) (dCons (dVar 8) (dCons (dVar 4) dNil))) dNil) fApp) (dsChg "list" 7 (dCons (dVar 8) dNil) fApp)) (ps.map eP) [some (eHo h), some (.lst (G.map eG)), some (.lst dn), some (eCt c), some (.lst ((ownOf c.nm G).map eG)), none, some (.tup (VSf c G)), some (.lst dp), y]) := by
    intro M hM B ps
    induction ps with
    | nil =>
      intro _ dp y _ e
      rw [List.map_nil, for_nil]
      have : dp = c.ps.map (gp c.nm G (FRf c.nm G) (BHf c.nm G)) := by simpa using e
      rw [this]
      exact hM y
    | cons p r ih =>
      intro hm dp y hlen e
      have op := ok.ps p (hm p List.mem_cons_self)
      rw [List.length_cons] at hlen
      rw [List.map_cons]
      refine for_cons ?_
      simp
      refine st_if (p.sn = true) (by simp [eP]) (fun hs => ?_) fun hs => ?_
      · simp
        refine fenced_ok op.1 op.2.1 hs hG hl ?_
        refine ⟨by omega, ?_⟩
        refine ih (fun q hq => hm q (List.mem_cons_of_mem _ hq)) _ _ ?_ ?_
        · rw [List.length_append, List.length_singleton]; omega
        · rw [List.append_assoc]
          exact e
      · simp
        refine ⟨by omega, ?_⟩
        refine ih (fun q hq => hm q (List.mem_cons_of_mem _ hq)) _ _ ?_ ?_
        · rw [List.length_append, List.length_singleton]; omega
        · rw [List.map_cons, gp, if_neg hs] at e
          rw [List.append_assoc]
          exact e
  refine go _ (fun y => ?_) _ c.ps (fun _ h => h) [] y (by have := ok.lp; simp; omega) (by simp)
  simp [eCt]
  refine ⟨by omega, ?_⟩
  exact hN _ _
theorem lguard_ok {h : Ho} (hh : HoW h) {G : List Gd} (hG : GsOk G) (hl : G.length ≤ 1000) {Q : D → Prop} (K : Q (.tup [.lst (h.as.map eA), .lst (h.cs.map (gcD G))])) : RP (v_law_guarded [eHo h, .lst (G.map eG)]) Q X0 := by
  unfold v_law_guarded vb_law_guarded
  rw [rp_run]
  refine seq_of ?_
  simp
  refine seq_of ?_
  simp [f_for, eHo]
  have go : ∀ (M : VEn → Prop), (∀ (x y z u v : Option D), M [some (eHo h), some (.lst (G.map eG)), some (.lst (h.cs.map (gcD G))), x, y, none, z, u, v]) → ∀ (cs : List Ct), (∀ c ∈ cs, c ∈ h.cs) → ∀ (dn : List D) (x y z u v : Option D), dn.length + cs.length ≤ 100 → dn ++ cs.map (gcD G) = h.cs.map (gcD G) →
      FOk ⟨M, Q, fun _ => False, fun _ => False, X0⟩ (dForF (gN 3)
  (dsSeq (dsSet 4 (dLc (diL (dVar 1)) (gN 5) (dT (d2 vEq (d2 vIxA (dVar 5) (dC (.int 1))) (d2 vIxA (dVar 3) (dC (.int 0))))) (dVar 5) [5]))
  (dsSeq (dsSet 6 (d2 vIxA (dVar 3) (dC (.int 1))))
  (dsSeq (dsIf (dT (d2 vIn (dA vTup (dCons (dC (.str ("lock" : Str))) dNil)) (dLc (diL (dVar 4)) (gN 5) dYes (dSl vSl (dVar 5) (fun _ => .ok none) (dSome (dC (.int 1)))) [5])))
  (dsSet 6 (d2 vAdd (dVar 6) (dA vTup (dCons (dA vTup (dCons (dC (.str ("lock" : Str))) (dCons (dC (.int 2)) (dCons (dC (.int 0)) dNil)))) dNil)))) dsNil)
  (dsSeq (dsSet 7 (dA vLst dNil))
  (dsSeq (dsFor (diT (d2 vIxA (dVar 3) (dC (.int 3)))) (gN 8)
  (dsIf (dT (d2 vIxA (dVar 8) (dC (.int 2))))
  (dsChg "list" 7 (dCons (dA (dLen 2 v_law_fenced) (dCons (dVar 8) (dCons (dVar 4) dNil))) dNil) fApp) (dsChg "list" 7 (dCons (dVar 8) dNil) fApp)))
  (dsChg "list" 2 (dCons (dA vTup (dCons (d2 vIxA (dVar 3) (dC (.int 0))) (dCons (dVar 6) (dCons (d2 vIxA (dVar 3) (dC (.int 2))) (dCons (dA vTuple (dCons (dVar 7) dNil)) dNil))))) dNil) fApp)))))) (cs.map eCt) [some (eHo h), some (.lst (G.map eG)), some (.lst dn), x, y, none, z, u, v]) := by
    intro M hM cs
    induction cs with
    | nil =>
      intro _ dn x y z u v _ e
      rw [List.map_nil, for_nil]
      have : dn = h.cs.map (gcD G) := by simpa using e
      rw [this]
      exact hM _ _ _ _ _
    | cons c r ih =>
      intro hm dn x y z u v hlen e
      have ok := hh.cs c (hm c List.mem_cons_self)
      have hol : (ownOf c.nm G).length ≤ 1000 := by
        have := List.length_filter_le (fun g : Gd => g.c == c.nm) G
        unfold ownOf
        omega
      rw [List.length_cons] at hlen
      rw [List.map_cons]
      refine for_cons ?_
      rw [gN_eq, tgP_some]
      refine seq_of ?_
      simp
      refine ⟨by omega, ?_⟩
      refine comp_fmapP (k := eG) (fun g : Gd => g.c == c.nm) (fun g hg => ?_) ?_
      · simp [wipeD, eCt]
        refine ix_c ?_
        simp
      rw [show G.filter (fun g : Gd => g.c == c.nm) = ownOf c.nm G from rfl]
      refine seq_of ?_
      simp [eCt]
      have next : ∀ (x y : Option D), FOk ⟨M, Q, fun _ => False, fun _ => False, X0⟩ (dForF (gN 3)
  (dsSeq (dsSet 4 (dLc (diL (dVar 1)) (gN 5) (dT (d2 vEq (d2 vIxA (dVar 5) (dC (.int 1))) (d2 vIxA (dVar 3) (dC (.int 0))))) (dVar 5) [5]))
  (dsSeq (dsSet 6 (d2 vIxA (dVar 3) (dC (.int 1))))
  (dsSeq (dsIf (dT (d2 vIn (dA vTup (dCons (dC (.str ("lock" : Str))) dNil)) (dLc (diL (dVar 4)) (gN 5) dYes (dSl vSl (dVar 5) (fun _ => .ok none) (dSome (dC (.int 1)))) [5])))
  (dsSet 6 (d2 vAdd (dVar 6) (dA vTup (dCons (dA vTup (dCons (dC (.str ("lock" : Str))) (dCons (dC (.int 2)) (dCons (dC (.int 0)) dNil)))) dNil)))) dsNil)
  (dsSeq (dsSet 7 (dA vLst dNil))
  (dsSeq (dsFor (diT (d2 vIxA (dVar 3) (dC (.int 3)))) (gN 8)
  (dsIf (dT (d2 vIxA (dVar 8) (dC (.int 2))))
  (dsChg "list" 7 (dCons (dA (dLen 2 v_law_fenced) (dCons (dVar 8) (dCons (dVar 4) dNil))) dNil) fApp) (dsChg "list" 7 (dCons (dVar 8) dNil) fApp)))
  (dsChg "list" 2 (dCons (dA vTup (dCons (d2 vIxA (dVar 3) (dC (.int 0))) (dCons (dVar 6) (dCons (d2 vIxA (dVar 3) (dC (.int 2))) (dCons (dA vTuple (dCons (dVar 7) dNil)) dNil))))) dNil) fApp)))))) (r.map eCt) [some (eHo h), some (.lst (G.map eG)), some (.lst (dn ++ [gcD G c])), some (eCt c), some (.lst ((ownOf c.nm G).map eG)), none, some (.tup (VSf c G)), x, y]) := fun x y => by
        refine ih (fun q hq => hm q (List.mem_cons_of_mem _ hq)) _ _ _ _ _ _ ?_ ?_
        · rw [List.length_append, List.length_singleton]; omega
        · rw [List.append_assoc]
          exact e
      refine seq_if (G.any (isLk c.nm) = true) (by
        simp
        refine ⟨by omega, ?_⟩
        refine comp_mapP (k := fun g => D.tup [.str (kd g)]) (fun g hg => by cases g <;> simp [wipeD, eG, kd]) ?_
        refine in_map (g := fun g => PyData.tuple [.str (kd g)]) (p := .tuple [.str "lock"]) (by simp [py, pyL]) (sh_tup (all_cons sh_str all_nil)) (fun g hg => ⟨by simp [py, pyL], sh_tup (all_cons (sh_str (kd_ok g)) all_nil)⟩) ?_
        have e := own_lk c.nm G
        simp only [PyData.eqv, PyData.eqvAll, Bool.and_true]
        rw [e]
        simp) (fun hk => ?_) fun hk => ?_
      · simp
        refine ⟨by have := ok.lv; omega, ?_⟩
        have ev : VSf c G = c.vs.map eV ++ [LKV] := if_pos hk
        rw [show (c.vs.map eV ++ [D.tup [D.str (Str.ofString "lock"), D.int 2, D.int 0]]) = VSf c G from ev.symm]
        refine lg_tail (h := h) (c := c) (G := G) (dn := dn) ok hG hl (by omega) ?_
        exact fun x y => next x y
      · have ev : VSf c G = c.vs.map eV := if_neg hk
        show FOk _ (dsSeq _ _ [some (eHo h), some (.lst (G.map eG)), some (.lst dn), some (eCt c), _, none, some (.tup (c.vs.map eV)), _, _])
        rw [← ev]
        refine lg_tail (h := h) (c := c) (G := G) (dn := dn) ok hG hl (by omega) ?_
        exact fun x y => next x y
  refine go _ (fun x y z u v => ?_) h.cs (fun _ h => h) [] none none none none none (by have := hh.lc; simp; omega) (by simp)
  simp [eHo]
  exact K
end Vl

set_option Elab.async false
set_option linter.all false
set_option maxRecDepth 100000
set_option maxHeartbeats 4000000
namespace Vl
open PySem PySem.Spec PyProof.Rows L2 Sh Pr
theorem init_ok (a b : D) : v_House_init [a, b] = .ok (.ins 7 [(Str.ofString "assets", a), (Str.ofString "contracts", b)]) := rfl
theorem made_ok (h : Ho) {Q : D → Prop} {X : XP} (K : Q (mk h)) : RP (v_law_made [eHo h]) Q X := by
  unfold v_law_made vb_law_made
  rw [rp_run]
  simp [eHo]
  rw [init_ok]
  exact rp_mk K
theorem cut_take {G : List Gd} {k : Nat} (hk : k ≤ G.length) : cutD (G.map eG) none (some (k : Int)) = (G.take k).map eG := by
  unfold cutD
  rw [HT.sIx_none, HT.sIx_nat, List.length_map, List.drop_zero, Nat.sub_zero, Nat.min_eq_left hk, List.map_take]
def firstBad (h : Ho) : List Gd → List Gd → Option Nat
  | _, [] => none
  | pre, g :: r => if (pre.any fun y => (pG y).eqv (pG g)) = true ∨ fitIn h.as g h.cs = false then some pre.length else firstBad h (pre ++ [g]) r
def isL1 (d : D) (L : List D → Prop) : Prop := match d with
  | .lst xs => L xs
  | _ => False
@[simp] theorem isL1_lst (xs : List D) {L : List D → Prop} : isL1 (.lst xs) L = L xs := rfl
section
variable {Q : Po} {ve : VEn}
theorem f_forE (m : VM D) (tg : VTg) (body : VSm) : FOk Q (dsForE m tg body ve) = RP (m ve) (fun d => isL1 d fun ds => FOk Q (dForE tg body 0 ds ve)) Q.xc := by
  unfold dsForE
  rw [f_bs]
  congr 1
  funext d
  cases d <;> first | rfl | exact f_no
theorem f_raise (c : Nat) (f : Str) (m : VM D) : FOk Q (dsRaise c f m ve) = RP (m ve) (fun d => xArgD d = true ∧ Q.xc c [(f, d)]) Q.xc := by
  unfold dsRaise
  rw [f_bs]
  congr 1
  funext d
  by_cases h : xArgD d = true
  · rw [if_pos h]; simp [h]
  · rw [if_neg h]; simp [h]
theorem forE_nil {tg : VTg} {body : VSm} {i : Nat} : FOk Q (dForE tg body i [] ve) = Q.nx ve := by unfold dForE; exact f_nx
theorem forE_cons {tg : VTg} {body : VSm} {i : Nat} {d : D} {r : List D} (h : tgP (tg (.tup [.int (i : Nat), d]) ve) fun ve1 => FOk ⟨fun ve2 => FOk Q (dForE tg body (i + 1) r ve2), Q.rt, fun ve2 => FOk Q (dForE tg body (i + 1) r ve2), Q.nx, Q.xc⟩ (body ve1)) : FOk Q (dForE tg body i (d :: r) ve) := by
  unfold dForE
  cases e : tg (.tup [.int (i : Nat), d]) ve with
  | none => rw [e] at h; exact h.elim
  | some ve1 =>
    rw [e] at h
    dsimp only [tgP] at h ⊢
    revert h
    cases body ve1 <;> (intro h; simp only [f_nx, f_rt, f_ct, f_bk, f_xc, f_no] at h ⊢; try exact h)
theorem rp_or {X : XP} {m n : VM Bool} (c c' : Prop) (h1 : RP (m ve) (fun x => (x = true) = c) X) (h2 : ¬ c → RP (n ve) (fun x => (x = true) = c') X) : RP (dOr m n ve) (fun x => (x = true) = (c ∨ c')) X := by
  rw [rp_dOr]
  refine h1.imp fun b e => ?_
  by_cases hb : b = true
  · have hc : c := e ▸ hb
    rw [if_pos hb]
    exact propext ⟨fun _ => .inl hc, fun _ => rfl⟩
  · have hc : ¬ c := e ▸ hb
    rw [if_neg hb]
    exact (h2 hc).imp fun x hx => by rw [hx]; exact propext ⟨fun h => .inr h, fun h => h.elim (fun z => absurd z hc) id⟩
end
theorem guarded_ok {h : Ho} (hh : HoW h) {G : List Gd} (hG : GsOk G) (hl : G.length ≤ 1000) {P : D → Prop} {X : XP} (K1 : firstBad h [] G = none → P (.ins 7 [(Str.ofString "assets", .tup (h.as.map eA)), (Str.ofString "contracts", .tup (h.cs.map (gcD G)))])) (K2 : ∀ k : Nat, firstBad h [] G = some k → X 3 [(Str.ofString "at", .int (k : Int))]) : RP (v_guarded [mk h, .lst (G.map eG)]) P X := by
  unfold v_guarded vb_guarded
  rw [rp_run]
  refine seq_of ?_
  rw [f_forE]
  simp
  have go : ∀ (N : VEn → Prop), (firstBad h [] G = none → ∀ (x y : Option D), N [some (mk h), some (.lst (G.map eG)), x, y, none, none]) → ∀ (r pre : List Gd) (x y : Option D), pre ++ r = G → firstBad h pre r = firstBad h [] G →
      FOk ⟨N, P, fun _ => False, fun _ => False, X⟩ (dForE (gT [2, 3]) (dsIf (dOr (dT (d2 vIn (dVar 3) (dSl vSlL (dVar 1) (fun _ => .ok none) (dSome (dVar 2))))) (dNot (dT (dA (dLen 2 v_can_have) (dCons (dVar 0) (dCons (dVar 3) dNil))))))
  (dsRaise 3 ("at" : Str) (dVar 2)) dsNil) pre.length (r.map eG) [some (mk h), some (.lst (G.map eG)), x, y, none, none]) := by
    intro N hN r
    induction r with
    | nil =>
      intro pre x y e eb
      rw [List.map_nil, forE_nil]
      exact hN eb.symm _ _
    | cons g r ih =>
      intro pre x y e eb
      have hg : GdOk g := hG g (by rw [← e]; simp)
      have hpl : pre.length ≤ G.length := by rw [← e]; simp
      rw [List.map_cons]
      refine forE_cons ?_
      show tgP (some _) _
      rw [tgP_some]
      show FOk _ (dsIf _ _ _ [some (mk h), some (.lst (G.map eG)), some (.int (pre.length : Nat)), some (eG g), none, none])
      refine st_if (((pre.any fun y => (pG y).eqv (pG g)) = true) ∨ fitIn h.as g h.cs = false) (rp_or _ _ (by
        simp
        rw [cut_take hpl, show G.take pre.length = pre from by rw [← e]; simp]
        refine in_gs (fun y hy => hG y (by rw [← e]; simp [hy])) (py_eG g) (sh_eG hg) ?_
        simp) fun _ => by
          simp
          exact (can_ok hh hg (Q := fun d => isBl d fun b => b = fitIn h.as g h.cs) (by simp)).x0) (fun hb => ?_) fun hb => ?_
      · rw [f_raise]
        simp
        rw [firstBad, if_pos hb] at eb
        refine ⟨?_, K2 _ eb.symm⟩
        unfold xArgD
        simp
        have := Nat.log2_le_self pre.length
        omega
      · rw [f_nil]
        rw [firstBad, if_neg hb] at eb
        have := ih (pre ++ [g]) (some (.int (pre.length : Nat))) (some (eG g)) (by rw [← e]; simp) eb
        rw [List.length_append, List.length_singleton] at this
        exact this
  refine go _ (fun hn x y => ?_) G [] none none rfl rfl
  refine seq_of ?_
  rw [f_set, rp_lc, rp_diT]
  refine fld_c (h := h) ?_
  simp
  refine ⟨by have := hh.lc; omega, ?_⟩
  refine comp_mapP (k := gcD G) (fun c hc => by simp [wipeD]; exact gcon_ok (hh.cs c hc) hG hl rfl) ?_
  refine fld_a (h := h) ?_
  simp
  rw [init_ok]
  exact rp_mk (K1 hn)
end Vl

set_option Elab.async false
set_option linter.all false
set_option maxRecDepth 100000
set_option maxHeartbeats 4000000
namespace Vl
open PySem PySem.Spec PyProof.Rows L2 Sh Pr
theorem eq_refl_rp {neg : Bool} {d : D} {n : Nat} (hs : scalD d d = none) (h : sh n d) (hn : n ≤ 64) {P : D → Prop} {X : XP} (k : P (.bl (xor neg true))) : RP (vEqB neg d d) P X := by
  obtain ⟨p, e, c, _⟩ := sh_py n d h
  refine eq_py hs e e h h hn ?_
  rw [PySem.SeqAt.eqv_refl p c]
  exact k
theorem eq2_ok {a b : D} {n : Nat} (ha : sh n a) (hb : sh n b) (hn : n ≤ 64) : vEq2 7 (Str.ofString "assets") (Str.ofString "contracts") (.ins 7 [(Str.ofString "assets", a), (Str.ofString "contracts", b)]) (.ins 7 [(Str.ofString "assets", a), (Str.ofString "contracts", b)]) = .ok (.bl true) := by
  obtain ⟨p, e, c, _⟩ := sh_py n a ha
  obtain ⟨q, e', c', _⟩ := sh_py n b hb
  unfold vEq2
  dsimp only
  rw [if_pos ⟨rfl, rfl⟩, lk_a, lk_c]
  dsimp only
  rw [e, e']
  dsimp only
  rw [sh_shaped ha hn e, sh_shaped hb hn e', PySem.SeqAt.eqv_refl p c, PySem.SeqAt.eqv_refl q c']
  rfl
theorem sh_as {h : Ho} (hh : HoW h) : sh 12 (.tup (h.as.map eA)) := sh_tup fun d hd => by
  rw [List.mem_map] at hd
  obtain ⟨v, hv, rfl⟩ := hd
  exact sh_tup (all_cons (sh_str (hh.as v hv)) (all_cons sh_int all_nil))
theorem sh_app {n : Nat} {xs ys : List D} (h1 : ∀ x ∈ xs, sh n x) (h2 : ∀ x ∈ ys, sh n x) : ∀ x ∈ xs ++ ys, sh n x := fun x hx => (List.mem_append.mp hx).elim (h1 x) (h2 x)
theorem sh_vs {c : Ct} (ok : CtW c) : ∀ x ∈ c.vs.map eV, sh 8 x := fun d hd => by
  rw [List.mem_map] at hd
  obtain ⟨v, hv, rfl⟩ := hd
  exact sh_tup (all_cons (sh_str (ok.vs v hv)) (all_cons sh_int (all_cons sh_int all_nil)))
theorem sh_hs {c : Ct} (ok : CtW c) : ∀ x ∈ c.hs.map eA, sh 9 x := fun d hd => by
  rw [List.mem_map] at hd
  obtain ⟨v, hv, rfl⟩ := hd
  exact sh_tup (all_cons (sh_str (ok.hs v hv)) (all_cons sh_int all_nil))
theorem sh_eP {p : Pc} (h : PyData.strOk p.nm = true ∧ p.bk.length ≤ 1000 ∧ ∀ t ∈ p.bk, sh 6 t) : sh 9 (eP p) := sh_tup (all_cons (sh_str h.1) (all_cons sh_int (all_cons sh_bl (all_cons (sh_tup fun x hx => sh_le (h.2.2 x hx) (by omega)) all_nil))))
theorem sh_cs {h : Ho} (hh : HoW h) : sh 12 (.tup (h.cs.map eCt)) := sh_tup fun d hd => by
  rw [List.mem_map] at hd
  obtain ⟨c, hc, rfl⟩ := hd
  have ok := hh.cs c hc
  refine sh_tup (all_cons (sh_str ok.nm) (all_cons (sh_tup fun x hx => sh_le (sh_vs ok x hx) (by omega)) (all_cons (sh_tup fun x hx => sh_le (sh_hs ok x hx) (by omega)) (all_cons (sh_tup fun x hx => ?_) all_nil))))
  rw [List.mem_map] at hx
  obtain ⟨p, hp, rfl⟩ := hx
  exact sh_eP (ok.ps p hp)
theorem sh_FRT : ∀ x ∈ FRT, sh 6 x := all_cons (sh_tup (all_cons sh_str (all_cons (sh_tup (all_cons sh_str (all_cons (sh_tup (all_cons sh_str (all_cons sh_str all_nil))) (all_cons (sh_tup (all_cons sh_str (all_cons sh_int all_nil))) all_nil)))) all_nil))) (all_cons (sh_tup (all_cons sh_str (all_cons sh_str (all_cons (sh_tup (all_cons sh_str (all_cons sh_int all_nil))) all_nil)))) all_nil)
theorem sh_BHD : ∀ x ∈ BHD, sh 6 x := all_cons (sh_tup (all_cons sh_str (all_cons sh_str (all_cons (sh_tup (all_cons sh_str (all_cons sh_int all_nil))) all_nil)))) all_nil
theorem sh_fl {g : Gd} (h : GdOk g) : sh 6 (fl g) := by
  cases g with
  | floor c a x => exact sh_tup (all_cons sh_str (all_cons (sh_tup (all_cons sh_str (all_cons (sh_tup (all_cons sh_str (all_cons (sh_tup (all_cons sh_str (all_cons (sh_str h.2) all_nil))) (all_cons (sh_tup (all_cons sh_str (all_cons sh_int all_nil))) all_nil)))) (all_cons (sh_tup (all_cons sh_str (all_cons sh_int all_nil))) all_nil)))) all_nil))
  | _ => exact trivial
theorem sh_gcs {h : Ho} (hh : HoW h) {G : List Gd} (hG : GsOk G) : sh 12 (.tup (h.cs.map (gcD G))) := sh_tup fun d hd => by
  rw [List.mem_map] at hd
  obtain ⟨c, hc, rfl⟩ := hd
  have ok := hh.cs c hc
  refine sh_tup (all_cons (sh_str ok.nm) (all_cons (sh_tup fun x hx => ?_) (all_cons (sh_tup fun x hx => sh_le (sh_hs ok x hx) (by omega)) (all_cons (sh_tup fun x hx => ?_) all_nil))))
  · unfold VSf at hx
    split at hx
    · refine sh_le (sh_app (sh_vs ok) (all_cons (sh_tup (all_cons sh_str (all_cons sh_int (all_cons sh_int all_nil)))) all_nil) x hx) (by omega)
    · exact sh_le (sh_vs ok x hx) (by omega)
  · rw [List.mem_map] at hx
    obtain ⟨p, hp, rfl⟩ := hx
    have op := ok.ps p hp
    unfold gp
    split
    · refine sh_tup (all_cons (sh_str op.1) (all_cons sh_int (all_cons sh_bl (all_cons (sh_tup fun y hy => sh_le (n := 6) ?_ (by omega)) all_nil))))
      revert y
      refine sh_app (sh_app ?_ op.2.2) (sh_app ?_ ?_)
      · unfold FRf; split
        · exact sh_FRT
        · exact all_nil
      · unfold BHf; split
        · exact sh_BHD
        · exact all_nil
      · intro y hy
        unfold flr at hy
        rw [List.mem_map] at hy
        obtain ⟨g, hg, rfl⟩ := hy
        exact sh_fl (hG g (List.mem_filter.mp hg).1)
    · exact sh_eP op
theorem sh_gs {G : List Gd} (hG : GsOk G) : sh 12 (.lst (G.map eG)) := sh_lst fun d hd => by
  rw [List.mem_map] at hd
  obtain ⟨g, hg, rfl⟩ := hd
  exact sh_le (sh_eG (hG g hg)) (by omega)
theorem isint_ok (k : Int) {Q : D → Prop} {X : XP} (K : Q (.bl true)) : RP (v_law_is_integer [.int k]) Q X := rp_mk K
theorem try_set {i j : Nat} {rs cs : List Nat} {e : VM D} {suite : Nat → List (Str × D) → VSm} {Q : Po} {ve : VEn} (h : RP (e ve) (fun d => Q.nx (ve.set j (some d))) (fun c fs => c ∈ rs ∧ (fs.all fun p => xArgD p.2) = true ∧ i < ve.length ∧ c ∈ cs ∧ FOk ⟨fun ve2 => Q.nx (ve2.set i none), Q.rt, fun ve2 => Q.ct (ve2.set i none), fun ve2 => Q.bk (ve2.set i none), fun _ _ => False⟩ (suite c fs (ve.set i none)))) : FOk Q (dsTry i rs cs (dsSet j e) suite ve) := by
  unfold dsTry dsSet
  cases q : e ve with
  | ok d => rw [q, rp_ok] at h; unfold dBS; dsimp only; rw [f_nx]; exact h
  | no => rw [q, rp_no] at h; exact h.elim
  | exc c fs =>
    rw [q, rp_exc] at h
    obtain ⟨h1, h2, h3, h4, h5⟩ := h
    show FOk Q (if c ∈ rs ∧ (fs.all fun p => xArgD p.2) = true ∧ i < ve.length then _ else _)
    rw [if_pos ⟨h1, h2, h3⟩, if_pos h4]
    revert h5
    cases suite c fs (ve.set i none) <;> (intro h; simp only [f_nx, f_rt, f_ct, f_bk, f_xc, f_no] at h ⊢; try exact h)
end Vl

set_option Elab.async false
set_option linter.all false
set_option maxRecDepth 100000
set_option maxHeartbeats 4000000
namespace Vl
open PySem PySem.Spec PyProof.Rows L2 Sh Pr
def isHo (d : D) : Prop := ∃ h, HoW h ∧ d = eHo h
def bdD : Option Nat → D
  | none => .non
  | some k => .int (k : Int)
theorem cut_sub {xs : List D} {lo hi : Option Int} {d : D} (h : d ∈ cutD xs lo hi) : d ∈ xs := List.mem_of_mem_drop (List.mem_of_mem_take h)
theorem cut_len {xs : List D} {lo hi : Option Int} : (cutD xs lo hi).length ≤ xs.length := by
  unfold cutD
  rw [List.length_take, List.length_drop]
  omega
theorem range_from (n : Nat) : rangeD 0 n = (List.range' 0 n).map fun k : Nat => D.int (k : Int) := by
  unfold rangeD
  rw [List.range_eq_range']
  congr 1
  funext k
  simp
theorem bad_loop {sc : D} {h : Ho} (hh : HoW h) {G : List Gd} (hG : GsOk G) (hl : G.length ≤ 1000) : ∀ (N : VEn → Prop), (∀ x : Option D, N [some sc, some (eHo h), some (mk h), some (.lst (G.map eG)), none, some (.lst (G.map eG)), some (bdD (firstBad h [] G)), x, none, none, none]) → ∀ (r pre : List Gd) (b : Option Nat) (x : Option D), pre ++ r = G → (match b with
      | none => firstBad h pre r
      | some k => some k) = firstBad h [] G →
      FOk ⟨N, fun d => d = .bl true, fun _ => False, fun _ => False, X0⟩ (dForF (gN 7)
  (dsIf (dAnd (dT (d2 vIsN (dVar 6) (dC (.non)))) (dOr (dNot (dT (dA (dLen 2 v_law_fits) (dCons (dVar 1) (dCons (d2 vIxA (dVar 3) (dVar 7)) dNil))))) (dT (d2 vIn (d2 vIxA (dVar 3) (dVar 7)) (dSl vSlL (dVar 3) (fun _ => .ok none) (dSome (dVar 7)))))))
  (dsSet 6 (dVar 7)) dsNil) ((List.range' pre.length r.length).map fun k : Nat => D.int (k : Int)) [some sc, some (eHo h), some (mk h), some (.lst (G.map eG)), none, some (.lst (G.map eG)), some (bdD b), x, none, none, none]) := by
    intro N hN r
    induction r with
    | nil =>
      intro pre b x e eb
      rw [List.length_nil, List.range'_zero, List.map_nil, for_nil]
      have : b = firstBad h [] G := by
        rw [← eb]
        cases b <;> rfl
      rw [this]
      exact hN _
    | cons g r ih =>
      intro pre b x e eb
      have hg : GdOk g := hG g (by rw [← e]; simp)
      have hpl : pre.length ≤ G.length := by rw [← e]; simp
      have hnx : ∀ (b' : Option Nat) (x : Option D), (match b' with
          | none => firstBad h (pre ++ [g]) r
          | some k => some k) = firstBad h [] G → FOk ⟨N, fun d => d = .bl true, fun _ => False, fun _ => False, X0⟩ (dForF (gN 7)
  (dsIf (dAnd (dT (d2 vIsN (dVar 6) (dC (.non)))) (dOr (dNot (dT (dA (dLen 2 v_law_fits) (dCons (dVar 1) (dCons (d2 vIxA (dVar 3) (dVar 7)) dNil))))) (dT (d2 vIn (d2 vIxA (dVar 3) (dVar 7)) (dSl vSlL (dVar 3) (fun _ => .ok none) (dSome (dVar 7)))))))
  (dsSet 6 (dVar 7)) dsNil) ((List.range' (pre.length + 1) r.length).map fun k : Nat => D.int (k : Int)) [some sc, some (eHo h), some (mk h), some (.lst (G.map eG)), none, some (.lst (G.map eG)), some (bdD b'), x, none, none, none]) := fun b' x hb' => by
        have := ih (pre ++ [g]) b' x (by rw [← e]; simp) hb'
        rw [List.length_append, List.length_singleton] at this
        exact this
      rw [List.length_cons, List.range'_succ, List.map_cons]
      refine for_cons ?_
      rw [gN_eq, tgP_some]
      have hix : ∀ {P : D → Prop}, P (eG g) → ixP (G.map eG) (pre.length : Int) P := fun {P} hp => ixP_at (by omega) (by rw [List.length_map, ← e, List.length_append, List.length_cons]; omega) fun d hd => by
        rw [Int.toNat_natCast, ← e, List.map_append, List.getElem?_append_right (by simp), List.length_map, Nat.sub_self] at hd
        simp at hd
        rw [← hd]
        exact hp
      cases b with
      | some k =>
        refine st_if False (by simp [bdD, vIsN]) (fun h => h.elim) fun _ => ?_
        rw [f_nil]
        exact hnx (some k) _ eb
      | none =>
        refine st_if (True ∧ (fitIn h.as g h.cs = false ∨ (pre.any fun y => (pG y).eqv (pG g)) = true)) (rp_and _ _ (by simp [bdD, vIsN]) fun _ => rp_or _ _ (by
          simp
          refine hix ?_
          exact fits_ok hh hg (Q := fun d => isBl d fun b => b = fitIn h.as g h.cs) (by simp)) fun _ => by
            simp
            refine hix ?_
            rw [cut_take hpl, show G.take pre.length = pre from by rw [← e]; simp]
            refine in_gs (fun y hy => hG y (by rw [← e]; simp [hy])) (py_eG g) (sh_eG hg) ?_
            simp) (fun hb => ?_) fun hb => ?_
        · simp
          refine hnx (some pre.length) _ ?_
          dsimp only at eb ⊢
          rw [← eb, firstBad, if_pos (hb.2.elim .inr .inl)]
        · rw [f_nil]
          refine hnx none _ ?_
          dsimp only at eb ⊢
          rw [← eb, firstBad, if_neg (fun z => hb ⟨trivial, z.elim .inr .inl⟩)]
end Vl

set_option Elab.async false
set_option linter.all false
set_option maxRecDepth 100000
set_option maxHeartbeats 4000000
namespace Vl
open PySem PySem.Spec PyProof.Rows L2 Sh Pr
theorem set_val {Q : Po} {ve ve' : VEn} {i : Nat} {m : VM D} {rest : VSm} (d : D) (h : m ve = .ok d) (hv : ve.set i (some d) = ve') (k : FOk Q (rest ve')) : FOk Q (dsSeq (dsSet i m) rest ve) := by
  subst hv
  rw [f_seq, f_set, h]
  simpa using k
theorem for_val {Q : Po} {ve : VEn} {src : VM (List D)} {tg : VTg} {body : VSm} (ds : List D) (h : src ve = .ok ds) (k : FOk Q (dForF tg body ds ve)) : FOk Q (dsFor src tg body ve) := by
  rw [f_for, h]
  simpa using k
theorem rng_val {G : List Gd} {i : Nat} {ve : VEn} (h : ve[i]? = some (some (.lst (G.map eG)))) (hl : G.length ≤ 1000) : diR1 (dCons (dA vLen (dCons (dVar i) dNil)) dNil) ve = .ok ((List.range' ([] : List Gd).length G.length).map fun k : Nat => D.int (k : Int)) := by
  refine RP.eq ?_
  simp [atP, h]
  exact ⟨by omega, range_from _⟩
theorem callv {n : Nat} {f : List D → VR D} {a : VM (List D)} {as : List D} {d : D} {ve : VEn} (h : a ve = .ok as) (hl : as.length = n) (e : f as = .ok d) : dA (dLen n f) a ve = .ok d := by
  unfold dA dLen
  rw [h]
  show (if as.length = n then f as else .no) = _
  rw [if_pos hl, e]
theorem callP {n : Nat} {f : List D → VR D} {a : VM (List D)} {as : List D} {P : D → Prop} {X : XP} {ve : VEn} (h : a ve = .ok as) (hl : as.length = n) (k : RP (f as) P X) : RP (dA (dLen n f) a ve) P X := by
  unfold dA dLen
  rw [h]
  show RP (if as.length = n then f as else .no) P X
  rw [if_pos hl]
  exact k
theorem first_lt {h : Ho} : ∀ {r pre : List Gd} {k : Nat}, firstBad h pre r = some k → k ≤ pre.length + r.length
  | [], _, _, e => by rw [firstBad] at e; cases e
  | g :: r, pre, k, e => by
    rw [firstBad] at e
    split at e
    · cases e; omega
    · have := first_lt e
      rw [List.length_append, List.length_singleton] at this
      rw [List.length_cons]
      omega
theorem same_gs {G : List Gd} (hG : GsOk G) {ve : VEn} {X : XP} (h3 : ve[3]? = some (some (.lst (G.map eG)))) (h5 : ve[5]? = some (some (.lst (G.map eG)))) : RP (dT (d2 vNe (dVar 3) (dVar 5)) ve) (fun x => (x = true) = False) X := by
  rw [rp_dT, rp_d2]
  simp only [rp_var, atP, h3, h5]
  exact eq_refl_rp (n := 12) rfl (sh_gs hG) (by omega) (by simp)
theorem law_rest {sc : D} {h : Ho} (hh : HoW h) {G : List Gd} (hG : GsOk G) (hl : G.length ≤ 1000) : FOk ⟨fun _ => D.non = .bl true, fun d => d = .bl true, fun _ => False, fun _ => False, X0⟩ (dsSeq (dsSet 5 (dA vList (dCons (dVar 3) dNil)))
  (dsSeq (dsSet 6 (dC (.non)))
  (dsSeq (dsFor (diR1 (dCons (dA vLen (dCons (dVar 3) dNil)) dNil)) (gN 7)
  (dsIf (dAnd (dT (d2 vIsN (dVar 6) (dC (.non)))) (dOr (dNot (dT (dA (dLen 2 v_law_fits) (dCons (dVar 1) (dCons (d2 vIxA (dVar 3) (dVar 7)) dNil))))) (dT (d2 vIn (d2 vIxA (dVar 3) (dVar 7)) (dSl vSlL (dVar 3) (fun _ => .ok none) (dSome (dVar 7)))))))
  (dsSet 6 (dVar 7)) dsNil))
  (dsSeq (dsTry 9 [3] [3] (dsSet 8 (dA (dLen 2 v_guarded) (dCons (dVar 2) (dCons (dVar 3) dNil))))
  (fun c fs => (dsSeq (dsIf (dOr (dT (dXi (decide (c ∈ ([] : List Nat))))) (dT (d2 vNe (dVar 3) (dVar 5))))
  (dsRet (dC (.bl false))) dsNil)
  (dsRet (wAnd (d2 vNotN (dVar 6) (dC (.non))) (wAnd (dXi (decide (c ∈ ([3] : List Nat)))) (wAnd (dA (dLen 1 v_law_is_integer) (dCons (dXf fs ("at" : Str)) dNil)) (d2 vEq (dXf fs ("at" : Str)) (dVar 6)))))))))
  (dsSeq (dsSet 10 (dA (dLen 2 v_law_guarded) (dCons (dVar 1) (dCons (dVar 3) dNil))))
  (dsSeq (dsIf (dOr (dT (d2 vNotN (dVar 6) (dC (.non)))) (dOr (dT (d2 vNe (dVar 3) (dVar 5))) (dNot (dT (d2 (vEq2 7 ("assets" : Str) ("contracts" : Str)) (dVar 2) (dA (dLen 1 v_law_made) (dCons (dVar 1) dNil)))))))
  (dsRet (dC (.bl false))) dsNil)
  (dsRet (wAnd (d2 vEq (dFld [7] ("assets" : Str) (dVar 8)) (dA vTuple (dCons (d2 vIxA (dVar 10) (dC (.int 0))) dNil))) (d2 vEq (dFld [7] ("contracts" : Str) (dVar 8)) (dA vTuple (dCons (d2 vIxA (dVar 10) (dC (.int 1))) dNil)))))))))) [some sc, some (eHo h), some (mk h), some (.lst (G.map eG)), none, none, none, none, none, none, none]) := by
  refine set_val (ve' := [some sc, some (eHo h), some (mk h), some (.lst (G.map eG)), none, some (.lst (G.map eG)), none, none, none, none, none]) (.lst (G.map eG)) rfl rfl ?_
  refine set_val (ve' := [some sc, some (eHo h), some (mk h), some (.lst (G.map eG)), none, some (.lst (G.map eG)), some .non, none, none, none, none]) .non rfl rfl ?_
  refine seq_of ?_
  refine for_val _ (rng_val rfl hl) ?_
  refine bad_loop hh hG hl _ (fun x => ?_) G [] none none rfl rfl
  refine seq_of ?_
  refine try_set ?_
  refine callP (as := [mk h, .lst (G.map eG)]) rfl rfl ?_
  refine guarded_ok hh hG hl (fun hb => ?_) fun k hb => ?_
  · rw [hb]
    obtain ⟨_, ed, rfl⟩ := RP.ex (lguard_ok hh hG hl (Q := fun d => d = .tup [.lst (h.as.map eA), .lst (h.cs.map (gcD G))]) rfl)
    refine set_val _ (callv (as := [eHo h, .lst (G.map eG)]) rfl rfl ed) rfl ?_
    refine seq_if (False ∨ (False ∨ False)) (rp_or _ _ (RP.of false rfl (by simp)) fun _ => rp_or _ _ ?_ fun _ => ?_) (fun z => by simp at z) fun _ => ?_
    · exact same_gs hG rfl rfl
    · have em : v_law_made [eHo h] = .ok (mk h) := RP.eq (made_ok h rfl)
      rw [rp_dNot, rp_dT, rp_d2]
      refine RP.of (mk h) rfl ?_
      refine callP (as := [eHo h]) rfl rfl ?_
      rw [em, rp_ok, show vEq2 7 (Str.ofString "assets") (Str.ofString "contracts") (mk h) (mk h) = .ok (.bl true) from eq2_ok (sh_as hh) (sh_cs hh) (by omega)]
      simp
    · rw [f_ret, rp_wAnd, rp_d2]
      refine RP.of (.tup (h.as.map eA)) rfl ?_
      refine RP.of (.tup (h.as.map eA)) rfl ?_
      refine eq_refl_rp (n := 12) rfl (sh_as hh) (by omega) ?_
      simp only [Bool.false_xor, isBl_bl, if_true]
      rw [rp_d2]
      refine RP.of (.tup (h.cs.map (gcD G))) rfl ?_
      refine RP.of (.tup (h.cs.map (gcD G))) rfl ?_
      exact eq_refl_rp (n := 12) rfl (sh_gcs hh hG) (by omega) rfl
  · rw [hb]
    have hk := first_lt hb
    refine ⟨by decide, ?_, by simp, by decide, ?_⟩
    · have := Nat.log2_le_self k
      simp at hk
      simp [xArgD]
      omega
    · refine seq_if (False ∨ False) (rp_or _ _ (RP.of false rfl (by simp)) fun _ => same_gs hG rfl rfl) (fun z => by simp at z) fun _ => ?_
      rw [f_ret, rp_wAnd]
      refine RP.of (.bl true) rfl ?_
      simp only [isBl_bl, if_true]
      rw [rp_wAnd]
      refine RP.of (.bl true) rfl ?_
      simp only [isBl_bl, if_true]
      rw [rp_wAnd]
      refine callP (as := [.int (k : Int)]) rfl rfl (isint_ok _ ?_)
      simp only [isBl_bl, if_true]
      refine RP.of (.bl true) ?_ rfl
      show vEqB false (.int (k : Int)) (.int (k : Int)) = _
      simp [vEqB, scalD]
theorem comp_allG {ve : VEn} {X : XP} {tg : VTg} {e : VM D} {P : List D → Prop} {ds : List D} (h : ∀ d ∈ ds, tgP (tg d ve) fun ve1 => RP (e ve1) isG X0) (k : ∀ G : List Gd, GsOk G → G.length = ds.length → P (G.map eG)) : RP (dCompF tg dYes e ve ds) P X :=
  comp_allP isG h fun ys hys hyl => by
    obtain ⟨G, rfl, a, b⟩ := ex_map hys
    exact k G a (b.trans hyl)
theorem set_P {Q : Po} {ve : VEn} {i : Nat} {m : VM D} {rest : VSm} (k : RP (m ve) (fun d => FOk Q (rest (ve.set i (some d)))) Q.xc) : FOk Q (dsSeq (dsSet i m) rest ve) := by
  rw [f_seq, f_set]
  exact k
theorem law_ok (ns : List Int) (hn : ns.length ≤ 63) : v_law [.scr (ns.map D.int)] = .ok (.bl true) := by
  refine RP.eq ?_
  unfold v_law vb_law
  rw [rp_run]
  obtain ⟨_, ec, c0, rfl⟩ := RP.ex (cell_ok ns 7 (by omega))
  refine set_P (callP (as := [.scr (ns.map D.int), .int 0, .int 2, .bl false]) rfl rfl ?_)
  refine house_ok (by omega) (by omega) (by omega) fun h0 hh0 => ?_
  refine set_if (c0 % 3 = 1) (R := isHo) (by simp [ec]) ⟨_, rfl, h0, hh0.w, rfl⟩ (fun _ => ?_) fun d hd => ?_
  · refine callP (as := [eHo h0]) rfl rfl ?_
    exact called_ok hh0 fun h' hh' => ⟨h', hh', rfl⟩
  obtain ⟨h, hh, rfl⟩ := hd
  refine set_P (callP (as := [eHo h]) rfl rfl (made_ok h ?_))
  refine set_P ?_
  have hcl : (cutD (ns.map D.int) (some 8) (some 14)).length ≤ 63 := Nat.le_trans cut_len (by rw [List.length_map]; exact hn)
  rw [rp_lc, rp_diL]
  refine RP.of (.lst (cutD (ns.map D.int) (some 8) (some 14))) rfl ?_
  rw [isLs_lst]
  refine ⟨Nat.le_trans hcl (by decide), ?_⟩
  refine comp_allG (fun d hd => ?_) fun G hG hGl => ?_
  · have := cut_sub hd
    rw [List.mem_map] at this
    obtain ⟨c, _, rfl⟩ := this
    rw [gN_eq, tgP_some]
    rw [rp_dA]
    simp [wipeD]
    refine (guard_ok hh c).imp ?_
    rintro d ⟨g, hg, rfl⟩
    exact guarding_ok hh hg _
  exact law_rest hh hG (Nat.le_trans (Nat.le_of_eq hGl) (Nat.le_trans hcl (by decide)))
end Vl
theorem Pr.goal : Pr.Goal := Pr.goal_of Vl.law_ok

open PySem PySem.W PyProof.Rows
set_option maxRecDepth 100000 in
set_option maxHeartbeats 0 in
theorem PySem.Challenge.cw_nestcall_k40_guards_of_a_house_holds : PySem.Challenge.rw_nestcall_k40_guards_of_a_house.Holds := by
  w_on; o_law; k_head; (case hw => w_witness2)
  k_fill
  refine L2.walk_of (l := PySem.Challenge.rw_nestcall_k40_guards_of_a_house) (n := 63) (k := 18) (x := "script") (CX := fun w => L2.CX PySem.Challenge.rw_nestcall_k40_guards_of_a_house.prog w) (sp := fun w => Sh.spLaw _ Pr.f_law) rfl (by decide) rfl ⟨rfl, by decide, by decide⟩ (fun w h Y => PySem.W.kIn_of Y) ?F (fun _ _ a ns hl _ hS => Sh.law_sp hS (Pr.goal ns hl)) (fun _ _ _ _ _ h => Sh.cx_end h)
  case F =>
    intro w mg fa h KX G hmg
    refine' Pr.all_mk KX G hmg ?l0 ?c0 ?k0 ?a1 ?l1 ?c1 ?k1 ?a2 ?l2 ?c2 ?k2 ?a3 ?l3 ?c3 ?k3 ?a4 ?l4 ?c4 ?k4 ?a5 ?l5 ?c5 ?k5 ?a6 ?l6 ?c6 ?k6 ?a7 ?l7 ?c7 ?k7 ?a8 ?l8 ?c8 ?k8 ?a9 ?l9 ?c9 ?k9 ?a10 ?l10 ?c10 ?k10 ?a11 ?l11 ?c11 ?k11 ?a12 ?l12 ?c12 ?k12 ?a13 ?l13 ?c13 ?k13 ?a14 ?l14 ?c14 ?k14 ?a15 ?l15 ?c15 ?k15 ?a16 ?l16 ?c16 ?k16 ?a17 ?l17 ?c17 ?k17 ?a18 ?l18 ?c18 ?k18 ?a19 ?l19 ?c19 ?k19 ?a20 ?l20 ?c20 ?k20 ?a21 ?l21 ?c21 ?k21 ?a22 ?l22 ?c22 ?k22 ?a23 ?l23 ?c23 ?k23 ?l24 ?c24 ?k24 ?l25 ?c25 ?k25 ?z_abs ?z_bool ?z_enumerate ?z_int ?z_isinstance ?z_len ?z_list ?z_min ?z_range ?z_tuple ?n_LOCK_BEHIND ?lo_LOCK_BEHIND_2 ?q_LOCK_BEHIND_2 ?lo_LOCK_BEHIND_1 ?q_LOCK_BEHIND_1 ?lo_LOCK_BEHIND_0 ?q_LOCK_BEHIND_0 ?n_LOCK_FRONT ?lo_LOCK_FRONT_3 ?q_LOCK_FRONT_3 ?lo_LOCK_FRONT_4 ?q_LOCK_FRONT_4 ?lo_LOCK_FRONT_2 ?q_LOCK_FRONT_2 ?lo_LOCK_FRONT_1 ?q_LOCK_FRONT_1 ?lo_LOCK_FRONT_6 ?q_LOCK_FRONT_6 ?lo_LOCK_FRONT_5 ?q_LOCK_FRONT_5 ?lo_LOCK_FRONT_0 ?q_LOCK_FRONT_0 ?n_LOCK_VARIABLE ?lo_LOCK_VARIABLE_0 ?q_LOCK_VARIABLE_0 ?aC7 ?pg7 ?hd7 ?po7 ?sa7 ?mk7 ?kc7 ?at0 ?fn0 ?at25 ?fn25 ?ke7 ?ca7 ?mr7 ?no7_assets ?no7_contracts ?gsn ?gst ?aC0 ?aC1 ?aC2 ?aC3 ?aC4 ?aC5 ?aC6 ?xL3 ?xR3 ?xs3 ?xb3 ?xt3 ?xk3 ?xn3 ?xi3 ?xy3 ?xga3 ?xgg3 ?xhd3 ?xca3 ?xmr3 ?xe3_HouseError ?xit_BadAct_BadHouse_BadPaper_BadText_TooLarge_3 ?xi13_BadGuard ?aB ?sB ?tB ?rB ?iB
    (case aC7 => k_is); (case at0 => k_is); (case at25 => k_is); (case aC0 => k_is); (case aC1 => k_is); (case aC2 => k_is); (case aC3 => k_is); (case aC4 => k_is); (case aC5 => k_is); (case aC6 => k_is); (case xi3 => k_is); (case aB => k_is); (case tB => k_is); (case a1 => k_is); (case a2 => k_is); (case a3 => k_is); (case a4 => k_is); (case a5 => k_is); (case a6 => k_is); (case a7 => k_is); (case a8 => k_is); (case a9 => k_is); (case a10 => k_is); (case a11 => k_is); (case a12 => k_is); (case a13 => k_is); (case a14 => k_is); (case a15 => k_is); (case a16 => k_is); (case a17 => k_is); (case a18 => k_is); (case a19 => k_is); (case a20 => k_is); (case a21 => k_is); (case a22 => k_is); (case a23 => k_is); (case n_LOCK_BEHIND => k_is); (case n_LOCK_FRONT => k_is); (case n_LOCK_VARIABLE => k_is); (case xL3 => k_is); (case lo_LOCK_BEHIND_0 => k_is); (case lo_LOCK_FRONT_0 => k_is); (case lo_LOCK_VARIABLE_0 => k_is); (case lo_LOCK_BEHIND_1 => k_is); (case lo_LOCK_FRONT_1 => k_is); (case lo_LOCK_BEHIND_2 => k_is); (case lo_LOCK_FRONT_2 => k_is); (case lo_LOCK_FRONT_3 => k_is); (case lo_LOCK_FRONT_4 => k_is); (case lo_LOCK_FRONT_5 => k_is); (case lo_LOCK_FRONT_6 => k_is); (case l0 => k_is); (case c0 => k_is); (case k0 => k_is); (case l1 => k_is); (case c1 => k_is); (case k1 => k_is); (case l2 => k_is); (case c2 => k_is); (case k2 => k_is); (case l3 => k_is); (case c3 => k_is); (case k3 => k_is); (case l4 => k_is); (case c4 => k_is); (case k4 => k_is); (case l5 => k_is); (case c5 => k_is); (case k5 => k_is); (case l6 => k_is); (case c6 => k_is); (case k6 => k_is); (case l7 => k_is); (case c7 => k_is); (case k7 => k_is); (case l8 => k_is); (case c8 => k_is); (case k8 => k_is); (case l9 => k_is); (case c9 => k_is); (case k9 => k_is); (case l10 => k_is); (case c10 => k_is); (case k10 => k_is); (case l11 => k_is); (case c11 => k_is); (case k11 => k_is); (case l12 => k_is); (case c12 => k_is); (case k12 => k_is); (case l13 => k_is); (case c13 => k_is); (case k13 => k_is); (case l14 => k_is); (case c14 => k_is); (case k14 => k_is); (case l15 => k_is); (case c15 => k_is); (case k15 => k_is); (case l16 => k_is); (case c16 => k_is); (case k16 => k_is); (case l17 => k_is); (case c17 => k_is); (case k17 => k_is); (case l18 => k_is); (case c18 => k_is); (case k18 => k_is); (case l19 => k_is); (case c19 => k_is); (case k19 => k_is); (case l20 => k_is); (case c20 => k_is); (case k20 => k_is); (case l21 => k_is); (case c21 => k_is); (case k21 => k_is); (case l22 => k_is); (case c22 => k_is); (case k22 => k_is); (case l23 => k_is); (case c23 => k_is); (case k23 => k_is); (case l24 => k_is); (case c24 => k_is); (case k24 => k_is); (case l25 => k_is); (case c25 => k_is); (case k25 => k_is); (case z_abs => k_is); (case z_bool => k_is); (case z_enumerate => k_is); (case z_int => k_is); (case z_isinstance => k_is); (case z_len => k_is); (case z_list => k_is); (case z_min => k_is); (case z_range => k_is); (case z_tuple => k_is); (case q_LOCK_BEHIND_2 => decide +kernel); (case q_LOCK_BEHIND_1 => decide +kernel); (case q_LOCK_BEHIND_0 => decide +kernel); (case q_LOCK_FRONT_3 => decide +kernel); (case q_LOCK_FRONT_4 => decide +kernel); (case q_LOCK_FRONT_2 => decide +kernel); (case q_LOCK_FRONT_1 => decide +kernel); (case q_LOCK_FRONT_6 => decide +kernel); (case q_LOCK_FRONT_5 => decide +kernel); (case q_LOCK_FRONT_0 => decide +kernel); (case q_LOCK_VARIABLE_0 => decide +kernel); (case pg7 => k_is); (case hd7 => k_is); (case po7 => k_is); (case sa7 => k_is); (case mk7 => k_is); (case kc7 => k_is); (case fn0 => k_is); (case fn25 => k_is); (case ke7 => exact Sh.kit_self); (case ca7 => k_is); (case mr7 => k_is); (case no7_assets => k_is); (case no7_contracts => k_is); (case gsn => k_is); (case gst => k_is); (case xR3 => decide +kernel); (case xs3 => k_is); (case xb3 => k_is); (case xt3 => k_is); (case xk3 => k_is); (case xn3 => k_is); (case xy3 => k_is); (case xga3 => k_is); (case xgg3 => k_is); (case xhd3 => k_is); (case xca3 => k_is); (case xmr3 => k_is); (case xe3_HouseError => exact Sh.exm_of (by k_is) (by k_is) (by k_is) (by k_is)); (case xit_BadAct_BadHouse_BadPaper_BadText_TooLarge_3 => exact (Sh.kit_any_no (Sh.kit_sub (by k_is) (by k_is) (by k_is) (by decide)) (Sh.kit_any_no (Sh.kit_sub (by k_is) (by k_is) (by k_is) (by decide)) (Sh.kit_any_no (Sh.kit_sub (by k_is) (by k_is) (by k_is) (by decide)) (Sh.kit_any_no (Sh.kit_sub (by k_is) (by k_is) (by k_is) (by decide)) (Sh.kit_any_no (Sh.kit_sub (by k_is) (by k_is) (by k_is) (by decide)) Sh.kit_any_nil)))))); (case xi13_BadGuard => exact Sh.kit_self); (case sB => k_is); (case rB => k_is); (case iB => k_is)

import PyProof.Rows.All
import Wide.All
import OpenK.AllK
import Wide.FinOn
import HandS.ForMost
import HandS.ForExc
import HandS.TupAny
import HandS.Deep
import HandS.ExcInit
import HandS.CallSlots
import HandS.IsInst
import HandS.FStr
import HandS.ExcIs
import HandS.ExcField
import HandS.StrMore
import HandS.TryMany
import PySem.Challenge.RW_nestcall_k01_operators
set_option Elab.async false
set_option linter.all false
set_option maxRecDepth 100000
set_option maxHeartbeats 4000000
/-! The plain layer: a program's defs as plain Lean functions on plain data (Va), over a store of the objects that change (Ob).
    A judgement (JE, JT, JA, JS, JSs ..) says that a piece of syntax does what a plain function does. -/
namespace Sh
open PySem PySem.Spec PyProof.Rows L2

/-- plain values: a tuple is data, a list (a dict, an instance) is a place in the store; scr: a list that is only read; ktp: a tuple of the module; cst: a thing of the module -/
inductive Va where
  | non | bl (b : Bool) | int (i : Int) | str (s : Str) | tup (xs : List Va) | scr (xs : List Va) | ktp (xs : List Va) | ref (n : Nat) | cst (v : V)
instance : Inhabited Va := ⟨.non⟩
inductive Ob where
  | lst (xs : List Va) | dct (kvs : List (Key × Va)) | ins (c : Nat) (fs : List (Str × Va))
abbrev Sto := List Ob
abbrev En := List (Option Va)
inductive Rs (α : Type) where
  | ok (a : α) (st : Sto) | exc (c : Nat) (fs : List (Str × Va)) (st : Sto) | no
abbrev Mo (α : Type) := Sto → Rs α
def bnd {α β : Type} (r : Rs α) (f : α → Mo β) : Rs β :=
  match r with
  | .ok a st => f a st
  | .exc c fs st => .exc c fs st
  | .no => .no

/-- the classes' addresses, the heap at the entry -/
structure Gx where
  cls : Nat → Addr
  H0 : Hp
  xs : List (Addr × List (Str × V)) := []

mutual
inductive RV (K : PySem.W.Frag) (H0 : Hp) (H : Hp) (ι : List Addr) : Va → V → Prop
  | non : RV K H0 H ι .non .non
  | bl (b : Bool) : RV K H0 H ι (.bl b) (.bl b)
  | int (i : Int) : RV K H0 H ι (.int i) (.int i)
  | str (s : Str) : RV K H0 H ι (.str s) (.str s)
  | tup {a : Addr} {vs : List V} {ws : List Va} : H a = some (.tup vs) → RVs K H0 H ι ws vs → RV K H0 H ι (.tup ws) (.ref a)
  | ktp {a : Addr} {vs : List V} {ws : List Va} : SqT K H0 a vs → RVs K H0 H ι ws vs → RV K H0 H ι (.ktp ws) (.ref a)
  | scr {a : Addr} {vs : List V} {ws : List Va} : SqL K H0 a vs → RVs K H0 H ι ws vs → RV K H0 H ι (.scr ws) (.ref a)
  | ref {n : Nat} {a : Addr} : ι[n]? = some a → RV K H0 H ι (.ref n) (.ref a)
  | cst (v : V) : RV K H0 H ι (.cst v) v
inductive RVs (K : PySem.W.Frag) (H0 : Hp) (H : Hp) (ι : List Addr) : List Va → List V → Prop
  | nil : RVs K H0 H ι [] []
  | cons {w : Va} {v : V} {ws : List Va} {vs : List V} : RV K H0 H ι w v → RVs K H0 H ι ws vs → RVs K H0 H ι (w :: ws) (v :: vs)
end

structure Ext (K : PySem.W.Frag) (H : Hp) (ι : List Addr) (H' : Hp) (ι' : List Addr) : Prop where
  pre : ∃ r, ι' = ι ++ r
  tup : ∀ a vs, H a = some (.tup vs) → H' a = some (.tup vs)
  xd : ∀ a fs, H a = some (.xd fs) → H' a = some (.xd fs)
theorem Ext.refl {K : PySem.W.Frag} {H : Hp} {ι : List Addr} : Ext K H ι H ι := ⟨⟨[], by simp⟩, fun _ _ h => h, fun _ _ h => h⟩
theorem Ext.trans {K : PySem.W.Frag} {H H1 H2 : Hp} {ι ι1 ι2 : List Addr} (a : Ext K H ι H1 ι1) (b : Ext K H1 ι1 H2 ι2) : Ext K H ι H2 ι2 := by
  obtain ⟨r, e⟩ := a.pre
  obtain ⟨r', e'⟩ := b.pre
  exact ⟨⟨r ++ r', by rw [e', e, List.append_assoc]⟩, fun x vs h => b.tup x vs (a.tup x vs h), fun x fs h => b.xd x fs (a.xd x fs h)⟩
theorem Ext.get {K : PySem.W.Frag} {H H' : Hp} {ι ι' : List Addr} (e : Ext K H ι H' ι') {n : Nat} {a : Addr} (h : ι[n]? = some a) : ι'[n]? = some a := by
  obtain ⟨r, rfl⟩ := e.pre
  rw [List.getElem?_append_left (List.getElem?_eq_some_iff.mp h).1]
  exact h
section
variable {K : PySem.W.Frag} {g : Gx} {H0 H H' : Hp} {ι ι' : List Addr}
mutual
theorem RV.mono (e : Ext K H ι H' ι') : ∀ {w : Va} {v : V}, RV K H0 H ι w v → RV K H0 H' ι' w v
  | _, _, .non => .non
  | _, _, .bl b => .bl b
  | _, _, .int i => .int i
  | _, _, .str s => .str s
  | _, _, .tup h r => .tup (e.tup _ _ h) (RVs.mono e r)
  | _, _, .scr h r => .scr h (RVs.mono e r)
  | _, _, .ktp h r => .ktp h (RVs.mono e r)
  | _, _, .ref h => .ref (e.get h)
  | _, _, .cst v => .cst v
theorem RVs.mono (e : Ext K H ι H' ι') : ∀ {ws : List Va} {vs : List V}, RVs K H0 H ι ws vs → RVs K H0 H' ι' ws vs
  | _, _, .nil => .nil
  | _, _, .cons r t => .cons (RV.mono e r) (RVs.mono e t)
end
theorem RVs.length : ∀ {ws : List Va} {vs : List V}, RVs K H0 H ι ws vs → ws.length = vs.length
  | _, _, .nil => rfl
  | _, _, .cons _ t => by rw [List.length_cons, List.length_cons, RVs.length t]
theorem RVs.get : ∀ {ws : List Va} {vs : List V} {i : Nat} {w : Va}, RVs K H0 H ι ws vs → ws[i]? = some w → ∃ v, vs[i]? = some v ∧ RV K H0 H ι w v
  | _, _, _, _, .nil, e => by simp at e
  | _, _, 0, _, .cons r _, e => by simp at e; subst e; exact ⟨_, rfl, r⟩
  | _, _, i + 1, _, .cons _ t, e => by
    obtain ⟨v, h1, h2⟩ := RVs.get (i := i) t (by simpa using e)
    exact ⟨v, by simpa using h1, h2⟩
theorem RVs.getv : ∀ {ws : List Va} {vs : List V} {i : Nat} {v : V}, RVs K H0 H ι ws vs → vs[i]? = some v → ∃ w, ws[i]? = some w ∧ RV K H0 H ι w v
  | _, _, _, _, .nil, e => by simp at e
  | _, _, 0, _, .cons r _, e => by simp at e; subst e; exact ⟨_, rfl, r⟩
  | _, _, i + 1, _, .cons _ t, e => by
    obtain ⟨v, h1, h2⟩ := RVs.getv (i := i) t (by simpa using e)
    exact ⟨v, by simpa using h1, h2⟩
theorem RVs.append : ∀ {ws zs : List Va} {vs us : List V}, RVs K H0 H ι ws vs → RVs K H0 H ι zs us → RVs K H0 H ι (ws ++ zs) (vs ++ us)
  | _, _, _, _, .nil, h => h
  | _, _, _, _, .cons r t, h => .cons r (RVs.append t h)
theorem RVs.take : ∀ {ws : List Va} {vs : List V} (n : Nat), RVs K H0 H ι ws vs → RVs K H0 H ι (ws.take n) (vs.take n)
  | _, _, 0, _ => by simpa using RVs.nil
  | _, _, _ + 1, .nil => .nil
  | _, _, n + 1, .cons r t => .cons r (RVs.take n t)
theorem RVs.drop : ∀ {ws : List Va} {vs : List V} (n : Nat), RVs K H0 H ι ws vs → RVs K H0 H ι (ws.drop n) (vs.drop n)
  | _, _, 0, h => h
  | _, _, _ + 1, .nil => .nil
  | _, _, n + 1, .cons _ t => RVs.drop n t
theorem RVs.reverse : ∀ {ws : List Va} {vs : List V}, RVs K H0 H ι ws vs → RVs K H0 H ι ws.reverse vs.reverse
  | _, _, .nil => .nil
  | _, _, .cons r t => by
    rw [List.reverse_cons, List.reverse_cons]
    exact (RVs.reverse t).append (.cons r .nil)
theorem RVs.set {w : Va} {v : V} (r : RV K H0 H ι w v) : ∀ {ws : List Va} {vs : List V} (n : Nat), RVs K H0 H ι ws vs → RVs K H0 H ι (ws.set n w) (vs.set n v)
  | _, _, _, .nil => .nil
  | _, _, 0, .cons _ t => .cons r t
  | _, _, n + 1, .cons q t => .cons q (RVs.set r n t)

/-- fields, pairs of a dict -/
abbrev PF (K : PySem.W.Frag) (g : Gx) (H : Hp) (ι : List Addr) {κ : Type} : List (κ × Va) → List (κ × V) → Prop := Paired fun (p : κ × Va) (q : κ × V) => p.1 = q.1 ∧ RV K g.H0 H ι p.2 q.2
theorem PF.mono {κ : Type} (e : Ext K H ι H' ι') {fs : List (κ × Va)} {fs' : List (κ × V)} (h : PF K g H ι fs fs') : PF K g H' ι' fs fs' := Paired.mapP h fun _ _ q => ⟨q.1, q.2.mono e⟩
def RO (K : PySem.W.Frag) (g : Gx) (H : Hp) (ι : List Addr) : Ob → Addr → Prop
  | .lst ws, a => ∃ vs, H a = some (.lst vs) ∧ RVs K g.H0 H ι ws vs
  | .dct kvs, a => ∃ kvs', H a = some (.dK kvs') ∧ PF K g H ι kvs kvs'
  | .ins c fs, a => ∃ dx fs', H a = some (.ins (g.cls c) dx fs') ∧ PF K g H ι fs fs'
/-- the kinds that stand in the store -/
def Own : HO → Bool
  | .lst _ => true
  | .dK _ => true
  | .ins _ _ _ => true
  | _ => false
theorem RO.own {o : Ob} {a : Addr} (h : RO K g H ι o a) : ∃ u, H a = some u ∧ Own u = true := by
  cases o with
  | lst ws => obtain ⟨vs, e, _⟩ := h; exact ⟨_, e, rfl⟩
  | dct ws => obtain ⟨vs, e, _⟩ := h; exact ⟨_, e, rfl⟩
  | ins c fs => obtain ⟨dx, vs, e, _⟩ := h; exact ⟨_, e, rfl⟩
/-- an object elsewhere stays -/
theorem RO.keep {o : Ob} {a : Addr} (e : Ext K H ι H' ι') (ha : H' a = H a) (h : RO K g H ι o a) : RO K g H' ι' o a := by
  cases o with
  | lst ws => obtain ⟨vs, q, r⟩ := h; exact ⟨vs, ha.trans q, r.mono e⟩
  | dct ws => obtain ⟨vs, q, r⟩ := h; exact ⟨vs, ha.trans q, PF.mono e r⟩
  | ins c fs => obtain ⟨dx, vs, q, r⟩ := h; exact ⟨dx, vs, ha.trans q, PF.mono e r⟩

structure RS (K : PySem.W.Frag) (g : Gx) (st : Sto) (H : Hp) (ι : List Addr) : Prop where
  len : ι.length = st.length
  nd : ι.Nodup
  old : ∀ b o, g.H0 b = some o → H b = some o
  new : ∀ a ∈ ι, g.H0 a = none
  obj : ∀ (n : Nat) o a, st[n]? = some o → ι[n]? = some a → RO K g H ι o a
  xds : ∀ p ∈ g.xs, H p.1 = some (.xd p.2)
theorem RS.at {st : Sto} (s : RS K g st H ι) {n : Nat} {o : Ob} (h : st[n]? = some o) : ∃ a, ι[n]? = some a ∧ RO K g H ι o a := by
  have hl : n < ι.length := by rw [s.len]; exact (List.getElem?_eq_some_iff.mp h).1
  exact ⟨ι[n], List.getElem?_eq_getElem hl, s.obj n o _ h (List.getElem?_eq_getElem hl)⟩
theorem RS.mem {st : Sto} (s : RS K g st H ι) {a : Addr} (h : a ∈ ι) : ∃ u, H a = some u ∧ Own u = true := by
  obtain ⟨n, hn, e⟩ := List.mem_iff_getElem.mp h
  have hs : n < st.length := by rw [← s.len]; exact hn
  exact (s.obj n _ a (List.getElem?_eq_getElem hs) (by rw [List.getElem?_eq_getElem hn, e])).own
theorem RS.fresh {st : Sto} (s : RS K g st H ι) {p : Addr} (h : H p = none) : p ∉ ι ∧ g.H0 p = none := by
  refine ⟨fun hm => ?_, ?_⟩
  · obtain ⟨u, e, _⟩ := s.mem hm
    rw [h] at e; cases e
  · cases q : g.H0 p with
    | none => rfl
    | some o =>
      have := s.old p o q
      rw [h] at this; cases this
theorem ext_new {p : Addr} {o : HO} (h : H p = none) (r : List Addr) : Ext K H ι (upd H p o) (ι ++ r) := ⟨⟨r, rfl⟩, fun a vs q => by rw [upd_ne (ne_of_none q h)]; exact q, fun a fs q => by rw [upd_ne (ne_of_none q h)]; exact q⟩
/-- something else is laid -/
theorem RS.other {st : Sto} (s : RS K g st H ι) {p : Addr} {o : HO} (h : H p = none) : RS K g st (upd H p o) ι := by
  obtain ⟨h1, h2⟩ := s.fresh h
  have e : Ext K H ι (upd H p o) ι := by simpa using ext_new (K := K) (ι := ι) (o := o) h []
  refine ⟨s.len, s.nd, fun b u q => ?_, s.new, fun n u a q1 q2 => ?_, ?_⟩
  · rw [upd_ne (fun z => by rw [z, h2] at q; cases q)]
    exact s.old b u q
  · have ha : a ∈ ι := List.mem_of_getElem? q2
    exact (s.obj n u a q1 q2).keep e (upd_ne fun z => h1 (z ▸ ha))
  · exact fun p hp => e.xd _ _ (s.xds p hp)
/-- a new object of the store -/
theorem RS.push {st : Sto} (s : RS K g st H ι) {p : Addr} {o : HO} {ob : Ob} (h : H p = none) (r : RO K g (upd H p o) (ι ++ [p]) ob p) : RS K g (st ++ [ob]) (upd H p o) (ι ++ [p]) := by
  obtain ⟨h1, h2⟩ := s.fresh h
  have e : Ext K H ι (upd H p o) (ι ++ [p]) := ext_new h [p]
  refine ⟨by simp [s.len], ?_, fun b u q => ?_, fun a ha => ?_, fun n u a q1 q2 => ?_, fun p hp => e.xd _ _ (s.xds p hp)⟩
  · rw [List.nodup_append]
    refine ⟨s.nd, List.nodup_cons.mpr ⟨by simp, List.nodup_nil⟩, fun a ha b hb => ?_⟩
    have : b = p := by simpa using hb
    subst this
    exact fun z => h1 (z ▸ ha)
  · rw [upd_ne (fun z => by rw [z, h2] at q; cases q)]
    exact s.old b u q
  · rcases List.mem_append.mp ha with ha | ha
    · exact s.new a ha
    · have : a = p := by simpa using ha
      subst this
      exact h2
  · by_cases hn : n < st.length
    · rw [List.getElem?_append_left hn] at q1
      rw [List.getElem?_append_left (by rw [s.len]; exact hn)] at q2
      have ha : a ∈ ι := List.mem_of_getElem? q2
      exact (s.obj n u a q1 q2).keep e (upd_ne fun z => h1 (z ▸ ha))
    · have hn' : n = st.length := by
        have := (List.getElem?_eq_some_iff.mp q1).1
        simp at this
        omega
      subst hn'
      have e1 : u = ob := by simpa using q1.symm
      have e2 : a = p := by rw [← s.len] at q2; simpa using q2.symm
      subst e1 e2
      exact r
theorem ext_own {n : Nat} {a : Addr} {u o : HO} {st : Sto} (s : RS K g st H ι) (hu : H a = some u) (ow : Own u = true) : Ext K H ι (upd H a o) ι := by
  have ne : ∀ (b : Addr) (z : HO), H b = some z → Own z = false → b ≠ a := fun b z hz hf e => by
    rw [e, hu] at hz
    cases hz
    rw [ow] at hf
    cases hf
  exact ⟨⟨[], by simp⟩, fun b vs q => (upd_ne (ne b _ q rfl)).trans q, fun b fs q => (upd_ne (ne b _ q rfl)).trans q⟩
/-- an object of the store is changed -/
theorem RS.put {st : Sto} (s : RS K g st H ι) {n : Nat} {a : Addr} {o : HO} {ob : Ob} (ha : ι[n]? = some a) (r : RO K g (upd H a o) ι ob a) : RS K g (st.set n ob) (upd H a o) ι := by
  have hm : a ∈ ι := List.mem_of_getElem? ha
  obtain ⟨u, hu, ow⟩ := s.mem hm
  have e : Ext K H ι (upd H a o) ι := ext_own (n := n) s hu ow
  refine ⟨by simp [s.len], s.nd, fun b u q => ?_, s.new, fun m u b q1 q2 => ?_, fun p hp => e.xd _ _ (s.xds p hp)⟩
  · rw [upd_ne (fun z => by rw [z, s.new a hm] at q; cases q)]
    exact s.old b u q
  · by_cases hmn : m = n
    · subst hmn
      rw [ha] at q2
      cases q2
      have hl : m < st.length := by rw [← s.len]; exact (List.getElem?_eq_some_iff.mp ha).1
      rw [List.getElem?_set_self hl] at q1
      cases q1
      exact r
    · rw [List.getElem?_set_ne (Ne.symm hmn)] at q1
      refine (s.obj m u b q1 q2).keep e (upd_ne fun z => hmn ?_)
      subst z
      obtain ⟨l1, e1⟩ := List.getElem?_eq_some_iff.mp ha
      obtain ⟨l2, e2⟩ := List.getElem?_eq_some_iff.mp q2
      exact (List.getElem_inj s.nd).mp (e2.trans e1.symm)

/-- the slots -/
def RE (K : PySem.W.Frag) (g : Gx) (H : Hp) (ι : List Addr) (env : En) (σ : L2.St) : Prop := env.length = σ.length ∧ ∀ (i : Nat) w, env[i]? = some (some w) → ∃ v, σ[i]? = some (some v) ∧ RV K g.H0 H ι w v
theorem RE.mono {env : En} {σ : L2.St} (h : RE K g H ι env σ) (e : Ext K H ι H' ι') : RE K g H' ι' env σ := ⟨h.1, fun i w q => by
  obtain ⟨v, q1, q2⟩ := h.2 i w q
  exact ⟨v, q1, q2.mono e⟩⟩
theorem RE.set {env : En} {σ : L2.St} (h : RE K g H ι env σ) {w : Va} {v : V} (i : Nat) (r : RV K g.H0 H ι w v) : RE K g H ι (env.set i (some w)) (σ.set i (some v)) := by
  refine ⟨by simp [h.1], fun j u q => ?_⟩
  by_cases hj : j = i
  · subst hj
    have hl : j < env.length := by
      have := (List.getElem?_eq_some_iff.mp q).1
      simpa using this
    rw [List.getElem?_set_self hl] at q
    cases q
    exact ⟨v, by rw [List.getElem?_set_self (by rw [← h.1]; exact hl)], r⟩
  · rw [List.getElem?_set_ne (Ne.symm hj)] at q
    obtain ⟨v', q1, q2⟩ := h.2 j u q
    exact ⟨v', by rw [List.getElem?_set_ne (Ne.symm hj)]; exact q1, q2⟩
theorem RE.clear {env : En} {σ : L2.St} (h : RE K g H ι env σ) (i : Nat) {x : Option V} : RE K g H ι (env.set i none) (σ.set i x) := by
  refine ⟨by simp [h.1], fun j u q => ?_⟩
  by_cases hj : j = i
  · subst hj
    have hl : j < env.length := by
      have := (List.getElem?_eq_some_iff.mp q).1
      simpa using this
    rw [List.getElem?_set_self hl] at q
    cases q
  · rw [List.getElem?_set_ne (Ne.symm hj)] at q
    obtain ⟨v', q1, q2⟩ := h.2 j u q
    exact ⟨v', by rw [List.getElem?_set_ne (Ne.symm hj)]; exact q1, q2⟩
end

/-! ### what is wanted of a result -/
section
variable {K : PySem.W.Frag} {g : Gx}
abbrev Rel (α β : Type) := Hp → List Addr → α → β → Prop
def Pst {α β : Type} (K : PySem.W.Frag) (g : Gx) (rel : Rel α β) (r : Rs α) (H : Hp) (ι : List Addr) (Q : β → Hp → Prop) (E : XK) : Prop :=
  match r with
  | .ok a st => ∀ H' ι' b, Ext K H ι H' ι' → RS K g st H' ι' → rel H' ι' a b → Q b H'
  | .exc c fs st => ∀ H' ι' d fs', Ext K H ι H' ι' → RS K g st H' ι' → H' d = some (.xd fs') → PF K g H' ι' fs fs' → E (.ref (g.cls c)) (some d) H'
  | .no => False
theorem Pst.shift {α β : Type} {rel : Rel α β} {r : Rs α} {H H1 : Hp} {ι ι1 : List Addr} {Q : β → Hp → Prop} {E : XK} (h : Pst K g rel r H ι Q E) (e : Ext K H ι H1 ι1) : Pst K g rel r H1 ι1 Q E := by
  cases r with
  | ok a st => exact fun H' ι' b e' => h H' ι' b (e.trans e')
  | exc c fs st => exact fun H' ι' d fs' e' => h H' ι' d fs' (e.trans e')
  | no => exact h
theorem Pst.bind {α β α' β' : Type} {rel : Rel α β} {rel' : Rel α' β'} {r : Rs α} {f : α → Mo α'} {H : Hp} {ι : List Addr} {Q : β' → Hp → Prop} {E : XK} (h : Pst K g rel' (bnd r f) H ι Q E) :
    Pst K g rel r H ι (fun b H1 => ∃ a st1 ι1, Ext K H ι H1 ι1 ∧ RS K g st1 H1 ι1 ∧ rel H1 ι1 a b ∧ Pst K g rel' (f a st1) H1 ι1 Q E) E := by
  cases r with
  | ok a st => exact fun H' ι' b e rs rv => ⟨a, st, ι', e, rs, rv, Pst.shift (show Pst K g rel' (f a st) H ι Q E from h) e⟩
  | exc c fs st => exact h
  | no => exact h
theorem Pst.imp {α β : Type} {rel : Rel α β} {r : Rs α} {H : Hp} {ι : List Addr} {Q Q' : β → Hp → Prop} {E E' : XK} (h : Pst K g rel r H ι Q E) (hQ : ∀ b H', Q b H' → Q' b H') (hE : ∀ c d H', E c d H' → E' c d H') : Pst K g rel r H ι Q' E' := by
  cases r with
  | ok a st => exact fun H' ι' b e rs rv => hQ _ _ (h H' ι' b e rs rv)
  | exc c fs st => exact fun H' ι' d fs' e rs hd pf => hE _ _ _ (h H' ι' d fs' e rs hd pf)
  | no => exact h

/-! ### the judgements -/
def tG {α β : Type} (K : PySem.W.Frag) (g : Gx) (W : WX) (rel : Rel α β) (m : En → Mo α) : L2.St → Hp → (β → Hp → Prop) → Prop := fun σ H Q =>
  ∃ env st ι, RS K g st H ι ∧ RE K g H ι env σ ∧ Pst K g rel (m env st) H ι Q (fun c d H' => W c d σ H')
abbrev rV (K : PySem.W.Frag) (g : Gx) : Rel Va V := fun H ι w v => RV K g.H0 H ι w v
abbrev rVs (K : PySem.W.Frag) (g : Gx) : Rel (List Va) (List V) := fun H ι w v => RVs K g.H0 H ι w v
abbrev rB : Rel Bool Bool := fun _ _ a b => a = b
structure JE (X : Cx) (g : Gx) (W : WX) (e : Expr) (m : En → Mo Va) : Prop where
  pe : PE X e (tG X.K g W (rV X.K g) m)
structure JT (X : Cx) (g : Gx) (W : WX) (e : Expr) (m : En → Mo Bool) : Prop where
  pt : PT X e (tG X.K g W rB m)
structure JW (X : Cx) (g : Gx) (W : WX) (e : Expr) (m : En → Mo Bool) : Prop where
  pw : PW X e (tG X.K g W rB m)
structure JA (X : Cx) (g : Gx) (W : WX) (es : List Expr) (m : En → Mo (List Va)) : Prop where
  pa : PA X es (tG X.K g W (rVs X.K g) m)
theorem PE.imp {X : Cx} {e : Expr} {t t' : TE} (h : PE X e t) (i : ∀ σ H Q, t' σ H Q → t σ H Q) : PE X e t' := ⟨fun pins s σ H Q I q => h.run pins s σ H Q I (i σ H Q q)⟩
theorem PT.imp {X : Cx} {e : Expr} {t t' : TT} (h : PT X e t) (i : ∀ σ H Q, t' σ H Q → t σ H Q) : PT X e t' := ⟨fun pins s σ H Q I q => h.run pins s σ H Q I (i σ H Q q)⟩
theorem PW.imp {X : Cx} {e : Expr} {t t' : TT} (h : PW X e t) (i : ∀ σ H Q, t' σ H Q → t σ H Q) : PW X e t' := ⟨fun wh pins s σ H Q I q => h.run wh pins s σ H Q I (i σ H Q q)⟩
theorem PA.imp {X : Cx} {e : List Expr} {t t' : TA} (h : PA X e t) (i : ∀ σ H Q, t' σ H Q → t σ H Q) : PA X e t' := ⟨fun pos pins s σ H Q I q => h.run pos pins s σ H Q I (i σ H Q q)⟩
theorem PS.imp {X : Cx} {e : Stmt} {t t' : TS} (h : PS X e t) (i : ∀ D σ H, t' D σ H → t D σ H) : PS X e t' := ⟨fun pins s σ H D I q => h.run pins s σ H D I (i D σ H q)⟩
theorem PSs.imp {X : Cx} {e : List Stmt} {t t' : TS} (h : PSs X e t) (i : ∀ D σ H, t' D σ H → t D σ H) : PSs X e t' := ⟨fun pins s σ H D I q => h.run pins s σ H D I (i D σ H q)⟩

section
variable {X : Cx} {W : WX} {σ : L2.St} {H : Hp}
/-- a value that needs no heap -/
theorem tG_ok {α β : Type} {rel : Rel α β} {m : En → Mo α} {Q : β → Hp → Prop} {f : En → α} {b : β} (h : tG K g W rel m σ H Q) (hm : ∀ env st, m env st = .ok (f env) st)
    (hr : ∀ env st ι, RS K g st H ι → RE K g H ι env σ → rel H ι (f env) b) : Q b H := by
  obtain ⟨env, st, ι, rs, re, p⟩ := h
  rw [hm] at p
  exact p H ι b Ext.refl rs (hr env st ι rs re)
/-- the general step: first m1, then what follows -/
theorem tG_bind {α β α' β' : Type} {rel : Rel α β} {rel' : Rel α' β'} {m1 : En → Mo α} {f : En → α → Mo α'} {Q : β' → Hp → Prop} (h : tG K g W rel' (fun env st => bnd (m1 env st) (f env)) σ H Q) :
    tG K g W rel m1 σ H (fun b H1 => ∃ env a st1 ι1, RS K g st1 H1 ι1 ∧ RE K g H1 ι1 env σ ∧ rel H1 ι1 a b ∧ Pst K g rel' (f env a st1) H1 ι1 Q (fun c d H' => W c d σ H')) := by
  obtain ⟨env, st, ι, rs, re, p⟩ := h
  refine ⟨env, st, ι, rs, re, ?_⟩
  refine (Pst.bind (rel := rel) p).imp (fun b H1 q => ?_) fun _ _ _ q => q
  obtain ⟨a, st1, ι1, e, rs1, r1, p1⟩ := q
  exact ⟨env, a, st1, ι1, rs1, re.mono e, r1, p1⟩
end
end
end Sh

set_option Elab.async false
set_option linter.all false
set_option maxRecDepth 100000
set_option maxHeartbeats 4000000
namespace Sh
open PySem PySem.Spec PyProof.Rows L2

/-! ### names, constants -/
def eVar (i : Nat) : En → Mo Va := fun env st => match env[i]? with
  | some (some w) => .ok w st
  | _ => .no
def eC (w : Va) : En → Mo Va := fun _ st => .ok w st
/-- two in a row -/
def e2 {α : Type} (op : Va → Va → Mo α) (a b : En → Mo Va) : En → Mo α := fun env st => bnd (a env st) fun x st1 => bnd (b env st1) fun y st2 => op x y st2
def e1 {α : Type} (op : Va → Mo α) (a : En → Mo Va) : En → Mo α := fun env st => bnd (a env st) op
def aNil : En → Mo (List Va) := fun _ st => .ok [] st
def aCons (a : En → Mo Va) (r : En → Mo (List Va)) : En → Mo (List Va) := fun env st => bnd (a env st) fun x st1 => bnd (r env st1) fun xs st2 => .ok (x :: xs) st2
def eA {α : Type} (op : List Va → Mo α) (a : En → Mo (List Va)) : En → Mo α := fun env st => bnd (a env st) op

def OpS (X : Cx) (g : Gx) (f : Value → Value → Sem Value) (op : Va → Va → Mo Va) : Prop :=
  OpR X f fun x y H Q => ∃ st ι w1 w2, RS X.K g st H ι ∧ RV X.K g.H0 H ι w1 x ∧ RV X.K g.H0 H ι w2 y ∧ Pst X.K g (rV X.K g) (op w1 w2 st) H ι Q (fun _ _ _ => False)
def CallS (X : Cx) (g : Gx) (f : Value) (op : List Va → Mo Va) : Prop :=
  CallR X f fun xs H Q => ∃ st ι ws, RS X.K g st H ι ∧ RVs X.K g.H0 H ι ws xs ∧ Pst X.K g (rV X.K g) (op ws st) H ι Q (fun _ _ _ => False)
/-- no error is made -/
def NoX {α : Type} (r : Rs α) : Prop := ∀ c fs st, r ≠ .exc c fs st
theorem Pst.nox {α β : Type} {K : PySem.W.Frag} {g : Gx} {rel : Rel α β} {r : Rs α} {H : Hp} {ι : List Addr} {Q : β → Hp → Prop} {E E' : XK} (n : NoX r) (h : Pst K g rel r H ι Q E) : Pst K g rel r H ι Q E' := by
  cases r with
  | ok a st => exact h
  | exc c fs st => exact absurd rfl (n c fs st)
  | no => exact h

section
variable {X : Cx} {g : Gx} {W : WX} {a b c : Expr} {ma mb mc : En → Mo Va} {pos : Pos}

theorem j_var (i : Nat) {x : Str} (hN : X.N[i]? = some x := by rfl) (hv : Vis X.env.scope x := by first | exact Or.inl rfl | exact Or.inr (Or.inl rfl) | exact Or.inr (Or.inr rfl)) (hd : (x == ("__debug__" : Str)) = false := by decide)
    (hcd : (x == ("__classdict__" : Str)) = false := by decide) : JE X g W (.Name x pos) (eVar i) := ⟨PE.imp (pe_var hN hv hd hcd) fun σ H Q h => by
  obtain ⟨env, st, ι, rs, re, p⟩ := h
  unfold eVar at p
  split at p
  · rename_i w e
    obtain ⟨v, q1, q2⟩ := re.2 i w e
    exact ⟨v, q1, p H ι v Ext.refl rs q2⟩
  · exact (show False from p).elim⟩
theorem j_c {e : Expr} {v : V} {w : Va} (h : PE X e (tC v)) (r : ∀ H ι, RV X.K g.H0 H ι w v) : JE X g W e (eC w) := ⟨PE.imp h fun σ H Q h => by
  obtain ⟨env, st, ι, rs, re, p⟩ := h
  exact p H ι v Ext.refl rs (r H ι)⟩
theorem j_int {i j} : JE X g W (.Constant (.int i) j pos) (eC (.int i)) := j_c pe_int fun _ _ => .int i
theorem j_bl {i j} : JE X g W (.Constant (.bool i) j pos) (eC (.bl i)) := j_c pe_bl fun _ _ => .bl i
theorem j_non {j} : JE X g W (.Constant .none j pos) (eC .non) := j_c pe_non fun _ _ => .non
theorem j_str {i j} : JE X g W (.Constant (.str i) j pos) (eC (.str i)) := j_c pe_str fun _ _ => .str i
/-- what the module's name holds -/
def GV (K : PySem.W.Frag) (mg : Str → Option Value) (x : Str) (w : Va) : Prop := ∃ u v, mg x = some u ∧ RelV v u ∧ ∀ (g : Gx) H ι, RV K g.H0 H ι w v
theorem j_glob {x : Str} {w : Va} (h : GV X.K X.mg x w) (hg : Gl X x := by rfl) (hd : (x == ("__debug__" : Str)) = false := by decide) : JE X g W (.Name x pos) (eC w) := by
  obtain ⟨u, v, hm, r, rv⟩ := h
  exact j_c (pe_glob hg hm r hd) (rv g)
/-- a built-in type as a value (for isinstance) -/
theorem j_type {x : Str} {T : String} (hm : X.mg x = none) (hv : bootBuiltins x = some (.type T)) (hg : Gl X x := by rfl) (hn : x ≠ "__name__" := by decide) (hd : (x == ("__debug__" : Str)) = false := by decide) : JE X g W (.Name x pos) (eC (.cst (.ty T))) :=
  j_c (pe_bltn (v := .ty T) hg hm hv rfl hn hd) fun _ _ => .cst _

theorem pst_e2 {α β : Type} {rel : Rel α β} {op : Va → Va → Mo α} {σ : L2.St} {H : Hp} {Q : β → Hp → Prop} (h : tG X.K g W rel (e2 op ma mb) σ H Q) :
    tG X.K g W (rV X.K g) ma σ H fun x H1 => tG X.K g W (rV X.K g) mb σ H1 fun y H2 => ∃ st ι w1 w2, RS X.K g st H2 ι ∧ RV X.K g.H0 H2 ι w1 x ∧ RV X.K g.H0 H2 ι w2 y ∧ Pst X.K g rel (op w1 w2 st) H2 ι Q (fun c d H' => W c d σ H') := by
  obtain ⟨env, st, ι, rs, re, p⟩ := h
  refine ⟨env, st, ι, rs, re, ?_⟩
  refine (Pst.bind (rel := rV X.K g) p).imp (fun x H1 q => ?_) fun _ _ _ q => q
  obtain ⟨w1, st1, ι1, ex, rs1, r1, p1⟩ := q
  refine ⟨env, st1, ι1, rs1, re.mono ex, ?_⟩
  refine (Pst.bind (rel := rV X.K g) p1).imp (fun y H2 q => ?_) fun _ _ _ q => q
  obtain ⟨w2, st2, ι2, ex2, rs2, r2, p2⟩ := q
  exact ⟨st2, ι2, w1, w2, rs2, r1.mono ex2, r2, p2⟩
theorem pst_e1 {α β : Type} {rel : Rel α β} {op : Va → Mo α} {σ : L2.St} {H : Hp} {Q : β → Hp → Prop} (h : tG X.K g W rel (e1 op ma) σ H Q) :
    tG X.K g W (rV X.K g) ma σ H fun x H1 => ∃ st ι w1, RS X.K g st H1 ι ∧ RV X.K g.H0 H1 ι w1 x ∧ Pst X.K g rel (op w1 st) H1 ι Q (fun c d H' => W c d σ H') := by
  obtain ⟨env, st, ι, rs, re, p⟩ := h
  refine ⟨env, st, ι, rs, re, ?_⟩
  refine (Pst.bind (rel := rV X.K g) p).imp (fun x H1 q => ?_) fun _ _ _ q => q
  obtain ⟨w1, st1, ι1, ex, rs1, r1, p1⟩ := q
  exact ⟨st1, ι1, w1, rs1, r1, p1⟩
theorem pst_eA {α β : Type} {rel : Rel α β} {op : List Va → Mo α} {mA : En → Mo (List Va)} {σ : L2.St} {H : Hp} {Q : β → Hp → Prop} (h : tG X.K g W rel (eA op mA) σ H Q) :
    tG X.K g W (rVs X.K g) mA σ H fun xs H1 => ∃ st ι ws, RS X.K g st H1 ι ∧ RVs X.K g.H0 H1 ι ws xs ∧ Pst X.K g rel (op ws st) H1 ι Q (fun c d H' => W c d σ H') := by
  obtain ⟨env, st, ι, rs, re, p⟩ := h
  refine ⟨env, st, ι, rs, re, ?_⟩
  refine (Pst.bind (rel := rVs X.K g) p).imp (fun x H1 q => ?_) fun _ _ _ q => q
  obtain ⟨w1, st1, ι1, ex, rs1, r1, p1⟩ := q
  exact ⟨st1, ι1, w1, rs1, r1, p1⟩
/-- the op makes no error -/
def NoX2 (op : Va → Va → Mo Va) : Prop := ∀ a b st, NoX (op a b st)
def NoXA (op : List Va → Mo Va) : Prop := ∀ a st, NoX (op a st)
theorem j_op {o : Operator} {op : Va → Va → Mo Va} (ho : OpS X g (binaryOp o) op) (n : NoX2 op) (ha : JE X g W a ma) (hb : JE X g W b mb) : JE X g W (.BinOp a o b pos) (e2 op ma mb) :=
  ⟨PE.imp (pe_op ho ha.pe hb.pe) fun σ H Q h => by
    obtain ⟨env, st, ι, rs, re, p⟩ := pst_e2 h
    refine ⟨env, st, ι, rs, re, p.imp (fun x H1 q => ?_) fun _ _ _ q => q⟩
    obtain ⟨env1, st1, ι1, rs1, re1, p1⟩ := q
    refine ⟨env1, st1, ι1, rs1, re1, p1.imp (fun y H2 q => ?_) fun _ _ _ q => q⟩
    obtain ⟨st2, ι2, w1, w2, rs2, r1, r2, p2⟩ := q
    exact ⟨st2, ι2, w1, w2, rs2, r1, r2, p2.nox (n _ _ _)⟩⟩
theorem j_cmp {o : CmpOp} {op : Va → Va → Mo Va} (ho : OpS X g (compareOp o) op) (n : NoX2 op) (ha : JE X g W a ma) (hb : JE X g W b mb) (hm : behindInMarks o b = false := by first | exact nomark _ | with_unfolding_all rfl) : JE X g W (.Compare a [o] [b] pos) (e2 op ma mb) :=
  ⟨PE.imp (pe_cmpR ho ha.pe hb.pe hm) fun σ H Q h => by
    obtain ⟨env, st, ι, rs, re, p⟩ := pst_e2 h
    refine ⟨env, st, ι, rs, re, p.imp (fun x H1 q => ?_) fun _ _ _ q => q⟩
    obtain ⟨env1, st1, ι1, rs1, re1, p1⟩ := q
    refine ⟨env1, st1, ι1, rs1, re1, p1.imp (fun y H2 q => ?_) fun _ _ _ q => q⟩
    obtain ⟨st2, ι2, w1, w2, rs2, r1, r2, p2⟩ := q
    exact ⟨st2, ι2, w1, w2, rs2, r1, r2, p2.nox (n _ _ _)⟩⟩

/-! ### tests -/
def tBl (r : Rs Va) : Rs Bool := bnd r fun w st => match w with
  | .bl b => .ok b st
  | _ => .no
/-- a test that is a comparison, and the like: its value is a bool -/
def eT (m : En → Mo Va) : En → Mo Bool := fun env st => tBl (m env st)
theorem tG_T {m : En → Mo Va} {σ : L2.St} {H : Hp} {Q : Bool → Hp → Prop} (h : tG X.K g W rB (eT m) σ H Q) : tG X.K g W (rV X.K g) m σ H fun x H1 => ∃ k, x = .bl k ∧ Q k H1 := by
  obtain ⟨env, st, ι, rs, re, p⟩ := h
  refine ⟨env, st, ι, rs, re, ?_⟩
  refine (Pst.bind (rel := rV X.K g) p).imp (fun x H1 q => ?_) fun _ _ _ q => q
  obtain ⟨w, st1, ι1, ex, rs1, r1, p1⟩ := q
  cases w with
  | bl k =>
    cases r1
    exact ⟨k, rfl, p1 H1 ι1 k Ext.refl rs1 rfl⟩
  | _ => exact (show False from p1).elim
theorem jt_cmp {o : CmpOp} {op : Va → Va → Mo Va} (ho : OpS X g (compareOp o) op) (n : NoX2 op) (ha : JE X g W a ma) (hb : JE X g W b mb) (hm : behindInMarks o b = false := by first | exact nomark _ | with_unfolding_all rfl) : JT X g W (.Compare a [o] [b] pos) (eT (e2 op ma mb)) :=
  ⟨PT.imp (pt_cmpR ho ha.pe hb.pe hm) fun σ H Q h => by
    obtain ⟨env, st, ι, rs, re, p⟩ := pst_e2 (tG_T h)
    refine ⟨env, st, ι, rs, re, p.imp (fun x H1 q => ?_) fun _ _ _ q => q⟩
    obtain ⟨env1, st1, ι1, rs1, re1, p1⟩ := q
    refine ⟨env1, st1, ι1, rs1, re1, p1.imp (fun y H2 q => ?_) fun _ _ _ q => q⟩
    obtain ⟨st2, ι2, w1, w2, rs2, r1, r2, p2⟩ := q
    exact ⟨st2, ι2, w1, w2, rs2, r1, r2, p2.nox (n _ _ _)⟩⟩
theorem jt_val {e : Expr} {m : En → Mo Va} (h : JE X g W e m) (he : ∀ whole, isTrue e X.env whole = (do let v ← whole; standAt e.pos; holding [v] (truthy v)) := by intro _; rfl) : JT X g W e (eT m) :=
  ⟨PT.imp (pt_val h.pe he) fun σ H Q q => tG_T q⟩
def eNot (m : En → Mo Bool) : En → Mo Bool := fun env st => bnd (m env st) fun b st1 => .ok (!b) st1
def eAnd (m n : En → Mo Bool) : En → Mo Bool := fun env st => bnd (m env st) fun b st1 => if b = true then n env st1 else .ok false st1
def eOr (m n : En → Mo Bool) : En → Mo Bool := fun env st => bnd (m env st) fun b st1 => if b = true then .ok true st1 else n env st1
theorem jt_not {m : En → Mo Bool} (h : JT X g W a m) : JT X g W (.UnaryOp .Not a pos) (eNot m) := ⟨PT.imp (pt_not h.pt) fun σ H Q q => by
  obtain ⟨env, st, ι, rs, re, p⟩ := q
  refine ⟨env, st, ι, rs, re, (Pst.bind (rel := rB) p).imp (fun x H1 q => ?_) fun _ _ _ q => q⟩
  obtain ⟨w, st1, ι1, ex, rs1, r1, p1⟩ := q
  obtain rfl : w = x := r1
  exact p1 H1 ι1 _ Ext.refl rs1 rfl⟩
theorem tG_and {m n : En → Mo Bool} {σ : L2.St} {H : Hp} {Q : Bool → Hp → Prop} (h : tG X.K g W rB (eAnd m n) σ H Q) : tG X.K g W rB m σ H fun c H1 => if c = true then tG X.K g W rB n σ H1 Q else Q false H1 := by
  obtain ⟨env, st, ι, rs, re, p⟩ := h
  refine ⟨env, st, ι, rs, re, (Pst.bind (rel := rB) p).imp (fun x H1 q => ?_) fun _ _ _ q => q⟩
  obtain ⟨w, st1, ι1, ex, rs1, r1, p1⟩ := q
  obtain rfl : w = x := r1
  cases w with
  | true =>
    rw [if_pos rfl] at p1 ⊢
    exact ⟨env, st1, ι1, rs1, re.mono ex, p1⟩
  | false =>
    rw [if_neg Bool.false_ne_true] at p1 ⊢
    exact p1 H1 ι1 _ Ext.refl rs1 rfl
theorem tG_or {m n : En → Mo Bool} {σ : L2.St} {H : Hp} {Q : Bool → Hp → Prop} (h : tG X.K g W rB (eOr m n) σ H Q) : tG X.K g W rB m σ H fun c H1 => if c = true then Q true H1 else tG X.K g W rB n σ H1 Q := by
  obtain ⟨env, st, ι, rs, re, p⟩ := h
  refine ⟨env, st, ι, rs, re, (Pst.bind (rel := rB) p).imp (fun x H1 q => ?_) fun _ _ _ q => q⟩
  obtain ⟨w, st1, ι1, ex, rs1, r1, p1⟩ := q
  obtain rfl : w = x := r1
  cases w with
  | false =>
    rw [if_neg Bool.false_ne_true] at p1 ⊢
    exact ⟨env, st1, ι1, rs1, re.mono ex, p1⟩
  | true =>
    rw [if_pos rfl] at p1 ⊢
    exact p1 H1 ι1 _ Ext.refl rs1 rfl
theorem jw_and1 {m : En → Mo Bool} (h : JT X g W a m) : JW X g W (.BoolOp .And [a] pos) m := ⟨pw_and1 h.pt⟩
theorem jw_or1 {m : En → Mo Bool} (h : JT X g W a m) : JW X g W (.BoolOp .Or [a] pos) m := ⟨pw_or1 h.pt⟩
theorem jw_and {m n : En → Mo Bool} {rest : List Expr} (h : JT X g W a m) (h2 : JW X g W (.BoolOp .And (b :: rest) pos) n) : JW X g W (.BoolOp .And (a :: b :: rest) pos) (eAnd m n) :=
  ⟨PW.imp (pw_and h.pt h2.pw) fun σ H Q q => tG_and q⟩
theorem jw_or {m n : En → Mo Bool} {rest : List Expr} (h : JT X g W a m) (h2 : JW X g W (.BoolOp .Or (b :: rest) pos) n) : JW X g W (.BoolOp .Or (a :: b :: rest) pos) (eOr m n) :=
  ⟨PW.imp (pw_or h.pt h2.pw) fun σ H Q q => tG_or q⟩
theorem jt_w {e : Expr} {m : En → Mo Bool} (h : JW X g W e m) : JT X g W e m := ⟨h.pw.pt⟩
/-- and, or, not as values, of bools -/
def eBl (m : En → Mo Bool) : En → Mo Va := fun env st => bnd (m env st) fun b st1 => .ok (.bl b) st1
def vAnd (m n : En → Mo Va) : En → Mo Va := fun env st => bnd (m env st) fun w st1 => match w with
  | .bl true => n env st1
  | .bl false => .ok (.bl false) st1
  | _ => .no
def vOr (m n : En → Mo Va) : En → Mo Va := fun env st => bnd (m env st) fun w st1 => match w with
  | .bl false => n env st1
  | .bl true => .ok (.bl true) st1
  | _ => .no
def vNot (m : En → Mo Va) : En → Mo Va := fun env st => bnd (m env st) fun w st1 => match w with
  | .bl b => .ok (.bl (!b)) st1
  | _ => .no
theorem j_one {o} (h : JE X g W a ma) : JE X g W (.BoolOp o [a] pos) ma := ⟨pe_one h.pe⟩
theorem j_and {rest : List Expr} (h : JE X g W a ma) (h2 : JE X g W (.BoolOp .And (b :: rest) pos) mb) : JE X g W (.BoolOp .And (a :: b :: rest) pos) (vAnd ma mb) :=
  ⟨PE.imp (pe_and h.pe h2.pe) fun σ H Q q => by
    obtain ⟨env, st, ι, rs, re, p⟩ := q
    refine ⟨env, st, ι, rs, re, (Pst.bind (rel := rV X.K g) p).imp (fun x H1 q => ?_) fun _ _ _ q => q⟩
    obtain ⟨w, st1, ι1, ex, rs1, r1, p1⟩ := q
    cases w with
    | bl k =>
      cases r1
      refine ⟨k, rfl, ?_⟩
      cases k with
      | true => exact iteT ⟨env, st1, ι1, rs1, re.mono ex, p1⟩
      | false => exact iteF (p1 H1 ι1 _ Ext.refl rs1 (.bl _))
    | _ => exact (show False from p1).elim⟩
theorem j_or {rest : List Expr} (h : JE X g W a ma) (h2 : JE X g W (.BoolOp .Or (b :: rest) pos) mb) : JE X g W (.BoolOp .Or (a :: b :: rest) pos) (vOr ma mb) :=
  ⟨PE.imp (pe_or h.pe h2.pe) fun σ H Q q => by
    obtain ⟨env, st, ι, rs, re, p⟩ := q
    refine ⟨env, st, ι, rs, re, (Pst.bind (rel := rV X.K g) p).imp (fun x H1 q => ?_) fun _ _ _ q => q⟩
    obtain ⟨w, st1, ι1, ex, rs1, r1, p1⟩ := q
    cases w with
    | bl k =>
      cases r1
      refine ⟨k, rfl, ?_⟩
      cases k with
      | false => exact iteF ⟨env, st1, ι1, rs1, re.mono ex, p1⟩
      | true => exact iteT (p1 H1 ι1 _ Ext.refl rs1 (.bl _))
    | _ => exact (show False from p1).elim⟩
theorem j_not (h : JE X g W a ma) : JE X g W (.UnaryOp .Not a pos) (vNot ma) :=
  ⟨PE.imp (pe_not h.pe) fun σ H Q q => by
    obtain ⟨env, st, ι, rs, re, p⟩ := q
    refine ⟨env, st, ι, rs, re, (Pst.bind (rel := rV X.K g) p).imp (fun x H1 q => ?_) fun _ _ _ q => q⟩
    obtain ⟨w, st1, ι1, ex, rs1, r1, p1⟩ := q
    cases w with
    | bl k =>
      cases r1
      exact ⟨k, rfl, p1 H1 ι1 _ Ext.refl rs1 (.bl _)⟩
    | _ => exact (show False from p1).elim⟩
def eIf (t : En → Mo Bool) (m n : En → Mo Va) : En → Mo Va := fun env st => bnd (t env st) fun b st1 => if b = true then m env st1 else n env st1
theorem j_if {mt : En → Mo Bool} (ht : JT X g W c mt) (ha : JE X g W a ma) (hb : JE X g W b mb) : JE X g W (.IfExp c a b pos) (eIf mt ma mb) :=
  ⟨PE.imp (pe_ifExp ht.pt ha.pe hb.pe) fun σ H Q q => by
    obtain ⟨env, st, ι, rs, re, p⟩ := q
    refine ⟨env, st, ι, rs, re, (Pst.bind (rel := rB) p).imp (fun x H1 q => ?_) fun _ _ _ q => q⟩
    obtain ⟨w, st1, ι1, ex, rs1, r1, p1⟩ := q
    obtain rfl : w = x := r1
    cases w with
    | true => exact iteT ⟨env, st1, ι1, rs1, re.mono ex, p1⟩
    | false => exact iteF ⟨env, st1, ι1, rs1, re.mono ex, p1⟩⟩
/-- a op1 b op2 c -/
def e3 (op op' : Va → Va → Mo Va) (ma mb mc : En → Mo Va) : En → Mo Va := fun env st => bnd (ma env st) fun x st1 => bnd (mb env st1) fun y st2 => bnd (op x y st2) fun z st3 => match z with
  | .bl true => bnd (mc env st3) fun w st4 => op' y w st4
  | .bl false => .ok (.bl false) st3
  | _ => .no
theorem tG_e3 {op op' : Va → Va → Mo Va} (n : NoX2 op) (n' : NoX2 op') {σ : L2.St} {H : Hp} {Q : VK} (h : tG X.K g W (rV X.K g) (e3 op op' ma mb mc) σ H Q) :
    tChain (fun x y H Q => ∃ st ι w1 w2, RS X.K g st H ι ∧ RV X.K g.H0 H ι w1 x ∧ RV X.K g.H0 H ι w2 y ∧ Pst X.K g (rV X.K g) (op w1 w2 st) H ι Q (fun _ _ _ => False))
      (fun x y H Q => ∃ st ι w1 w2, RS X.K g st H ι ∧ RV X.K g.H0 H ι w1 x ∧ RV X.K g.H0 H ι w2 y ∧ Pst X.K g (rV X.K g) (op' w1 w2 st) H ι Q (fun _ _ _ => False))
      (tG X.K g W (rV X.K g) ma) (tG X.K g W (rV X.K g) mb) (tG X.K g W (rV X.K g) mc) σ H Q := by
  obtain ⟨env, st, ι, rs, re, p⟩ := h
  refine ⟨env, st, ι, rs, re, (Pst.bind (rel := rV X.K g) p).imp (fun x H1 q => ?_) fun _ _ _ q => q⟩
  obtain ⟨w1, st1, ι1, ex1, rs1, r1, p1⟩ := q
  refine ⟨env, st1, ι1, rs1, re.mono ex1, (Pst.bind (rel := rV X.K g) p1).imp (fun y H2 q => ?_) fun _ _ _ q => q⟩
  obtain ⟨w2, st2, ι2, ex2, rs2, r2, p2⟩ := q
  refine ⟨st2, ι2, w1, w2, rs2, r1.mono ex2, r2, ?_⟩
  refine ((Pst.bind (rel := rV X.K g) p2).nox (E' := fun _ _ _ => False) (n _ _ _)).imp (fun z H3 q => ?_) fun _ _ _ q => q
  obtain ⟨w3, st3, ι3, ex3, rs3, r3, p3⟩ := q
  cases w3 with
  | bl k =>
    cases r3
    refine ⟨k, rfl, ?_⟩
    cases k with
    | false => exact iteF (p3 H3 ι3 _ Ext.refl rs3 (.bl _))
    | true =>
      refine iteT ⟨env, st3, ι3, rs3, (re.mono (ex1.trans ex2)).mono ex3, (Pst.bind (rel := rV X.K g) p3).imp (fun u H4 q => ?_) fun _ _ _ q => q⟩
      obtain ⟨w4, st4, ι4, ex4, rs4, r4, p4⟩ := q
      exact ⟨st4, ι4, w2, w4, rs4, (r2.mono ex3).mono ex4, r4, p4.nox (n' _ _ _)⟩
  | _ => exact (show False from p3).elim
theorem j_chain {o o' : CmpOp} {op op' : Va → Va → Mo Va} (ho : OpS X g (compareOp o) op) (n : NoX2 op) (ho' : OpS X g (compareOp o') op') (n' : NoX2 op') (ha : JE X g W a ma) (hb : JE X g W b mb) (hc : JE X g W c mc)
    (hm : lastMarks [o, o'] [b, c] = false := by with_unfolding_all rfl) : JE X g W (.Compare a [o, o'] [b, c] pos) (e3 op op' ma mb mc) :=
  ⟨PE.imp (pe_chain ho ho' ha.pe hb.pe hc.pe hm) fun σ H Q q => tG_e3 n n' q⟩
theorem jt_chain {o o' : CmpOp} {op op' : Va → Va → Mo Va} (ho : OpS X g (compareOp o) op) (n : NoX2 op) (ho' : OpS X g (compareOp o') op') (n' : NoX2 op') (ha : JE X g W a ma) (hb : JE X g W b mb) (hc : JE X g W c mc)
    (hm : lastMarks [o, o'] [b, c] = false := by with_unfolding_all rfl) : JT X g W (.Compare a [o, o'] [b, c] pos) (eT (e3 op op' ma mb mc)) :=
  ⟨PT.imp (pt_chain ho ho' ha.pe hb.pe hc.pe hm) fun σ H Q q => tG_e3 n n' (tG_T q)⟩

/-! ### arguments -/
theorem ja_nil : JA X g W [] aNil := ⟨PA.imp pa_nil fun σ H Q q => by
  obtain ⟨env, st, ι, rs, re, p⟩ := q
  exact p H ι _ Ext.refl rs .nil⟩
theorem ja_cons {es : List Expr} {mr : En → Mo (List Va)} (ha : JE X g W a ma) (hr : JA X g W es mr) (hs : starEach (a :: es) X.env = (false, eval a X.env) :: starEach es X.env := by rfl) : JA X g W (a :: es) (aCons ma mr) :=
  ⟨PA.imp (pa_cons ha.pe hr.pa hs) fun σ H Q q => by
    obtain ⟨env, st, ι, rs, re, p⟩ := q
    refine ⟨env, st, ι, rs, re, (Pst.bind (rel := rV X.K g) p).imp (fun x H1 q => ?_) fun _ _ _ q => q⟩
    obtain ⟨w1, st1, ι1, ex1, rs1, r1, p1⟩ := q
    refine ⟨env, st1, ι1, rs1, re.mono ex1, (Pst.bind (rel := rVs X.K g) p1).imp (fun y H2 q => ?_) fun _ _ _ q => q⟩
    obtain ⟨w2, st2, ι2, ex2, rs2, r2, p2⟩ := q
    exact p2 H2 ι2 _ Ext.refl rs2 (.cons (r1.mono ex2) r2)⟩
/-- displays -/
def opTup : List Va → Mo Va := fun ws st => if ws.length ≤ 1000 then .ok (.tup ws) st else .no
def opLst : List Va → Mo Va := fun ws st => if ws.length ≤ 1000 then .ok (.ref st.length) (st ++ [.lst ws]) else .no
theorem line1000 {n : Nat} (h : n ≤ 1000) : n ≤ sizeLine := Nat.le_of_lt (small1000 h)
theorem new_lst {st : Sto} {H : Hp} {ι : List Addr} {ws : List Va} {vs : List V} {p : Addr} (rs : RS X.K g st H ι) (r : RVs X.K g.H0 H ι ws vs) (hp : H p = none) :
    Ext X.K H ι (upd H p (.lst vs)) (ι ++ [p]) ∧ RS X.K g (st ++ [.lst ws]) (upd H p (.lst vs)) (ι ++ [p]) ∧ RV X.K g.H0 (upd H p (.lst vs)) (ι ++ [p]) (.ref st.length) (.ref p) := by
  have e : Ext X.K H ι (upd H p (.lst vs)) (ι ++ [p]) := ext_new hp [p]
  refine ⟨e, rs.push hp ⟨vs, upd_same, r.mono e⟩, .ref ?_⟩
  rw [← rs.len]
  simp
theorem new_tup {st : Sto} {H : Hp} {ι : List Addr} {ws : List Va} {vs : List V} {p : Addr} (rs : RS X.K g st H ι) (r : RVs X.K g.H0 H ι ws vs) (hp : H p = none) :
    Ext X.K H ι (upd H p (.tup vs)) ι ∧ RS X.K g st (upd H p (.tup vs)) ι ∧ RV X.K g.H0 (upd H p (.tup vs)) ι (.tup ws) (.ref p) := by
  have e : Ext X.K H ι (upd H p (.tup vs)) ι := by simpa using ext_new (K := X.K) (ι := ι) (o := .tup vs) hp []
  exact ⟨e, rs.other hp, .tup upd_same (r.mono e)⟩
theorem j_tup {es : List Expr} {m : En → Mo (List Va)} {x1 : Nat} (h : JA X g W es m) : JE X g W (.Tuple es x1 pos) (eA opTup m) := ⟨PE.imp (pe_tup h.pa) fun σ H Q q => by
  obtain ⟨env, st, ι, rs, re, p⟩ := pst_eA q
  refine ⟨env, st, ι, rs, re, p.imp (fun xs H1 q => ?_) fun _ _ _ q => q⟩
  obtain ⟨st1, ι1, ws, rs1, r1, p1⟩ := q
  unfold opTup at p1
  split at p1
  · rename_i hl
    refine ⟨line1000 (by rw [← r1.length]; exact hl), fun p hp => ?_⟩
    obtain ⟨x1, x2, x3⟩ := new_tup rs1 r1 hp
    exact p1 _ _ _ x1 x2 x3
  · exact (show False from p1).elim⟩
theorem j_lst {es : List Expr} {m : En → Mo (List Va)} (h : JA X g W es m) : JE X g W (.List es pos) (eA opLst m) := ⟨PE.imp (pe_lst h.pa) fun σ H Q q => by
  obtain ⟨env, st, ι, rs, re, p⟩ := pst_eA q
  refine ⟨env, st, ι, rs, re, p.imp (fun xs H1 q => ?_) fun _ _ _ q => q⟩
  obtain ⟨st1, ι1, ws, rs1, r1, p1⟩ := q
  unfold opLst at p1
  split at p1
  · rename_i hl
    refine ⟨line1000 (by rw [← r1.length]; exact hl), fun p hp => ?_⟩
    obtain ⟨x1, x2, x3⟩ := new_lst rs1 r1 hp
    exact p1 _ _ _ x1 x2 x3
  · exact (show False from p1).elim⟩
/-- built-ins by name -/
theorem j_callB {x : Str} {id : String} {p : Pos} {e : Expr} {es : List Expr} {op : List Va → Mo Va} {m : En → Mo (List Va)} (hc : CallS X g (.builtin id) op) (n : NoXA op) (hm : X.mg x = none) (hv : bootBuiltins x = some (.builtin id)) (ha : JA X g W (e :: es) m)
    (hg : Gl X x := by rfl) (hn : x ≠ "__name__" := by decide) (hdb : (x == ("__debug__" : Str)) = false := by decide) (hs : starEach (e :: es) X.env = (false, eval e X.env) :: starEach es X.env := by rfl) (hpl : (backTo pos (starEach es X.env)).any (·.1) = false := by rfl) :
    JE X g W (.Call (.Name x p) (e :: es) [] pos) (eA op m) := ⟨PE.imp (pe_callB hc hg hm hv ha.pa hn hdb hs hpl) fun σ H Q q => by
  obtain ⟨env, st, ι, rs, re, p⟩ := pst_eA q
  refine ⟨env, st, ι, rs, re, p.imp (fun xs H1 q => ?_) fun _ _ _ q => q⟩
  obtain ⟨st1, ι1, ws, rs1, r1, p1⟩ := q
  exact ⟨st1, ι1, ws, rs1, r1, p1.nox (n _ _)⟩⟩
theorem j_callTy {x : Str} {T : String} {p : Pos} {e : Expr} {es : List Expr} {op : List Va → Mo Va} {m : En → Mo (List Va)} (hc : CallS X g (.type T) op) (n : NoXA op) (hm : X.mg x = none) (hv : bootBuiltins x = some (.type T)) (ha : JA X g W (e :: es) m)
    (hg : Gl X x := by rfl) (hn : x ≠ "__name__" := by decide) (hdb : (x == ("__debug__" : Str)) = false := by decide) (hs : starEach (e :: es) X.env = (false, eval e X.env) :: starEach es X.env := by rfl) (hpl : (backTo pos (starEach es X.env)).any (·.1) = false := by rfl) :
    JE X g W (.Call (.Name x p) (e :: es) [] pos) (eA op m) := ⟨PE.imp (pe_callTy hc hg hm hv ha.pa hn hdb hs hpl) fun σ H Q q => by
  obtain ⟨env, st, ι, rs, re, p⟩ := pst_eA q
  refine ⟨env, st, ι, rs, re, p.imp (fun xs H1 q => ?_) fun _ _ _ q => q⟩
  obtain ⟨st1, ι1, ws, rs1, r1, p1⟩ := q
  exact ⟨st1, ι1, ws, rs1, r1, p1.nox (n _ _)⟩⟩
end
end Sh

set_option Elab.async false
set_option linter.all false
set_option maxRecDepth 100000
set_option maxHeartbeats 4000000
namespace Sh
open PySem PySem.Spec PyProof.Rows L2

/-! ### operators -/
def opAdd : Va → Va → Mo Va := fun a b st => match a, b with
  | .int i, .int j => .ok (.int (i + j)) st
  | .str x, .str y => if x.length + y.length ≤ 16777216 then .ok (.str (x ++ y)) st else .no
  | .tup xs, .tup ys => if xs.length + ys.length ≤ 16777216 then .ok (.tup (xs ++ ys)) st else .no
  | .ref m, .ref n => match st[m]?, st[n]? with
    | some (.lst xs), some (.lst ys) => if xs.length + ys.length ≤ 16777216 then .ok (.ref st.length) (st ++ [.lst (xs ++ ys)]) else .no
    | _, _ => .no
  | _, _ => .no
def opSub : Va → Va → Mo Va := fun a b st => match a, b with
  | .int i, .int j => .ok (.int (i - j)) st
  | _, _ => .no
def sm64 (i : Int) : Bool := decide (-(2 ^ 64) < i) && decide (i < 2 ^ 64)
def opMul : Va → Va → Mo Va := fun a b st => match a, b with
  | .int i, .int j => if sm64 i || sm64 j then .ok (.int (i * j)) st else .no
  | .ref m, .int k => match st[m]? with
    | some (.lst xs) => if -(2 ^ 63) ≤ k ∧ k < 2 ^ 63 ∧ xs.length * k.toNat ≤ 16777216 then .ok (.ref st.length) (st ++ [.lst (List.replicate k.toNat xs).flatten]) else .no
    | _ => .no
  | _, _ => .no
def opFdiv : Va → Va → Mo Va := fun a b st => match a, b with
  | .int i, .int j => if 0 < j ∧ j < 1073741824 then .ok (.int (i / j)) st else .no
  | _, _ => .no
def opMod : Va → Va → Mo Va := fun a b st => match a, b with
  | .int i, .int j => if 0 < j then .ok (.int (i % j)) st else .no
  | _, _ => .no
def opPow : Va → Va → Mo Va := fun a b st => match a, b with
  | .int i, .int j => if 0 ≤ j ∧ j ≤ 1000000 ∧ i.natAbs < 2 ^ 64 then .ok (.int (i ^ j.toNat)) st else .no
  | _, _ => .no
def opLt : Va → Va → Mo Va := fun a b st => match a, b with
  | .int i, .int j => .ok (.bl (decide (i < j))) st
  | _, _ => .no
def opGt : Va → Va → Mo Va := fun a b st => match a, b with
  | .int i, .int j => .ok (.bl (decide (j < i))) st
  | _, _ => .no
def opGe : Va → Va → Mo Va := fun a b st => match a, b with
  | .int i, .int j => .ok (.bl (decide (j ≤ i))) st
  | _, _ => .no
def opLe : Va → Va → Mo Va := fun a b st => match a, b with
  | .int i, .int j => .ok (.bl (decide (i ≤ j))) st
  | .str x, .str y => .ok (.bl (!decide (y.cps.toList < x.cps.toList))) st
  | _, _ => .no

/-! data -/
def datL (f : Va → Option PyData) : List Va → Option (List PyData)
  | [] => some []
  | w :: r => match f w, datL f r with
    | some d, some ds => some (d :: ds)
    | _, _ => none
def dat (st : Sto) : Nat → Va → Option PyData
  | 0, _ => none
  | n + 1, w => match w with
    | .non => some .none
    | .bl b => some (.bool b)
    | .int i => some (.int i)
    | .str s => some (.str s)
    | .tup ws => (datL (dat st n) ws).map .tuple
    | .scr ws => (datL (dat st n) ws).map .list
    | .ktp ws => (datL (dat st n) ws).map .tuple
    | .ref k => match st[k]? with
      | some (.lst ws) => (datL (dat st n) ws).map .list
      | _ => none
    | .cst _ => none
def flatW : Va → Bool
  | .non => true
  | .bl _ => true
  | .int _ => true
  | .str _ => true
  | _ => false
def eqW : Va → Va → Bool
  | .non, .non => true
  | .bl a, .bl b => a == b
  | .bl a, .int b => (if a then 1 else 0) == b
  | .int a, .bl b => a == (if b then 1 else 0)
  | .int a, .int b => a == b
  | .str a, .str b => a == b
  | _, _ => false
def scalW : Va → Va → Bool
  | .non, .non => true | .non, .int _ => true | .int _, .non => true | .non, .bl _ => true | .bl _, .non => true | .non, .str _ => true | .str _, .non => true
  | .int _, .int _ => true | .bl _, .bl _ => true | .str _, .str _ => true
  | .int _, .str _ => true | .str _, .int _ => true | .bl _, .str _ => true | .str _, .bl _ => true
  | _, _ => false
def opEqD (neg : Bool) : Va → Va → Mo Va := fun a b st => match dat st 66 a, dat st 66 b with
  | some d, some e => if SeqAt.shaped d && SeqAt.shaped e then .ok (.bl (xor neg (PyData.eqv d e))) st else .no
  | _, _ => .no
def opEqB (neg : Bool) : Va → Va → Mo Va := fun a b st => if scalW a b = true then .ok (.bl (xor neg (eqW a b))) st else opEqD neg a b st
abbrev opEq := opEqB false
abbrev opNe := opEqB true
def inS (x y : Str) : Bool := !(Builtin.Str.occurrences y x 0 y.length 1).isEmpty
def opInB (neg : Bool) : Va → Va → Mo Va := fun a b st => match a, b with
  | .str x, .str y => .ok (.bl (xor neg (inS x y))) st
  | x, .tup ys => if flatW x && ys.all flatW then .ok (.bl (xor neg (ys.any fun y => eqW y x))) st else .no
  | x, .ktp ys => if flatW x && ys.all flatW then .ok (.bl (xor neg (ys.any fun y => eqW y x))) st else .no
  | x, .ref n => match st[n]? with
    | some (.lst ys) => match dat st 66 x, datL (dat st 65) ys with
      | some d, some ds => if SeqAt.shaped d && SeqAt.shaped (.list ds) then .ok (.bl (xor neg (ds.any fun z => z.eqv d))) st else .no
      | _, _ => .no
    | _ => .no
  | _, _ => .no
abbrev opIn := opInB false
abbrev opNotIn := opInB true
def opIsN : Va → Va → Mo Va := fun a b st => match b with
  | .non => match a with
    | .non => .ok (.bl true) st
    | .cst _ => .no
    | _ => .ok (.bl false) st
  | _ => .no
def opNotN : Va → Va → Mo Va := fun a b st => match b with
  | .non => match a with
    | .non => .ok (.bl false) st
    | .cst _ => .no
    | _ => .ok (.bl true) st
  | _ => .no

theorem nox_opAdd : NoX2 opAdd := by intro a b st c fs s h; unfold opAdd at h; split at h <;> (try split at h) <;> (try split at h) <;> cases h
theorem nox_opSub : NoX2 opSub := by intro a b st c fs s h; unfold opSub at h; split at h <;> cases h
theorem nox_opMul : NoX2 opMul := by intro a b st c fs s h; unfold opMul at h; split at h <;> (try split at h) <;> (try split at h) <;> cases h
theorem nox_opFdiv : NoX2 opFdiv := by intro a b st c fs s h; unfold opFdiv at h; split at h <;> (try split at h) <;> cases h
theorem nox_opMod : NoX2 opMod := by intro a b st c fs s h; unfold opMod at h; split at h <;> (try split at h) <;> cases h
theorem nox_opPow : NoX2 opPow := by intro a b st c fs s h; unfold opPow at h; split at h <;> (try split at h) <;> cases h
theorem nox_opLt : NoX2 opLt := by intro a b st c fs s h; unfold opLt at h; split at h <;> cases h
theorem nox_opGt : NoX2 opGt := by intro a b st c fs s h; unfold opGt at h; split at h <;> cases h
theorem nox_opGe : NoX2 opGe := by intro a b st c fs s h; unfold opGe at h; split at h <;> cases h
theorem nox_opLe : NoX2 opLe := by intro a b st c fs s h; unfold opLe at h; split at h <;> cases h
theorem nox_opEqB {n : Bool} : NoX2 (opEqB n) := by intro a b st c fs s h; unfold opEqB opEqD at h; split at h <;> (try split at h) <;> (try split at h) <;> cases h
theorem nox_opInB {n : Bool} : NoX2 (opInB n) := by
  intro a b st c fs s h
  unfold opInB at h
  split at h <;> (try split at h) <;> (try split at h) <;> (try split at h) <;> cases h
theorem nox_opIsN : NoX2 opIsN := by intro a b st c fs s h; unfold opIsN at h; split at h <;> (try split at h) <;> cases h
theorem nox_opNotN : NoX2 opNotN := by intro a b st c fs s h; unfold opNotN at h; split at h <;> (try split at h) <;> cases h

section
variable {X : Cx} {g : Gx}
theorem RS.list {st : Sto} {H : Hp} {ι : List Addr} {n : Nat} {ws : List Va} {v : V} (rs : RS X.K g st H ι) (r : RV X.K g.H0 H ι (.ref n) v) (e : st[n]? = some (.lst ws)) :
    ∃ a vs, v = .ref a ∧ ι[n]? = some a ∧ H a = some (.lst vs) ∧ RVs X.K g.H0 H ι ws vs := by
  cases r with
  | @ref _ a h =>
    obtain ⟨vs, h1, h2⟩ := rs.obj n _ a e h
    exact ⟨a, vs, rfl, h, h1, h2⟩
theorem le_line {n : Nat} (h : n ≤ 16777216) : n ≤ sizeLine := by rw [sizeLine_eq]; exact h
theorem sql_old {st : Sto} {H : Hp} {ι : List Addr} {a : Addr} {vs : List V} (rs : RS X.K g st H ι) (h : SqL X.K g.H0 a vs) : SqL X.K H a vs := by
  rcases h with (h | ⟨o, h⟩) | h
  · exact .inl (.inl (rs.old _ _ h))
  · exact .inl (.inr ⟨o, rs.old _ _ h⟩)
  · exact .inr h

theorem sqt_old {st : Sto} {H : Hp} {ι : List Addr} {a : Addr} {vs : List V} (rs : RS X.K g st H ι) (h : SqT X.K g.H0 a vs) : SqT X.K H a vs := by
  rcases h with (h | ⟨o, h⟩) | h
  · exact .inl (.inl (rs.old _ _ h))
  · exact .inl (.inr ⟨o, rs.old _ _ h⟩)
  · exact .inr h

theorem os_add : OpS X g (binaryOp .Add) opAdd := by
  intro pins s σ H x y v u Q I rx ry h
  obtain ⟨st, ι, w1, w2, rs, r1, r2, p⟩ := h
  unfold opAdd at p
  split at p
  · cases r1; cases r2
    exact op_add pins s σ H _ _ v u Q I rx ry ⟨_, _, rfl, rfl, p H ι _ Ext.refl rs (.int _)⟩
  · split at p
    · rename_i hl
      cases r1; cases r2
      exact op_add_str pins s σ H _ _ v u Q I rx ry ⟨_, _, rfl, rfl, le_line hl, p H ι _ Ext.refl rs (.str _)⟩
    · exact (show False from p).elim
  · split at p
    · rename_i hl
      cases r1 with
      | @tup a vs ws q1 k1 =>
        cases r2 with
        | @tup b us zs q2 k2 =>
          refine op_catA pins s σ H _ _ v u Q I rx ry ⟨a, b, vs, us, rfl, rfl, SqT.of q1, SqT.of q2, le_line (by rw [← k1.length, ← k2.length]; exact hl), fun e => ?_, fun e1 e2 => ?_, fun e1 e2 p' hp => ?_⟩
          · subst e
            cases k1
            exact p H ι _ Ext.refl rs (.tup q2 k2)
          · subst e2
            cases k2
            exact p H ι _ Ext.refl rs (by rw [List.append_nil]; exact .tup q1 k1)
          · obtain ⟨x1, x2, x3⟩ := new_tup rs (k1.append k2) hp
            exact p _ _ _ x1 x2 x3
    · exact (show False from p).elim
  · split at p
    · rename_i m n xs ys e1 e2
      split at p
      · rename_i hl
        obtain ⟨a, vs, rfl, _, h1, k1⟩ := rs.list r1 e1
        obtain ⟨b, us, rfl, _, h2, k2⟩ := rs.list r2 e2
        refine op_cat pins s σ H _ _ v u Q I rx ry ⟨a, b, vs, us, rfl, rfl, h1, h2, le_line (by rw [← k1.length, ← k2.length]; exact hl), fun p' hp => ?_⟩
        obtain ⟨x1, x2, x3⟩ := new_lst rs (k1.append k2) hp
        exact p _ _ _ x1 x2 x3
      · exact (show False from p).elim
    · exact (show False from p).elim
  · exact (show False from p).elim
theorem os_sub : OpS X g (binaryOp .Sub) opSub := by
  intro pins s σ H x y v u Q I rx ry h
  obtain ⟨st, ι, w1, w2, rs, r1, r2, p⟩ := h
  unfold opSub at p
  split at p
  · cases r1; cases r2
    exact op_sub pins s σ H _ _ v u Q I rx ry ⟨_, _, rfl, rfl, p H ι _ Ext.refl rs (.int _)⟩
  · exact (show False from p).elim
theorem os_mul : OpS X g (binaryOp .Mult) opMul := by
  intro pins s σ H x y v u Q I rx ry h
  obtain ⟨st, ι, w1, w2, rs, r1, r2, p⟩ := h
  unfold opMul at p
  split at p
  · split at p
    · rename_i i j hc
      cases r1; cases r2
      refine op_mul pins s σ H _ _ v u Q I rx ry ⟨_, _, rfl, rfl, ?_, p H ι _ Ext.refl rs (.int _)⟩
      unfold sm64 at hc
      rw [Bool.or_eq_true, Bool.and_eq_true, Bool.and_eq_true, decide_eq_true_eq, decide_eq_true_eq, decide_eq_true_eq, decide_eq_true_eq] at hc
      exact hc
    · exact (show False from p).elim
  · split at p
    · rename_i m k _ xs e1
      split at p
      · rename_i hc
        obtain ⟨a, vs, rfl, _, h1, k1⟩ := rs.list r1 e1
        cases r2
        refine op_rep pins s σ H _ _ v u Q I rx ry ⟨a, k, vs, rfl, rfl, h1, hc.1, hc.2.1, le_line (by rw [← k1.length]; exact hc.2.2), fun p' hp => ?_⟩
        have kk : RVs X.K g.H0 H ι (List.replicate k.toNat xs).flatten (List.replicate k.toNat vs).flatten := by
          clear p hc
          induction k.toNat with
          | zero => exact .nil
          | succ n ih =>
            rw [List.replicate_succ, List.replicate_succ, List.flatten_cons, List.flatten_cons]
            exact k1.append ih
        obtain ⟨x1, x2, x3⟩ := new_lst rs kk hp
        exact p _ _ _ x1 x2 x3
      · exact (show False from p).elim
    · exact (show False from p).elim
  · exact (show False from p).elim
theorem os_fdiv : OpS X g (binaryOp .FloorDiv) opFdiv := by
  intro pins s σ H x y v u Q I rx ry h
  obtain ⟨st, ι, w1, w2, rs, r1, r2, p⟩ := h
  unfold opFdiv at p
  split at p
  · split at p
    · rename_i hc
      cases r1; cases r2
      exact op_fdiv pins s σ H _ _ v u Q I rx ry ⟨_, _, rfl, rfl, hc, p H ι _ Ext.refl rs (.int _)⟩
    · exact (show False from p).elim
  · exact (show False from p).elim
theorem os_mod : OpS X g (binaryOp .Mod) opMod := by
  intro pins s σ H x y v u Q I rx ry h
  obtain ⟨st, ι, w1, w2, rs, r1, r2, p⟩ := h
  unfold opMod at p
  split at p
  · split at p
    · rename_i hc
      cases r1; cases r2
      exact op_mod pins s σ H _ _ v u Q I rx ry ⟨_, _, rfl, rfl, hc, p H ι _ Ext.refl rs (.int _)⟩
    · exact (show False from p).elim
  · exact (show False from p).elim
theorem os_pow : OpS X g (binaryOp .Pow) opPow := by
  intro pins s σ H x y v u Q I rx ry h
  obtain ⟨st, ι, w1, w2, rs, r1, r2, p⟩ := h
  unfold opPow at p
  split at p
  · split at p
    · rename_i hc
      cases r1; cases r2
      exact op_pow pins s σ H _ _ v u Q I rx ry ⟨_, _, rfl, rfl, hc, p H ι _ Ext.refl rs (.int _)⟩
    · exact (show False from p).elim
  · exact (show False from p).elim
theorem os_lt : OpS X g (compareOp .Lt) opLt := by
  intro pins s σ H x y v u Q I rx ry h
  obtain ⟨st, ι, w1, w2, rs, r1, r2, p⟩ := h
  unfold opLt at p
  split at p
  · cases r1; cases r2
    exact op_lt pins s σ H _ _ v u Q I rx ry ⟨_, _, rfl, rfl, p H ι _ Ext.refl rs (.bl _)⟩
  · exact (show False from p).elim
theorem os_gt : OpS X g (compareOp .Gt) opGt := by
  intro pins s σ H x y v u Q I rx ry h
  obtain ⟨st, ι, w1, w2, rs, r1, r2, p⟩ := h
  unfold opGt at p
  split at p
  · cases r1; cases r2
    exact op_gt pins s σ H _ _ v u Q I rx ry ⟨_, _, rfl, rfl, p H ι _ Ext.refl rs (.bl _)⟩
  · exact (show False from p).elim
theorem os_ge : OpS X g (compareOp .GtE) opGe := by
  intro pins s σ H x y v u Q I rx ry h
  obtain ⟨st, ι, w1, w2, rs, r1, r2, p⟩ := h
  unfold opGe at p
  split at p
  · cases r1; cases r2
    exact op_ge pins s σ H _ _ v u Q I rx ry ⟨_, _, rfl, rfl, p H ι _ Ext.refl rs (.bl _)⟩
  · exact (show False from p).elim
theorem os_le : OpS X g (compareOp .LtE) opLe := by
  intro pins s σ H x y v u Q I rx ry h
  obtain ⟨st, ι, w1, w2, rs, r1, r2, p⟩ := h
  unfold opLe at p
  split at p
  · cases r1; cases r2
    exact op_le pins s σ H _ _ v u Q I rx ry ⟨_, _, rfl, rfl, p H ι _ Ext.refl rs (.bl _)⟩
  · cases r1; cases r2
    exact op_le_str pins s σ H _ _ v u Q I rx ry ⟨_, _, rfl, rfl, p H ι _ Ext.refl rs (.bl _)⟩
  · exact (show False from p).elim

/-! data of the heap -/
theorem dp_all {H : Hp} {ι : List Addr} {f : Va → Option PyData} (hf : ∀ w v d, RV X.K g.H0 H ι w v → f w = some d → Dp X.K H v d) : ∀ {ws : List Va} {vs : List V} {ds : List PyData}, RVs X.K g.H0 H ι ws vs → datL f ws = some ds → DpAll X.K H vs ds
  | [], _, _, .nil, e => by cases e; exact .nil
  | w :: ws, _, _, .cons r t, e => by
    unfold datL at e
    split at e
    · rename_i d ds h1 h2
      cases e
      exact .cons (hf _ _ _ r h1) (dp_all hf t h2)
    · cases e
theorem dp_of {st : Sto} {H : Hp} {ι : List Addr} (rs : RS X.K g st H ι) : ∀ (n : Nat) (w : Va) (v : V) (d : PyData), RV X.K g.H0 H ι w v → dat st n w = some d → Dp X.K H v d
  | 0, _, _, _, _, e => by cases e
  | n + 1, w, v, d, r, e => by
    cases r with
    | non => cases e; exact .non
    | bl b => cases e; exact .bl b
    | int i => cases e; exact .int i
    | str x => cases e; exact .str x
    | @tup a vs ws h k =>
      have e' : (datL (dat st n) ws).map PyData.tuple = some d := e
      rw [Option.map_eq_some_iff] at e'
      obtain ⟨ds, e1, rfl⟩ := e'
      exact .tup (SqT.of h) (dp_all (dp_of rs n) k e1)
    | @ktp a vs ws h k =>
      have e' : (datL (dat st n) ws).map PyData.tuple = some d := e
      rw [Option.map_eq_some_iff] at e'
      obtain ⟨ds, e1, rfl⟩ := e'
      exact .tup (sqt_old rs h) (dp_all (dp_of rs n) k e1)
    | @scr a vs ws h k =>
      have e' : (datL (dat st n) ws).map PyData.list = some d := e
      rw [Option.map_eq_some_iff] at e'
      obtain ⟨ds, e1, rfl⟩ := e'
      exact .lst (sql_old rs h) (dp_all (dp_of rs n) k e1)
    | @ref m a h =>
      have e' : (match st[m]? with | some (.lst ws) => (datL (dat st n) ws).map PyData.list | _ => none) = some d := e
      split at e'
      · rename_i ws q
        rw [Option.map_eq_some_iff] at e'
        obtain ⟨ds, e1, rfl⟩ := e'
        obtain ⟨vs, h1, h2⟩ := rs.obj m _ a q h
        exact .lst (.inl (.inl h1)) (dp_all (dp_of rs n) h2 e1)
      · cases e'
    | cst v => cases e
theorem scal_of {H0 H : Hp} {ι : List Addr} {w z : Va} {x y : V} (r : RV X.K H0 H ι w x) (q : RV X.K H0 H ι z y) (h : scalW w z = true) : scal x y = true ∧ decide (x = y) = eqW w z := by
  cases r <;> first
    | exact absurd (show false = true from h) Bool.false_ne_true
    | (cases q <;> first
        | exact absurd (show false = true from h) Bool.false_ne_true
        | exact ⟨rfl, dec_int⟩
        | exact ⟨rfl, dec_bl⟩
        | exact ⟨rfl, dec_str⟩
        | exact ⟨rfl, by simp [eqW]⟩)
theorem os_eq (hu : X.A.units + 64 < cLine) : OpS X g (compareOp .Eq) opEq := by
  intro pins s σ H x y v u Q I rx ry h
  obtain ⟨st, ι, w1, w2, rs, r1, r2, p⟩ := h
  unfold opEq opEqB at p
  split at p
  · rename_i hs
    obtain ⟨s1, s2⟩ := scal_of r1 r2 hs
    rw [Bool.false_xor, ← s2] at p
    exact op_eq pins s σ H _ _ v u Q I rx ry ⟨s1, p H ι _ Ext.refl rs (.bl _)⟩
  unfold opEqD at p
  split at p
  · rename_i d e h1 h2
    split at p
    · rename_i hc
      rw [Bool.and_eq_true] at hc
      rw [Bool.false_xor] at p
      exact op_eqD hu pins s σ H _ _ v u Q I rx ry ⟨d, e, dp_of rs _ _ _ _ r1 h1, dp_of rs _ _ _ _ r2 h2, hc.1, hc.2, p H ι _ Ext.refl rs (.bl _)⟩
    · exact (show False from p).elim
  · exact (show False from p).elim
theorem os_ne (hu : X.A.units + 64 < cLine) : OpS X g (compareOp .NotEq) opNe := by
  intro pins s σ H x y v u Q I rx ry h
  obtain ⟨st, ι, w1, w2, rs, r1, r2, p⟩ := h
  unfold opNe opEqB at p
  split at p
  · rename_i hs
    obtain ⟨s1, s2⟩ := scal_of r1 r2 hs
    rw [Bool.true_xor, ← s2] at p
    exact op_ne pins s σ H _ _ v u Q I rx ry ⟨s1, p H ι _ Ext.refl rs (.bl _)⟩
  unfold opEqD at p
  split at p
  · rename_i d e h1 h2
    split at p
    · rename_i hc
      rw [Bool.and_eq_true] at hc
      rw [Bool.true_xor] at p
      exact op_neD hu pins s σ H _ _ v u Q I rx ry ⟨d, e, dp_of rs _ _ _ _ r1 h1, dp_of rs _ _ _ _ r2 h2, hc.1, hc.2, p H ι _ Ext.refl rs (.bl _)⟩
    · exact (show False from p).elim
  · exact (show False from p).elim
theorem flat_of {H : Hp} {ι : List Addr} {w : Va} {v : V} (r : RV X.K g.H0 H ι w v) (f : flatW w = true) : flatV v = true := by
  cases r <;> first | rfl | exact absurd (show false = true from f) Bool.false_ne_true
theorem flats_of {H : Hp} {ι : List Addr} : ∀ {ws : List Va} {vs : List V}, RVs X.K g.H0 H ι ws vs → ws.all flatW = true → vs.all flatV = true
  | _, _, .nil, _ => rfl
  | _, _, .cons r t, f => by
    rw [List.all_cons, Bool.and_eq_true] at f
    rw [List.all_cons, flat_of r f.1, flats_of t f.2]
    rfl
theorem eqW_of {H : Hp} {ι : List Addr} {w z : Va} {v u : V} (r : RV X.K g.H0 H ι w v) (q : RV X.K g.H0 H ι z u) (f : flatW w = true) (f' : flatW z = true) : eqV v u = eqW w z := by
  cases r <;> first
    | (cases q <;> first | rfl | exact absurd (show false = true from f') Bool.false_ne_true)
    | exact absurd (show false = true from f) Bool.false_ne_true
theorem inW_of {H : Hp} {ι : List Addr} {z : Va} {u : V} (q : RV X.K g.H0 H ι z u) (f' : flatW z = true) : ∀ {ws : List Va} {vs : List V}, RVs X.K g.H0 H ι ws vs → ws.all flatW = true → inV u vs = ws.any fun y => eqW y z
  | _, _, .nil, _ => rfl
  | w :: ws, v :: vs, .cons r t, f => by
    rw [List.all_cons, Bool.and_eq_true] at f
    show (eqV v u || inV u vs) = _
    rw [List.any_cons, eqW_of r q f.1 f', inW_of q f' t f.2]
theorem os_inB (neg : Bool) (hu : X.A.units + 65 < cLine) : OpS X g (compareOp (if neg then .NotIn else .In)) (opInB neg) := by
  intro pins s σ H x y v u Q I rx ry h
  obtain ⟨st, ι, w1, w2, rs, r1, r2, p⟩ := h
  unfold opInB at p
  split at p
  · cases r1; cases r2
    cases neg with
    | false => exact op_in_str pins s σ H _ _ v u Q I rx ry ⟨_, _, rfl, rfl, by rw [Bool.false_xor] at p; exact p H ι _ Ext.refl rs (.bl _)⟩
    | true => exact op_notin_str pins s σ H _ _ v u Q I rx ry ⟨_, _, rfl, rfl, by rw [Bool.true_xor] at p; exact p H ι _ Ext.refl rs (.bl _)⟩
  · split at p
    · rename_i ys hc
      rw [Bool.and_eq_true] at hc
      cases r2 with
      | @tup b us zs q2 k2 =>
        have e := inW_of r1 hc.1 k2 hc.2
        cases neg with
        | false => exact op_in_seq pins s σ H _ _ v u Q I rx ry ⟨b, us, rfl, .inr (SqT.of q2), flat_of r1 hc.1, flats_of k2 hc.2, by rw [Bool.false_xor] at p; rw [if_neg Bool.false_ne_true, e]; exact p H ι _ Ext.refl rs (.bl _)⟩
        | true => exact op_notIn_seq pins s σ H _ _ v u Q I rx ry ⟨b, us, rfl, .inr (SqT.of q2), flat_of r1 hc.1, flats_of k2 hc.2, by rw [Bool.true_xor] at p; rw [if_pos rfl, e]; exact p H ι _ Ext.refl rs (.bl _)⟩
    · exact (show False from p).elim
  · split at p
    · rename_i ys hc
      rw [Bool.and_eq_true] at hc
      cases r2 with
      | @ktp b us zs q2 k2 =>
        have e := inW_of r1 hc.1 k2 hc.2
        cases neg with
        | false => exact op_in_seq pins s σ H _ _ v u Q I rx ry ⟨b, us, rfl, .inr (sqt_old rs q2), flat_of r1 hc.1, flats_of k2 hc.2, by rw [Bool.false_xor] at p; rw [if_neg Bool.false_ne_true, e]; exact p H ι _ Ext.refl rs (.bl _)⟩
        | true => exact op_notIn_seq pins s σ H _ _ v u Q I rx ry ⟨b, us, rfl, .inr (sqt_old rs q2), flat_of r1 hc.1, flats_of k2 hc.2, by rw [Bool.true_xor] at p; rw [if_pos rfl, e]; exact p H ι _ Ext.refl rs (.bl _)⟩
    · exact (show False from p).elim
  · split at p
    · rename_i n ys q
      split at p
      · rename_i d ds h1 h2
        split at p
        · rename_i hc
          rw [Bool.and_eq_true] at hc
          obtain ⟨b, us, rfl, _, e2, k2⟩ := rs.list r2 q
          have dd : Dp X.K H (.ref b) (.list ds) := .lst (.inl (.inl e2)) (dp_all (dp_of rs 65) k2 h2)
          cases neg with
          | false => exact op_inD hu pins s σ H _ _ v u Q I rx ry ⟨d, ds, dp_of rs _ _ _ _ r1 h1, dd, hc.1, hc.2, by rw [Bool.false_xor] at p; exact p H ι _ Ext.refl rs (.bl _)⟩
          | true => exact op_notInD hu pins s σ H _ _ v u Q I rx ry ⟨d, ds, dp_of rs _ _ _ _ r1 h1, dd, hc.1, hc.2, by rw [Bool.true_xor] at p; exact p H ι _ Ext.refl rs (.bl _)⟩
        · exact (show False from p).elim
      · exact (show False from p).elim
    · exact (show False from p).elim
  · exact (show False from p).elim
theorem os_in (hu : X.A.units + 65 < cLine) : OpS X g (compareOp .In) opIn := os_inB false hu
theorem os_notIn (hu : X.A.units + 65 < cLine) : OpS X g (compareOp .NotIn) opNotIn := os_inB true hu
theorem os_isN : OpS X g (compareOp .Is) opIsN := by
  intro pins s σ H x y v u Q I rx ry h
  obtain ⟨st, ι, w1, w2, rs, r1, r2, p⟩ := h
  unfold opIsN at p
  split at p
  · cases r2
    refine op_isN pins s σ H _ _ v u Q I rx ry ⟨rfl, ?_⟩
    split at p
    · cases r1
      exact p H ι _ Ext.refl rs (.bl _)
    · exact (show False from p).elim
    · rename_i h1 h2
      have hx : x ≠ .non := by
        cases r1 <;> first | (intro z; cases z; done) | exact absurd rfl h1 | exact absurd rfl (h2 _)
      rw [decide_eq_false hx]
      exact p H ι _ Ext.refl rs (.bl _)
  · exact (show False from p).elim
theorem os_notN : OpS X g (compareOp .IsNot) opNotN := by
  intro pins s σ H x y v u Q I rx ry h
  obtain ⟨st, ι, w1, w2, rs, r1, r2, p⟩ := h
  unfold opNotN at p
  split at p
  · cases r2
    refine op_notN pins s σ H _ _ v u Q I rx ry ⟨rfl, ?_⟩
    split at p
    · cases r1
      exact p H ι _ Ext.refl rs (.bl _)
    · exact (show False from p).elim
    · rename_i h1 h2
      have hx : x ≠ .non := by
        cases r1 <;> first | (intro z; cases z; done) | exact absurd rfl h1 | exact absurd rfl (h2 _)
      rw [decide_eq_false hx]
      exact p H ι _ Ext.refl rs (.bl _)
  · exact (show False from p).elim
end
end Sh

set_option Elab.async false
set_option linter.all false
set_option maxRecDepth 100000
set_option maxHeartbeats 4000000
namespace Sh
open PySem PySem.Spec PyProof.Rows L2

/-! ### statements -/
inductive Fl where
  | nx (env : En) (st : Sto) | rt (w : Va) (st : Sto) | bk (env : En) (st : Sto) | ct (env : En) (st : Sto) | xc (c : Nat) (fs : List (Str × Va)) (env : En) (st : Sto) | no
abbrev Sm := En → Sto → Fl
def PstS (K : PySem.W.Frag) (g : Gx) (W : WX) (r : Fl) (H : Hp) (ι : List Addr) (D : Ends) : Prop :=
  match r with
  | .nx env st => ∀ H' ι' σ', Ext K H ι H' ι' → RS K g st H' ι' → RE K g H' ι' env σ' → D.nx σ' H'
  | .bk env st => ∀ H' ι' σ', Ext K H ι H' ι' → RS K g st H' ι' → RE K g H' ι' env σ' → D.bk σ' H'
  | .ct env st => ∀ H' ι' σ', Ext K H ι H' ι' → RS K g st H' ι' → RE K g H' ι' env σ' → D.ct σ' H'
  | .rt w st => ∀ H' ι' v, Ext K H ι H' ι' → RS K g st H' ι' → RV K g.H0 H' ι' w v → D.rt v H'
  | .xc c fs env st => ∀ H' ι' σ' d fs', Ext K H ι H' ι' → RS K g st H' ι' → RE K g H' ι' env σ' → H' d = some (.xd fs') → PF K g H' ι' fs fs' → W (.ref (g.cls c)) (some d) σ' H'
  | .no => False
def tSt (K : PySem.W.Frag) (g : Gx) (W : WX) (m : Sm) : TS := fun D σ H => ∃ env st ι, RS K g st H ι ∧ RE K g H ι env σ ∧ PstS K g W (m env st) H ι D
structure JS (X : Cx) (g : Gx) (W : WX) (s : Stmt) (m : Sm) : Prop where
  ps : PS X s (tSt X.K g W m)
structure JSs (X : Cx) (g : Gx) (W : WX) (s : List Stmt) (m : Sm) : Prop where
  pss : PSs X s (tSt X.K g W m)
section
variable {K : PySem.W.Frag} {g : Gx} {W : WX}
theorem PstS.shift {r : Fl} {H H1 : Hp} {ι ι1 : List Addr} {D : Ends} (h : PstS K g W r H ι D) (e : Ext K H ι H1 ι1) : PstS K g W r H1 ι1 D := by
  cases r with
  | nx env st => exact fun H' ι' σ' e' => h H' ι' σ' (e.trans e')
  | bk env st => exact fun H' ι' σ' e' => h H' ι' σ' (e.trans e')
  | ct env st => exact fun H' ι' σ' e' => h H' ι' σ' (e.trans e')
  | rt w st => exact fun H' ι' v e' => h H' ι' v (e.trans e')
  | xc c fs env st => exact fun H' ι' σ' d fs' e' => h H' ι' σ' d fs' (e.trans e')
  | no => exact h
end
/-- an expression's result, then .. -/
def bS {α : Type} (env : En) (r : Rs α) (f : α → Sto → Fl) : Fl :=
  match r with
  | .ok a st => f a st
  | .exc c fs st => .xc c fs env st
  | .no => .no
section
variable {K : PySem.W.Frag} {g : Gx} {W : WX}
theorem tG_bS {α β : Type} {rel : Rel α β} {m : En → Mo α} {f : En → α → Sto → Fl} {D : Ends} {σ : L2.St} {H : Hp} (h : tSt K g W (fun env st => bS env (m env st) (f env)) D σ H) :
    tG K g W rel m σ H fun b H1 => ∃ env a st1 ι1, RS K g st1 H1 ι1 ∧ RE K g H1 ι1 env σ ∧ rel H1 ι1 a b ∧ PstS K g W (f env a st1) H1 ι1 D := by
  obtain ⟨env, st, ι, rs, re, p⟩ := h
  refine ⟨env, st, ι, rs, re, ?_⟩
  show Pst K g rel (m env st) H ι _ _
  have p' : PstS K g W (bS env (m env st) (f env)) H ι D := p
  revert p'
  generalize m env st = r
  intro p'
  cases r with
  | ok a st1 => exact fun H' ι' b e rs1 r1 => ⟨env, a, st1, ι', rs1, re.mono e, r1, PstS.shift (r := f env a st1) p' e⟩
  | exc c fs st1 => exact fun H' ι' d fs' e rs1 hd pf => p' H' ι' σ d fs' e rs1 (re.mono e) hd pf
  | no => exact p'
end

def sNil : Sm := fun env st => .nx env st
def sSeq (m n : Sm) : Sm := fun env st => match m env st with
  | .nx env' st' => n env' st'
  | o => o
def sSet (i : Nat) (m : En → Mo Va) : Sm := fun env st => bS env (m env st) fun w st1 => .nx (env.set i (some w)) st1
def sRet (m : En → Mo Va) : Sm := fun env st => bS env (m env st) fun w st1 => .rt w st1
def sRetN : Sm := fun _ st => .rt .non st
def sExpr (m : En → Mo Va) : Sm := fun env st => bS env (m env st) fun _ st1 => .nx env st1
def sIf (t : En → Mo Bool) (m n : Sm) : Sm := fun env st => bS env (t env st) fun b st1 => if b = true then m env st1 else n env st1
def sPass : Sm := fun env st => .nx env st
def sBrk : Sm := fun env st => .bk env st
def sCnt : Sm := fun env st => .ct env st

section
variable {X : Cx} {g : Gx} {W : WX} {pos : Pos}
theorem js_nil : JSs X g W [] sNil := ⟨PSs.imp pss_nil fun D σ H h => by
  obtain ⟨env, st, ι, rs, re, p⟩ := h
  exact p H ι σ Ext.refl rs re⟩
theorem js_cons {s : Stmt} {r : List Stmt} {m n : Sm} (h1 : JS X g W s m) (h2 : JSs X g W r n) : JSs X g W (s :: r) (sSeq m n) := ⟨PSs.imp (pss_cons h1.ps h2.pss) fun D σ H h => by
  obtain ⟨env, st, ι, rs, re, p⟩ := h
  refine ⟨env, st, ι, rs, re, ?_⟩
  unfold sSeq at p
  revert p
  generalize m env st = q
  intro p
  cases q with
  | nx env' st' => exact fun H' ι' σ' e rs' re' => ⟨env', st', ι', rs', re', PstS.shift (r := n env' st') p e⟩
  | _ => exact p⟩
theorem js_one {s : Stmt} {m : Sm} (h : JS X g W s m) : JSs X g W [s] m := ⟨pss_one h.ps⟩
theorem js_pass : JS X g W (.Pass pos) sPass := ⟨PS.imp ps_pass fun D σ H h => by
  obtain ⟨env, st, ι, rs, re, p⟩ := h
  exact p H ι σ Ext.refl rs re⟩
theorem js_brk : JS X g W (.Break pos) sBrk := ⟨PS.imp ps_break fun D σ H h => by
  obtain ⟨env, st, ι, rs, re, p⟩ := h
  exact p H ι σ Ext.refl rs re⟩
theorem js_cnt : JS X g W (.Continue pos) sCnt := ⟨PS.imp ps_continue fun D σ H h => by
  obtain ⟨env, st, ι, rs, re, p⟩ := h
  exact p H ι σ Ext.refl rs re⟩
theorem js_doc {x j pos'} : JS X g W (.Expr (.Constant (.str x) j pos) pos') sPass := ⟨PS.imp ps_doc fun D σ H h => by
  obtain ⟨env, st, ι, rs, re, p⟩ := h
  exact p H ι σ Ext.refl rs re⟩
theorem js_ret {e : Expr} {m : En → Mo Va} (h : JE X g W e m) : JS X g W (.Return (some e) pos) (sRet m) := ⟨PS.imp (ps_ret h.pe) fun D σ H q => by
  obtain ⟨env, st, ι, rs, re, p⟩ := tG_bS (rel := rV X.K g) q
  refine ⟨env, st, ι, rs, re, p.imp (fun v H1 q => ?_) fun _ _ _ q => q⟩
  obtain ⟨env1, a, st1, ι1, rs1, re1, r1, p1⟩ := q
  exact p1 H1 ι1 v Ext.refl rs1 r1⟩
theorem js_retN : JS X g W (.Return none pos) sRetN := ⟨PS.imp ps_retN fun D σ H h => by
  obtain ⟨env, st, ι, rs, re, p⟩ := h
  exact p H ι _ Ext.refl rs .non⟩
theorem js_expr {e : Expr} {m : En → Mo Va} (h : JE X g W e m) (hs : swapsWith e none pos.line X.env = pure false := by rfl) : JS X g W (.Expr e pos) (sExpr m) := ⟨PS.imp (ps_expr h.pe hs) fun D σ H q => by
  obtain ⟨env, st, ι, rs, re, p⟩ := tG_bS (rel := rV X.K g) q
  refine ⟨env, st, ι, rs, re, p.imp (fun v H1 q => ?_) fun _ _ _ q => q⟩
  obtain ⟨env1, a, st1, ι1, rs1, re1, r1, p1⟩ := q
  exact p1 H1 ι1 σ Ext.refl rs1 re1⟩
theorem js_set (i : Nat) {x : Str} {e : Expr} {pos' : Pos} {m : En → Mo Va} (hN : X.N.Nodup) (h : JE X g W e m) (hi : X.N[i]? = some x := by rfl) (hx : Loc X.env.scope x := by first | exact Or.inl rfl | exact Or.inr rfl)
    (hs : swapsWith e (some (.Name x pos')) pos.line X.env = pure false := by rfl) (hf : X.fn x = true ∨ X.env.scope.names.lookup x = some .local := by first | exact .inl rfl | exact .inr rfl) :
    JS X g W (.Assign [.Name x pos'] e pos) (sSet i m) := ⟨PS.imp (ps_set hN hi hx h.pe hs hf) fun D σ H q => by
  obtain ⟨env, st, ι, rs, re, p⟩ := tG_bS (rel := rV X.K g) q
  refine ⟨env, st, ι, rs, re, p.imp (fun v H1 q => ?_) fun _ _ _ q => q⟩
  obtain ⟨env1, a, st1, ι1, rs1, re1, r1, p1⟩ := q
  exact p1 H1 ι1 _ Ext.refl rs1 (re1.set i r1)⟩
theorem js_if {c : Expr} {a b : List Stmt} {t : En → Mo Bool} {m n : Sm} (hc : JT X g W c t) (ha : JSs X g W a m) (hb : JSs X g W b n) : JS X g W (.If c a b pos) (sIf t m n) := ⟨PS.imp (ps_if hc.pt ha.pss hb.pss) fun D σ H q => by
  obtain ⟨env, st, ι, rs, re, p⟩ := tG_bS (rel := rB) q
  refine ⟨env, st, ι, rs, re, p.imp (fun v H1 q => ?_) fun _ _ _ q => q⟩
  obtain ⟨env1, w, st1, ι1, rs1, re1, r1, p1⟩ := q
  obtain rfl : w = v := r1
  cases w with
  | true => exact iteT ⟨env1, st1, ι1, rs1, re1, p1⟩
  | false => exact iteF ⟨env1, st1, ι1, rs1, re1, p1⟩⟩

/-! ### targets: the names of a loop, of an unpacking -/
abbrev Tg := Va → En → Option En
structure JG (X : Cx) (g : Gx) (t : Expr) (f : Tg) : Prop where
  ex : ∃ gt : TG, PG X t gt ∧ ∀ (w : Va) (v : V) (env env' : En) (σ : L2.St) (H : Hp) (ι : List Addr) (Q : L2.St → Hp → Prop), RE X.K g H ι env σ → RV X.K g.H0 H ι w v → f w env = some env' →
    (∀ σ', RE X.K g H ι env' σ' → Q σ' H) → gt v σ H Q
def tgN (i : Nat) : Tg := fun w env => some (env.set i (some w))
theorem jg_name (i : Nat) {x : Str} (hN : X.N.Nodup) (hi : X.N[i]? = some x := by rfl) (hx : Loc X.env.scope x := by first | exact Or.inl rfl | exact Or.inr rfl) (hf : X.fn x = true ∨ X.env.scope.names.lookup x = some .local := by first | exact .inl rfl | exact .inr rfl) :
    JG X g (.Name x pos) (tgN i) := ⟨_, pg_name hN hi hx hf, fun w v env env' σ H ι Q re r e q => by
  cases e
  exact q _ (re.set i r)⟩
end

/-! ### loops -/
/-- over items that stay -/
def forF (tg : Tg) (body : Sm) : List Va → Sm
  | [] => fun env st => .nx env st
  | w :: r => fun env st => match tg w env with
    | none => .no
    | some env1 => match body env1 st with
      | .nx env2 st2 => forF tg body r env2 st2
      | .ct env2 st2 => forF tg body r env2 st2
      | .bk env2 st2 => .nx env2 st2
      | o => o
/-- over a list of the store, as it stands at each turn -/
def forL (tg : Tg) (body : Sm) (n : Nat) : Nat → Nat → Sm
  | 0, _ => fun _ _ => .no
  | k + 1, i => fun env st => match st[n]? with
    | some (.lst ws) => match ws[i]? with
      | none => .nx env st
      | some w => match tg w env with
        | none => .no
        | some env1 => match body env1 st with
          | .nx env2 st2 => forL tg body n k (i + 1) env2 st2
          | .ct env2 st2 => forL tg body n k (i + 1) env2 st2
          | .bk env2 st2 => .nx env2 st2
          | o => o
    | _ => .no
def whileF (t : En → Mo Bool) (body : Sm) : Nat → Sm
  | 0 => fun _ _ => .no
  | k + 1 => fun env st => bS env (t env st) fun b st1 => if b = true then (match body env st1 with
      | .nx env2 st2 => whileF t body k env2 st2
      | .ct env2 st2 => whileF t body k env2 st2
      | .bk env2 st2 => .nx env2 st2
      | o => o) else .nx env st1
/-- what a for (a comprehension) goes over: items that stay, or a list of the store -/
inductive Src where
  | fix (ws : List Va) | live (n : Nat)
def iL (m : En → Mo Va) : En → Mo Src := fun env st => bnd (m env st) fun w st1 => match w with
  | .scr ws => .ok (.fix ws) st1
  | .ref n => match st1[n]? with
    | some (.lst _) => .ok (.live n) st1
    | _ => .no
  | _ => .no
def iT (m : En → Mo Va) : En → Mo Src := fun env st => bnd (m env st) fun w st1 => match w with
  | .tup ws => .ok (.fix ws) st1
  | .ktp ws => .ok (.fix ws) st1
  | _ => .no
def rangeW (lo : Int) (n : Nat) : List Va := (List.range n).map fun (k : Nat) => Va.int (lo + (k : Int))
def iR1 (m : En → Mo (List Va)) : En → Mo Src := fun env st => bnd (m env st) fun ws st1 => match ws with
  | [.int j] => if -(2 ^ 62) ≤ j ∧ j < 2 ^ 62 then .ok (.fix (rangeW 0 j.toNat)) st1 else .no
  | _ => .no
def iR2 (m : En → Mo (List Va)) : En → Mo Src := fun env st => bnd (m env st) fun ws st1 => match ws with
  | [.int i, .int j] => if -(2 ^ 62) ≤ i ∧ i < 2 ^ 62 ∧ -(2 ^ 62) ≤ j ∧ j < 2 ^ 62 then .ok (.fix (rangeW i (j - i).toNat)) st1 else .no
  | _ => .no
def signsW (x : Str) : List Va := x.cps.toList.map fun c => Va.str ⟨#[c]⟩
def iS (m : En → Mo Va) : En → Mo Src := fun env st => bnd (m env st) fun w st1 => match w with
  | .str x => .ok (.fix (signsW x)) st1
  | _ => .no
def sFor (src : En → Mo Src) (tg : Tg) (body : Sm) : Sm := fun env st => bS env (src env st) fun s st1 => match s with
  | .fix ws => forF tg body ws env st1
  | .live n => match st1[n]? with
    | some (.lst ws) => forL tg body n (ws.length + 1) 0 env st1
    | _ => .no
def sWhile (t : En → Mo Bool) (body : Sm) (k : Nat) : Sm := whileF t body k

/-- the iterator J yields the items all, one by one; G: what must stay -/
structure Fix (K : PySem.W.Frag) (g : Gx) (J : It) (all : List Va) (G : Hp → List Addr → Prop) : Prop where
  mono : ∀ H ι H' ι', Ext K H ι H' ι' → (∀ b o, g.H0 b = some o → H' b = some o) → G H ι → G H' ι'
  stop : ∀ H ι, G H ι → J.stop all.length H
  go : ∀ (i : Nat) H ι, G H ι → i < all.length → J.go i H
  yld : ∀ (i : Nat) H ι x H' st, RS K g st H ι → G H ι → J.yld i H x H' → Ext K H ι H' ι ∧ RS K g st H' ι ∧ ∀ w, all[i]? = some w → RV K g.H0 H' ι w x
def rI' (K : PySem.W.Frag) (g : Gx) : Rel Src It := fun H ι s J => match s with
  | .fix ws => ∃ G, Fix K g J ws G ∧ G H ι
  | .live n => ∃ a, ι[n]? = some a ∧ J = Itl K a
structure JI (X : Cx) (g : Gx) (W : WX) (tg iter : Expr) (m : En → Mo Src) : Prop where
  ex : ∃ wi : TI, PI X tg iter wi ∧ ∀ σ H R, tG X.K g W (rI' X.K g) m σ H R → wi σ H R
section
variable {X : Cx} {g : Gx} {W : WX} {pos : Pos} {tg : Expr}
theorem ji_of {iter : Expr} {wi : TI} {m : En → Mo Src} (h : PI X tg iter wi) (i : ∀ σ H R, tG X.K g W (rI' X.K g) m σ H R → wi σ H R) : JI X g W tg iter m := ⟨wi, h, i⟩
theorem fix_tup {K : PySem.W.Frag} {a : Addr} {vs : List V} {ws : List Va} : Fix K g (Itt K a) ws (fun H ι => H a = some (.tup vs) ∧ RVs K g.H0 H ι ws vs) where
  mono := fun H ι H' ι' e _ q => ⟨e.tup _ _ q.1, q.2.mono e⟩
  stop := fun H ι q => ⟨vs, SqT.of q.1, Nat.le_of_eq q.2.length.symm⟩
  go := fun i H ι q hl => by
    obtain ⟨v, e, _⟩ := q.2.get (List.getElem?_eq_getElem hl)
    exact ⟨vs, v, SqT.of q.1, e⟩
  yld := fun i H ι x H' st rs q y => by
    obtain ⟨rfl, hx⟩ := y
    refine ⟨Ext.refl, rs, fun w ew => ?_⟩
    obtain ⟨v, e, rv⟩ := q.2.get ew
    have := hx vs (SqT.of q.1)
    rw [e] at this
    cases this
    exact rv
theorem sqt_keep {K : PySem.W.Frag} {H0 H : Hp} {a : Addr} {vs : List V} (old : ∀ b o, H0 b = some o → H b = some o) (h : SqT K H0 a vs) : SqT K H a vs := by
  rcases h with (h | ⟨o, h⟩) | h
  · exact .inl (.inl (old _ _ h))
  · exact .inl (.inr ⟨o, old _ _ h⟩)
  · exact .inr h
theorem sql_keep {K : PySem.W.Frag} {H0 H : Hp} {a : Addr} {vs : List V} (old : ∀ b o, H0 b = some o → H b = some o) (h : SqL K H0 a vs) : SqL K H a vs := by
  rcases h with (h | ⟨o, h⟩) | h
  · exact .inl (.inl (old _ _ h))
  · exact .inl (.inr ⟨o, old _ _ h⟩)
  · exact .inr h
theorem fix_ktp {K : PySem.W.Frag} {a : Addr} {vs : List V} {ws : List Va} (sq : SqT K g.H0 a vs) : Fix K g (Itt K a) ws (fun H ι => SqT K H a vs ∧ RVs K g.H0 H ι ws vs) where
  mono := fun H ι H' ι' e old q => ⟨sqt_keep old sq, q.2.mono e⟩
  stop := fun H ι q => ⟨vs, q.1, Nat.le_of_eq q.2.length.symm⟩
  go := fun i H ι q hl => by
    obtain ⟨v, e, _⟩ := q.2.get (List.getElem?_eq_getElem hl)
    exact ⟨vs, v, q.1, e⟩
  yld := fun i H ι x H' st rs q y => by
    obtain ⟨rfl, hx⟩ := y
    refine ⟨Ext.refl, rs, fun w ew => ?_⟩
    obtain ⟨v, e, rv⟩ := q.2.get ew
    have := hx vs q.1
    rw [e] at this
    cases this
    exact rv
theorem fix_scr {K : PySem.W.Frag} {a : Addr} {vs : List V} {ws : List Va} (sq : SqL K g.H0 a vs) : Fix K g (Itl K a) ws (fun H ι => SqL K H a vs ∧ RVs K g.H0 H ι ws vs) where
  mono := fun H ι H' ι' e old q => ⟨sql_keep old sq, q.2.mono e⟩
  stop := fun H ι q => ⟨vs, q.1, Nat.le_of_eq q.2.length.symm⟩
  go := fun i H ι q hl => by
    obtain ⟨v, e, _⟩ := q.2.get (List.getElem?_eq_getElem hl)
    exact ⟨vs, v, q.1, e⟩
  yld := fun i H ι x H' st rs q y => by
    obtain ⟨rfl, hx⟩ := y
    refine ⟨Ext.refl, rs, fun w ew => ?_⟩
    obtain ⟨v, e, rv⟩ := q.2.get ew
    have := hx vs q.1
    rw [e] at this
    cases this
    exact rv
theorem rangeW_length (lo : Int) (n : Nat) : (rangeW lo n).length = n := by simp [rangeW]
theorem rangeW_get {lo : Int} {n i : Nat} {w : Va} (h : (rangeW lo n)[i]? = some w) : w = .int (lo + (i : Int)) ∧ i < n := by
  unfold rangeW at h
  rw [List.getElem?_map] at h
  by_cases hi : i < n
  · rw [List.getElem?_range hi] at h
    cases h
    exact ⟨rfl, hi⟩
  · rw [List.getElem?_eq_none (by simpa using hi)] at h
    cases h
theorem fix_rg {K : PySem.W.Frag} {lo : Int} {n : Nat} : Fix K g (Itr lo n) (rangeW lo n) (fun _ _ => True) where
  mono := fun _ _ _ _ _ _ _ => True.intro
  stop := fun H ι _ => by rw [rangeW_length]; exact Nat.le_refl n
  go := fun i H ι _ hl => by rw [rangeW_length] at hl; exact hl
  yld := fun i H ι x H' st rs _ y => by
    obtain ⟨rfl, rfl⟩ := y
    refine ⟨Ext.refl, rs, fun w ew => ?_⟩
    obtain ⟨rfl, _⟩ := rangeW_get ew
    exact .int _
theorem signsW_length (x : Str) : (signsW x).length = x.cps.size := by simp [signsW]
theorem fix_str {K : PySem.W.Frag} {x : Str} : Fix K g (Its x) (signsW x) (fun _ _ => True) where
  mono := fun _ _ _ _ _ _ _ => True.intro
  stop := fun H ι _ => by rw [signsW_length]; exact Nat.le_refl _
  go := fun i H ι _ hl => by rw [signsW_length] at hl; exact hl
  yld := fun i H ι v H' st rs _ y => by
    obtain ⟨rfl, c, ec, rfl⟩ := y
    refine ⟨Ext.refl, rs, fun w ew => ?_⟩
    unfold signsW at ew
    rw [List.getElem?_map, Array.getElem?_toList, ec] at ew
    cases ew
    exact .str _
theorem ji_tup {iter : Expr} {m : En → Mo Va} (hi : JE X g W iter m) : JI X g W tg iter (iT m) := ji_of (pi_tup hi.pe) fun σ H R q => by
  obtain ⟨env, st, ι, rs, re, p⟩ := q
  refine ⟨env, st, ι, rs, re, (Pst.bind (rel := rV X.K g) p).imp (fun x H1 q => ?_) fun _ _ _ q => q⟩
  obtain ⟨w, st1, ι1, ex, rs1, r1, p1⟩ := q
  cases w with
  | tup ws =>
    cases r1 with
    | @tup a vs _ sq k1 => exact ⟨a, rfl, ⟨vs, SqT.of sq⟩, p1 H1 ι1 (Itt X.K a) Ext.refl rs1 ⟨_, fix_tup, sq, k1⟩⟩
  | ktp ws =>
    cases r1 with
    | @ktp a vs _ sq k1 => exact ⟨a, rfl, ⟨vs, sqt_old rs1 sq⟩, p1 H1 ι1 (Itt X.K a) Ext.refl rs1 ⟨_, fix_ktp sq, sqt_old rs1 sq, k1⟩⟩
  | _ => exact (show False from p1).elim
theorem ji_list {iter : Expr} {m : En → Mo Va} (hi : JE X g W iter m) : JI X g W tg iter (iL m) := ji_of (pi_list hi.pe) fun σ H R q => by
  obtain ⟨env, st, ι, rs, re, p⟩ := q
  refine ⟨env, st, ι, rs, re, (Pst.bind (rel := rV X.K g) p).imp (fun x H1 q => ?_) fun _ _ _ q => q⟩
  obtain ⟨w, st1, ι1, ex, rs1, r1, p1⟩ := q
  cases w with
  | scr ws =>
    cases r1 with
    | @scr a vs _ sq k1 => exact ⟨a, rfl, ⟨vs, sql_old rs1 sq⟩, p1 H1 ι1 (Itl X.K a) Ext.refl rs1 ⟨_, fix_scr sq, sql_old rs1 sq, k1⟩⟩
  | ref n =>
    cases r1 with
    | @ref _ a ha =>
      dsimp only at p1
      split at p1
      · rename_i ws e
        obtain ⟨vs, h3, k1⟩ := rs1.obj n _ a e ha
        exact ⟨a, rfl, ⟨vs, .inl (.inl h3)⟩, p1 H1 ι1 (Itl X.K a) Ext.refl rs1 ⟨a, ha, rfl⟩⟩
      · exact (show False from p1).elim
  | _ => exact (show False from p1).elim
theorem ji_rg1 {a : Expr} {m : En → Mo (List Va)} {pp pc : Pos} (hm : X.mg "range" = none) (hi : JA X g W [a] m) (hg : Gl X "range" := by rfl) (hs1 : starEach [a] X.env = [(false, eval a X.env)] := by rfl) : JI X g W tg (.Call (.Name "range" pp) [a] [] pc) (iR1 m) := ji_of (pi_range1 hg hm hi.pa hs1) fun σ H R q => by
  obtain ⟨env, st, ι, rs, re, p⟩ := q
  refine ⟨env, st, ι, rs, re, (Pst.bind (rel := rVs X.K g) p).imp (fun x H1 q => ?_) fun _ _ _ q => q⟩
  obtain ⟨w, st1, ι1, ex, rs1, r1, p1⟩ := q
  split at p1
  · rename_i j
    split at p1
    · rename_i hc
      cases r1 with
      | cons ra rb =>
        cases ra; cases rb
        exact ⟨j, rfl, hc.1, hc.2, p1 H1 ι1 _ Ext.refl rs1 ⟨_, fix_rg, True.intro⟩⟩
    · exact (show False from p1).elim
  · exact (show False from p1).elim
theorem ji_rg2 {a a2 : Expr} {m : En → Mo (List Va)} {pp pc : Pos} (hm : X.mg "range" = none) (hi : JA X g W [a, a2] m) (hg : Gl X "range" := by rfl) (hs1 : starEach [a, a2] X.env = [(false, eval a X.env), (false, eval a2 X.env)] := by rfl) (hs2 : starEach [a2] X.env = [(false, eval a2 X.env)] := by rfl) : JI X g W tg (.Call (.Name "range" pp) [a, a2] [] pc) (iR2 m) := ji_of (pi_range2 hg hm hi.pa hs1 hs2) fun σ H R q => by
  obtain ⟨env, st, ι, rs, re, p⟩ := q
  refine ⟨env, st, ι, rs, re, (Pst.bind (rel := rVs X.K g) p).imp (fun x H1 q => ?_) fun _ _ _ q => q⟩
  obtain ⟨w, st1, ι1, ex, rs1, r1, p1⟩ := q
  split at p1
  · rename_i i j
    split at p1
    · rename_i hc
      cases r1 with
      | cons ra rb =>
        cases rb with
        | cons rb rc =>
          cases ra; cases rb; cases rc
          exact ⟨i, j, rfl, hc, p1 H1 ι1 _ Ext.refl rs1 ⟨_, fix_rg, True.intro⟩⟩
    · exact (show False from p1).elim
  · exact (show False from p1).elim
theorem ji_str {iter : Expr} {m : En → Mo Va} (hi : JE X g W iter m) : JI X g W tg iter (iS m) := ji_of (pi_str hi.pe) fun σ H R q => by
  obtain ⟨env, st, ι, rs, re, p⟩ := q
  refine ⟨env, st, ι, rs, re, (Pst.bind (rel := rV X.K g) p).imp (fun x H1 q => ?_) fun _ _ _ q => q⟩
  obtain ⟨w, st1, ι1, ex, rs1, r1, p1⟩ := q
  cases w with
  | str x =>
    cases r1
    exact ⟨x, rfl, p1 H1 ι1 _ Ext.refl rs1 ⟨_, fix_str, True.intro⟩⟩
  | _ => exact (show False from p1).elim
end

section
variable {X : Cx} {g : Gx} {W : WX} {pos : Pos}
/-- what a target must do -/
abbrev TgOk (X : Cx) (g : Gx) (tg : Tg) (gt : TG) : Prop := ∀ (w : Va) (v : V) (env env' : En) (σ : L2.St) (H : Hp) (ι : List Addr) (Q : L2.St → Hp → Prop), RE X.K g H ι env σ → RV X.K g.H0 H ι w v → tg w env = some env' →
      (∀ σ', RE X.K g H ι env' σ' → Q σ' H) → gt v σ H Q
abbrev Loop (X : Cx) (g : Gx) (W : WX) (J : It) (gt : TG) (body : Sm) (D : Ends) (σ : L2.St) (H : Hp) : Prop := ∃ Wl : Nat → Nat → L2.St → Hp → Prop, (∃ m, Wl 0 m σ H) ∧ ∀ i m σ H, Wl i m σ H →
      (J.stop i H ∧ D.nx σ H) ∨ (J.go i H ∧ ∃ N : L2.St → Hp → Prop, (∀ σ' H', N σ' H' → ∃ m', m' < m ∧ Wl (i + 1) m' σ' H') ∧ ∀ x H', J.yld i H x H' → gt x σ H' fun σ2 H2 => tSt X.K g W body { D with nx := N, ct := N, bk := D.nx } σ2 H2)
theorem for_fix {J : It} {gt : TG} {tg : Tg} {body : Sm} {D : Ends} (hg : TgOk X g tg gt) {all : List Va} {G : Hp → List Addr → Prop} (F : Fix X.K g J all G)
    {env : En} {st : Sto} {ι : List Addr} {σ : L2.St} {H : Hp} (rs : RS X.K g st H ι) (re : RE X.K g H ι env σ) (G0 : G H ι) (p : PstS X.K g W (forF tg body all env st) H ι D) : Loop X g W J gt body D σ H := by
  refine ⟨fun i m σ H => m = all.length - i ∧ i ≤ all.length ∧ ∃ env st ι, RS X.K g st H ι ∧ RE X.K g H ι env σ ∧ G H ι ∧ PstS X.K g W (forF tg body (all.drop i) env st) H ι D, ⟨all.length, by simp, Nat.zero_le _, env, st, ι, rs, re, G0, by rw [List.drop_zero]; exact p⟩, ?_⟩
  rintro i m σ H ⟨rfl, hi, env, st, ι, rs, re, G1, p⟩
  by_cases hlt : i < all.length
  · refine .inr ⟨F.go i H ι G1 hlt, fun σ' H' => i + 1 ≤ all.length ∧ ∃ env st ι, RS X.K g st H' ι ∧ RE X.K g H' ι env σ' ∧ G H' ι ∧ PstS X.K g W (forF tg body (all.drop (i + 1)) env st) H' ι D, fun σ' H' q => ⟨all.length - (i + 1), by omega, rfl, q.1, q.2⟩, fun x H' y => ?_⟩
    obtain ⟨e0, rs', hr⟩ := F.yld i H ι x H' st rs G1 y
    rw [List.drop_eq_getElem_cons hlt] at p
    have rv := hr _ (List.getElem?_eq_getElem hlt)
    have G2 := F.mono _ _ _ _ e0 rs'.old G1
    unfold forF at p
    split at p
    · exact (show False from p).elim
    · rename_i env1 e1
      refine hg _ x env env1 σ _ ι _ (re.mono e0) rv e1 fun σ' re' => ⟨env1, st, ι, rs', re', ?_⟩
      refine PstS.shift ?_ e0
      revert p
      generalize body env1 st = r
      intro p
      cases r with
      | nx env2 st2 => exact fun H2 ι2 σ2 e rs2 re2 => ⟨hlt, env2, st2, ι2, rs2, re2, F.mono _ _ _ _ e rs2.old G1, PstS.shift (r := forF tg body (all.drop (i + 1)) env2 st2) p e⟩
      | ct env2 st2 => exact fun H2 ι2 σ2 e rs2 re2 => ⟨hlt, env2, st2, ι2, rs2, re2, F.mono _ _ _ _ e rs2.old G1, PstS.shift (r := forF tg body (all.drop (i + 1)) env2 st2) p e⟩
      | bk env2 st2 => exact p
      | rt w st2 => exact p
      | xc c fs env2 st2 => exact p
      | no => exact p
  · have e : i = all.length := by omega
    subst e
    refine .inl ⟨F.stop H ι G1, ?_⟩
    rw [List.drop_length] at p
    exact p H ι σ Ext.refl rs re
theorem for_live {a : Addr} {n : Nat} {gt : TG} {tg : Tg} {body : Sm} {D : Ends} (hg : TgOk X g tg gt) {k : Nat}
    {env : En} {st : Sto} {ι : List Addr} {σ : L2.St} {H : Hp} (rs : RS X.K g st H ι) (re : RE X.K g H ι env σ) (ha : ι[n]? = some a) (p : PstS X.K g W (forL tg body n k 0 env st) H ι D) : Loop X g W (Itl X.K a) gt body D σ H := by
  refine ⟨fun i m σ H => ∃ env st ι, RS X.K g st H ι ∧ RE X.K g H ι env σ ∧ ι[n]? = some a ∧ PstS X.K g W (forL tg body n m i env st) H ι D, ⟨k, env, st, ι, rs, re, ha, p⟩, ?_⟩
  rintro i m σ H ⟨env, st, ι, rs, re, ha, p⟩
  cases m with
  | zero => exact (show False from p).elim
  | succ m =>
    unfold forL at p
    split at p
    · rename_i ws q
      obtain ⟨vs, h1, k1⟩ := rs.obj n _ a q ha
      have sl : SqL X.K H a vs := .inl (.inl h1)
      split at p
      · rename_i e
        refine .inl ⟨⟨vs, sl, ?_⟩, p H ι σ Ext.refl rs re⟩
        rw [← k1.length]
        exact List.getElem?_eq_none_iff.mp e
      · rename_i w e
        obtain ⟨v, e', rv⟩ := k1.get e
        refine .inr ⟨⟨vs, v, sl, e'⟩, fun σ' H' => ∃ env st ι, RS X.K g st H' ι ∧ RE X.K g H' ι env σ' ∧ ι[n]? = some a ∧ PstS X.K g W (forL tg body n m (i + 1) env st) H' ι D, fun σ' H' q => ⟨m, Nat.lt_succ_self m, q⟩, fun x H' y => ?_⟩
        obtain ⟨rfl, hx⟩ := y
        have ex := hx vs sl
        rw [e'] at ex
        cases ex
        split at p
        · exact (show False from p).elim
        · rename_i env1 e1
          refine hg _ _ env env1 σ _ ι _ re rv e1 fun σ' re' => ⟨env1, st, ι, rs, re', ?_⟩
          revert p
          generalize body env1 st = r
          intro p
          cases r with
          | nx env2 st2 => exact fun H2 ι2 σ2 e rs2 re2 => ⟨env2, st2, ι2, rs2, re2, e.get ha, PstS.shift (r := forL tg body n m (i + 1) env2 st2) p e⟩
          | ct env2 st2 => exact fun H2 ι2 σ2 e rs2 re2 => ⟨env2, st2, ι2, rs2, re2, e.get ha, PstS.shift (r := forL tg body n m (i + 1) env2 st2) p e⟩
          | bk env2 st2 => exact p
          | rt w st2 => exact p
          | xc c fs env2 st2 => exact p
          | no => exact p
    · exact (show False from p).elim
theorem js_for {t iter : Expr} {b : List Stmt} {tg : Tg} {m : En → Mo Src} {body : Sm} (hp : PassesOwn (model X.prog X.w) X.A X.env X.xe) (hc : X.calm = true) (hi : JI X g W t iter m) (ht : JG X g t tg) (hb : JSs X g W b body)
    (hs : ∀ x, foldedSetIterable iter X.env x = pure x := by intro _; rfl) : JS X g W (.For t iter b [] pos) (sFor m tg body) := by
  obtain ⟨gt, h1, h2⟩ := ht.ex
  obtain ⟨wi, i1, i2⟩ := hi.ex
  refine ⟨PS.imp (ps_for hp hc i1 h1 hb.pss hs) fun D σ H q => i2 σ H _ ?_⟩
  obtain ⟨env, st, ι, rs, re, p⟩ := tG_bS (rel := rI' X.K g) q
  refine ⟨env, st, ι, rs, re, p.imp (fun J H1 q => ?_) fun _ _ _ q => q⟩
  obtain ⟨env1, s, st1, ι1, rs1, re1, r1, p1⟩ := q
  cases s with
  | fix ws =>
    obtain ⟨G, F, G0⟩ := r1
    exact for_fix h2 F rs1 re1 G0 p1
  | live n =>
    obtain ⟨a, ha, rfl⟩ := r1
    dsimp only at p1
    split at p1
    · exact for_live h2 rs1 re1 ha p1
    · exact (show False from p1).elim
theorem js_while {c : Expr} {b : List Stmt} {t : En → Mo Bool} {body : Sm} (k : Nat) (hp : PassesOwn (model X.prog X.w) X.A X.env X.xe) (hc : JT X g W c t) (hb : JSs X g W b body) : JS X g W (.While c b [] pos) (sWhile t body k) := by
  refine ⟨PS.imp (ps_while hp hc.pt hb.pss) fun D σ H q => ?_⟩
  obtain ⟨env, st, ι, rs, re, p⟩ := q
  refine ⟨fun m σ H => ∃ env st ι, RS X.K g st H ι ∧ RE X.K g H ι env σ ∧ PstS X.K g W (whileF t body m env st) H ι D, ⟨k, env, st, ι, rs, re, p⟩, ?_⟩
  intro m σ H h
  cases m with
  | zero =>
    obtain ⟨env, st, ι, rs, re, p⟩ := h
    exact (show False from p).elim
  | succ m =>
    have h' : tSt X.K g W (whileF t body (m + 1)) D σ H := h
    unfold whileF at h'
    obtain ⟨env, st, ι, rs, re, p⟩ := tG_bS (rel := rB) h'
    refine ⟨env, st, ι, rs, re, p.imp (fun v H1 q => ?_) fun _ _ _ q => q⟩
    obtain ⟨env1, w, st1, ι1, rs1, re1, r1, p1⟩ := q
    obtain rfl : w = v := r1
    cases w with
    | false => exact iteF (p1 H1 ι1 σ Ext.refl rs1 re1)
    | true =>
      refine iteT ⟨fun σ' H' => ∃ env st ι, RS X.K g st H' ι ∧ RE X.K g H' ι env σ' ∧ PstS X.K g W (whileF t body m env st) H' ι D, fun σ' H' q => ⟨m, Nat.lt_succ_self m, q⟩, env1, st1, ι1, rs1, re1, ?_⟩
      rw [if_pos rfl] at p1
      revert p1
      generalize body env1 st1 = r
      intro p1
      cases r with
      | nx env2 st2 => exact fun H2 ι2 σ2 e rs2 re2 => ⟨env2, st2, ι2, rs2, re2, PstS.shift (r := whileF t body m env2 st2) p1 e⟩
      | ct env2 st2 => exact fun H2 ι2 σ2 e rs2 re2 => ⟨env2, st2, ι2, rs2, re2, PstS.shift (r := whileF t body m env2 st2) p1 e⟩
      | bk env2 st2 => exact p1
      | rt w st2 => exact p1
      | xc c fs env2 st2 => exact p1
      | no => exact p1
end
end Sh

set_option Elab.async false
set_option linter.all false
set_option maxRecDepth 100000
set_option maxHeartbeats 4000000
namespace Sh
open PySem PySem.Spec PyProof.Rows L2

/-! ### subscripts, slices -/
def opIx : Va → Va → Mo Va := fun a b st => match a, b with
  | .tup ws, .int i => match atI ws i with
    | some w => .ok w st
    | none => .no
  | .scr ws, .int i => match atI ws i with
    | some w => .ok w st
    | none => .no
  | .ktp ws, .int i => match atI ws i with
    | some w => .ok w st
    | none => .no
  | .str x, .int i => if x.length ≤ 16777216 then (match atI x.cps.toList i with
    | some c => .ok (.str ⟨#[c]⟩) st
    | none => .no) else .no
  | .ref n, .int i => match st[n]? with
    | some (.lst ws) => match atI ws i with
      | some w => .ok w st
      | none => .no
    | _ => .no
  | _, _ => .no
/-- the items of a part -/
def cutW (xs : List Va) (lo hi : Option Int) : List Va := (xs.drop (HT.sIx xs.length 0 lo)).take (HT.sIx xs.length xs.length hi - HT.sIx xs.length 0 lo)
def opSl (lo hi : Option Int) : Va → Mo Va := fun a st => match a with
  | .tup ws => .ok (.tup (cutW ws lo hi)) st
  | .str x => if x.length ≤ 16777216 then .ok (.str (cutS x lo hi)) st else .no
  | .scr ws => .ok (.ref st.length) (st ++ [.lst (cutW ws lo hi)])
  | .ref n => match st[n]? with
    | some (.lst ws) => .ok (.ref st.length) (st ++ [.lst (cutW ws lo hi)])
    | _ => .no
  | _ => .no
def oNone : En → Mo (Option Int) := fun _ st => .ok none st
def oSome (m : En → Mo Va) : En → Mo (Option Int) := fun env st => bnd (m env st) fun w st1 => match w with
  | .int i => .ok (some i) st1
  | _ => .no
def eSl (m : En → Mo Va) (lo hi : En → Mo (Option Int)) : En → Mo Va := fun env st => bnd (m env st) fun w st1 => bnd (lo env st1) fun l st2 => bnd (hi env st2) fun h st3 => opSl l h w st3
section
variable {X : Cx} {g : Gx} {W : WX} {pos : Pos}
theorem at_rv {H0 H : Hp} {ι : List Addr} {ws : List Va} {vs : List V} {i : Int} {w : Va} (k : RVs X.K H0 H ι ws vs) (e : atI ws i = some w) : ∃ v, atI vs i = some v ∧ RV X.K H0 H ι w v := by
  unfold atI at e ⊢
  rw [← k.length]
  cases q : ixN ws.length i with
  | none => rw [q] at e; cases e
  | some j =>
    rw [q] at e
    exact k.get (i := j) e
theorem j_ix {a b : Expr} {ma mb : En → Mo Va} (ha : JE X g W a ma) (hb : JE X g W b mb) (hs : PlainIx b := by exact fun _ _ => rfl) : JE X g W (.Subscript a b pos) (e2 opIx ma mb) := ⟨PE.imp (pe_ix (IxR.or ix_tup (IxR.or ix_list ix_str)) ha.pe hb.pe hs) fun σ H Q h => by
  obtain ⟨env, st, ι, rs, re, p⟩ := pst_e2 h
  refine ⟨env, st, ι, rs, re, p.imp (fun x H1 q => ?_) fun _ _ _ q => q⟩
  obtain ⟨env1, st1, ι1, rs1, re1, p1⟩ := q
  refine ⟨env1, st1, ι1, rs1, re1, p1.imp (fun y H2 q => ?_) fun _ _ _ q => q⟩
  obtain ⟨st2, ι2, w1, w2, rs2, r1, r2, p2⟩ := q
  unfold opIx at p2
  split at p2
  · split at p2
    · rename_i w e
      cases r2
      cases r1 with
      | @tup a vs _ sq k1 =>
        obtain ⟨v, e', rv⟩ := at_rv k1 e
        exact .inl ⟨a, vs, _, v, rfl, rfl, SqT.of sq, e', p2 H2 ι2 v Ext.refl rs2 rv⟩
    · exact (show False from p2).elim
  · split at p2
    · rename_i w e
      cases r2
      cases r1 with
      | @scr a vs _ sq k1 =>
        obtain ⟨v, e', rv⟩ := at_rv k1 e
        exact .inr (.inl ⟨a, vs, _, v, rfl, rfl, sql_old rs2 sq, e', p2 H2 ι2 v Ext.refl rs2 rv⟩)
    · exact (show False from p2).elim
  · split at p2
    · rename_i w e
      cases r2
      cases r1 with
      | @ktp a vs _ sq k1 =>
        obtain ⟨v, e', rv⟩ := at_rv k1 e
        exact .inl ⟨a, vs, _, v, rfl, rfl, sqt_old rs2 sq, e', p2 H2 ι2 v Ext.refl rs2 rv⟩
    · exact (show False from p2).elim
  · split at p2
    · rename_i hl
      split at p2
      · rename_i c e
        cases r2
        cases r1
        exact .inr (.inr ⟨_, _, c, rfl, rfl, le_line hl, e, p2 H2 ι2 _ Ext.refl rs2 (.str _)⟩)
      · exact (show False from p2).elim
    · exact (show False from p2).elim
  · split at p2
    · rename_i n i _ ws e0
      split at p2
      · rename_i w e
        obtain ⟨a, vs, rfl, _, h1, k1⟩ := rs2.list r1 e0
        cases r2
        obtain ⟨v, e', rv⟩ := at_rv k1 e
        exact .inr (.inl ⟨a, vs, _, v, rfl, rfl, .inl (.inl h1), e', p2 H2 ι2 v Ext.refl rs2 rv⟩)
      · exact (show False from p2).elim
    · exact (show False from p2).elim
  · exact (show False from p2).elim⟩
structure JO (X : Cx) (g : Gx) (W : WX) (e : Option Expr) (m : En → Mo (Option Int)) : Prop where
  po : PO X e (tG X.K g W (fun _ _ a b => a = b) m)
theorem PO.imp {X : Cx} {e : Option Expr} {t t' : TO} (h : PO X e t) (i : ∀ σ H Q, t' σ H Q → t σ H Q) : PO X e t' := ⟨fun pins s σ H Q I q => h.run pins s σ H Q I (i σ H Q q)⟩
theorem jo_none : JO X g W none oNone := ⟨PO.imp po_none fun σ H Q h => by
  obtain ⟨env, st, ι, rs, re, p⟩ := h
  exact p H ι none Ext.refl rs rfl⟩
theorem jo_some {e : Expr} {m : En → Mo Va} (h : JE X g W e m) : JO X g W (some e) (oSome m) := ⟨PO.imp (po_some h.pe) fun σ H Q q => by
  obtain ⟨env, st, ι, rs, re, p⟩ := q
  refine ⟨env, st, ι, rs, re, (Pst.bind (rel := rV X.K g) p).imp (fun x H1 q => ?_) fun _ _ _ q => q⟩
  obtain ⟨w, st1, ι1, ex, rs1, r1, p1⟩ := q
  cases w with
  | int i =>
    cases r1
    exact ⟨i, rfl, p1 H1 ι1 _ Ext.refl rs1 rfl⟩
  | _ => exact (show False from p1).elim⟩
theorem cut_rv {H0 H : Hp} {ι : List Addr} {ws : List Va} {vs : List V} (lo hi : Option Int) (k : RVs X.K H0 H ι ws vs) : RVs X.K H0 H ι (cutW ws lo hi) (cutV vs lo hi) := by
  unfold cutW cutV
  rw [← k.length]
  exact (k.drop _).take _
theorem j_sl {e : Expr} {lo hi : Option Expr} {m : En → Mo Va} {ml mh : En → Mo (Option Int)} {p2 : Pos} (he : JE X g W e m) (hl : JO X g W lo ml) (hh : JO X g W hi mh) : JE X g W (.Subscript e (.Slice lo hi none p2) pos) (eSl m ml mh) :=
  ⟨PE.imp (pe_slice (SlR.or sl_tupA (SlR.or sl_list sl_str)) he.pe hl.po hh.po) fun σ H Q q => by
    obtain ⟨env, st, ι, rs, re, p⟩ := q
    refine ⟨env, st, ι, rs, re, (Pst.bind (rel := rV X.K g) p).imp (fun x H1 q => ?_) fun _ _ _ q => q⟩
    obtain ⟨w, st1, ι1, ex, rs1, r1, p1⟩ := q
    refine ⟨env, st1, ι1, rs1, re.mono ex, (Pst.bind (rel := fun _ _ a b => a = b) p1).imp (fun l H2 q => ?_) fun _ _ _ q => q⟩
    obtain ⟨lw, st2, ι2, ex2, rs2, el, q2⟩ := q
    refine ⟨env, st2, ι2, rs2, (re.mono ex).mono ex2, (Pst.bind (rel := fun _ _ a b => a = b) q2).imp (fun h H3 q => ?_) fun _ _ _ q => q⟩
    obtain ⟨hw, st3, ι3, ex3, rs3, eh, q3⟩ := q
    obtain rfl : lw = l := el
    obtain rfl : hw = h := eh
    have r3 := (r1.mono ex2).mono ex3
    unfold opSl at q3
    split at q3
    · cases r3 with
      | @tup a vs ws sq k1 =>
        have k2 := cut_rv lw hw k1
        refine .inl ⟨a, vs, rfl, SqT.of sq, fun hz => ?_, fun _ p' hp => ?_⟩
        · refine q3 H3 ι3 _ Ext.refl rs3 (.tup sq ?_)
          have e : cutV vs lw hw = vs := by
            unfold cutV
            rw [hz.1, hz.2, List.drop_zero, Nat.sub_zero, List.take_length]
          rw [e] at k2
          exact k2
        · obtain ⟨x1, x2, x3⟩ := new_tup rs3 k2 hp
          exact q3 _ _ _ x1 x2 x3
    · split at q3
      · rename_i hl'
        cases r3
        exact .inr (.inr ⟨_, rfl, le_line hl', q3 H3 ι3 _ Ext.refl rs3 (.str _)⟩)
      · exact (show False from q3).elim
    · cases r3 with
      | @scr a vs ws sq k1 =>
        refine .inr (.inl ⟨a, vs, rfl, sql_old rs3 sq, fun p' hp => ?_⟩)
        obtain ⟨x1, x2, x3⟩ := new_lst rs3 (cut_rv lw hw k1) hp
        exact q3 _ _ _ x1 x2 x3
    · split at q3
      · rename_i n _ ws e0
        obtain ⟨a, vs, rfl, _, h1, k1⟩ := rs3.list r3 e0
        refine .inr (.inl ⟨a, vs, rfl, .inl (.inl h1), fun p' hp => ?_⟩)
        obtain ⟨x1, x2, x3⟩ := new_lst rs3 (cut_rv lw hw k1) hp
        exact q3 _ _ _ x1 x2 x3
      · exact (show False from q3).elim
    · exact (show False from q3).elim⟩

/-! ### unary, built-in functions -/
def opNeg : Va → Mo Va := fun a st => match a with
  | .int i => .ok (.int (-i)) st
  | _ => .no
theorem j_neg {a : Expr} {ma : En → Mo Va} (ha : JE X g W a ma) : JE X g W (.UnaryOp .USub a pos) (e1 opNeg ma) := ⟨PE.imp (pe_un un_neg ha.pe) fun σ H Q h => by
  obtain ⟨env, st, ι, rs, re, p⟩ := pst_e1 h
  refine ⟨env, st, ι, rs, re, p.imp (fun x H1 q => ?_) fun _ _ _ q => q⟩
  obtain ⟨st1, ι1, w1, rs1, r1, p1⟩ := q
  cases w1 with
  | int i =>
    cases r1
    exact ⟨i, rfl, p1 H1 ι1 _ Ext.refl rs1 (.int _)⟩
  | _ => exact (show False from p1).elim⟩
def cLen : List Va → Mo Va := fun ws st => match ws with
  | [.tup xs] => .ok (.int xs.length) st
  | [.scr xs] => .ok (.int xs.length) st
  | [.ktp xs] => .ok (.int xs.length) st
  | [.str x] => if x.length ≤ 16777216 then .ok (.int x.length) st else .no
  | [.ref n] => match st[n]? with
    | some (.lst xs) => .ok (.int xs.length) st
    | _ => .no
  | _ => .no
theorem nox_cLen : NoXA cLen := by intro a st c fs s h; unfold cLen at h; split at h <;> (try split at h) <;> cases h
theorem cs_len : CallS X g (.builtin "len") cLen := by
  intro pins s σ H xs us Q I r h
  obtain ⟨st, ι, ws, rs, rv, p⟩ := h
  unfold cLen at p
  split at p
  · cases rv with
    | cons ra rb =>
      cases rb
      cases ra with
      | @tup a vs _ sq k1 => exact call_len pins s σ H _ us Q I r ⟨_, _, rfl, .inr ⟨vs, SqT.of sq, rfl⟩, by rw [← k1.length]; exact p H ι _ Ext.refl rs (.int _)⟩
  · cases rv with
    | cons ra rb =>
      cases rb
      cases ra with
      | @scr a vs _ sq k1 => exact call_len pins s σ H _ us Q I r ⟨_, _, rfl, .inl ⟨vs, sql_old rs sq, rfl⟩, by rw [← k1.length]; exact p H ι _ Ext.refl rs (.int _)⟩
  · cases rv with
    | cons ra rb =>
      cases rb
      cases ra with
      | @ktp a vs _ sq k1 => exact call_len pins s σ H _ us Q I r ⟨_, _, rfl, .inr ⟨vs, sqt_old rs sq, rfl⟩, by rw [← k1.length]; exact p H ι _ Ext.refl rs (.int _)⟩
  · split at p
    · rename_i hl
      cases rv with
      | cons ra rb =>
        cases rb
        cases ra
        exact call_len pins s σ H _ us Q I r ⟨_, _, rfl, ⟨le_line hl, rfl⟩, p H ι _ Ext.refl rs (.int _)⟩
    · exact (show False from p).elim
  · split at p
    · rename_i n _ ys e0
      cases rv with
      | cons ra rb =>
        cases rb
        obtain ⟨a, vs, rfl, _, h1, k1⟩ := rs.list ra e0
        exact call_len pins s σ H _ us Q I r ⟨_, _, rfl, .inl ⟨vs, .inl (.inl h1), rfl⟩, by rw [← k1.length]; exact p H ι _ Ext.refl rs (.int _)⟩
    · exact (show False from p).elim
  · exact (show False from p).elim
def cAbs : List Va → Mo Va := fun ws st => match ws with
  | [.int i] => .ok (.int (if i < 0 then -i else i)) st
  | _ => .no
theorem nox_cAbs : NoXA cAbs := by intro a st c fs s h; unfold cAbs at h; split at h <;> cases h
theorem cs_abs : CallS X g (.builtin "abs") cAbs := by
  intro pins s σ H xs us Q I r h
  obtain ⟨st, ι, ws, rs, rv, p⟩ := h
  unfold cAbs at p
  split at p
  · cases rv with
    | cons ra rb =>
      cases rb
      cases ra
      exact call_abs pins s σ H _ us Q I r ⟨_, rfl, p H ι _ Ext.refl rs (.int _)⟩
  · exact (show False from p).elim
def cMax : List Va → Mo Va := fun ws st => match ws with
  | [.int i, .int j] => .ok (.int (if j > i then j else i)) st
  | _ => .no
def cMin : List Va → Mo Va := fun ws st => match ws with
  | [.int i, .int j] => .ok (.int (if j < i then j else i)) st
  | _ => .no
theorem nox_cMax : NoXA cMax := by intro a st c fs s h; unfold cMax at h; split at h <;> cases h
theorem nox_cMin : NoXA cMin := by intro a st c fs s h; unfold cMin at h; split at h <;> cases h
theorem cs_max (hc : X.calm = true) : CallS X g (.builtin "max") cMax := by
  intro pins s σ H xs us Q I r h
  obtain ⟨st, ι, ws, rs, rv, p⟩ := h
  unfold cMax at p
  split at p
  · cases rv with
    | cons ra rb =>
      cases rb with
      | cons rb rc =>
        cases rc
        cases ra
        cases rb
        exact call_max2 hc pins s σ H _ us Q I r ⟨_, _, rfl, p H ι _ Ext.refl rs (.int _)⟩
  · exact (show False from p).elim
theorem cs_min (hc : X.calm = true) : CallS X g (.builtin "min") cMin := by
  intro pins s σ H xs us Q I r h
  obtain ⟨st, ι, ws, rs, rv, p⟩ := h
  unfold cMin at p
  split at p
  · cases rv with
    | cons ra rb =>
      cases rb with
      | cons rb rc =>
        cases rc
        cases ra
        cases rb
        exact call_min2 hc pins s σ H _ us Q I r ⟨_, _, rfl, p H ι _ Ext.refl rs (.int _)⟩
  · exact (show False from p).elim
def cInt : List Va → Mo Va := fun ws st => match ws with
  | [.int i] => .ok (.int i) st
  | [.bl k] => .ok (.int (if k then 1 else 0)) st
  | [.str x] => match PySem.intText? x with
    | some n => if x.length ≤ 640 then .ok (.int n) st else .no
    | none => .no
  | _ => .no
theorem nox_cInt : NoXA cInt := by intro a st c fs s h; unfold cInt at h; split at h <;> (try split at h) <;> (try split at h) <;> cases h
theorem cs_int : CallS X g (.type "int") cInt := by
  intro pins s σ H xs us Q I r h
  obtain ⟨st, ι, ws, rs, rv, p⟩ := h
  unfold cInt at p
  split at p
  · cases rv with
    | cons ra rb =>
      cases rb
      cases ra
      exact call_int1 pins s σ H _ us Q I r (.inl ⟨_, rfl, p H ι _ Ext.refl rs (.int _)⟩)
  · cases rv with
    | cons ra rb =>
      cases rb
      cases ra
      exact call_int1 pins s σ H _ us Q I r (.inr ⟨_, rfl, p H ι _ Ext.refl rs (.int _)⟩)
  · split at p
    · rename_i n e
      split at p
      · rename_i hl
        cases rv with
        | cons ra rb =>
          cases rb
          cases ra
          exact call_int_str pins s σ H _ us Q I r ⟨_, _, rfl, e, hl, p H ι _ Ext.refl rs (.int _)⟩
      · exact (show False from p).elim
    · exact (show False from p).elim
  · exact (show False from p).elim
def cStr : List Va → Mo Va := fun ws st => match ws with
  | [.int i] => if i.natAbs.log2 < 1920 then .ok (.str (Str.ofString (toString i))) st else .no
  | _ => .no
theorem nox_cStr : NoXA cStr := by intro a st c fs s h; unfold cStr at h; split at h <;> (try split at h) <;> cases h
theorem cs_str : CallS X g (.type "str") cStr := by
  intro pins s σ H xs us Q I r h
  obtain ⟨st, ι, ws, rs, rv, p⟩ := h
  unfold cStr at p
  split at p
  · split at p
    · rename_i hl
      cases rv with
      | cons ra rb =>
        cases rb
        cases ra
        exact call_str_int pins s σ H _ us Q I r ⟨_, rfl, hl, p H ι _ Ext.refl rs (.str _)⟩
    · exact (show False from p).elim
  · exact (show False from p).elim
/-- all, any of a list of bools -/
def blsW : List Va → Option (List Bool)
  | [] => some []
  | .bl b :: r => (blsW r).map (b :: ·)
  | _ :: _ => none
theorem blsW_rv {H0 H : Hp} {ι : List Addr} : ∀ {ws : List Va} {bs : List Bool} {vs : List V}, blsW ws = some bs → RVs X.K H0 H ι ws vs → vs = bs.map V.bl
  | [], _, _, e, .nil => by cases e; rfl
  | .bl b :: ws, _, _, e, .cons r t => by
    have e' : (blsW ws).map (b :: ·) = _ := e
    rw [Option.map_eq_some_iff] at e'
    obtain ⟨bs, e1, rfl⟩ := e'
    cases r
    rw [blsW_rv e1 t]
    rfl
  | .non :: ws, _, _, e, _ => by cases e
  | .int _ :: ws, _, _, e, _ => by cases e
  | .str _ :: ws, _, _, e, _ => by cases e
  | .tup _ :: ws, _, _, e, _ => by cases e
  | .scr _ :: ws, _, _, e, _ => by cases e
  | .ktp _ :: ws, _, _, e, _ => by cases e
  | .ref _ :: ws, _, _, e, _ => by cases e
  | .cst _ :: ws, _, _, e, _ => by cases e
def cAll : List Va → Mo Va := fun ws st => match ws with
  | [.ref n] => match st[n]? with
    | some (.lst xs) => match blsW xs with
      | some bs => .ok (.bl (bs.all id)) st
      | none => .no
    | _ => .no
  | _ => .no
def cAny : List Va → Mo Va := fun ws st => match ws with
  | [.ref n] => match st[n]? with
    | some (.lst xs) => match blsW xs with
      | some bs => .ok (.bl (bs.any id)) st
      | none => .no
    | _ => .no
  | _ => .no
theorem nox_cAll : NoXA cAll := by intro a st c fs s h; unfold cAll at h; split at h <;> (try split at h) <;> (try split at h) <;> cases h
theorem nox_cAny : NoXA cAny := by intro a st c fs s h; unfold cAny at h; split at h <;> (try split at h) <;> (try split at h) <;> cases h
theorem cs_all (hc : X.calm = true) : CallS X g (.builtin "all") cAll := by
  intro pins s σ H xs us Q I r h
  obtain ⟨st, ι, ws, rs, rv, p⟩ := h
  unfold cAll at p
  split at p
  · split at p
    · rename_i n _ ys e0
      split at p
      · rename_i bs e1
        cases rv with
        | cons ra rb =>
          cases rb
          obtain ⟨a, vs, rfl, _, h1, k1⟩ := rs.list ra e0
          have := blsW_rv e1 k1
          subst this
          exact cr_all hc pins s σ H _ us Q I r ⟨a, bs, rfl, .inl (.inl h1), p H ι _ Ext.refl rs (.bl _)⟩
      · exact (show False from p).elim
    · exact (show False from p).elim
  · exact (show False from p).elim
theorem cs_any (hc : X.calm = true) : CallS X g (.builtin "any") cAny := by
  intro pins s σ H xs us Q I r h
  obtain ⟨st, ι, ws, rs, rv, p⟩ := h
  unfold cAny at p
  split at p
  · split at p
    · rename_i n _ ys e0
      split at p
      · rename_i bs e1
        cases rv with
        | cons ra rb =>
          cases rb
          obtain ⟨a, vs, rfl, _, h1, k1⟩ := rs.list ra e0
          have := blsW_rv e1 k1
          subst this
          exact cr_any hc pins s σ H _ us Q I r ⟨a, bs, rfl, .inl (.inl h1), p H ι _ Ext.refl rs (.bl _)⟩
      · exact (show False from p).elim
    · exact (show False from p).elim
  · exact (show False from p).elim
/-- list(x), tuple(x) -/
def cList : List Va → Mo Va := fun ws st => match ws with
  | [.tup xs] => .ok (.ref st.length) (st ++ [.lst xs])
  | [.scr xs] => .ok (.ref st.length) (st ++ [.lst xs])
  | [.ref n] => match st[n]? with
    | some (.lst xs) => .ok (.ref st.length) (st ++ [.lst xs])
    | _ => .no
  | _ => .no
def cTuple : List Va → Mo Va := fun ws st => match ws with
  | [.tup xs] => .ok (.tup xs) st
  | [.scr xs] => .ok (.tup xs) st
  | [.ref n] => match st[n]? with
    | some (.lst xs) => .ok (.tup xs) st
    | _ => .no
  | _ => .no
theorem nox_cList : NoXA cList := by intro a st c fs s h; unfold cList at h; split at h <;> (try split at h) <;> cases h
theorem nox_cTuple : NoXA cTuple := by intro a st c fs s h; unfold cTuple at h; split at h <;> (try split at h) <;> cases h
theorem cs_list : CallS X g (.type "list") cList := by
  intro pins s σ H xs us Q I r h
  obtain ⟨st, ι, ws, rs, rv, p⟩ := h
  unfold cList at p
  split at p
  · cases rv with
    | cons ra rb =>
      cases rb
      cases ra with
      | @tup a vs _ sq k1 =>
        refine call_list_of pins s σ H _ us Q I r ⟨a, vs, rfl, .inr (SqT.of sq), fun p' hp => ?_⟩
        obtain ⟨x1, x2, x3⟩ := new_lst rs k1 hp
        exact p _ _ _ x1 x2 x3
  · cases rv with
    | cons ra rb =>
      cases rb
      cases ra with
      | @scr a vs _ sq k1 =>
        refine call_list_of pins s σ H _ us Q I r ⟨a, vs, rfl, .inl (sql_old rs sq), fun p' hp => ?_⟩
        obtain ⟨x1, x2, x3⟩ := new_lst rs k1 hp
        exact p _ _ _ x1 x2 x3
  · split at p
    · rename_i n _ ys e0
      cases rv with
      | cons ra rb =>
        cases rb
        obtain ⟨a, vs, rfl, _, h1, k1⟩ := rs.list ra e0
        refine call_list_of pins s σ H _ us Q I r ⟨a, vs, rfl, .inl (.inl (.inl h1)), fun p' hp => ?_⟩
        obtain ⟨x1, x2, x3⟩ := new_lst rs k1 hp
        exact p _ _ _ x1 x2 x3
    · exact (show False from p).elim
  · exact (show False from p).elim
theorem cs_tuple : CallS X g (.type "tuple") cTuple := by
  intro pins s σ H xs us Q I r h
  obtain ⟨st, ι, ws, rs, rv, p⟩ := h
  unfold cTuple at p
  split at p
  · cases rv with
    | cons ra rb =>
      cases rb
      cases ra with
      | @tup a vs _ sq k1 => exact call_tuple_of pins s σ H _ us Q I r ⟨a, vs, rfl, .inr ⟨SqT.of sq, p H ι _ Ext.refl rs (.tup sq k1)⟩⟩
  · cases rv with
    | cons ra rb =>
      cases rb
      cases ra with
      | @scr a vs _ sq k1 =>
        refine call_tuple_of pins s σ H _ us Q I r ⟨a, vs, rfl, .inl ⟨sql_old rs sq, fun p' hp => ?_⟩⟩
        obtain ⟨x1, x2, x3⟩ := new_tup rs k1 hp
        exact p _ _ _ x1 x2 x3
  · split at p
    · rename_i n _ ys e0
      cases rv with
      | cons ra rb =>
        cases rb
        obtain ⟨a, vs, rfl, _, h1, k1⟩ := rs.list ra e0
        refine call_tuple_of pins s σ H _ us Q I r ⟨a, vs, rfl, .inl ⟨.inl (.inl h1), fun p' hp => ?_⟩⟩
        obtain ⟨x1, x2, x3⟩ := new_tup rs k1 hp
        exact p _ _ _ x1 x2 x3
    · exact (show False from p).elim
  · exact (show False from p).elim
end
end Sh

set_option Elab.async false
set_option linter.all false
set_option maxRecDepth 100000
set_option maxHeartbeats 4000000
namespace Sh
open PySem PySem.Spec PyProof.Rows L2

/-! ### isinstance of plain values, built-in classes -/
def tyW (st : Sto) : Va → Option String
  | .non => some "NoneType"
  | .bl _ => some "bool"
  | .int _ => some "int"
  | .str _ => some "str"
  | .tup _ => some "tuple"
  | .ref n => match st[n]? with
    | some (.lst _) => some "list"
    | some (.dct _) => some "dict"
    | _ => none
  | _ => none
def isiB (t T : String) : Option Bool :=
  if T = "int" then (if t = "int" ∨ t = "bool" then some true else if t = "NoneType" ∨ t = "str" ∨ t = "tuple" ∨ t = "list" ∨ t = "dict" then some false else none)
  else if T = "bool" then (if t = "bool" then some true else if t = "NoneType" ∨ t = "int" ∨ t = "str" ∨ t = "tuple" ∨ t = "list" ∨ t = "dict" then some false else none)
  else if T = "str" then (if t = "str" then some true else if t = "NoneType" ∨ t = "int" ∨ t = "bool" ∨ t = "tuple" ∨ t = "list" ∨ t = "dict" then some false else none)
  else if T = "tuple" then (if t = "tuple" then some true else if t = "NoneType" ∨ t = "int" ∨ t = "bool" ∨ t = "str" ∨ t = "list" ∨ t = "dict" then some false else none)
  else if T = "list" then (if t = "list" then some true else if t = "NoneType" ∨ t = "int" ∨ t = "bool" ∨ t = "str" ∨ t = "tuple" ∨ t = "dict" then some false else none)
  else if T = "dict" then (if t = "dict" then some true else if t = "NoneType" ∨ t = "int" ∨ t = "bool" ∨ t = "str" ∨ t = "tuple" ∨ t = "list" then some false else none)
  else none
theorem isiB_kit {t T : String} {b : Bool} (h : isiB t T = some b) : kitB t T = some b := by
  unfold isiB at h
  split at h
  · rename_i e; subst e
    split at h
    · rename_i q; cases h; rcases q with q | q <;> subst q <;> decide +kernel
    · split at h
      · rename_i q; cases h; rcases q with q | q | q | q | q <;> subst q <;> decide +kernel
      · cases h
  · split at h
    · rename_i e; subst e
      split at h
      · rename_i q; cases h; subst q; decide +kernel
      · split at h
        · rename_i q; cases h; rcases q with q | q | q | q | q | q <;> subst q <;> decide +kernel
        · cases h
    · split at h
      · rename_i e; subst e
        split at h
        · rename_i q; cases h; subst q; decide +kernel
        · split at h
          · rename_i q; cases h; rcases q with q | q | q | q | q | q <;> subst q <;> decide +kernel
          · cases h
      · split at h
        · rename_i e; subst e
          split at h
          · rename_i q; cases h; subst q; decide +kernel
          · split at h
            · rename_i q; cases h; rcases q with q | q | q | q | q | q <;> subst q <;> decide +kernel
            · cases h
        · split at h
          · rename_i e; subst e
            split at h
            · rename_i q; cases h; subst q; decide +kernel
            · split at h
              · rename_i q; cases h; rcases q with q | q | q | q | q | q <;> subst q <;> decide +kernel
              · cases h
          · split at h
            · rename_i e; subst e
              split at h
              · rename_i q; cases h; subst q; decide +kernel
              · split at h
                · rename_i q; cases h; rcases q with q | q | q | q | q | q <;> subst q <;> decide +kernel
                · cases h
            · cases h
def cIsi : List Va → Mo Va := fun ws st => match ws with
  | [w, .cst (.ty T)] => match tyW st w with
    | some t => match isiB t T with
      | some b => .ok (.bl b) st
      | none => .no
    | none => .no
  | _ => .no
theorem nox_cIsi : NoXA cIsi := by intro a st c fs s h; unfold cIsi at h; split at h <;> (try split at h) <;> (try split at h) <;> cases h
section
variable {X : Cx} {g : Gx} {W : WX} {pos : Pos}
theorem ty_of {st : Sto} {H : Hp} {ι : List Addr} {w : Va} {v : V} {t : String} (rs : RS X.K g st H ι) (r : RV X.K g.H0 H ι w v) (e : tyW st w = some t) : TyX X.K H v (.type t) := by
  cases r with
  | non => cases e; exact .base .non
  | bl b => cases e; exact .base (.bl b)
  | int i => cases e; exact .base (.int i)
  | str x => cases e; exact .base (.str x)
  | tup h k => cases e; exact .base (.tup h)
  | scr h k => cases e
  | ktp h k => cases e
  | @ref n a h =>
    have e' : (match st[n]? with | some (.lst _) => some "list" | some (.dct _) => some "dict" | _ => none) = some t := e
    split at e'
    · rename_i ws q
      cases e'
      obtain ⟨vs, h1, _⟩ := rs.obj n _ a q h
      exact .base (.lst h1)
    · rename_i ws q
      cases e'
      obtain ⟨vs, h1, _⟩ := rs.obj n _ a q h
      exact .base (.dK h1)
    · cases e'
  | cst v => cases e
theorem cs_isi : CallS X g (.builtin "isinstance") cIsi := by
  intro pins s σ H xs us Q I r h
  obtain ⟨st, ι, ws, rs, rv, p⟩ := h
  unfold cIsi at p
  split at p
  · split at p
    · rename_i t e1
      split at p
      · rename_i b e2
        cases rv with
        | cons ra rb =>
          cases rb with
          | cons rb rc =>
            cases rc
            cases rb
            exact call_isi pins s σ H _ us Q I r ⟨_, _, .type t, .type _, b, rfl, .ty _, ty_of rs ra e1, kit_ty (isiB_kit e2), p H ι _ Ext.refl rs (.bl _)⟩
      · exact (show False from p).elim
    · exact (show False from p).elim
  · exact (show False from p).elim

/-! ### methods of texts and lists -/
def MetS (X : Cx) (g : Gx) (id : String) (op : Va → List Va → Mo Va) : Prop :=
  MtR X id fun x xs H Q => ∃ st ι w ws, RS X.K g st H ι ∧ RV X.K g.H0 H ι w x ∧ RVs X.K g.H0 H ι ws xs ∧ Pst X.K g (rV X.K g) (op w ws st) H ι Q (fun _ _ _ => False)
def isT (T : String) (st : Sto) : Va → Bool
  | .str _ => decide (T = "str")
  | .scr _ => decide (T = "list")
  | .ref n => match st[n]? with
    | some (.lst _) => decide (T = "list")
    | some (.dct _) => decide (T = "dict")
    | _ => false
  | _ => false
theorem isT_ok {T : String} {st : Sto} {H : Hp} {ι : List Addr} {w : Va} {v : V} (rs : RS X.K g st H ι) (r : RV X.K g.H0 H ι w v) (e : isT T st w = true) : tyV X.K T v H := by
  cases r with
  | str x =>
    have e' : T = "str" := of_decide_eq_true e
    exact e'
  | scr h k => exact .inl ⟨of_decide_eq_true e, _, sql_old rs h⟩
  | @ref n a h =>
    have e' : (match st[n]? with | some (.lst _) => decide (T = "list") | some (.dct _) => decide (T = "dict") | _ => false) = true := e
    split at e'
    · rename_i ws q
      obtain ⟨vs, h1, _⟩ := rs.obj n _ a q h
      exact .inl ⟨of_decide_eq_true e', _, .inl (.inl h1)⟩
    · rename_i ws q
      obtain ⟨vs, h1, _⟩ := rs.obj n _ a q h
      exact .inr (.inr (.inl ⟨of_decide_eq_true e', .inl ⟨_, h1⟩⟩))
    · cases e'
  | _ => cases e
def eMt (T : String) (op : Va → List Va → Mo Va) (m : En → Mo Va) (ma : En → Mo (List Va)) : En → Mo Va := fun env st => bnd (m env st) fun w st1 => if isT T st1 w = true then bnd (ma env st1) fun ws st2 => op w ws st2 else .no
def NoXM (op : Va → List Va → Mo Va) : Prop := ∀ w ws st, NoX (op w ws st)
theorem j_mt {o e : Expr} {es : List Expr} {T id : String} {name : Str} {apos cpos : Pos} {op : Va → List Va → Mo Va} {m : En → Mo Va} {ma : En → Mo (List Va)} (h1 : PlainAttrs T) (h2 : Slot T name id) (h3 : typeOf (.builtin id) = pure (.type "method_descriptor"))
    (hm : MetS X g id op) (n : NoXM op) (ho : JE X g W o m) (ha : JA X g W (e :: es) ma) (q1 : attributeBase o name X.env (eval o X.env) = eval o X.env := by rfl)
    (q2 : ((backTo cpos (starEach (e :: es) X.env)).all (fun x => !x.1) && (backToKw cpos (keywordEach [] X.env)).all (fun x => x.1.isSome) && decide ((e :: es).length + ([] : List Keyword).length + (if ([] : List Keyword).isEmpty = true then 0 else 1) < 30)) = true := by rfl)
    (q3 : (apos.endLine == cpos.line) = true := by rfl) (q4 : starEach (e :: es) X.env = (false, eval e X.env) :: starEach es X.env := by rfl) (q5 : (backTo cpos (starEach es X.env)).any (·.1) = false := by rfl) :
    JE X g W (.Call (.Attribute o name apos) (e :: es) [] cpos) (eMt T op m ma) := ⟨PE.imp (pe_bm h1 h2 h3 hm ho.pe ha.pa q1 q2 q3 q4 q5) fun σ H Q q => by
  obtain ⟨env, st, ι, rs, re, p⟩ := q
  refine ⟨env, st, ι, rs, re, (Pst.bind (rel := rV X.K g) p).imp (fun x H1 q => ?_) fun _ _ _ q => q⟩
  obtain ⟨w, st1, ι1, ex, rs1, r1, p1⟩ := q
  split at p1
  · rename_i hT
    refine ⟨isT_ok rs1 r1 hT, env, st1, ι1, rs1, re.mono ex, (Pst.bind (rel := rVs X.K g) p1).imp (fun xs H2 q => ?_) fun _ _ _ q => q⟩
    obtain ⟨ws, st2, ι2, ex2, rs2, r2, p2⟩ := q
    exact ⟨st2, ι2, w, ws, rs2, r1.mono ex2, r2, p2.nox (n _ _ _)⟩
  · exact (show False from p1).elim⟩
theorem j_mt0 {o : Expr} {T id : String} {name : Str} {apos cpos : Pos} {op : Va → List Va → Mo Va} {m : En → Mo Va} (h1 : PlainAttrs T) (h2 : Slot T name id) (h3 : typeOf (.builtin id) = pure (.type "method_descriptor"))
    (hm : MetS X g id op) (n : NoXM op) (ho : JE X g W o m) (q1 : attributeBase o name X.env (eval o X.env) = eval o X.env := by rfl) (q3 : (apos.endLine == cpos.line) = true := by rfl) :
    JE X g W (.Call (.Attribute o name apos) [] [] cpos) (eMt T op m aNil) := ⟨PE.imp (pe_bm0 h1 h2 h3 hm ho.pe q1 q3) fun σ H Q q => by
  obtain ⟨env, st, ι, rs, re, p⟩ := q
  refine ⟨env, st, ι, rs, re, (Pst.bind (rel := rV X.K g) p).imp (fun x H1 q => ?_) fun _ _ _ q => q⟩
  obtain ⟨w, st1, ι1, ex, rs1, r1, p1⟩ := q
  split at p1
  · rename_i hT
    exact ⟨isT_ok rs1 r1 hT, st1, ι1, w, [], rs1, r1, .nil, Pst.nox (n w [] st1) (show Pst X.K g (rV X.K g) (op w [] st1) H1 ι1 Q _ from p1)⟩
  · exact (show False from p1).elim⟩
def strsW (ys : List Str) : List Va := ys.map Va.str
theorem strs_rv {H0 H : Hp} {ι : List Addr} : ∀ ys : List Str, RVs X.K H0 H ι (strsW ys) (ys.map V.str)
  | [] => .nil
  | y :: ys => .cons (.str y) (strs_rv ys)
def mSplit : Va → List Va → Mo Va := fun w ws st => match w, ws with
  | .str a, [.str b] => if (b.length == 0) = false ∧ a.length + 2 ≤ 16777216 then .ok (.ref st.length) (st ++ [.lst (strsW (Txt.split a b))]) else .no
  | _, _ => .no
theorem nox_mSplit : NoXM mSplit := by intro a b st c fs s h; unfold mSplit at h; split at h <;> (try split at h) <;> cases h
theorem ms_split : MetS X g "str.split" mSplit := by
  intro pins s σ H x xs v us Q I rx rxs h
  obtain ⟨st, ι, w, ws, rs, rw', rv, p⟩ := h
  unfold mSplit at p
  split at p
  · split at p
    · rename_i hc
      cases rw'
      cases rv with
      | cons ra rb =>
        cases rb
        cases ra
        refine mt_split pins s σ H _ _ v us Q I rx rxs ⟨_, _, rfl, rfl, hc.1, le_line hc.2, fun p' hp => ?_⟩
        obtain ⟨x1, x2, x3⟩ := new_lst rs (strs_rv (X := X) (H0 := g.H0) (ι := ι) (H := H) _) hp
        exact p _ _ _ x1 x2 x3
    · exact (show False from p).elim
  · exact (show False from p).elim
def unstr : List Va → Option (List Str)
  | [] => some []
  | .str x :: r => (unstr r).map (x :: ·)
  | _ :: _ => none
theorem unstr_eq : ∀ {ws : List Va} {ys : List Str}, unstr ws = some ys → ws = strsW ys
  | [], _, e => by cases e; rfl
  | .str x :: ws, _, e => by
    have e' : (unstr ws).map (x :: ·) = _ := e
    rw [Option.map_eq_some_iff] at e'
    obtain ⟨ys, e1, rfl⟩ := e'
    rw [unstr_eq e1]
    rfl
  | .non :: _, _, e => by cases e
  | .bl _ :: _, _, e => by cases e
  | .int _ :: _, _, e => by cases e
  | .tup _ :: _, _, e => by cases e
  | .scr _ :: _, _, e => by cases e
  | .ktp _ :: _, _, e => by cases e
  | .ref _ :: _, _, e => by cases e
  | .cst _ :: _, _, e => by cases e
theorem strs_inv {H0 H : Hp} {ι : List Addr} : ∀ {ys : List Str} {vs : List V}, RVs X.K H0 H ι (strsW ys) vs → vs = ys.map V.str
  | [], _, .nil => rfl
  | y :: ys, _, .cons r t => by
    cases r
    rw [strs_inv t]
    rfl
def mJoin : Va → List Va → Mo Va := fun w ws st => match w, ws with
  | .str a, [.ref n] => match st[n]? with
    | some (.lst xs) => match unstr xs with
      | some ys => if (ys.map (·.length)).sum + ys.length * a.length ≤ 16777216 then .ok (.str (Txt.join a ys)) st else .no
      | none => .no
    | _ => .no
  | _, _ => .no
theorem nox_mJoin : NoXM mJoin := by intro a b st c fs s h; unfold mJoin at h; split at h <;> (try split at h) <;> (try split at h) <;> (try split at h) <;> cases h
theorem ms_join : MetS X g "str.join" mJoin := by
  intro pins s σ H x xs v us Q I rx rxs h
  obtain ⟨st, ι, w, ws, rs, rw', rv, p⟩ := h
  unfold mJoin at p
  split at p
  · split at p
    · rename_i n _ zs e0
      split at p
      · rename_i ys e1
        split at p
        · rename_i hl
          cases rw'
          cases rv with
          | cons ra rb =>
            cases rb
            obtain ⟨a, vs, rfl, _, h1, k1⟩ := rs.list ra e0
            rw [unstr_eq e1] at k1
            rw [strs_inv k1] at h1
            exact mt_join pins s σ H _ _ v us Q I rx rxs ⟨_, a, ys, rfl, rfl, .inl (.inl (.inl h1)), hl, p H ι _ Ext.refl rs (.str _)⟩
        · exact (show False from p).elim
      · exact (show False from p).elim
    · exact (show False from p).elim
  · exact (show False from p).elim
def mAppend : Va → List Va → Mo Va := fun w ws st => match w, ws with
  | .ref n, [y] => match st[n]? with
    | some (.lst xs) => if xs.length < 16777216 then .ok .non (st.set n (.lst (xs ++ [y]))) else .no
    | _ => .no
  | _, _ => .no
theorem nox_mAppend : NoXM mAppend := by intro a b st c fs s h; unfold mAppend at h; split at h <;> (try split at h) <;> (try split at h) <;> cases h
theorem lt_line {n : Nat} (h : n < 16777216) : n < sizeLine := by rw [sizeLine_eq]; exact h
/-- a list of the store is changed -/
theorem put_lst {st : Sto} {H : Hp} {ι : List Addr} {n : Nat} {a : Addr} {ws : List Va} {vs : List V} (rs : RS X.K g st H ι) (ha : ι[n]? = some a) (r : RVs X.K g.H0 H ι ws vs) :
    Ext X.K H ι (upd H a (.lst vs)) ι ∧ RS X.K g (st.set n (.lst ws)) (upd H a (.lst vs)) ι := by
  obtain ⟨u, hu, ow⟩ := rs.mem (List.mem_of_getElem? ha)
  have e : Ext X.K H ι (upd H a (.lst vs)) ι := ext_own (n := n) rs hu ow
  exact ⟨e, rs.put ha ⟨vs, upd_same, r.mono e⟩⟩
theorem ms_append : MetS X g "list.append" mAppend := by
  intro pins s σ H x xs v us Q I rx rxs h
  obtain ⟨st, ι, w, ws, rs, rw', rv, p⟩ := h
  unfold mAppend at p
  split at p
  · split at p
    · rename_i n y _ zs e0
      split at p
      · rename_i hl
        obtain ⟨a, vs, rfl, ha, h1, k1⟩ := rs.list rw' e0
        cases rv with
        | cons ra rb =>
          cases rb
          refine mt_append pins s σ H _ _ v us Q I rx rxs ⟨a, vs, _, rfl, rfl, h1, lt_line (by rw [← k1.length]; exact hl), ?_⟩
          obtain ⟨x1, x2⟩ := put_lst rs ha (k1.append (.cons ra .nil))
          exact p _ _ _ x1 x2 .non
      · exact (show False from p).elim
    · exact (show False from p).elim
  · exact (show False from p).elim
def mExtend : Va → List Va → Mo Va := fun w ws st => match w, ws with
  | .ref n, [.ref m] => match st[n]?, st[m]? with
    | some (.lst xs), some (.lst ys) => if xs.length + ys.length ≤ 16777216 then .ok .non (st.set n (.lst (xs ++ ys))) else .no
    | _, _ => .no
  | _, _ => .no
theorem nox_mExtend : NoXM mExtend := by intro a b st c fs s h; unfold mExtend at h; split at h <;> (try split at h) <;> (try split at h) <;> cases h
theorem ms_extend : MetS X g "list.extend" mExtend := by
  intro pins s σ H x xs v us Q I rx rxs h
  obtain ⟨st, ι, w, ws, rs, rw', rv, p⟩ := h
  unfold mExtend at p
  split at p
  · split at p
    · rename_i n m _ _ zs ys e0 e1
      split at p
      · rename_i hl
        obtain ⟨a, vs, rfl, ha, h1, k1⟩ := rs.list rw' e0
        cases rv with
        | cons ra rb =>
          cases rb
          obtain ⟨b, us', rfl, hb, h2, k2⟩ := rs.list ra e1
          refine mt_extend pins s σ H _ _ v us Q I rx rxs ⟨a, b, vs, us', rfl, rfl, h1, h2, le_line (by rw [← k1.length, ← k2.length]; exact hl), ?_⟩
          obtain ⟨x1, x2⟩ := put_lst rs ha (k1.append k2)
          exact p _ _ _ x1 x2 .non
      · exact (show False from p).elim
    · exact (show False from p).elim
  · exact (show False from p).elim
def mPop : Va → List Va → Mo Va := fun w ws st => match w, ws with
  | .ref n, [] => match st[n]? with
    | some (.lst xs) => match xs[xs.length - 1]? with
      | some y => .ok y (st.set n (.lst xs.dropLast))
      | none => .no
    | _ => .no
  | _, _ => .no
theorem nox_mPop : NoXM mPop := by intro a b st c fs s h; unfold mPop at h; split at h <;> (try split at h) <;> (try split at h) <;> cases h
theorem RVs.dropLast {K : PySem.W.Frag} {H0 H : Hp} {ι : List Addr} {ws : List Va} {vs : List V} (k : RVs K H0 H ι ws vs) : RVs K H0 H ι ws.dropLast vs.dropLast := by
  rw [List.dropLast_eq_take, List.dropLast_eq_take, k.length]
  exact k.take _
theorem ms_pop : MetS X g "list.pop" mPop := by
  intro pins s σ H x xs v us Q I rx rxs h
  obtain ⟨st, ι, w, ws, rs, rw', rv, p⟩ := h
  unfold mPop at p
  split at p
  · split at p
    · rename_i n _ zs e0
      split at p
      · rename_i y e1
        obtain ⟨a, vs, rfl, ha, h1, k1⟩ := rs.list rw' e0
        cases rv
        obtain ⟨y', e2, ry⟩ := k1.get e1
        rw [k1.length] at e2
        refine mt_pop pins s σ H _ _ v us Q I rx rxs ⟨a, vs, y', rfl, rfl, h1, e2, ?_⟩
        obtain ⟨x1, x2⟩ := put_lst rs ha k1.dropLast
        exact p _ _ _ x1 x2 (ry.mono x1)
      · exact (show False from p).elim
    · exact (show False from p).elim
  · exact (show False from p).elim

/-! ### attributes of instances -/
def eFld (cs : List Nat) (f : Str) (m : En → Mo Va) : En → Mo Va := fun env st => bnd (m env st) fun w st1 => match w with
  | .ref n => match st1[n]? with
    | some (.ins c fs) => if c ∈ cs then (match fs.lookup f with
      | some x => .ok x st1
      | none => .no) else .no
    | _ => .no
  | _ => .no
theorem pf_lookup {H : Hp} {ι : List Addr} {f : Str} : ∀ {fs : List (Str × Va)} {fs' : List (Str × V)} {x : Va}, PF X.K g H ι fs fs' → fs.lookup f = some x → ∃ v, fs'.lookup f = some v ∧ RV X.K g.H0 H ι x v
  | _, _, _, .nil, e => by cases e
  | (k, y) :: fs, (k', y') :: fs', x, .cons r t, e => by
    obtain ⟨r1, r2⟩ := r
    have r1' : k = k' := r1
    subst r1'
    rw [List.lookup_cons] at e ⊢
    cases h : (f == k) with
    | true =>
      rw [h] at e
      cases e
      exact ⟨_, rfl, r2⟩
    | false =>
      rw [h] at e
      exact pf_lookup t e
/-- what is asked of a class of the program: its attributes are plain -/
def FldOk (K : PySem.W.Frag) (g : Gx) (cs : List Nat) (f : Str) : Prop := ∀ c ∈ cs, Cls K (g.cls c) ∧ NoAttr K (g.cls c) f
theorem j_fld {o : Expr} {f : Str} {cs : List Nat} {m : En → Mo Va} (hf : FldOk X.K g cs f) (ho : JE X g W o m) (hb : attributeBase o f X.env (eval o X.env) = eval o X.env := by rfl) : JE X g W (.Attribute o f pos) (eFld cs f m) := ⟨PE.imp (pe_fld ho.pe hb) fun σ H Q q => by
  obtain ⟨env, st, ι, rs, re, p⟩ := q
  refine ⟨env, st, ι, rs, re, (Pst.bind (rel := rV X.K g) p).imp (fun x H1 q => ?_) fun _ _ _ q => q⟩
  obtain ⟨w, st1, ι1, ex, rs1, r1, p1⟩ := q
  cases w with
  | ref n =>
    cases r1 with
    | @ref _ a ha =>
      dsimp only at p1
      split at p1
      · rename_i c fs e0
        split at p1
        · rename_i hc
          split at p1
          · rename_i x e1
            obtain ⟨dx, fs', h1, k1⟩ := rs1.obj n _ a e0 ha
            obtain ⟨v, e2, rv⟩ := pf_lookup k1 e1
            exact ⟨a, _, dx, fs', v, rfl, h1, (hf c hc).1, (hf c hc).2, e2, p1 H1 ι1 v Ext.refl rs1 rv⟩
          · exact (show False from p1).elim
        · exact (show False from p1).elim
      · exact (show False from p1).elim
  | _ => exact (show False from p1).elim⟩
def putW (f : Str) (v : Va) : List (Str × Va) → List (Str × Va)
  | [] => [(f, v)]
  | (k, x) :: r => if k = f then (k, v) :: r else (k, x) :: putW f v r
theorem pf_put {H : Hp} {ι : List Addr} {f : Str} {x : Va} {v : V} (r : RV X.K g.H0 H ι x v) : ∀ {fs : List (Str × Va)} {fs' : List (Str × V)}, PF X.K g H ι fs fs' → PF X.K g H ι (putW f x fs) (putF f v fs')
  | _, _, .nil => .cons ⟨rfl, r⟩ .nil
  | (k, y) :: fs, (k', y') :: fs', .cons q t => by
    obtain ⟨q1, q2⟩ := q
    have q1' : k = k' := q1
    subst q1'
    unfold putW putF
    by_cases h : k = f
    · rw [if_pos h, if_pos h]
      exact .cons ⟨rfl, r⟩ t
    · rw [if_neg h, if_neg h]
      exact .cons ⟨rfl, q2⟩ (pf_put r t)
theorem pf_length {H : Hp} {ι : List Addr} {κ : Type} : ∀ {fs : List (κ × Va)} {fs' : List (κ × V)}, PF X.K g H ι fs fs' → fs.length = fs'.length := fun h => Paired.length h
def fldT (cs : List Nat) (f : Str) (env : En) (y : Va) : Va → Sto → Fl := fun w st2 => match w with
  | .ref n => match st2[n]? with
    | some (.ins c fs) => if c ∈ cs ∧ fs.length < 1000 then .nx env (st2.set n (.ins c (putW f y fs))) else .no
    | _ => .no
  | _ => .no
def sFld (cs : List Nat) (f : Str) (mo mv : En → Mo Va) : Sm := fun env st => bS env (mv env st) fun y st1 => bS env (mo env st1) (fldT cs f env y)
theorem put_ins {st : Sto} {H : Hp} {ι : List Addr} {n c : Nat} {a dx : Addr} {fs : List (Str × Va)} {fs' : List (Str × V)} (rs : RS X.K g st H ι) (ha : ι[n]? = some a) (r : PF X.K g H ι fs fs') :
    Ext X.K H ι (upd H a (.ins (g.cls c) dx fs')) ι ∧ RS X.K g (st.set n (.ins c fs)) (upd H a (.ins (g.cls c) dx fs')) ι := by
  obtain ⟨u, hu, ow⟩ := rs.mem (List.mem_of_getElem? ha)
  have e : Ext X.K H ι (upd H a (.ins (g.cls c) dx fs')) ι := ext_own (n := n) rs hu ow
  exact ⟨e, rs.put ha ⟨dx, fs', upd_same, PF.mono e r⟩⟩
theorem js_fld {o value : Expr} {f : Str} {pos' : Pos} {cs : List Nat} {mo mv : En → Mo Va} (hf : FldOk X.K g cs f) (ho : JE X g W o mo) (hv : JE X g W value mv) (hs : swapsWith value (some (.Attribute o f pos')) pos.line X.env = pure false := by rfl) :
    JS X g W (.Assign [.Attribute o f pos'] value pos) (sFld cs f mo mv) := ⟨PS.imp (ps_fld ho.pe hv.pe hs) fun D σ H q => by
  obtain ⟨env, st, ι, rs, re, p⟩ := tG_bS (rel := rV X.K g) q
  refine ⟨env, st, ι, rs, re, p.imp (fun y H1 q => ?_) fun _ _ _ q => q⟩
  obtain ⟨env1, wy, st1, ι1, rs1, re1, ry, p1⟩ := q
  refine ⟨env1, st1, ι1, rs1, re1, ?_⟩
  have p1' : PstS X.K g W (bS env1 (mo env1 st1) (fldT cs f env1 wy)) H1 ι1 D := p1
  revert p1'
  show PstS X.K g W (bS env1 (mo env1 st1) (fldT cs f env1 wy)) H1 ι1 D → Pst X.K g (rV X.K g) (mo env1 st1) H1 ι1 _ _
  clear p1
  generalize mo env1 st1 = r
  intro p1
  cases r with
  | no => exact p1
  | exc c fs st2 => exact fun H' ι' d fs' e rs' hd pf => p1 H' ι' σ d fs' e rs' (re1.mono e) hd pf
  | ok w st2 =>
    intro H2 ι2 x e2 rs2 r2
    have p2 : PstS X.K g W (fldT cs f env1 wy w st2) H2 ι2 D := PstS.shift (r := fldT cs f env1 wy w st2) p1 e2
    unfold fldT at p2
    cases w with
    | ref n =>
      cases r2 with
      | @ref _ a ha =>
        dsimp only at p2
        split at p2
        · rename_i c fs e0
          split at p2
          · rename_i hc
            obtain ⟨dx, fs', h1, k1⟩ := rs2.obj n _ a e0 ha
            refine ⟨a, _, dx, fs', rfl, h1, (hf c hc.1).1, (hf c hc.1).2, by rw [← pf_length (X := X) (g := g) k1]; exact hc.2, ?_⟩
            obtain ⟨x1, x2⟩ := put_ins (c := c) (dx := dx) rs2 ha (pf_put (f := f) (ry.mono e2) k1)
            exact p2 _ _ σ x1 x2 ((re1.mono e2).mono x1)
          · exact (show False from p2).elim
        · exact (show False from p2).elim
    | _ => exact (show False from p2).elim⟩
/-- self.f += e, ints -/
def augT (f : Str) (env : En) (n c : Nat) (i : Int) : Va → Sto → Fl := fun y st2 => match y with
  | .int j => match st2[n]? with
    | some (.ins c' fs') => if c' = c ∧ fs'.length < 1000 then .nx env (st2.set n (.ins c' (putW f (.int (i + j)) fs'))) else .no
    | _ => .no
  | _ => .no
def sAugF (cs : List Nat) (f : Str) (mo mv : En → Mo Va) : Sm := fun env st => bS env (mo env st) fun w st1 => match w with
  | .ref n => match st1[n]? with
    | some (.ins c fs) => if c ∈ cs then (match fs.lookup f with
      | some (.int i) => bS env (mv env st1) (augT f env n c i)
      | _ => .no) else .no
    | _ => .no
  | _ => .no
theorem js_augF {o value : Expr} {f : Str} {tpos : Pos} {cs : List Nat} {mo mv : En → Mo Va} (hf : FldOk X.K g cs f) (ho : JE X g W o mo) (hv : JE X g W value mv) : JS X g W (.AugAssign (.Attribute o f tpos) .Add value pos) (sAugF cs f mo mv) := ⟨PS.imp (ps_fldaug ho.pe hv.pe in_add) fun D σ H q => by
  obtain ⟨env, st, ι, rs, re, p⟩ := tG_bS (rel := rV X.K g) q
  refine ⟨env, st, ι, rs, re, p.imp (fun x H1 q => ?_) fun _ _ _ q => q⟩
  obtain ⟨env1, w, st1, ι1, rs1, re1, r1, p1⟩ := q
  cases w with
  | ref n =>
    cases r1 with
    | @ref _ a ha =>
      dsimp only at p1
      split at p1
      · rename_i c fs e0
        split at p1
        · rename_i hc
          split at p1
          · rename_i i e1
            obtain ⟨dx, fs', h1, k1⟩ := rs1.obj n _ a e0 ha
            obtain ⟨v, e2, rv⟩ := pf_lookup k1 e1
            cases rv
            refine ⟨a, _, dx, fs', _, rfl, h1, (hf c hc).1, (hf c hc).2, e2, env1, st1, ι1, rs1, re1, ?_⟩
            revert p1
            show PstS X.K g W (bS env1 (mv env1 st1) (augT f env1 n c i)) H1 ι1 D → Pst X.K g (rV X.K g) (mv env1 st1) H1 ι1 _ _
            generalize mv env1 st1 = r
            intro p1
            cases r with
            | no => exact (show False from p1).elim
            | exc c fs st2 => exact fun H' ι' d fs' e rs' hd pf => p1 H' ι' σ d fs' e rs' (re1.mono e) hd pf
            | ok y st2 =>
              intro H2 ι2 vy e3 rs2 r2
              have p2 : PstS X.K g W (augT f env1 n c i y st2) H2 ι2 D := PstS.shift (r := augT f env1 n c i y st2) p1 e3
              unfold augT at p2
              cases y with
              | int j =>
                cases r2
                dsimp only at p2
                split at p2
                · rename_i c' fs2 e4
                  split at p2
                  · rename_i hc'
                    obtain ⟨rfl, hl⟩ := hc'
                    obtain ⟨dx2, fs2', h2, k2⟩ := rs2.obj n _ a e4 (e3.get ha)
                    refine ⟨i, j, rfl, rfl, dx2, fs2', h2, by rw [← pf_length (X := X) (g := g) k2]; exact hl, ?_⟩
                    obtain ⟨x1, x2⟩ := put_ins (c := c') (dx := dx2) rs2 (e3.get ha) (pf_put (f := f) (RV.int (i + j)) k2)
                    exact p2 _ _ σ x1 x2 ((re1.mono e3).mono x1)
                  · exact (show False from p2).elim
                · exact (show False from p2).elim
              | _ => exact (show False from p2).elim
          · exact (show False from p1).elim
        · exact (show False from p1).elim
      · exact (show False from p1).elim
  | _ => exact (show False from p1).elim⟩
end
end Sh

set_option Elab.async false
set_option linter.all false
set_option maxRecDepth 100000
set_option maxHeartbeats 4000000
namespace Sh
open PySem PySem.Spec PyProof.Rows L2

/-! ### defs: the promise that a def does what a plain function does -/
abbrev Fn := List Va → Mo Va
def spM (K : PySem.W.Frag) (g : Gx) (n : Nat) (F : Fn) : Sp := fun vs H Q E => ∃ ws st ι, ws.length = n ∧ RS K g st H ι ∧ RVs K g.H0 H ι ws vs ∧ Pst K g (rV K g) (F ws st) H ι Q E
/-- a def of the text, callable: at most k calls deep -/
structure DefOk (P : Program) (w : World) (K : PySem.W.Frag) (mg : Str → Option Value) (base : Heap) (g : Gx) (k : Nat) (x : Str) (n : Nat) (F : Fn) : Prop where
  ex : ∃ (f : Addr) (fd : FuncData) (ps : List Str), FnOk P w K mg base (L2.CX P w) k f fd ps (spM K g n F) ∧ ps.length = n ∧ Binds K fd ps [] ∧ mg x = some (.ref f) ∧ PySem.W.keepIn K (.ref f) = true
/-- .. with defaults for the last parameters -/
structure DefOkD (P : Program) (w : World) (K : PySem.W.Frag) (mg : Str → Option Value) (base : Heap) (g : Gx) (k : Nat) (x : Str) (n : Nat) (dws : List Va) (F : Fn) : Prop where
  ex : ∃ (f : Addr) (fd : FuncData) (ps : List Str) (ds : List Value) (dvs : List V), FnOk P w K mg base (L2.CX P w) k f fd ps (spM K g n F) ∧ ps.length = n ∧ Binds K fd ps ds ∧ Vals dvs ds ∧ (∀ H ι, RVs K g.H0 H ι dws dvs) ∧ mg x = some (.ref f) ∧ PySem.W.keepIn K (.ref f) = true
/-- a method of the class c -/
structure MethOk (P : Program) (w : World) (K : PySem.W.Frag) (mg : Str → Option Value) (base : Heap) (g : Gx) (k : Nat) (c : Nat) (m : Str) (n : Nat) (F : Fn) : Prop where
  ex : ∃ (f : Addr) (fd : FuncData) (ps : List Str), FnOk P w K mg base (L2.CX P w) k f fd ps (spM K g n F) ∧ ps.length = n ∧ Binds K fd ps [] ∧ Meth K (g.cls c) m f
  cl : Cls K (g.cls c)
/-- a class that is made by its __init__ -/
structure MakeOk (P : Program) (w : World) (K : PySem.W.Frag) (mg : Str → Option Value) (base : Heap) (g : Gx) (k : Nat) (c : Nat) (x : Str) (n : Nat) (F : Fn) : Prop where
  ex : ∃ (f : Addr) (fd : FuncData) (ps : List Str), FnOk P w K mg base (L2.CX P w) k f fd ps (spM K g n F) ∧ ps.length = n ∧ Binds K fd ps [] ∧ Mk K (g.cls c) f ∧ mg x = some (.ref (g.cls c))
def lenOk (n : Nat) (F : Fn) : Fn := fun ws st => if ws.length = n then F ws st else .no
section
variable {X : Cx} {g : Gx} {W : WX} {pos : Pos}
theorem j_call {k n : Nat} {F : Fn} {x : Str} {p : Pos} {e : Expr} {es : List Expr} {m : En → Mo (List Va)} (D : DefOk X.prog X.w X.K X.mg X.base g k x n F) (hr : Room k X.A) (tk : Takes X W) (ha : JA X g W (e :: es) m) (hg : Gl X x := by rfl)
    (hdb : (x == ("__debug__" : Str)) = false := by decide) (he : starEach (e :: es) X.env = (false, eval e X.env) :: starEach es X.env := by rfl) (hpl : (backTo pos (starEach es X.env)).any (·.1) = false := by rfl) :
    JE X g W (.Call (.Name x p) (e :: es) [] pos) (eA (lenOk n F) m) := by
  obtain ⟨f, fd, ps, h1, h2, h3, h4, h5⟩ := D.ex
  refine ⟨PE.imp (pe_callS h1 hr hg h4 h5 h3 (fun σ => passAt tk σ) ha.pa hdb he hpl) fun σ H Q q => ?_⟩
  obtain ⟨env, st, ι, rs, re, p⟩ := pst_eA q
  refine ⟨env, st, ι, rs, re, p.imp (fun xs H1 q => ?_) fun _ _ _ q => q⟩
  obtain ⟨st1, ι1, ws, rs1, r1, p1⟩ := q
  unfold lenOk at p1
  split at p1
  · rename_i hl
    exact ⟨ws, st1, ι1, hl, rs1, r1, p1⟩
  · exact (show False from p1).elim
theorem j_callD {k n : Nat} {F : Fn} {dws : List Va} {x : Str} {p : Pos} {e : Expr} {es : List Expr} {m : En → Mo (List Va)} (D : DefOkD X.prog X.w X.K X.mg X.base g k x n dws F) (hr : Room k X.A) (tk : Takes X W) (ha : JA X g W (e :: es) m) (hg : Gl X x := by rfl)
    (hdb : (x == ("__debug__" : Str)) = false := by decide) (he : starEach (e :: es) X.env = (false, eval e X.env) :: starEach es X.env := by rfl) (hpl : (backTo pos (starEach es X.env)).any (·.1) = false := by rfl) :
    JE X g W (.Call (.Name x p) (e :: es) [] pos) (eA (fun ws => lenOk n F (ws ++ dws)) m) := by
  obtain ⟨f, fd, ps, ds, dvs, h1, h2, h3, hd, hw, h4, h5⟩ := D.ex
  refine ⟨PE.imp (pe_callSD h1 hr hg h4 h5 h3 hd (fun σ => passAt tk σ) ha.pa hdb he hpl) fun σ H Q q => ?_⟩
  obtain ⟨env, st, ι, rs, re, p⟩ := pst_eA q
  refine ⟨env, st, ι, rs, re, p.imp (fun xs H1 q => ?_) fun _ _ _ q => q⟩
  obtain ⟨st1, ι1, ws, rs1, r1, p1⟩ := q
  unfold lenOk at p1
  split at p1
  · rename_i hl
    exact ⟨ws ++ dws, st1, ι1, hl, rs1, r1.append (hw _ _), p1⟩
  · exact (show False from p1).elim
theorem pe_call0E {CX : CXT} {k : Nat} {f : Addr} {fd : FuncData} {ps : List Str} {sp : Sp} {E : L2.St → XK} {x : Str} {p : Pos} (F : FnOk X.prog X.w X.K X.mg X.base CX k f fd ps sp) (hr : Room k X.A) (hg : Gl X x) (hm : X.mg x = some (.ref f)) (hk : PySem.W.keepIn X.K (.ref f) = true)
    (hb : Binds X.K fd ps []) (hx : ∀ σ, PassesAt CX X σ (E σ)) (hdb : (x == ("__debug__" : Str)) = false) : PE X (.Call (.Name x p) [] [] pos) (fun σ H Q => sp [] H Q (E σ)) :=
  ⟨fun pins s σ H Q I h => wpAny_Call_Name_kw (ld_glob I hg hm (PySem.W.callWith_K0 I.kIn hk (run_fnS (us := []) F hr hb (hx σ) I .nil h)) hdb)⟩
theorem j_call0 {k : Nat} {F : Fn} {x : Str} {p : Pos} (D : DefOk X.prog X.w X.K X.mg X.base g k x 0 F) (hr : Room k X.A) (tk : Takes X W) (hg : Gl X x := by rfl)
    (hdb : (x == ("__debug__" : Str)) = false := by decide) : JE X g W (.Call (.Name x p) [] [] pos) (eA (lenOk 0 F) aNil) := by
  obtain ⟨f, fd, ps, h1, h2, h3, h4, h5⟩ := D.ex
  refine ⟨PE.imp (pe_call0E h1 hr hg h4 h5 h3 (fun σ => passAt tk σ) hdb) fun σ H Q q => ?_⟩
  obtain ⟨env, st, ι, rs, re, p⟩ := q
  exact ⟨[], st, ι, rfl, rs, .nil, p⟩
theorem pe_methE {pl : Sem Bool} {CX : CXT} {k : Nat} {C f : Addr} {fd : FuncData} {ps : List Str} {sp : Sp} {E : L2.St → XK} {o e : Expr} {es : List Expr} {ta : TE} {t : TA} {m : Str} {apos : Pos} (ho : PE X o ta) (c : Cls X.K C) (hm : Meth X.K C m f)
    (F : FnOk X.prog X.w X.K X.mg X.base CX k f fd ps sp) (hr : Room k X.A) (hb : Binds X.K fd ps []) (hx : ∀ σ, PassesAt CX X σ (E σ)) (ha : PA X (e :: es) t)
    (hst : starEach (e :: es) X.env = (false, eval e X.env) :: starEach es X.env) (hpl : (backTo pos (starEach es X.env)).any (·.1) = false)
    (ht : eval (.Call (.Attribute o m apos) (e :: es) [] pos) X.env = (do
      let ov ← eval o X.env
      standAt apos.atName
      let (f, first) ← holding [ov] (getMethod ov m pl)
      callWith pos f first (backTo pos (starEach (e :: es) X.env)) (backToKw pos (keywordEach [] X.env)))) :
    PE X (.Call (.Attribute o m apos) (e :: es) [] pos) (fun σ H Q => ta σ H fun x H1 => ∃ a dx fs, x = .ref a ∧ H1 a = some (.ins C dx fs) ∧ fs.lookup m = none ∧ t σ H1 fun vs H2 => sp (x :: vs) H2 Q (E σ)) := by
  refine ⟨fun pins s σ H Q I h => PySem.W.methodCall_KW (pl := pl) (thn (ho.run pins s σ H _ I h) fun u s1 hu => ?_) ht⟩
  obtain ⟨x, H1, I1, rx, a, dx, fs, ex, ea, l, q⟩ := hu
  subst ex
  obtain rfl : u = Value.ref a := rx
  refine getmeth_ok I1 ea c hm l (PySem.W.callWith_K (first := [.ref a]) (h₀ := X.base) I.ok.mod.kin hm.kp (thn (ha.run pos pins s1 σ H1 _ I1 q) fun us s2 hv => ?_) hst hpl)
  obtain ⟨vs, H2, I2, r, q2⟩ := hv
  exact ⟨I2.kIn, run_fnS (us := .ref a :: us) (vs := .ref a :: vs) F hr hb (hx σ) I2 (.cons rfl r) q2⟩
theorem pe_methE0 {pl : Sem Bool} {CX : CXT} {k : Nat} {C f : Addr} {fd : FuncData} {ps : List Str} {sp : Sp} {E : L2.St → XK} {o : Expr} {ta : TE} {m : Str} {apos : Pos} (ho : PE X o ta) (c : Cls X.K C) (hm : Meth X.K C m f)
    (F : FnOk X.prog X.w X.K X.mg X.base CX k f fd ps sp) (hr : Room k X.A) (hb : Binds X.K fd ps []) (hx : ∀ σ, PassesAt CX X σ (E σ))
    (ht : eval (.Call (.Attribute o m apos) [] [] pos) X.env = (do
      let ov ← eval o X.env
      standAt apos.atName
      let (f, first) ← holding [ov] (getMethod ov m pl)
      callWith pos f first (backTo pos (starEach [] X.env)) (backToKw pos (keywordEach [] X.env)))) :
    PE X (.Call (.Attribute o m apos) [] [] pos) (fun σ H Q => ta σ H fun x H1 => ∃ a dx fs, x = .ref a ∧ H1 a = some (.ins C dx fs) ∧ fs.lookup m = none ∧ sp [x] H1 Q (E σ)) := by
  refine ⟨fun pins s σ H Q I h => PySem.W.methodCall_KW (pl := pl) (thn (ho.run pins s σ H _ I h) fun u s1 hu => ?_) ht⟩
  obtain ⟨x, H1, I1, rx, a, dx, fs, ex, ea, l, q⟩ := hu
  subst ex
  obtain rfl : u = Value.ref a := rx
  exact getmeth_ok I1 ea c hm l (PySem.W.callWith_K0 (first := [.ref a]) I1.kIn hm.kp (run_fnS (us := [.ref a]) (vs := [.ref a]) F hr hb (hx σ) I1 (.cons rfl .nil) q))
/-- o.m(..), o of the class c -/
def isIns (c : Nat) (m : Str) (st : Sto) : Va → Bool
  | .ref n => match st[n]? with
    | some (.ins c' fs) => decide (c' = c) && (fs.lookup m).isNone
    | _ => false
  | _ => false
theorem pf_none {H : Hp} {ι : List Addr} {f : Str} : ∀ {fs : List (Str × Va)} {fs' : List (Str × V)}, PF X.K g H ι fs fs' → fs.lookup f = none → fs'.lookup f = none
  | _, _, .nil, _ => rfl
  | (k, y) :: fs, (k', y') :: fs', .cons r t, e => by
    obtain ⟨r1, r2⟩ := r
    have r1' : k = k' := r1
    subst r1'
    rw [List.lookup_cons] at e ⊢
    cases h : (f == k) with
    | true =>
      rw [h] at e
      cases e
    | false =>
      rw [h] at e
      exact pf_none t e
theorem isIns_ok {c : Nat} {m : Str} {st : Sto} {H : Hp} {ι : List Addr} {w : Va} {v : V} (rs : RS X.K g st H ι) (r : RV X.K g.H0 H ι w v) (e : isIns c m st w = true) : ∃ a dx fs, v = .ref a ∧ H a = some (.ins (g.cls c) dx fs) ∧ fs.lookup m = none := by
  cases r with
  | @ref n a h =>
    have e' : (match st[n]? with | some (.ins c' fs) => decide (c' = c) && (fs.lookup m).isNone | _ => false) = true := e
    split at e'
    · rename_i c' fs q
      rw [Bool.and_eq_true, decide_eq_true_eq] at e'
      obtain ⟨rfl, e2⟩ := e'
      obtain ⟨dx, fs', h1, k1⟩ := rs.obj n _ a q h
      exact ⟨a, dx, fs', rfl, h1, pf_none k1 (Option.isNone_iff_eq_none.mp e2)⟩
    · cases e'
  | _ => cases e
def eMeth (c : Nat) (m : Str) (n : Nat) (F : Fn) (mo : En → Mo Va) (ma : En → Mo (List Va)) : En → Mo Va := fun env st => bnd (mo env st) fun w st1 => if isIns c m st1 w = true then bnd (ma env st1) fun ws st2 => lenOk n F (w :: ws) st2 else .no
theorem j_meth {pl : Sem Bool} {k n c : Nat} {F : Fn} {m : Str} {apos : Pos} {o e : Expr} {es : List Expr} {mo : En → Mo Va} {ma : En → Mo (List Va)} (D : MethOk X.prog X.w X.K X.mg X.base g k c m n F) (hr : Room k X.A) (tk : Takes X W) (ho : JE X g W o mo) (ha : JA X g W (e :: es) ma)
    (hst : starEach (e :: es) X.env = (false, eval e X.env) :: starEach es X.env := by rfl) (hpl : (backTo pos (starEach es X.env)).any (·.1) = false := by rfl)
    (ht : eval (.Call (.Attribute o m apos) (e :: es) [] pos) X.env = (do
      let ov ← eval o X.env
      standAt apos.atName
      let (f, first) ← holding [ov] (getMethod ov m pl)
      callWith pos f first (backTo pos (starEach (e :: es) X.env)) (backToKw pos (keywordEach [] X.env))) := by rfl) :
    JE X g W (.Call (.Attribute o m apos) (e :: es) [] pos) (eMeth c m n F mo ma) := by
  obtain ⟨f, fd, ps, h1, h2, h3, h4⟩ := D.ex
  refine ⟨PE.imp (pe_methE (pl := pl) ho.pe D.cl h4 h1 hr h3 (fun σ => passAt tk σ) ha.pa hst hpl ht) fun σ H Q q => ?_⟩
  obtain ⟨env, st, ι, rs, re, p⟩ := q
  refine ⟨env, st, ι, rs, re, (Pst.bind (rel := rV X.K g) p).imp (fun x H1 q => ?_) fun _ _ _ q => q⟩
  obtain ⟨w, st1, ι1, ex, rs1, r1, p1⟩ := q
  split at p1
  · rename_i hi
    obtain ⟨a, dx, fs, q1, q2, q3⟩ := isIns_ok rs1 r1 hi
    refine ⟨a, dx, fs, q1, q2, q3, env, st1, ι1, rs1, re.mono ex, (Pst.bind (rel := rVs X.K g) p1).imp (fun xs H2 q => ?_) fun _ _ _ q => q⟩
    obtain ⟨ws, st2, ι2, ex2, rs2, r2, p2⟩ := q
    unfold lenOk at p2
    split at p2
    · rename_i hl
      exact ⟨w :: ws, st2, ι2, hl, rs2, .cons (r1.mono ex2) r2, p2⟩
    · exact (show False from p2).elim
  · exact (show False from p1).elim
theorem j_meth0 {pl : Sem Bool} {k n c : Nat} {F : Fn} {m : Str} {apos : Pos} {o : Expr} {mo : En → Mo Va} (D : MethOk X.prog X.w X.K X.mg X.base g k c m n F) (hr : Room k X.A) (tk : Takes X W) (ho : JE X g W o mo)
    (ht : eval (.Call (.Attribute o m apos) [] [] pos) X.env = (do
      let ov ← eval o X.env
      standAt apos.atName
      let (f, first) ← holding [ov] (getMethod ov m pl)
      callWith pos f first (backTo pos (starEach [] X.env)) (backToKw pos (keywordEach [] X.env))) := by rfl) :
    JE X g W (.Call (.Attribute o m apos) [] [] pos) (eMeth c m n F mo aNil) := by
  obtain ⟨f, fd, ps, h1, h2, h3, h4⟩ := D.ex
  refine ⟨PE.imp (pe_methE0 (pl := pl) ho.pe D.cl h4 h1 hr h3 (fun σ => passAt tk σ) ht) fun σ H Q q => ?_⟩
  obtain ⟨env, st, ι, rs, re, p⟩ := q
  refine ⟨env, st, ι, rs, re, (Pst.bind (rel := rV X.K g) p).imp (fun x H1 q => ?_) fun _ _ _ q => q⟩
  obtain ⟨w, st1, ι1, ex, rs1, r1, p1⟩ := q
  split at p1
  · rename_i hi
    obtain ⟨a, dx, fs, q1, q2, q3⟩ := isIns_ok rs1 r1 hi
    refine ⟨a, dx, fs, q1, q2, q3, ?_⟩
    have p2 : Pst X.K g (rV X.K g) (lenOk n F [w] st1) H1 ι1 Q (fun c d H' => W c d σ H') := p1
    unfold lenOk at p2
    split at p2
    · rename_i hl
      exact ⟨[w], st1, ι1, hl, rs1, .cons r1 .nil, p2⟩
    · exact (show False from p2).elim
  · exact (show False from p1).elim
/-- C(..): its __init__ makes no error -/
def opMake (c n : Nat) (F : Fn) : Fn := fun ws st => match lenOk n F (.ref st.length :: ws) (st ++ [.ins c []]) with
  | .ok .non st2 => .ok (.ref st.length) st2
  | _ => .no
theorem j_make {k n c : Nat} {F : Fn} {x : Str} {p : Pos} {e : Expr} {es : List Expr} {m : En → Mo (List Va)} (D : MakeOk X.prog X.w X.K X.mg X.base g k c x n F) (hr : Room (k + 1) X.A) (ha : JA X g W (e :: es) m) (hg : Gl X x := by rfl)
    (hdb : (x == ("__debug__" : Str)) = false := by decide) (he : starEach (e :: es) X.env = (false, eval e X.env) :: starEach es X.env := by rfl) (hpl : (backTo pos (starEach es X.env)).any (·.1) = false := by rfl) :
    JE X g W (.Call (.Name x p) (e :: es) [] pos) (eA (opMake c n F) m) := by
  obtain ⟨f, fd, ps, h1, h2, h3, h4, h5⟩ := D.ex
  refine ⟨PE.imp (pe_make (dvs := []) h4 h1 hr hg h5 h3 .nil passL ha.pa hdb he hpl) fun σ H Q q => ?_⟩
  obtain ⟨env, st, ι, rs, re, p⟩ := pst_eA q
  refine ⟨env, st, ι, rs, re, p.imp (fun xs H1 q => ?_) fun _ _ _ q => q⟩
  obtain ⟨st1, ι1, ws, rs1, r1, p1⟩ := q
  intro x dx nx ndx nex
  have rs2 : RS X.K g st1 (upd H1 dx (.own x)) ι1 := rs1.other ndx
  have e1 : Ext X.K H1 ι1 (upd H1 dx (.own x)) ι1 := by simpa using ext_new (K := X.K) (ι := ι1) (o := HO.own x) ndx []
  have nx2 : upd H1 dx (.own x) x = none := by rw [upd_ne (Ne.symm nex)]; exact nx
  have e2 : Ext X.K (upd H1 dx (.own x)) ι1 (upd (upd H1 dx (.own x)) x (.ins (g.cls c) dx [])) (ι1 ++ [x]) := ext_new nx2 [x]
  have rs3 : RS X.K g (st1 ++ [.ins c []]) (upd (upd H1 dx (.own x)) x (.ins (g.cls c) dx [])) (ι1 ++ [x]) := rs2.push nx2 ⟨dx, [], upd_same, .nil⟩
  have r3 : RV X.K g.H0 (upd (upd H1 dx (.own x)) x (.ins (g.cls c) dx [])) (ι1 ++ [x]) (.ref st1.length) (.ref x) := .ref (by rw [← rs1.len]; simp)
  rw [List.append_nil]
  unfold opMake lenOk at p1
  by_cases hl : (Va.ref st1.length :: ws).length = n
  · rw [if_pos hl] at p1
    refine ⟨Va.ref st1.length :: ws, _, _, hl, rs3, .cons r3 (r1.mono (e1.trans e2)), ?_⟩
    revert p1
    generalize F (Va.ref st1.length :: ws) (st1 ++ [.ins c []]) = r
    intro p1
    cases r with
    | no => exact (show False from p1).elim
    | exc c' fs st2 => exact (show False from p1).elim
    | ok w st2 =>
      cases w with
      | non =>
        intro H' ι' v e3 rs4 rv
        cases rv
        exact ⟨rfl, p1 H' ι' _ ((e1.trans e2).trans e3) rs4 (r3.mono e3)⟩
      | _ => exact (show False from p1).elim
  · rw [if_neg hl] at p1
    exact (show False from p1).elim

/-! ### a def's body -/
def runF (n : Nat) (m : Sm) (N : Nat) : Fn := fun ws st => match m (ws.map some ++ List.replicate (N - n) none) st with
  | .nx _ st2 => .ok .non st2
  | .rt w st2 => .ok w st2
  | .xc c fs _ st2 => .exc c fs st2
  | _ => .no
theorem re_start {K : PySem.W.Frag} {H : Hp} {ι : List Addr} {ws : List Va} {vs : List V} {N : List Str} {n k : Nat} (hk : N.length = k) (hn : ws.length = n) (r : RVs K g.H0 H ι ws vs) : RE K g H ι (ws.map some ++ List.replicate (k - n) none) (L2.start N vs) := by
  subst hk
  have hl := r.length
  refine ⟨by unfold L2.start; simp [hl, ← hn], fun i w e => ?_⟩
  by_cases hi : i < ws.length
  · rw [List.getElem?_append_left (by simpa using hi), List.getElem?_map] at e
    cases q : ws[i]? with
    | none => rw [q] at e; cases e
    | some u =>
      rw [q] at e
      cases e
      obtain ⟨v, q1, q2⟩ := r.get q
      refine ⟨v, ?_, q2⟩
      unfold L2.start
      rw [List.getElem?_append_left (by simpa [← hl] using hi), List.getElem?_map, q1]
      rfl
  · rw [List.getElem?_append_right (by simpa using Nat.le_of_not_lt hi)] at e
    rw [List.getElem?_replicate] at e
    split at e
    · cases e
    · cases e
theorem fn_body {P : Program} {w : World} {K : PySem.W.Frag} {mg : Str → Option Value} {base : Heap} {x qual : Str} {st : Stmt} {f : Addr} {fd : FuncData} {N ps : List Str} {k n : Nat} {m : Sm} {L : Nat} (F : Fun K x qual st f fd) (S : FnScope N ps (defScope st)) (hn : ps.length = n) (hL : N.length = L)
    (hbody : ∀ (cdv : Value) (A : Around) (outer : List Env) (s : Shared) (H : Hp) (E : XK), Room k (A.deeper (envOfC qual (defScope st) s.heap.objs.size f cdv)) →
      JSs (cxOf (L2.CX P w) P w K mg base N qual (defScope st) f cdv A outer s H E) g (fun c d _ H' => E c d H') (defBody st) m) : FnOk P w K mg base (L2.CX P w) (k + 1) f fd ps (spM K g n (runF n m L)) := by
  refine F.okX S (fun vs H Q E h => ?_) (fun cdv A outer s H vs Q E hr h => ⟨_, (hbody cdv A outer s H E hr).pss, ?_⟩)
  · obtain ⟨ws, st, ι, h1, h2, h3, h4⟩ := h
    rw [← h3.length, h1, hn]
  · obtain ⟨ws, st, ι, h1, h2, h3, h4⟩ := h
    refine ⟨_, st, ι, h2, re_start hL h1 h3, ?_⟩
    revert h4
    unfold runF
    generalize m (ws.map some ++ List.replicate (L - n) none) st = r
    intro h4
    cases r with
    | nx env st2 => exact fun H' ι' σ' e rs re => h4 H' ι' .non e rs .non
    | rt w st2 => exact h4
    | xc c fs env st2 => exact fun H' ι' σ' d fs' e rs re hd pf => h4 H' ι' d fs' e rs hd pf
    | bk env st2 => exact (show False from h4).elim
    | ct env st2 => exact (show False from h4).elim
    | no => exact h4
end
end Sh

set_option Elab.async false
set_option linter.all false
set_option maxRecDepth 100000
set_option maxHeartbeats 4000000
namespace Sh
open PySem PySem.Spec PyProof.Rows L2
/-! ### the law's end -/
/-- the law, from the heap at its entry -/
def spLaw (K : PySem.W.Frag) (F : Fn) : Sp := fun vs H Q E => ∃ (a : Addr) (ns : List Int), vs = [.ref a] ∧ SqL K H a (ns.map V.int) ∧ (∃ st, F [.scr (ns.map Va.int)] [] = .ok (.bl true) st) ∧ ∀ H', Q (.bl true) H'
theorem law_in {K : PySem.W.Frag} {cls : Nat → Addr} {F : Fn} {vs : List V} {H : Hp} {Q : VK} {E : XK} (q : spLaw K F vs H Q E) : spM K ⟨cls, H, []⟩ 1 F vs H Q E := by
  obtain ⟨a, ns, rfl, hs, ⟨st, e⟩, q⟩ := q
  have hints : ∀ ns : List Int, RVs K H H [] (ns.map Va.int) (ns.map V.int) := fun ns => by
    induction ns with
    | nil => exact .nil
    | cons n r ih => exact .cons (.int n) ih
  refine ⟨[.scr (ns.map Va.int)], [], [], rfl, ⟨rfl, List.nodup_nil, fun _ _ q => q, fun _ q => absurd q List.not_mem_nil, fun n o a q => by simp at q, fun p q => absurd q List.not_mem_nil⟩, .cons (.scr hs (hints ns)) .nil, ?_⟩
  rw [e]
  intro H' ι' b _ _ r
  cases r
  exact q H'
theorem law_fn {P : Program} {w : World} {K : PySem.W.Frag} {mg : Str → Option Value} {base : Heap} {k : Nat} {f : Addr} {fd : FuncData} {ps : List Str} {F : Fn} (cls : Nat → Addr) (h : ∀ H0 : Hp, FnOk P w K mg base (L2.CX P w) k f fd ps (spM K ⟨cls, H0, []⟩ 1 F)) :
    FnOk P w K mg base (L2.CX P w) k f fd ps (spLaw K F) :=
  ⟨fun vs H Q E q => (h H).len vs H Q E (law_in q), fun A outer s H args us vs Q E hr he hb hv q => (h H).run A outer s H args us vs Q E hr he hb hv (law_in q)⟩
theorem law_sp {K : PySem.W.Frag} {F : Fn} {H : Hp} {a : Addr} {ns : List Int} (hs : SqL K H a (ns.map V.int)) (h : ∃ st, F [.scr (ns.map Va.int)] [] = .ok (.bl true) st) : spLaw K F [.ref a] H (fun v _ => v = .bl true) fun _ _ _ => False :=
  ⟨a, ns, rfl, hs, h, fun _ => rfl⟩
theorem cx_end {P : Program} {w : World} {H : Hp} {s s' : Shared} {e : Value} (h : L2.CX P w [] H s (fun _ _ _ => False) e s') : False := by
  obtain ⟨_, _, _, _, _, _, _, _, _, _, _, _, z⟩ := h
  exact z
/-! ### what the module's names hold -/
theorem gv_int {K : PySem.W.Frag} {mg : Str → Option Value} {x : Str} {i : Int} {t : Tok} (h : mg x = some (.int i t)) : GV K mg x (.int i) := ⟨_, .int i, h, ⟨t, rfl⟩, fun _ _ _ => .int i⟩
theorem gv_str {K : PySem.W.Frag} {mg : Str → Option Value} {x s : Str} {t : Tok} (h : mg x = some (.str s t)) : GV K mg x (.str s) := ⟨_, .str s, h, ⟨t, rfl⟩, fun _ _ _ => .str s⟩
def flatEq : Va → Value → Option V
  | .int i, .int j _ => if i = j then some (.int i) else none
  | .str x, .str y _ => if x = y then some (.str x) else none
  | .bl b, .bool c => if b = c then some (.bl b) else none
  | .non, .none => some .non
  | _, _ => none
def flatEqs : List Va → List Value → Option (List V)
  | [], [] => some []
  | w :: ws, v :: vs => match flatEq w v, flatEqs ws vs with
    | some x, some xs => some (x :: xs)
    | _, _ => none
  | _, _ => none
theorem flatEq_ok {K : PySem.W.Frag} {H0 H : Hp} {ι : List Addr} {w : Va} {u : Value} {x : V} (h : flatEq w u = some x) : RelV x u ∧ RV K H0 H ι w x := by
  unfold flatEq at h
  split at h
  · split at h
    · rename_i e; subst e; cases h; exact ⟨⟨_, rfl⟩, .int _⟩
    · cases h
  · split at h
    · rename_i e; subst e; cases h; exact ⟨⟨_, rfl⟩, .str _⟩
    · cases h
  · split at h
    · rename_i e; subst e; cases h; exact ⟨rfl, .bl _⟩
    · cases h
  · cases h; exact ⟨rfl, .non⟩
  · cases h
theorem flatEqs_ok {K : PySem.W.Frag} : ∀ {ws : List Va} {us : List Value} {xs : List V}, flatEqs ws us = some xs → Vals xs us ∧ ∀ H0 H ι, RVs K H0 H ι ws xs
  | [], [], _, h => by cases h; exact ⟨.nil, fun _ _ _ => .nil⟩
  | [], _ :: _, _, h => by cases h
  | _ :: _, [], _, h => by cases h
  | w :: ws, u :: us, _, h => by
    unfold flatEqs at h
    split at h
    · rename_i x xs h1 h2
      cases h
      obtain ⟨q1, q2⟩ := flatEqs_ok (K := K) h2
      exact ⟨.cons (flatEq_ok (K := K) (H0 := fun _ => none) (H := fun _ => none) (ι := []) h1).1 q1, fun H0 H ι => .cons (flatEq_ok h1).2 (q2 H0 H ι)⟩
    · cases h
def ktpOk (o : Obj) (ws : List Va) : Bool := (o.cls == .type "tuple") && match o.data with
  | .seq its _ => decide (its.size ≤ 16777216) && (flatEqs ws its.toList).isSome
  | _ => false
theorem gv_ktp {K : PySem.W.Frag} {mg : Str → Option Value} {x : Str} {a : Addr} {o : Obj} {ws : List Va} (h : mg x = some (.ref a)) (l : K.lookup a = some o) (q : ktpOk o ws = true) : GV K mg x (.ktp ws) := by
  unfold ktpOk at q
  rw [Bool.and_eq_true] at q
  obtain ⟨q1, q2⟩ := q
  split at q2
  · rename_i its n e
    rw [Bool.and_eq_true, decide_eq_true_eq] at q2
    obtain ⟨q2, q3⟩ := q2
    obtain ⟨xs, e3⟩ := Option.isSome_iff_exists.mp q3
    obtain ⟨r1, r2⟩ := flatEqs_ok (K := K) e3
    exact ⟨_, .ref a, h, rfl, fun g H ι => .ktp (.inr ⟨o, its, n, l, eq_of_beq q1, e, le_line q2, r1⟩) (r2 _ _ _)⟩
  · cases q2
/-! ### what the top has made of a class -/
theorem fldOk_nil {K : PySem.W.Frag} {g : Gx} {f : Str} : FldOk K g [] f := fun c h => absurd h List.not_mem_nil
theorem fldOk_cons {K : PySem.W.Frag} {g : Gx} {f : Str} {c : Nat} {cs : List Nat} (h : Cls K (g.cls c)) (n : NoAttr K (g.cls c) f) (r : FldOk K g cs f) : FldOk K g (c :: cs) f := fun d hd => by
  rcases List.mem_cons.mp hd with rfl | hd
  · exact ⟨h, n⟩
  · exact r d hd
end Sh

set_option Elab.async false
set_option linter.all false
set_option maxRecDepth 100000
set_option maxHeartbeats 4000000
namespace Sh
open PySem PySem.Spec PyProof.Rows L2
/-! ### running plain programs: the equations -/
theorem qInt (n : Bool) (i j : Int) (st : Sto) : opEqB n (.int i) (.int j) st = .ok (.bl (xor n (i == j))) st := rfl
theorem qStr (n : Bool) (i j : Str) (st : Sto) : opEqB n (.str i) (.str j) st = .ok (.bl (xor n (i == j))) st := rfl
theorem qBl (n : Bool) (i j : Bool) (st : Sto) : opEqB n (.bl i) (.bl j) st = .ok (.bl (xor n (i == j))) st := rfl
theorem map_nat_inj : ∀ {a b : List Char}, a.map Char.toNat = b.map Char.toNat → a = b
  | [], [], _ => rfl
  | [], _ :: _, h => by simp at h
  | _ :: _, [], h => by simp at h
  | c :: r, d :: q, h => by
    simp only [List.map_cons, List.cons.injEq] at h
    rw [Char.toNat_inj.mp h.1, map_nat_inj h.2]
theorem ofString_inj {x y : String} (h : Str.ofString x = Str.ofString y) : x = y := by
  rw [Str.ofString_eq_toList, Str.ofString_eq_toList] at h
  have h1 : x.toList.map Char.toNat = y.toList.map Char.toNat := by simpa using congrArg (fun s : Str => s.cps.toList) h
  exact String.toList_inj.mp (map_nat_inj h1)
theorem str_eq (x y : String) : (Str.ofString x = Str.ofString y) = (x = y) := propext ⟨ofString_inj, fun h => by rw [h]⟩
theorem str_beq (x y : String) : (Str.ofString x == Str.ofString y) = (x == y) := by
  by_cases h : x = y
  · subst h; simp
  · have h' : ¬ Str.ofString x = Str.ofString y := fun e => h (ofString_inj e)
    rw [beq_eq_false_iff_ne.mpr h, beq_eq_false_iff_ne.mpr h']
/-- a loop by what stays true -/
theorem forF_inv {tg : Tg} {body : Sm} (P : En → Sto → Prop) : ∀ {ws : List Va}, (∀ w ∈ ws, ∀ env st, P env st → ∃ env1, tg w env = some env1 ∧ ∃ env2 st2, (body env1 st = .nx env2 st2 ∨ body env1 st = .ct env2 st2) ∧ P env2 st2) →
    ∀ {env : En} {st : Sto}, P env st → ∃ env' st', forF tg body ws env st = .nx env' st' ∧ P env' st'
  | [], _, env, st, p => ⟨env, st, rfl, p⟩
  | w :: ws, h, env, st, p => by
    obtain ⟨env1, e1, env2, st2, e2, p2⟩ := h w List.mem_cons_self env st p
    obtain ⟨env3, st3, e3, p3⟩ := forF_inv P (ws := ws) (fun u hu => h u (List.mem_cons_of_mem _ hu)) p2
    refine ⟨env3, st3, ?_, p3⟩
    unfold forF
    rw [e1]
    dsimp only
    rcases e2 with e2 | e2
    · rw [e2]; exact e3
    · rw [e2]; exact e3
theorem rangeW_mem {lo : Int} {n : Nat} {w : Va} (h : w ∈ rangeW lo n) : ∃ k : Nat, k < n ∧ w = .int (lo + (k : Int)) := by
  unfold rangeW at h
  obtain ⟨k, hk, e⟩ := List.mem_map.mp h
  exact ⟨k, List.mem_range.mp hk, e.symm⟩
theorem atI_map {α β : Type} (f : α → β) (xs : List α) (i : Int) : atI (xs.map f) i = (atI xs i).map f := by
  unfold atI
  rw [List.length_map]
  cases ixN xs.length i with
  | none => rfl
  | some j => simp
theorem atI_nat' {α : Type} (xs : List α) (k : Nat) : atI xs (k : Int) = xs[k]? := by
  unfold atI ixN
  rw [if_pos (Int.natCast_nonneg k)]
  by_cases h : (k : Int) < xs.length
  · rw [if_pos h]
    simp
  · rw [if_neg h]
    simp
    omega
theorem run_rt {n N : Nat} {m : Sm} {ws : List Va} {st st2 : Sto} {w : Va} (env : En) (he : ws.map some ++ List.replicate (N - n) none = env) (h : m env st = .rt w st2) : runF n m N ws st = .ok w st2 := by
  unfold runF
  rw [he, h]
theorem run_nx {n N : Nat} {m : Sm} {ws : List Va} {st st2 : Sto} {env2 : En} (env : En) (he : ws.map some ++ List.replicate (N - n) none = env) (h : m env st = .nx env2 st2) : runF n m N ws st = .ok .non st2 := by
  unfold runF
  rw [he, h]
theorem run_xc {n N c : Nat} {fs : List (Str × Va)} {m : Sm} {ws : List Va} {st st2 : Sto} {env2 : En} (env : En) (he : ws.map some ++ List.replicate (N - n) none = env) (h : m env st = .xc c fs env2 st2) : runF n m N ws st = .exc c fs st2 := by
  unfold runF
  rw [he, h]
theorem seq_nx {m n : Sm} {env env' : En} {st st' : Sto} (h : m env st = .nx env' st') : sSeq m n env st = n env' st' := by
  unfold sSeq
  rw [h]
theorem seq_rt {m n : Sm} {env : En} {st st' : Sto} {w : Va} (h : m env st = .rt w st') : sSeq m n env st = .rt w st' := by
  unfold sSeq
  rw [h]
theorem seq_xc {m n : Sm} {env env' : En} {st st' : Sto} {c : Nat} {fs : List (Str × Va)} (h : m env st = .xc c fs env' st') : sSeq m n env st = .xc c fs env' st' := by
  unfold sSeq
  rw [h]
theorem iR1_ok {m : En → Mo (List Va)} {env : En} {st st1 : Sto} {j : Int} (h : m env st = .ok [.int j] st1) (h0 : -(2 ^ 62) ≤ j) (h1 : j < 2 ^ 62) : iR1 m env st = .ok (.fix (rangeW 0 j.toNat)) st1 := by
  unfold iR1
  rw [h]
  exact if_pos ⟨h0, h1⟩
end Sh

set_option Elab.async false
set_option linter.all false
set_option maxRecDepth 100000
set_option maxHeartbeats 4000000
namespace Pr
open PySem PySem.Spec PyProof.Rows L2 Sh
def topS (i : Nat) : Stmt := PySem.Challenge.pw_nestcall_k01_operators.main.body.getD i (.Pass ⟨0, 0, 0, 0⟩)
def K_LARGEST : Va := (Va.int 65535)
def b_law_value  : Sm :=
  (sSeq (sIf (eT (e2 opEq (e2 opMod (eA cInt (aCons (eVar 0) aNil)) (eC (.int 3))) (eC (.int 0))))
  (sRet (e2 opMod (e2 opFdiv (eA cInt (aCons (eVar 0) aNil)) (eC (.int 3))) (eC (.int 5)))) sNil)
  (sSeq (sIf (eT (e2 opEq (e2 opMod (eA cInt (aCons (eVar 0) aNil)) (eC (.int 3))) (eC (.int 1))))
  (sRet (e2 opSub (eC (.int 65535)) (e2 opMod (e2 opFdiv (eA cInt (aCons (eVar 0) aNil)) (eC (.int 3))) (eC (.int 5))))) sNil)
  (sRet (e2 opMod (e2 opFdiv (eA cInt (aCons (eVar 0) aNil)) (eC (.int 3))) (eC (.int 65536))))))
def f_law_value : Fn := runF 1 (b_law_value ) 1
def b_law_cell  : Sm :=
  (sSeq (sIf (eT (e2 opLt (eVar 1) (eA cLen (aCons (eVar 0) aNil))))
  (sRet (e2 opIx (eVar 0) (eVar 1))) sNil)
  (sRet (eC (.int 0))))
def f_law_cell : Fn := runF 2 (b_law_cell ) 2
def b_combine  : Sm :=
  (sSeq (sIf (eT (e2 opEq (eVar 0) (eC (.str ("+" : Str)))))
  (sRet (e2 opMod (e2 opAdd (eVar 1) (eVar 2)) (e2 opAdd (eC K_LARGEST) (eC (.int 1))))) sNil)
  (sSeq (sIf (eT (e2 opEq (eVar 0) (eC (.str ("-" : Str)))))
  (sRet (eA cMax (aCons (eC (.int 0)) (aCons (e2 opSub (eVar 1) (eVar 2)) aNil)))) sNil)
  (sSeq (sIf (eT (e2 opEq (eVar 0) (eC (.str ("*" : Str)))))
  (sRet (e2 opMod (e2 opMul (eVar 1) (eVar 2)) (e2 opAdd (eC K_LARGEST) (eC (.int 1))))) sNil)
  (sSeq (sIf (eT (e2 opEq (eVar 0) (eC (.str ("/" : Str)))))
  (sRet (eIf (eT (e2 opNe (eVar 2) (eC (.int 0)))) (e2 opFdiv (eVar 1) (eVar 2)) (eC (.int 0)))) sNil)
  (sSeq (sIf (eT (e2 opEq (eVar 0) (eC (.str ("mod" : Str)))))
  (sRet (eIf (eT (e2 opNe (eVar 2) (eC (.int 0)))) (e2 opMod (eVar 1) (eVar 2)) (eC (.int 0)))) sNil)
  (sSeq (sIf (eT (e2 opEq (eVar 0) (eC (.str ("<" : Str)))))
  (sRet (eIf (eT (e2 opLt (eVar 1) (eVar 2))) (eC (.int 1)) (eC (.int 0)))) sNil)
  (sRet (eIf (eT (e2 opEq (eVar 1) (eVar 2))) (eC (.int 1)) (eC (.int 0))))))))))
def f_combine : Fn := runF 3 (b_combine ) 3
def b_law_is_integer  : Sm :=
  (sRet (vAnd (eA cIsi (aCons (eVar 0) (aCons (eC (.cst (.ty "int"))) aNil))) (vNot (eA cIsi (aCons (eVar 0) (aCons (eC (.cst (.ty "bool"))) aNil))))))
def f_law_is_integer : Fn := runF 1 (b_law_is_integer ) 1
def b_law_due  : Sm :=
  (sSeq (sIf (eT (e2 opEq (eVar 0) (eC (.str ("+" : Str)))))
  (sRet (e2 opMod (e2 opAdd (eVar 1) (eVar 2)) (eC (.int 65536)))) sNil)
  (sSeq (sIf (eT (e2 opEq (eVar 0) (eC (.str ("-" : Str)))))
  (sRet (eA cMax (aCons (eC (.int 0)) (aCons (e2 opSub (eVar 1) (eVar 2)) aNil)))) sNil)
  (sSeq (sIf (eT (e2 opEq (eVar 0) (eC (.str ("*" : Str)))))
  (sRet (e2 opMod (e2 opMul (eVar 1) (eVar 2)) (eC (.int 65536)))) sNil)
  (sSeq (sIf (eT (e2 opEq (eVar 0) (eC (.str ("<" : Str)))))
  (sRet (eA cInt (aCons (e2 opLt (eVar 1) (eVar 2)) aNil))) sNil)
  (sSeq (sIf (eT (e2 opEq (eVar 0) (eC (.str ("=" : Str)))))
  (sRet (eA cInt (aCons (e2 opEq (eVar 1) (eVar 2)) aNil))) sNil)
  (sSeq (sIf (eT (e2 opEq (eVar 2) (eC (.int 0))))
  (sRet (eC (.int 0))) sNil)
  (sSeq (sIf (eT (e2 opEq (eVar 0) (eC (.str ("/" : Str)))))
  (sRet (e2 opFdiv (eVar 1) (eVar 2))) sNil)
  (sRet (e2 opMod (eVar 1) (eVar 2))))))))))
def f_law_due : Fn := runF 3 (b_law_due ) 3
def b_law (c_law_value : Fn) (c_law_cell : Fn) (c_combine : Fn) (c_law_is_integer : Fn) (c_law_due : Fn) : Sm :=
  (sSeq (sFor (iR1 (aCons (e2 opFdiv (e2 opAdd (eA cLen (aCons (eVar 0) aNil)) (eC (.int 1))) (eC (.int 2))) aNil)) (tgN 1)
  (sSeq (sSet 2 (eA (lenOk 1 c_law_value) (aCons (eA (lenOk 2 c_law_cell) (aCons (eVar 0) (aCons (e2 opMul (eC (.int 2)) (eVar 1)) aNil))) aNil)))
  (sSeq (sSet 3 (eA (lenOk 1 c_law_value) (aCons (eA (lenOk 2 c_law_cell) (aCons (eVar 0) (aCons (e2 opAdd (e2 opMul (eC (.int 2)) (eVar 1)) (eC (.int 1))) aNil))) aNil)))
  (sSeq (sIf (eT (e2 opEq (e2 opMod (e2 opFdiv (eA cInt (aCons (eA (lenOk 2 c_law_cell) (aCons (eVar 0) (aCons (e2 opMul (eC (.int 2)) (eVar 1)) aNil))) aNil)) (eC (.int 7))) (eC (.int 3))) (eC (.int 1))))
  (sSet 3 (eVar 2)) sNil)
  (sFor (iT (eA opTup (aCons (eC (.str ("+" : Str))) (aCons (eC (.str ("-" : Str))) (aCons (eC (.str ("*" : Str))) (aCons (eC (.str ("/" : Str))) (aCons (eC (.str ("mod" : Str))) (aCons (eC (.str ("<" : Str))) (aCons (eC (.str ("=" : Str))) aNil))))))))) (tgN 4)
  (sSeq (sSet 5 (eA (lenOk 3 c_combine) (aCons (eVar 4) (aCons (eVar 2) (aCons (eVar 3) aNil)))))
  (sIf (eOr (eNot (eT (eA (lenOk 1 c_law_is_integer) (aCons (eVar 5) aNil)))) (eT (e2 opNe (eVar 5) (eA (lenOk 3 c_law_due) (aCons (eVar 4) (aCons (eVar 2) (aCons (eVar 3) aNil)))))))
  (sRet (eC (.bl false))) sNil)))))))
  (sRet (eC (.bl true))))
def f_law : Fn := runF 1 (b_law f_law_value f_law_cell f_combine f_law_is_integer f_law_due) 6
structure Txt (K : PySem.W.Frag) (mg : Str → Option Value) (g : Gx) : Prop where
  ok : True
  b_bool : mg "bool" = none
  b_int : mg "int" = none
  b_isinstance : mg "isinstance" = none
  b_len : mg "len" = none
  b_max : mg "max" = none
  b_range : mg "range" = none
  k_LARGEST : GV K mg "LARGEST" K_LARGEST
section
variable {P : Program} {w : World} {K : PySem.W.Frag} {mg : Str → Option Value} {base : Heap} {g : Gx}
abbrev s_law_value : Stmt := topS 7
theorem sc_law_value : FnScope [("cell" : Str)] [("cell" : Str)] (defScope s_law_value) := ⟨rfl, rfl, rfl, by decide +kernel, rfl, by decide +kernel, by decide +kernel⟩
theorem body_law_value (T : Txt K mg g)  {f : Addr} {fd : FuncData} (F : Fun K ("_law_value" : Str) ("_law_value" : Str) s_law_value f fd) : FnOk P w K mg base (L2.CX P w) (0 + 1) f fd [("cell" : Str)] (spM K g 1 (runF 1 (b_law_value ) 1)) :=
  fn_body F sc_law_value rfl rfl fun cdv A outer s H E hr => by
  have hu : (A.deeper (envOfC ("_law_value" : Str) (defScope s_law_value) s.heap.objs.size f cdv)).units + 64 < cLine := hr.units
  have hv : (A.deeper (envOfC ("_law_value" : Str) (defScope s_law_value) s.heap.objs.size f cdv)).units + 65 < cLine := by have := hr.un; omega
  have tk := takes_of (X := cxOf (L2.CX P w) P w K mg base [("cell" : Str)] ("_law_value" : Str) (defScope s_law_value) f cdv A outer s H E) (E := E) rfl rfl rfl rfl
  have hp := passes_of (X := cxOf (L2.CX P w) P w K mg base [("cell" : Str)] ("_law_value" : Str) (defScope s_law_value) f cdv A outer s H E) rfl
  exact (js_cons (js_if (jt_cmp (os_eq hu) nox_opEqB (j_op os_mod nox_opMod (j_callTy cs_int nox_cInt T.b_int (by decide +kernel) (ja_cons (j_var 0) ja_nil)) j_int) j_int)
  (js_one (js_ret (j_op os_mod nox_opMod (j_op os_fdiv nox_opFdiv (j_callTy cs_int nox_cInt T.b_int (by decide +kernel) (ja_cons (j_var 0) ja_nil)) j_int) j_int))) js_nil)
  (js_cons (js_if (jt_cmp (os_eq hu) nox_opEqB (j_op os_mod nox_opMod (j_callTy cs_int nox_cInt T.b_int (by decide +kernel) (ja_cons (j_var 0) ja_nil)) j_int) j_int)
  (js_one (js_ret (j_op os_sub nox_opSub j_int (j_op os_mod nox_opMod (j_op os_fdiv nox_opFdiv (j_callTy cs_int nox_cInt T.b_int (by decide +kernel) (ja_cons (j_var 0) ja_nil)) j_int) j_int)))) js_nil)
  (js_one (js_ret (j_op os_mod nox_opMod (j_op os_fdiv nox_opFdiv (j_callTy cs_int nox_cInt T.b_int (by decide +kernel) (ja_cons (j_var 0) ja_nil)) j_int) j_int)))))
abbrev s_law_cell : Stmt := topS 4
theorem sc_law_cell : FnScope [("script" : Str), ("k" : Str)] [("script" : Str), ("k" : Str)] (defScope s_law_cell) := ⟨rfl, rfl, rfl, by decide +kernel, rfl, by decide +kernel, by decide +kernel⟩
theorem body_law_cell (T : Txt K mg g)  {f : Addr} {fd : FuncData} (F : Fun K ("_law_cell" : Str) ("_law_cell" : Str) s_law_cell f fd) : FnOk P w K mg base (L2.CX P w) (0 + 1) f fd [("script" : Str), ("k" : Str)] (spM K g 2 (runF 2 (b_law_cell ) 2)) :=
  fn_body F sc_law_cell rfl rfl fun cdv A outer s H E hr => by
  have hu : (A.deeper (envOfC ("_law_cell" : Str) (defScope s_law_cell) s.heap.objs.size f cdv)).units + 64 < cLine := hr.units
  have hv : (A.deeper (envOfC ("_law_cell" : Str) (defScope s_law_cell) s.heap.objs.size f cdv)).units + 65 < cLine := by have := hr.un; omega
  have tk := takes_of (X := cxOf (L2.CX P w) P w K mg base [("script" : Str), ("k" : Str)] ("_law_cell" : Str) (defScope s_law_cell) f cdv A outer s H E) (E := E) rfl rfl rfl rfl
  have hp := passes_of (X := cxOf (L2.CX P w) P w K mg base [("script" : Str), ("k" : Str)] ("_law_cell" : Str) (defScope s_law_cell) f cdv A outer s H E) rfl
  exact (js_cons (js_if (jt_cmp os_lt nox_opLt (j_var 1) (j_callB cs_len nox_cLen T.b_len (by decide +kernel) (ja_cons (j_var 0) ja_nil)))
  (js_one (js_ret (j_ix (j_var 0) (j_var 1)))) js_nil)
  (js_one (js_ret j_int)))
abbrev s_combine : Stmt := topS 2
theorem sc_combine : FnScope [("sign" : Str), ("left" : Str), ("right" : Str)] [("sign" : Str), ("left" : Str), ("right" : Str)] (defScope s_combine) := ⟨rfl, rfl, rfl, by decide +kernel, rfl, by decide +kernel, by decide +kernel⟩
theorem body_combine (T : Txt K mg g)  {f : Addr} {fd : FuncData} (F : Fun K ("combine" : Str) ("combine" : Str) s_combine f fd) : FnOk P w K mg base (L2.CX P w) (0 + 1) f fd [("sign" : Str), ("left" : Str), ("right" : Str)] (spM K g 3 (runF 3 (b_combine ) 3)) :=
  fn_body F sc_combine rfl rfl fun cdv A outer s H E hr => by
  have hu : (A.deeper (envOfC ("combine" : Str) (defScope s_combine) s.heap.objs.size f cdv)).units + 64 < cLine := hr.units
  have hv : (A.deeper (envOfC ("combine" : Str) (defScope s_combine) s.heap.objs.size f cdv)).units + 65 < cLine := by have := hr.un; omega
  have tk := takes_of (X := cxOf (L2.CX P w) P w K mg base [("sign" : Str), ("left" : Str), ("right" : Str)] ("combine" : Str) (defScope s_combine) f cdv A outer s H E) (E := E) rfl rfl rfl rfl
  have hp := passes_of (X := cxOf (L2.CX P w) P w K mg base [("sign" : Str), ("left" : Str), ("right" : Str)] ("combine" : Str) (defScope s_combine) f cdv A outer s H E) rfl
  exact (js_cons (js_if (jt_cmp (os_eq hu) nox_opEqB (j_var 0) j_str)
  (js_one (js_ret (j_op os_mod nox_opMod (j_op os_add nox_opAdd (j_var 1) (j_var 2)) (j_op os_add nox_opAdd (j_glob T.k_LARGEST) j_int)))) js_nil)
  (js_cons (js_if (jt_cmp (os_eq hu) nox_opEqB (j_var 0) j_str)
  (js_one (js_ret (j_callB (cs_max rfl) nox_cMax T.b_max (by decide +kernel) (ja_cons j_int (ja_cons (j_op os_sub nox_opSub (j_var 1) (j_var 2)) ja_nil))))) js_nil)
  (js_cons (js_if (jt_cmp (os_eq hu) nox_opEqB (j_var 0) j_str)
  (js_one (js_ret (j_op os_mod nox_opMod (j_op os_mul nox_opMul (j_var 1) (j_var 2)) (j_op os_add nox_opAdd (j_glob T.k_LARGEST) j_int)))) js_nil)
  (js_cons (js_if (jt_cmp (os_eq hu) nox_opEqB (j_var 0) j_str)
  (js_one (js_ret (j_if (jt_cmp (os_ne hu) nox_opEqB (j_var 2) j_int) (j_op os_fdiv nox_opFdiv (j_var 1) (j_var 2)) j_int))) js_nil)
  (js_cons (js_if (jt_cmp (os_eq hu) nox_opEqB (j_var 0) j_str)
  (js_one (js_ret (j_if (jt_cmp (os_ne hu) nox_opEqB (j_var 2) j_int) (j_op os_mod nox_opMod (j_var 1) (j_var 2)) j_int))) js_nil)
  (js_cons (js_if (jt_cmp (os_eq hu) nox_opEqB (j_var 0) j_str)
  (js_one (js_ret (j_if (jt_cmp os_lt nox_opLt (j_var 1) (j_var 2)) j_int j_int))) js_nil)
  (js_one (js_ret (j_if (jt_cmp (os_eq hu) nox_opEqB (j_var 1) (j_var 2)) j_int j_int)))))))))
abbrev s_law_is_integer : Stmt := topS 5
theorem sc_law_is_integer : FnScope [("actual" : Str)] [("actual" : Str)] (defScope s_law_is_integer) := ⟨rfl, rfl, rfl, by decide +kernel, rfl, by decide +kernel, by decide +kernel⟩
theorem body_law_is_integer (T : Txt K mg g)  {f : Addr} {fd : FuncData} (F : Fun K ("_law_is_integer" : Str) ("_law_is_integer" : Str) s_law_is_integer f fd) : FnOk P w K mg base (L2.CX P w) (0 + 1) f fd [("actual" : Str)] (spM K g 1 (runF 1 (b_law_is_integer ) 1)) :=
  fn_body F sc_law_is_integer rfl rfl fun cdv A outer s H E hr => by
  have hu : (A.deeper (envOfC ("_law_is_integer" : Str) (defScope s_law_is_integer) s.heap.objs.size f cdv)).units + 64 < cLine := hr.units
  have hv : (A.deeper (envOfC ("_law_is_integer" : Str) (defScope s_law_is_integer) s.heap.objs.size f cdv)).units + 65 < cLine := by have := hr.un; omega
  have tk := takes_of (X := cxOf (L2.CX P w) P w K mg base [("actual" : Str)] ("_law_is_integer" : Str) (defScope s_law_is_integer) f cdv A outer s H E) (E := E) rfl rfl rfl rfl
  have hp := passes_of (X := cxOf (L2.CX P w) P w K mg base [("actual" : Str)] ("_law_is_integer" : Str) (defScope s_law_is_integer) f cdv A outer s H E) rfl
  exact (js_one (js_ret (j_and (j_callB cs_isi nox_cIsi T.b_isinstance (by decide +kernel) (ja_cons (j_var 0) (ja_cons (j_type T.b_int (by decide +kernel)) ja_nil))) (j_one (j_not (j_callB cs_isi nox_cIsi T.b_isinstance (by decide +kernel) (ja_cons (j_var 0) (ja_cons (j_type T.b_bool (by decide +kernel)) ja_nil))))))))
abbrev s_law_due : Stmt := topS 8
theorem sc_law_due : FnScope [("sign" : Str), ("a" : Str), ("b" : Str)] [("sign" : Str), ("a" : Str), ("b" : Str)] (defScope s_law_due) := ⟨rfl, rfl, rfl, by decide +kernel, rfl, by decide +kernel, by decide +kernel⟩
theorem body_law_due (T : Txt K mg g)  {f : Addr} {fd : FuncData} (F : Fun K ("_law_due" : Str) ("_law_due" : Str) s_law_due f fd) : FnOk P w K mg base (L2.CX P w) (0 + 1) f fd [("sign" : Str), ("a" : Str), ("b" : Str)] (spM K g 3 (runF 3 (b_law_due ) 3)) :=
  fn_body F sc_law_due rfl rfl fun cdv A outer s H E hr => by
  have hu : (A.deeper (envOfC ("_law_due" : Str) (defScope s_law_due) s.heap.objs.size f cdv)).units + 64 < cLine := hr.units
  have hv : (A.deeper (envOfC ("_law_due" : Str) (defScope s_law_due) s.heap.objs.size f cdv)).units + 65 < cLine := by have := hr.un; omega
  have tk := takes_of (X := cxOf (L2.CX P w) P w K mg base [("sign" : Str), ("a" : Str), ("b" : Str)] ("_law_due" : Str) (defScope s_law_due) f cdv A outer s H E) (E := E) rfl rfl rfl rfl
  have hp := passes_of (X := cxOf (L2.CX P w) P w K mg base [("sign" : Str), ("a" : Str), ("b" : Str)] ("_law_due" : Str) (defScope s_law_due) f cdv A outer s H E) rfl
  exact (js_cons (js_if (jt_cmp (os_eq hu) nox_opEqB (j_var 0) j_str)
  (js_one (js_ret (j_op os_mod nox_opMod (j_op os_add nox_opAdd (j_var 1) (j_var 2)) j_int))) js_nil)
  (js_cons (js_if (jt_cmp (os_eq hu) nox_opEqB (j_var 0) j_str)
  (js_one (js_ret (j_callB (cs_max rfl) nox_cMax T.b_max (by decide +kernel) (ja_cons j_int (ja_cons (j_op os_sub nox_opSub (j_var 1) (j_var 2)) ja_nil))))) js_nil)
  (js_cons (js_if (jt_cmp (os_eq hu) nox_opEqB (j_var 0) j_str)
  (js_one (js_ret (j_op os_mod nox_opMod (j_op os_mul nox_opMul (j_var 1) (j_var 2)) j_int))) js_nil)
  (js_cons (js_if (jt_cmp (os_eq hu) nox_opEqB (j_var 0) j_str)
  (js_one (js_ret (j_callTy cs_int nox_cInt T.b_int (by decide +kernel) (ja_cons (j_cmp os_lt nox_opLt (j_var 1) (j_var 2)) ja_nil)))) js_nil)
  (js_cons (js_if (jt_cmp (os_eq hu) nox_opEqB (j_var 0) j_str)
  (js_one (js_ret (j_callTy cs_int nox_cInt T.b_int (by decide +kernel) (ja_cons (j_cmp (os_eq hu) nox_opEqB (j_var 1) (j_var 2)) ja_nil)))) js_nil)
  (js_cons (js_if (jt_cmp (os_eq hu) nox_opEqB (j_var 2) j_int)
  (js_one (js_ret j_int)) js_nil)
  (js_cons (js_if (jt_cmp (os_eq hu) nox_opEqB (j_var 0) j_str)
  (js_one (js_ret (j_op os_fdiv nox_opFdiv (j_var 1) (j_var 2)))) js_nil)
  (js_one (js_ret (j_op os_mod nox_opMod (j_var 1) (j_var 2)))))))))))
abbrev s_law : Stmt := topS 9
theorem sc_law : FnScope [("script" : Str), ("k" : Str), ("a" : Str), ("b" : Str), ("sign" : Str), ("actual" : Str)] [("script" : Str)] (defScope s_law) := ⟨rfl, rfl, rfl, by decide +kernel, rfl, by decide +kernel, by decide +kernel⟩
theorem body_law (T : Txt K mg g) {c_law_value : Fn} (d_law_value : DefOk P w K mg base g 1 ("_law_value" : Str) 1 c_law_value) {c_law_cell : Fn} (d_law_cell : DefOk P w K mg base g 1 ("_law_cell" : Str) 2 c_law_cell) {c_combine : Fn} (d_combine : DefOk P w K mg base g 1 ("combine" : Str) 3 c_combine) {c_law_is_integer : Fn} (d_law_is_integer : DefOk P w K mg base g 1 ("_law_is_integer" : Str) 1 c_law_is_integer) {c_law_due : Fn} (d_law_due : DefOk P w K mg base g 1 ("_law_due" : Str) 3 c_law_due) {f : Addr} {fd : FuncData} (F : Fun K ("law" : Str) ("law" : Str) s_law f fd) : FnOk P w K mg base (L2.CX P w) (1 + 1) f fd [("script" : Str)] (spM K g 1 (runF 1 (b_law c_law_value c_law_cell c_combine c_law_is_integer c_law_due) 6)) :=
  fn_body F sc_law rfl rfl fun cdv A outer s H E hr => by
  have hu : (A.deeper (envOfC ("law" : Str) (defScope s_law) s.heap.objs.size f cdv)).units + 64 < cLine := hr.units
  have hv : (A.deeper (envOfC ("law" : Str) (defScope s_law) s.heap.objs.size f cdv)).units + 65 < cLine := by have := hr.un; omega
  have tk := takes_of (X := cxOf (L2.CX P w) P w K mg base [("script" : Str), ("k" : Str), ("a" : Str), ("b" : Str), ("sign" : Str), ("actual" : Str)] ("law" : Str) (defScope s_law) f cdv A outer s H E) (E := E) rfl rfl rfl rfl
  have hp := passes_of (X := cxOf (L2.CX P w) P w K mg base [("script" : Str), ("k" : Str), ("a" : Str), ("b" : Str), ("sign" : Str), ("actual" : Str)] ("law" : Str) (defScope s_law) f cdv A outer s H E) rfl
  exact (js_cons (js_for hp rfl (ji_rg1 T.b_range (ja_cons (j_op os_fdiv nox_opFdiv (j_op os_add nox_opAdd (j_callB cs_len nox_cLen T.b_len (by decide +kernel) (ja_cons (j_var 0) ja_nil)) j_int) j_int) ja_nil)) (jg_name 1 sc_law.nd)
  (js_cons (js_set 2 sc_law.nd (j_call d_law_value (hr.mono (by omega)) tk (ja_cons (j_call d_law_cell (hr.mono (by omega)) tk (ja_cons (j_var 0) (ja_cons (j_op os_mul nox_opMul j_int (j_var 1)) ja_nil))) ja_nil)))
  (js_cons (js_set 3 sc_law.nd (j_call d_law_value (hr.mono (by omega)) tk (ja_cons (j_call d_law_cell (hr.mono (by omega)) tk (ja_cons (j_var 0) (ja_cons (j_op os_add nox_opAdd (j_op os_mul nox_opMul j_int (j_var 1)) j_int) ja_nil))) ja_nil)))
  (js_cons (js_if (jt_cmp (os_eq hu) nox_opEqB (j_op os_mod nox_opMod (j_op os_fdiv nox_opFdiv (j_callTy cs_int nox_cInt T.b_int (by decide +kernel) (ja_cons (j_call d_law_cell (hr.mono (by omega)) tk (ja_cons (j_var 0) (ja_cons (j_op os_mul nox_opMul j_int (j_var 1)) ja_nil))) ja_nil)) j_int) j_int) j_int)
  (js_one (js_set 3 sc_law.nd (j_var 2))) js_nil)
  (js_one (js_for hp rfl (ji_tup (j_tup (ja_cons j_str (ja_cons j_str (ja_cons j_str (ja_cons j_str (ja_cons j_str (ja_cons j_str (ja_cons j_str ja_nil))))))))) (jg_name 4 sc_law.nd)
  (js_cons (js_set 5 sc_law.nd (j_call d_combine (hr.mono (by omega)) tk (ja_cons (j_var 4) (ja_cons (j_var 2) (ja_cons (j_var 3) ja_nil)))))
  (js_one (js_if (jt_w (jw_or (jt_not (jt_val (j_call d_law_is_integer (hr.mono (by omega)) tk (ja_cons (j_var 5) ja_nil)))) (jw_or1 (jt_cmp (os_ne hu) nox_opEqB (j_var 5) (j_call d_law_due (hr.mono (by omega)) tk (ja_cons (j_var 4) (ja_cons (j_var 2) (ja_cons (j_var 3) ja_nil))))))))
  (js_one (js_ret j_bl)) js_nil)))))))))
  (js_one (js_ret j_bl)))
end
/-! the text as the top leaves it -/
theorem all_mk {P : Program} {w : World} {K : PySem.W.Frag} {h : Heap} {mg : Str → Option Value} {fa : Addr} (X : K.In h) (G : h.Ns mainGlobals mg) (hfa : mg "law" = some (.ref fa))
    {f0 : Addr} {od0 an0 : Option Addr} {sl0 : Array (Option Value)} {oc0 kV0 dc0 pm0 cd0 ct0 : Value}
    (a0 : PySem.W.nsIn K mainGlobals ("combine" : Str) = some (some (.ref f0)))
    (l0 : K.lookup f0 = some ⟨oc0, od0, .func (PySem.W.fnOf ("combine" : Str) ("combine" : Str) (defArgs s_combine) (defBody s_combine) (defScope s_combine) .none kV0 dc0 pm0 an0 cd0 ct0), sl0⟩) (c0 : PySem.W.codeIn K cd0 ("combine" : Str) = true) (k0 : PySem.W.keepIn K (.ref f0) = true)
    {f1 : Addr} {od1 an1 : Option Addr} {sl1 : Array (Option Value)} {oc1 kV1 dc1 pm1 cd1 ct1 : Value}
    (a1 : PySem.W.nsIn K mainGlobals ("_law_cell" : Str) = some (some (.ref f1)))
    (l1 : K.lookup f1 = some ⟨oc1, od1, .func (PySem.W.fnOf ("_law_cell" : Str) ("_law_cell" : Str) (defArgs s_law_cell) (defBody s_law_cell) (defScope s_law_cell) .none kV1 dc1 pm1 an1 cd1 ct1), sl1⟩) (c1 : PySem.W.codeIn K cd1 ("_law_cell" : Str) = true) (k1 : PySem.W.keepIn K (.ref f1) = true)
    {f2 : Addr} {od2 an2 : Option Addr} {sl2 : Array (Option Value)} {oc2 kV2 dc2 pm2 cd2 ct2 : Value}
    (a2 : PySem.W.nsIn K mainGlobals ("_law_is_integer" : Str) = some (some (.ref f2)))
    (l2 : K.lookup f2 = some ⟨oc2, od2, .func (PySem.W.fnOf ("_law_is_integer" : Str) ("_law_is_integer" : Str) (defArgs s_law_is_integer) (defBody s_law_is_integer) (defScope s_law_is_integer) .none kV2 dc2 pm2 an2 cd2 ct2), sl2⟩) (c2 : PySem.W.codeIn K cd2 ("_law_is_integer" : Str) = true) (k2 : PySem.W.keepIn K (.ref f2) = true)
    {f3 : Addr} {od3 an3 : Option Addr} {sl3 : Array (Option Value)} {oc3 kV3 dc3 pm3 cd3 ct3 : Value}
    (a3 : PySem.W.nsIn K mainGlobals ("_law_value" : Str) = some (some (.ref f3)))
    (l3 : K.lookup f3 = some ⟨oc3, od3, .func (PySem.W.fnOf ("_law_value" : Str) ("_law_value" : Str) (defArgs s_law_value) (defBody s_law_value) (defScope s_law_value) .none kV3 dc3 pm3 an3 cd3 ct3), sl3⟩) (c3 : PySem.W.codeIn K cd3 ("_law_value" : Str) = true) (k3 : PySem.W.keepIn K (.ref f3) = true)
    {f4 : Addr} {od4 an4 : Option Addr} {sl4 : Array (Option Value)} {oc4 kV4 dc4 pm4 cd4 ct4 : Value}
    (a4 : PySem.W.nsIn K mainGlobals ("_law_due" : Str) = some (some (.ref f4)))
    (l4 : K.lookup f4 = some ⟨oc4, od4, .func (PySem.W.fnOf ("_law_due" : Str) ("_law_due" : Str) (defArgs s_law_due) (defBody s_law_due) (defScope s_law_due) .none kV4 dc4 pm4 an4 cd4 ct4), sl4⟩) (c4 : PySem.W.codeIn K cd4 ("_law_due" : Str) = true) (k4 : PySem.W.keepIn K (.ref f4) = true)
    {f5 : Addr} {od5 an5 : Option Addr} {sl5 : Array (Option Value)} {oc5 kV5 dc5 pm5 cd5 ct5 : Value}
    (a5 : PySem.W.nsIn K mainGlobals ("law" : Str) = some (some (.ref f5)))
    (l5 : K.lookup f5 = some ⟨oc5, od5, .func (PySem.W.fnOf ("law" : Str) ("law" : Str) (defArgs s_law) (defBody s_law) (defScope s_law) .none kV5 dc5 pm5 an5 cd5 ct5), sl5⟩) (c5 : PySem.W.codeIn K cd5 ("law" : Str) = true) (k5 : PySem.W.keepIn K (.ref f5) = true)
    (z_bool : PySem.W.nsIn K mainGlobals "bool" = some none)
    (z_int : PySem.W.nsIn K mainGlobals "int" = some none)
    (z_isinstance : PySem.W.nsIn K mainGlobals "isinstance" = some none)
    (z_len : PySem.W.nsIn K mainGlobals "len" = some none)
    (z_max : PySem.W.nsIn K mainGlobals "max" = some none)
    (z_range : PySem.W.nsIn K mainGlobals "range" = some none)
    {t_LARGEST : Tok} (n_LARGEST : PySem.W.nsIn K mainGlobals "LARGEST" = some (some (.int 65535 t_LARGEST))) :
    ∃ fd : FuncData, (∀ (s : Shared) (v : Value), BindsTo s fd ⟨[v], []⟩ [("script", v)]) ∧ ∀ base : Heap, K.In base → base.Ns mainGlobals mg → FnOk P w K mg base (L2.CX P w) 2 fa fd ["script"] (spLaw K f_law) := by
  have e := hfa.symm.trans (PySem.W.mg_of X G a5)
  cases e
  have F0 := fun_mk (st := s_combine) l0 c0 k0
  have b0 := F0.binds (ps := [("sign" : Str), ("left" : Str), ("right" : Str)]) fun _ _ _ _ _ _ us hl => match us, hl with | [_, _, _], _ => rfl
  have F1 := fun_mk (st := s_law_cell) l1 c1 k1
  have b1 := F1.binds (ps := [("script" : Str), ("k" : Str)]) fun _ _ _ _ _ _ us hl => match us, hl with | [_, _], _ => rfl
  have F2 := fun_mk (st := s_law_is_integer) l2 c2 k2
  have b2 := F2.binds (ps := [("actual" : Str)]) fun _ _ _ _ _ _ us hl => match us, hl with | [_], _ => rfl
  have F3 := fun_mk (st := s_law_value) l3 c3 k3
  have b3 := F3.binds (ps := [("cell" : Str)]) fun _ _ _ _ _ _ us hl => match us, hl with | [_], _ => rfl
  have F4 := fun_mk (st := s_law_due) l4 c4 k4
  have b4 := F4.binds (ps := [("sign" : Str), ("a" : Str), ("b" : Str)]) fun _ _ _ _ _ _ us hl => match us, hl with | [_, _, _], _ => rfl
  have F5 := fun_mk (st := s_law) l5 c5 k5
  have b5 := F5.binds (ps := [("script" : Str)]) fun _ _ _ _ _ _ us hl => match us, hl with | [_], _ => rfl
  refine ⟨PySem.W.fnOf "law" "law" (defArgs s_law) (defBody s_law) (defScope s_law) .none kV5 dc5 pm5 an5 cd5 ct5, fun s v => .of_eq rfl, fun base _ _ => law_fn (fun c => 0) fun H0 => ?_⟩
  have T : Txt K mg ⟨fun c => 0, H0, []⟩ := ⟨True.intro, PySem.W.mg_none_of X G z_bool, PySem.W.mg_none_of X G z_int, PySem.W.mg_none_of X G z_isinstance, PySem.W.mg_none_of X G z_len, PySem.W.mg_none_of X G z_max, PySem.W.mg_none_of X G z_range, gv_int (PySem.W.mg_of X G n_LARGEST)⟩
  have d3 : DefOk P w K mg base _ 1 ("_law_value" : Str) 1 f_law_value := ⟨⟨_, _, _, body_law_value T  F3, rfl, b3, PySem.W.mg_of X G a3, k3⟩⟩
  have d1 : DefOk P w K mg base _ 1 ("_law_cell" : Str) 2 f_law_cell := ⟨⟨_, _, _, body_law_cell T  F1, rfl, b1, PySem.W.mg_of X G a1, k1⟩⟩
  have d0 : DefOk P w K mg base _ 1 ("combine" : Str) 3 f_combine := ⟨⟨_, _, _, body_combine T  F0, rfl, b0, PySem.W.mg_of X G a0, k0⟩⟩
  have d2 : DefOk P w K mg base _ 1 ("_law_is_integer" : Str) 1 f_law_is_integer := ⟨⟨_, _, _, body_law_is_integer T  F2, rfl, b2, PySem.W.mg_of X G a2, k2⟩⟩
  have d4 : DefOk P w K mg base _ 1 ("_law_due" : Str) 3 f_law_due := ⟨⟨_, _, _, body_law_due T  F4, rfl, b4, PySem.W.mg_of X G a4, k4⟩⟩
  exact body_law T d3 d1 d0 d2 d4 F5
end Pr
/-- what is left: the plain law is true -/
def Pr.Goal : Prop := ∀ ns : List Int, ns.length ≤ 63 → ∃ st, Pr.f_law [.scr (ns.map Sh.Va.int)] [] = .ok (.bl true) st

set_option Elab.async false
set_option linter.all false
set_option maxRecDepth 100000
set_option maxHeartbeats 4000000
namespace Pr
open PySem PySem.Spec PyProof.Rows L2 Sh
def val (c : Int) : Int := if c % 3 = 0 then c / 3 % 5 else if c % 3 = 1 then 65535 - c / 3 % 5 else c / 3 % 65536
theorem val_in (c : Int) : 0 ≤ val c ∧ val c ≤ 65535 := by
  unfold val
  split
  · omega
  · split <;> omega
theorem f_value (c : Int) (st : Sto) : f_law_value [.int c] st = .ok (.int (val c)) st := by
  by_cases h0 : c % 3 = 0
  · simp [f_law_value, b_law_value, runF, sSeq, sIf, sRet, sNil, eT, tBl, e2, eA, aCons, aNil, bnd, bS, eVar, eC, cInt, opMod, opFdiv, opSub, qInt, val, h0]
  · by_cases h1 : c % 3 = 1
    · simp [f_law_value, b_law_value, runF, sSeq, sIf, sRet, sNil, eT, tBl, e2, eA, aCons, aNil, bnd, bS, eVar, eC, cInt, opMod, opFdiv, opSub, qInt, val, h1]
    · simp [f_law_value, b_law_value, runF, sSeq, sIf, sRet, sNil, eT, tBl, e2, eA, aCons, aNil, bnd, bS, eVar, eC, cInt, opMod, opFdiv, opSub, qInt, val, h0, h1]
def cell (ns : List Int) (k : Nat) : Int := ns.getD k 0
theorem f_cell (ns : List Int) (k : Nat) (st : Sto) : f_law_cell [.scr (ns.map Va.int), .int k] st = .ok (.int (cell ns k)) st := by
  by_cases h : k < ns.length
  · simp [f_law_cell, b_law_cell, runF, sSeq, sIf, sRet, sNil, eT, tBl, e2, eA, aCons, aNil, bnd, bS, eVar, eC, cLen, opLt, opIx, h, atI_nat', cell]
  · simp [f_law_cell, b_law_cell, runF, sSeq, sIf, sRet, sNil, eT, tBl, e2, eA, aCons, aNil, bnd, bS, eVar, eC, cLen, opLt, opIx, h, atI_nat', cell]
theorem f_isint (i : Int) (st : Sto) : f_law_is_integer [.int i] st = .ok (.bl true) st := by
  simp [f_law_is_integer, b_law_is_integer, runF, sRet, vAnd, vNot, eA, aCons, aNil, bnd, bS, eVar, eC, cIsi, tyW, isiB]
/-- what an operator does with two values of 0 .. 65535 -/
def comb (s : Str) (a b : Int) : Int :=
  if s = "+" then (a + b) % 65536 else if s = "-" then (if a - b > 0 then a - b else 0) else if s = "*" then a * b % 65536 else if s = "/" then (if b = 0 then 0 else a / b) else if s = "mod" then (if b = 0 then 0 else a % b) else if s = "<" then (if a < b then 1 else 0) else if a = b then 1 else 0
theorem f_comb (s : Str) (hs : s ∈ ([("+" : Str), "-", "*", "/", "mod", "<", "="] : List Str)) (a b : Int) (ha : 0 ≤ a ∧ a ≤ 65535) (hb : 0 ≤ b ∧ b ≤ 65535) (st : Sto) : f_combine [.str s, .int a, .int b] st = .ok (.int (comb s a b)) st := by
  have h64 : sm64 a = true := by
    unfold sm64
    rw [Bool.and_eq_true, decide_eq_true_eq, decide_eq_true_eq]
    omega
  have h640 : sm64 0 = true := by decide
  have h64b : sm64 b = true := by
    unfold sm64
    rw [Bool.and_eq_true, decide_eq_true_eq, decide_eq_true_eq]
    omega
  have hd : ∀ x : Int, x ≠ 0 → 0 ≤ x ∧ x ≤ 65535 → (0 < x ∧ x < 1073741824) := fun x h1 h2 => by omega
  simp only [List.mem_cons, List.not_mem_nil, or_false] at hs
  rcases hs with rfl | rfl | rfl | rfl | rfl | rfl | rfl
  all_goals
    by_cases hz : b = 0
    · subst hz
      by_cases hl : a < 0 <;> by_cases he : a = 0 <;> simp [f_combine, b_combine, runF, sSeq, sIf, sRet, sNil, eT, tBl, e2, eA, eIf, aCons, aNil, bnd, bS, eVar, eC, opMod, opFdiv, opSub, opAdd, opMul, opLt, cMax, qInt, qStr, str_eq, str_beq, comb, h64, h640, h64b, K_LARGEST, hl, he]
    · have hb' := hd b hz hb
      by_cases hl : a < b <;> by_cases he : a = b <;> simp [f_combine, b_combine, runF, sSeq, sIf, sRet, sNil, eT, tBl, e2, eA, eIf, aCons, aNil, bnd, bS, eVar, eC, opMod, opFdiv, opSub, opAdd, opMul, opLt, cMax, qInt, qStr, str_eq, str_beq, comb, h64, h640, h64b, K_LARGEST, hl, he, hz, hb']
theorem f_due (s : Str) (hs : s ∈ ([("+" : Str), "-", "*", "/", "mod", "<", "="] : List Str)) (a b : Int) (ha : 0 ≤ a ∧ a ≤ 65535) (hb : 0 ≤ b ∧ b ≤ 65535) (st : Sto) : f_law_due [.str s, .int a, .int b] st = .ok (.int (comb s a b)) st := by
  have h64 : sm64 a = true := by
    unfold sm64
    rw [Bool.and_eq_true, decide_eq_true_eq, decide_eq_true_eq]
    omega
  have h640 : sm64 0 = true := by decide
  have h64b : sm64 b = true := by
    unfold sm64
    rw [Bool.and_eq_true, decide_eq_true_eq, decide_eq_true_eq]
    omega
  have hd : ∀ x : Int, x ≠ 0 → 0 ≤ x ∧ x ≤ 65535 → (0 < x ∧ x < 1073741824) := fun x h1 h2 => by omega
  simp only [List.mem_cons, List.not_mem_nil, or_false] at hs
  rcases hs with rfl | rfl | rfl | rfl | rfl | rfl | rfl
  all_goals
    by_cases hz : b = 0
    · subst hz
      by_cases hl : a < 0 <;> by_cases he : a = 0 <;> simp [f_law_due, b_law_due, runF, sSeq, sIf, sRet, sNil, eT, tBl, e2, eA, eIf, aCons, aNil, bnd, bS, eVar, eC, opMod, opFdiv, opSub, opAdd, opMul, opLt, cMax, cInt, qInt, qStr, str_eq, str_beq, comb, h64, h640, h64b, K_LARGEST, hl, he]
    · have hb' := hd b hz hb
      by_cases hl : a < b <;> by_cases he : a = b <;> simp [f_law_due, b_law_due, runF, sSeq, sIf, sRet, sNil, eT, tBl, e2, eA, eIf, aCons, aNil, bnd, bS, eVar, eC, opMod, opFdiv, opSub, opAdd, opMul, opLt, cMax, cInt, qInt, qStr, str_eq, str_beq, comb, h64, h640, h64b, K_LARGEST, hl, he, hz, hb']
theorem turn (sc : Va) (x1 x2 x3 : Option Va) (a b : Int) (ha : 0 ≤ a ∧ a ≤ 65535) (hb : 0 ≤ b ∧ b ≤ 65535) (s : Str) (hs : s ∈ ([("+" : Str), "-", "*", "/", "mod", "<", "="] : List Str)) (st : Sto) (x5 : Option Va) :
    (sSeq (sSet 5 (eA (lenOk 3 f_combine) (aCons (eVar 4) (aCons (eVar 2) (aCons (eVar 3) aNil)))))
  (sIf (eOr (eNot (eT (eA (lenOk 1 f_law_is_integer) (aCons (eVar 5) aNil)))) (eT (e2 opNe (eVar 5) (eA (lenOk 3 f_law_due) (aCons (eVar 4) (aCons (eVar 2) (aCons (eVar 3) aNil)))))))
  (sRet (eC (.bl false))) sNil)) [x1, x2, some (.int a), some (.int b), some (.str s), x5] st = .nx [x1, x2, some (.int a), some (.int b), some (.str s), some (.int (comb s a b))] st := by
  simp [sSeq, sSet, sIf, sRet, sNil, eOr, eNot, eT, tBl, e2, eA, aCons, aNil, bnd, bS, eVar, eC, lenOk, f_comb s hs a b ha hb, f_due s hs a b ha hb, f_isint, qInt]
theorem inner (sc : Va) (a b : Int) (ha : 0 ≤ a ∧ a ≤ 65535) (hb : 0 ≤ b ∧ b ≤ 65535) (y1 y4 y5 : Option Va) (st : Sto) : ∃ env', forF (tgN 4) (sSeq (sSet 5 (eA (lenOk 3 f_combine) (aCons (eVar 4) (aCons (eVar 2) (aCons (eVar 3) aNil)))))
  (sIf (eOr (eNot (eT (eA (lenOk 1 f_law_is_integer) (aCons (eVar 5) aNil)))) (eT (e2 opNe (eVar 5) (eA (lenOk 3 f_law_due) (aCons (eVar 4) (aCons (eVar 2) (aCons (eVar 3) aNil)))))))
  (sRet (eC (.bl false))) sNil)) [.str ("+" : Str), .str ("-" : Str), .str ("*" : Str), .str ("/" : Str), .str ("mod" : Str), .str ("<" : Str), .str ("=" : Str)] [some sc, y1, some (.int a), some (.int b), y4, y5] st = .nx env' st ∧ ∃ x4 x5, env' = [some sc, y1, some (.int a), some (.int b), x4, x5] := by
  simp only [forF, tgN, List.set_cons_succ, List.set_cons_zero]
  rw [turn sc _ _ y4 a b ha hb _ (by simp)]
  dsimp only
  simp only [List.set_cons_succ, List.set_cons_zero]
  rw [turn sc _ _ y4 a b ha hb _ (by simp)]
  dsimp only
  simp only [List.set_cons_succ, List.set_cons_zero]
  rw [turn sc _ _ y4 a b ha hb _ (by simp)]
  dsimp only
  simp only [List.set_cons_succ, List.set_cons_zero]
  rw [turn sc _ _ y4 a b ha hb _ (by simp)]
  dsimp only
  simp only [List.set_cons_succ, List.set_cons_zero]
  rw [turn sc _ _ y4 a b ha hb _ (by simp)]
  dsimp only
  simp only [List.set_cons_succ, List.set_cons_zero]
  rw [turn sc _ _ y4 a b ha hb _ (by simp)]
  dsimp only
  simp only [List.set_cons_succ, List.set_cons_zero]
  rw [turn sc _ _ y4 a b ha hb _ (by simp)]
  exact ⟨_, rfl, _, _, rfl⟩
def lbody : Sm := (sSeq (sSet 2 (eA (lenOk 1 f_law_value) (aCons (eA (lenOk 2 f_law_cell) (aCons (eVar 0) (aCons (e2 opMul (eC (.int 2)) (eVar 1)) aNil))) aNil)))
  (sSeq (sSet 3 (eA (lenOk 1 f_law_value) (aCons (eA (lenOk 2 f_law_cell) (aCons (eVar 0) (aCons (e2 opAdd (e2 opMul (eC (.int 2)) (eVar 1)) (eC (.int 1))) aNil))) aNil)))
  (sSeq (sIf (eT (e2 opEq (e2 opMod (e2 opFdiv (eA cInt (aCons (eA (lenOk 2 f_law_cell) (aCons (eVar 0) (aCons (e2 opMul (eC (.int 2)) (eVar 1)) aNil))) aNil)) (eC (.int 7))) (eC (.int 3))) (eC (.int 1))))
  (sSet 3 (eVar 2)) sNil)
  (sFor (iT (eA opTup (aCons (eC (.str ("+" : Str))) (aCons (eC (.str ("-" : Str))) (aCons (eC (.str ("*" : Str))) (aCons (eC (.str ("/" : Str))) (aCons (eC (.str ("mod" : Str))) (aCons (eC (.str ("<" : Str))) (aCons (eC (.str ("=" : Str))) aNil))))))))) (tgN 4)
  (sSeq (sSet 5 (eA (lenOk 3 f_combine) (aCons (eVar 4) (aCons (eVar 2) (aCons (eVar 3) aNil)))))
  (sIf (eOr (eNot (eT (eA (lenOk 1 f_law_is_integer) (aCons (eVar 5) aNil)))) (eT (e2 opNe (eVar 5) (eA (lenOk 3 f_law_due) (aCons (eVar 4) (aCons (eVar 2) (aCons (eVar 3) aNil)))))))
  (sRet (eC (.bl false))) sNil))))))
theorem lturn (ns : List Int) (k : Nat) (x1 x2 x3 x4 x5 : Option Va) (st : Sto) : ∃ y2 y3 y4 y5, lbody [some (.scr (ns.map Va.int)), some (.int (k : Int)), x2, x3, x4, x5] st = .nx [some (.scr (ns.map Va.int)), some (.int (k : Int)), y2, y3, y4, y5] st := by
  have c0 : ∀ st, f_law_cell [.scr (ns.map Va.int), .int (2 * (k : Int))] st = .ok (.int (cell ns (2 * k))) st := fun st => by
    have := f_cell ns (2 * k) st
    rw [show ((2 * k : Nat) : Int) = 2 * (k : Int) by omega] at this
    exact this
  have c1 : ∀ st, f_law_cell [.scr (ns.map Va.int), .int (2 * (k : Int) + 1)] st = .ok (.int (cell ns (2 * k + 1))) st := fun st => by
    have := f_cell ns (2 * k + 1) st
    rw [show ((2 * k + 1 : Nat) : Int) = 2 * (k : Int) + 1 by omega] at this
    exact this
  have hsm : sm64 2 = true := by decide
  have va := val_in (cell ns (2 * k))
  have vb := val_in (cell ns (2 * k + 1))
  by_cases hq : cell ns (2 * k) / 7 % 3 = 1
  · obtain ⟨env', e1, x4', x5', e2'⟩ := inner (.scr (ns.map Va.int)) (val (cell ns (2 * k))) (val (cell ns (2 * k))) va va (some (.int (k : Int))) x4 x5 st
    subst e2'
    refine ⟨some (.int (val (cell ns (2 * k)))), some (.int (val (cell ns (2 * k)))), x4', x5', ?_⟩
    rw [← e1]
    simp [lbody, sSeq, sSet, sIf, sRet, sNil, sFor, iT, opTup, eT, tBl, e2, eA, aCons, aNil, bnd, bS, eVar, eC, lenOk, c0, c1, f_value, qInt, opMul, opAdd, hsm, cInt, opFdiv, opMod, hq]
  · obtain ⟨env', e1, x4', x5', e2'⟩ := inner (.scr (ns.map Va.int)) (val (cell ns (2 * k))) (val (cell ns (2 * k + 1))) va vb (some (.int (k : Int))) x4 x5 st
    subst e2'
    refine ⟨some (.int (val (cell ns (2 * k)))), some (.int (val (cell ns (2 * k + 1)))), x4', x5', ?_⟩
    rw [← e1]
    simp [lbody, sSeq, sSet, sIf, sRet, sNil, sFor, iT, opTup, eT, tBl, e2, eA, aCons, aNil, bnd, bS, eVar, eC, lenOk, c0, c1, f_value, qInt, opMul, opAdd, hsm, cInt, opFdiv, opMod, hq]
theorem lcount (ns : List Int) (r : En) : (e2 opFdiv (e2 opAdd (eA cLen (aCons (eVar 0) aNil)) (eC (.int 1))) (eC (.int 2))) (some (.scr (ns.map Va.int)) :: r) [] = .ok (.int (((ns.length : Int) + 1) / 2)) [] := by
  simp only [aCons, aNil, e2, eA, bnd, eVar, eC, cLen, opAdd, opFdiv, List.length_map, List.getElem?_cons_zero]
  rw [if_pos (by decide)]
theorem lsrc (ns : List Int) (hn : ns.length ≤ 63) (r : En) : iR1 (aCons (e2 opFdiv (e2 opAdd (eA cLen (aCons (eVar 0) aNil)) (eC (.int 1))) (eC (.int 2))) aNil) (some (.scr (ns.map Va.int)) :: r) [] = .ok (.fix (rangeW 0 (((ns.length : Int) + 1) / 2).toNat)) [] := by
  refine iR1_ok (st1 := []) (j := ((ns.length : Int) + 1) / 2) ?_ (by omega) (by omega)
  show bnd (e2 opFdiv (e2 opAdd (eA cLen (aCons (eVar 0) aNil)) (eC (.int 1))) (eC (.int 2)) (some (.scr (ns.map Va.int)) :: r) []) _ = _
  rw [lcount]
  rfl
def lsrcE : En → Mo Src := iR1 (aCons (e2 opFdiv (e2 opAdd (eA cLen (aCons (eVar 0) aNil)) (eC (.int 1))) (eC (.int 2))) aNil)
theorem lloop (ns : List Int) (hn : ns.length ≤ 63) : ∃ env' st', sFor lsrcE (tgN 1) lbody [some (.scr (ns.map Va.int)), none, none, none, none, none] [] = .nx env' st' := by
  obtain ⟨env', st', e, _⟩ := forF_inv (tg := tgN 1) (body := lbody) (fun env _ => ∃ x1 x2 x3 x4 x5, env = [some (.scr (ns.map Va.int)), x1, x2, x3, x4, x5]) (ws := rangeW 0 (((ns.length : Int) + 1) / 2).toNat)
    (fun w hw env st hp => by
      obtain ⟨k, hk, rfl⟩ := rangeW_mem hw
      obtain ⟨x1, x2, x3, x4, x5, rfl⟩ := hp
      obtain ⟨y2, y3, y4, y5, q⟩ := lturn ns k x1 x2 x3 x4 x5 st
      refine ⟨_, rfl, _, st, .inl ?_, some (.int (k : Int)), y2, y3, y4, y5, rfl⟩
      rw [Int.zero_add]
      exact q)
    (env := [some (.scr (ns.map Va.int)), none, none, none, none, none]) (st := []) ⟨_, _, _, _, _, rfl⟩
  refine ⟨env', st', ?_⟩
  unfold sFor lsrcE
  rw [lsrc ns hn]
  exact e
theorem lfn : f_law = runF 1 (sSeq (sFor lsrcE (tgN 1) lbody) (sRet (eC (.bl true)))) 6 := rfl
theorem goal : Goal := by
  intro ns hn
  obtain ⟨env', st', hf⟩ := lloop ns hn
  refine ⟨st', ?_⟩
  rw [lfn]
  refine run_rt [some (.scr (ns.map Va.int)), none, none, none, none, none] rfl ?_
  rw [seq_nx hf]
  rfl
end Pr

open PySem PySem.W PyProof.Rows
set_option maxRecDepth 100000 in
set_option maxHeartbeats 0 in
theorem PySem.Challenge.cw_nestcall_k01_operators_holds : PySem.Challenge.rw_nestcall_k01_operators.Holds := by
  w_on; o_law; k_head; (case hw => w_witness2)
  k_fill
  refine L2.walk_of (l := PySem.Challenge.rw_nestcall_k01_operators) (n := 63) (k := 2) (x := "script") (CX := fun w => L2.CX PySem.Challenge.rw_nestcall_k01_operators.prog w) (sp := fun w => Sh.spLaw _ Pr.f_law) rfl (by decide) rfl ⟨rfl, by decide, by decide⟩ (fun w h Y => PySem.W.kIn_of Y) ?F (fun _ _ a ns hl _ hS => Sh.law_sp hS (Pr.goal ns hl)) (fun _ _ _ _ _ h => Sh.cx_end h)
  case F =>
    intro w mg fa h KX G hmg
    refine' Pr.all_mk KX G hmg ?a0 ?l0 ?c0 ?k0 ?a1 ?l1 ?c1 ?k1 ?a2 ?l2 ?c2 ?k2 ?a3 ?l3 ?c3 ?k3 ?a4 ?l4 ?c4 ?k4 ?a5 ?l5 ?c5 ?k5 ?z_bool ?z_int ?z_isinstance ?z_len ?z_max ?z_range ?n_LARGEST
    (case a0 => k_is); (case l0 => k_is); (case c0 => k_is); (case k0 => k_is); (case a1 => k_is); (case l1 => k_is); (case c1 => k_is); (case k1 => k_is); (case a2 => k_is); (case l2 => k_is); (case c2 => k_is); (case k2 => k_is); (case a3 => k_is); (case l3 => k_is); (case c3 => k_is); (case k3 => k_is); (case a4 => k_is); (case l4 => k_is); (case c4 => k_is); (case k4 => k_is); (case a5 => k_is); (case l5 => k_is); (case c5 => k_is); (case k5 => k_is); (case z_bool => k_is); (case z_int => k_is); (case z_isinstance => k_is); (case z_len => k_is); (case z_max => k_is); (case z_range => k_is); (case n_LARGEST => k_is)

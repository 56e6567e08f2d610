import PyProof.Rows.All
import Wide.All
import OpenK.AllK
import Wide.FinOn
import HandS.ForMost
import HandS.ForExc
import HandS.Wide
import HandS.IsInst
import HandS.CallSlots
import HandS.TupAny
import HandS.RaiseMore
import HandS.FStr
import HandS.ExcIs
import KE.GoesNew
import KE.GoesMore
import HandS.HotCalls
import HandS.SetFor
import PySem.Challenge.RW_metergap_k04_histories_grown
set_option Elab.async false
set_option linter.all false
set_option maxRecDepth 100000
set_option maxHeartbeats 4000000
namespace PD
open PySem PySem.Spec PyProof.Rows L2
variable {K : PySem.W.Frag}

/-! ### plain data, and a value of the heap that stands for it; M: the lists that may still change -/
abbrev D := PyData
abbrev MS := Addr → Prop
/-- a list that the module's top left -/
def KLs (K : PySem.W.Frag) (a : Addr) (xs : List V) : Prop :=
  ∃ (o : Obj) (its : Array Value) (n : Nat), K.lookup a = some o ∧ o.cls = .type "list" ∧ o.dict = none ∧ o.data = .seq its n ∧ its.size ≤ sizeLine ∧ Vals xs its.toList
abbrev Sg := L2.St
mutual
inductive Rp (K : PySem.W.Frag) (M : MS) (H : Hp) : V → D → Prop
  | non : Rp K M H .non .none
  | bl (b : Bool) : Rp K M H (.bl b) (.bool b)
  | int (i : Int) : Rp K M H (.int i) (.int i)
  | str (x : Str) : Rp K M H (.str x) (.str x)
  | lst {a : Addr} {xs : List V} {ds : List D} : ¬ M a → Rd H a (.lst xs) → RpL K M H xs ds → Rp K M H (.ref a) (.list ds)
  | kls {a : Addr} {xs : List V} {ds : List D} : KLs K a xs → RpL K M H xs ds → Rp K M H (.ref a) (.list ds)
  | tup {a : Addr} {xs : List V} {ds : List D} : ¬ M a → Rd H a (.tup xs) → RpL K M H xs ds → Rp K M H (.ref a) (.tuple ds)
inductive RpL (K : PySem.W.Frag) (M : MS) (H : Hp) : List V → List D → Prop
  | nil : RpL K M H [] []
  | cons {v : V} {vs : List V} {d : D} {ds : List D} : Rp K M H v d → RpL K M H vs ds → RpL K M H (v :: vs) (d :: ds)
end
theorem rd_some {H : Hp} {a : Addr} {u : HO} (r : Rd H a u) : ∃ o, H a = some o := by
  rcases r with r | ⟨o, r⟩
  · exact ⟨_, r⟩
  · exact ⟨_, r⟩
theorem rd_to {H H' : Hp} {a : Addr} {u : HO} (r : Rd H a u) (h : ∀ o, H a = some o → H' a = some o) : Rd H' a u := by
  rcases r with r | ⟨o, r⟩
  · exact .inl (h _ r)
  · exact .inr ⟨o, h _ r⟩
section
variable {M M' : MS} {H H' : Hp}
mutual
theorem Rp.to (hM : ∀ a, ¬ M a → (∃ o, H a = some o) → ¬ M' a) (hH : ∀ a o, ¬ M a → H a = some o → H' a = some o) : ∀ (d : D) (v : V), Rp K M H v d → Rp K M' H' v d
  | .none, _, h => by cases h; exact .non
  | .bool _, _, h => by cases h; exact .bl _
  | .int _, _, h => by cases h; exact .int _
  | .str _, _, h => by cases h; exact .str _
  | .list ds, _, h => by
    cases h with
    | lst n r l => exact .lst (hM _ n (rd_some r)) (rd_to r fun o => hH _ o n) (RpL.to hM hH ds _ l)
    | kls r l => exact .kls r (RpL.to hM hH ds _ l)
  | .tuple ds, _, h => by
    cases h with
    | tup n r l => exact .tup (hM _ n (rd_some r)) (rd_to r fun o => hH _ o n) (RpL.to hM hH ds _ l)
  | .dict _, _, h => by cases h
theorem RpL.to (hM : ∀ a, ¬ M a → (∃ o, H a = some o) → ¬ M' a) (hH : ∀ a o, ¬ M a → H a = some o → H' a = some o) : ∀ (ds : List D) (vs : List V), RpL K M H vs ds → RpL K M' H' vs ds
  | [], _, h => by cases h; exact .nil
  | d :: ds, _, h => by
    cases h with
    | cons a b => exact .cons (Rp.to hM hH d _ a) (RpL.to hM hH ds _ b)
end
theorem Rp.same {v : V} {d : D} (h : Rp K M H v d) (s : Same H H') : Rp K M H' v d := Rp.to (fun _ n _ => n) (fun a o _ e => s a o e) d v h
theorem RpL.same {v : List V} {d : List D} (h : RpL K M H v d) (s : Same H H') : RpL K M H' v d := RpL.to (fun _ n _ => n) (fun a o _ e => s a o e) d v h
theorem Rp.anti {v : V} {d : D} (h : Rp K M H v d) (s : ∀ l, M' l → M l) : Rp K M' H v d := Rp.to (fun _ n _ m => n (s _ m)) (fun a o _ e => e) d v h
theorem RpL.anti {v : List V} {d : List D} (h : RpL K M H v d) (s : ∀ l, M' l → M l) : RpL K M' H v d := RpL.to (fun _ n _ m => n (s _ m)) (fun a o _ e => e) d v h
theorem RpL.length : ∀ {vs : List V} {ds : List D}, RpL K M H vs ds → vs.length = ds.length
  | _, _, .nil => rfl
  | _, _, .cons _ t => by simp [RpL.length t]
theorem RpL.get : ∀ {vs : List V} {ds : List D} {i : Nat} {d : D}, RpL K M H vs ds → ds[i]? = some d → ∃ v, vs[i]? = some v ∧ Rp K M H v d
  | _, _, _, _, .nil, e => by simp at e
  | _, _, 0, _, .cons a t, e => by
    have e' := Option.some.inj e
    subst e'
    exact ⟨_, rfl, a⟩
  | _, _, i + 1, _, .cons a t, e => by
    obtain ⟨v, h1, h2⟩ := RpL.get (i := i) t (by simpa using e)
    exact ⟨v, by simpa using h1, h2⟩
theorem RpL.getV : ∀ {vs : List V} {ds : List D} {i : Nat} {v : V}, RpL K M H vs ds → vs[i]? = some v → ∃ d, ds[i]? = some d ∧ Rp K M H v d
  | _, _, _, _, .nil, e => by simp at e
  | _, _, 0, _, .cons a t, e => by
    have e' := Option.some.inj e
    subst e'
    exact ⟨_, rfl, a⟩
  | _, _, i + 1, _, .cons a t, e => by
    obtain ⟨v, h1, h2⟩ := RpL.getV (i := i) t (by simpa using e)
    exact ⟨v, by simpa using h1, h2⟩
theorem RpL.app : ∀ {vs ws : List V} {ds es : List D}, RpL K M H vs ds → RpL K M H ws es → RpL K M H (vs ++ ws) (ds ++ es)
  | _, _, _, _, .nil, s => s
  | _, _, _, _, .cons a t, s => .cons a (RpL.app t s)
theorem RpL.take : ∀ {vs : List V} {ds : List D} (n : Nat), RpL K M H vs ds → RpL K M H (vs.take n) (ds.take n)
  | _, _, 0, _ => .nil
  | _, _, _ + 1, .nil => .nil
  | _, _, n + 1, .cons a t => .cons a (RpL.take n t)
theorem RpL.drop : ∀ {vs : List V} {ds : List D} (n : Nat), RpL K M H vs ds → RpL K M H (vs.drop n) (ds.drop n)
  | _, _, 0, r => r
  | _, _, _ + 1, .nil => .nil
  | _, _, n + 1, .cons _ t => RpL.drop n t
theorem RpL.nil_iff {vs : List V} {ds : List D} (r : RpL K M H vs ds) : vs.isEmpty = ds.isEmpty := by cases r <;> rfl
theorem RpL.one {v : V} {d : D} (r : Rp K M H v d) : RpL K M H [v] [d] := .cons r .nil
mutual
theorem Rp.dp : ∀ (d : D) (v : V), Rp K M H v d → Dp K H v d
  | .none, _, h => by cases h; exact .non
  | .bool _, _, h => by cases h; exact .bl _
  | .int _, _, h => by cases h; exact .int _
  | .str _, _, h => by cases h; exact .str _
  | .list ds, _, h => by
    cases h with
    | lst n r l => exact .lst (.inl r) (RpL.dp ds _ l)
    | kls r l => exact .lst (.inr r) (RpL.dp ds _ l)
  | .tuple ds, _, h => by
    cases h with
    | tup n r l => exact .tup (.inl r) (RpL.dp ds _ l)
  | .dict _, _, h => by cases h
theorem RpL.dp : ∀ (ds : List D) (vs : List V), RpL K M H vs ds → DpAll K H vs ds
  | [], _, h => by cases h; exact .nil
  | d :: ds, _, h => by
    cases h with
    | cons a b => exact .cons (Rp.dp d _ a) (RpL.dp ds _ b)
end
end
/-- the same, but a list at the top may be one that still changes -/
def Rw (K : PySem.W.Frag) (M : MS) (H : Hp) (v : V) : D → Prop
  | .list ds => ∃ a xs, v = .ref a ∧ SqL K H a xs ∧ RpL K M H xs ds
  | d => Rp K M H v d
section
variable {M M' : MS} {H H' : Hp} {v : V} {d : D}
theorem Rp.weak (h : Rp K M H v d) : Rw K M H v d := by
  cases h with
  | lst n r l => exact ⟨_, _, rfl, .inl r, l⟩
  | kls r l => exact ⟨_, _, rfl, .inr r, l⟩
  | non => exact .non
  | bl => exact .bl _
  | int => exact .int _
  | str => exact .str _
  | tup n r l => exact .tup n r l
theorem Rw.same (h : Rw K M H v d) (s : Same H H') : Rw K M H' v d := by
  cases d with
  | list ds =>
    obtain ⟨a, xs, e, r, l⟩ := h
    exact ⟨a, xs, e, s.seq r, l.same s⟩
  | none => exact Rp.same h s
  | bool => exact Rp.same h s
  | int => exact Rp.same h s
  | str => exact Rp.same h s
  | tuple => exact Rp.same h s
  | dict => exact Rp.same h s
theorem Rw.dp (h : Rw K M H v d) : Dp K H v d := by
  cases d with
  | list ds =>
    obtain ⟨a, xs, e, r, l⟩ := h
    subst e
    exact .lst r (RpL.dp ds _ l)
  | none => exact Rp.dp _ _ h
  | bool => exact Rp.dp _ _ h
  | int => exact Rp.dp _ _ h
  | str => exact Rp.dp _ _ h
  | tuple => exact Rp.dp _ _ h
  | dict => exact Rp.dp _ _ h
theorem Rw.int_ {i : Int} (h : Rw K M H v (.int i)) : v = .int i := by cases (show Rp K M H v (.int i) from h); rfl
theorem Rw.bool_ {i : Bool} (h : Rw K M H v (.bool i)) : v = .bl i := by cases (show Rp K M H v (.bool i) from h); rfl
theorem Rw.str_ {i : Str} (h : Rw K M H v (.str i)) : v = .str i := by cases (show Rp K M H v (.str i) from h); rfl
theorem Rw.none_ (h : Rw K M H v .none) : v = .non := by cases (show Rp K M H v .none from h); rfl
theorem Rw.tup_ {ds : List D} (h : Rw K M H v (.tuple ds)) : ∃ a xs, v = .ref a ∧ Rd H a (.tup xs) ∧ RpL K M H xs ds ∧ ¬ M a := by
  cases (show Rp K M H v (.tuple ds) from h) with
  | tup n r l => exact ⟨_, _, rfl, r, l, n⟩
theorem Rw.lst_ {ds : List D} (h : Rw K M H v (.list ds)) : ∃ a xs, v = .ref a ∧ SqL K H a xs ∧ RpL K M H xs ds := h
end
theorem same_upd {H : Hp} {p : Addr} {o : HO} (h : H p = none) : Same H (upd H p o) := fun b u e => by
  rw [upd_ne (ne_of_none e h)]
  exact e

/-! ### slots -/
inductive Sl where
  | no | val (d : D) | own (ds : List D) | exc (a : Addr)
abbrev Rho := List Sl
def SlR (K : PySem.W.Frag) (M : MS) (H : Hp) (o : Option (Option V)) : Sl → Prop
  | .no => True
  | .exc a => o = some (some (.ref a))
  | .val d => ∃ v, o = some (some v) ∧ Rp K M H v d
  | .own ds => ∃ l vs, o = some (some (.ref l)) ∧ M l ∧ H l = some (.lst vs) ∧ RpL K M H vs ds
structure En (K : PySem.W.Frag) (M : MS) (H : Hp) (st : Sg) (r : Rho) : Prop where
  live : ∀ l, M l → ∃ o, H l = some o
  slot : ∀ (i : Nat) (s : Sl), r[i]? = some s → SlR K M H st[i]? s
  len : st.length = r.length
theorem SlR.same {M : MS} {H H' : Hp} {o : Option (Option V)} {s : Sl} (h : SlR K M H o s) (q : Same H H') : SlR K M H' o s := by
  cases s with
  | no => exact trivial
  | exc a => exact h
  | val d =>
    obtain ⟨v, e, r⟩ := h
    exact ⟨v, e, r.same q⟩
  | own ds =>
    obtain ⟨l, vs, e, m, hl, r⟩ := h
    exact ⟨l, vs, e, m, q _ _ hl, r.same q⟩
theorem En.same {M : MS} {H H' : Hp} {st : Sg} {r : Rho} (h : En K M H st r) (q : Same H H') : En K M H' st r :=
  ⟨fun l m => (h.live l m).elim fun o e => ⟨o, q _ _ e⟩, fun i s e => (h.slot i s e).same q, h.len⟩
theorem En.fresh {M : MS} {H : Hp} {st : Sg} {r : Rho} (h : En K M H st r) {p : Addr} (e : H p = none) : ¬ M p := fun m => by
  obtain ⟨o, q⟩ := h.live p m
  rw [e] at q
  cases q

/-! ### results; an error is told by the number of its class -/
abbrev PWs := Nat → Sg → Hp → Prop
inductive Res (α : Type) where
  | ok (a : α) | ex (c : Nat) | no
def Res.bind {α β : Type} : Res α → (α → Res β) → Res β
  | .ok a, k => k a
  | .ex c, _ => .ex c
  | .no, _ => .no
@[simp] theorem bind_ok {α β : Type} (a : α) (k : α → Res β) : (Res.ok a).bind k = k a := eq_of_heq HEq.rfl
@[simp] theorem bind_ex {α β : Type} (c : Nat) (k : α → Res β) : (Res.ex c).bind k = .ex c := eq_of_heq HEq.rfl
@[simp] theorem bind_no {α β : Type} (k : α → Res β) : (Res.no : Res α).bind k = .no := eq_of_heq HEq.rfl
def Res.fold {α β : Type} (r : Res α) (k : α → β) (e : Nat → β) (n : β) : β := match r with
  | .ok a => k a
  | .ex c => e c
  | .no => n
@[simp] theorem fold_ok {α β : Type} (a : α) (k : α → β) (e : Nat → β) (n : β) : (Res.ok a).fold k e n = k a := eq_of_heq HEq.rfl
@[simp] theorem fold_ex {α β : Type} (c : Nat) (k : α → β) (e : Nat → β) (n : β) : (Res.ex c).fold k e n = e c := eq_of_heq HEq.rfl
@[simp] theorem fold_no {α β : Type} (k : α → β) (e : Nat → β) (n : β) : (Res.no : Res α).fold k e n = n := eq_of_heq HEq.rfl

abbrev RR := PySem.W.Frag → MS → Hp → V → D → Prop
def Dem (K : PySem.W.Frag) (R : RR) (W : PWs) (M : MS) (st : Sg) (H : Hp) (r : Res D) (Q : VK) : Prop :=
  match r with
  | .ok d => ∀ v H', Same H H' → R K M H' v d → Q v H'
  | .ex c => ∀ H', Same H H' → W c st H'
  | .no => False
def DemA (K : PySem.W.Frag) (W : PWs) (M : MS) (st : Sg) (H : Hp) (r : Res (List D)) (Q : List V → Hp → Prop) : Prop :=
  match r with
  | .ok d => ∀ v H', Same H H' → RpL K M H' v d → Q v H'
  | .ex c => ∀ H', Same H H' → W c st H'
  | .no => False
def DemT (W : PWs) (st : Sg) (H : Hp) (r : Res Bool) (Q : Bool → Hp → Prop) : Prop :=
  match r with
  | .ok d => ∀ H', Same H H' → Q d H'
  | .ex c => ∀ H', Same H H' → W c st H'
  | .no => False
theorem Dem.ext {R : RR} {W : PWs} {M : MS} {st : Sg} {H H' : Hp} {r : Res D} {Q : VK} (h : Dem K R W M st H r Q) (q : Same H H') : Dem K R W M st H' r Q := by
  cases r with
  | ok d => exact fun v H2 q2 => h v H2 (q.trans q2)
  | ex c => exact fun H2 q2 => h H2 (q.trans q2)
  | no => exact h
theorem DemA.ext {W : PWs} {M : MS} {st : Sg} {H H' : Hp} {r : Res (List D)} {Q : List V → Hp → Prop} (h : DemA K W M st H r Q) (q : Same H H') : DemA K W M st H' r Q := by
  cases r with
  | ok d => exact fun v H2 q2 => h v H2 (q.trans q2)
  | ex c => exact fun H2 q2 => h H2 (q.trans q2)
  | no => exact h
theorem DemT.ext {W : PWs} {st : Sg} {H H' : Hp} {r : Res Bool} {Q : Bool → Hp → Prop} (h : DemT W st H r Q) (q : Same H H') : DemT W st H' r Q := by
  cases r with
  | ok d => exact fun H2 q2 => h H2 (q.trans q2)
  | ex c => exact fun H2 q2 => h H2 (q.trans q2)
  | no => exact h
def tE (K : PySem.W.Frag) (R : RR) (W : PWs) (g : Rho → Res D) : TE := fun st H Q => ∃ r M, En K M H st r ∧ Dem K R W M st H (g r) Q
def tA (K : PySem.W.Frag) (W : PWs) (g : Rho → Res (List D)) : TA := fun st H Q => ∃ r M, En K M H st r ∧ DemA K W M st H (g r) Q
def tT (K : PySem.W.Frag) (W : PWs) (g : Rho → Res Bool) : TT := fun st H Q => ∃ r M, En K M H st r ∧ DemT W st H (g r) Q
structure DE (X : Cx) (W : PWs) (e : Expr) (g : Rho → Res D) : Prop where
  run : PE X e (tE X.K Rp W g)
structure DW (X : Cx) (W : PWs) (e : Expr) (g : Rho → Res D) : Prop where
  run : PE X e (tE X.K Rw W g)
structure DA (X : Cx) (W : PWs) (es : List Expr) (g : Rho → Res (List D)) : Prop where
  run : PA X es (tA X.K W g)
structure DT (X : Cx) (W : PWs) (e : Expr) (g : Rho → Res Bool) : Prop where
  run : PT X e (tT X.K W g)
theorem _root_.L2.PE.imp {X : Cx} {e : Expr} {t t' : TE} (h : PE X e t) (k : ∀ st H Q, t' st H Q → t st H Q) : PE X e t' := ⟨fun pins s st H Q I q => h.run pins s st H Q I (k _ _ _ q)⟩
theorem _root_.L2.PT.imp {X : Cx} {e : Expr} {t t' : TT} (h : PT X e t) (k : ∀ st H Q, t' st H Q → t st H Q) : PT X e t' := ⟨fun pins s st H Q I q => h.run pins s st H Q I (k _ _ _ q)⟩
theorem _root_.L2.PW.imp {X : Cx} {e : Expr} {t t' : TT} (h : PW X e t) (k : ∀ st H Q, t' st H Q → t st H Q) : PW X e t' := ⟨fun wh pins s st H Q I q => h.run wh pins s st H Q I (k _ _ _ q)⟩
theorem _root_.L2.PA.imp {X : Cx} {e : List Expr} {t t' : TA} (h : PA X e t) (k : ∀ st H Q, t' st H Q → t st H Q) : PA X e t' := ⟨fun pos pins s st H Q I q => h.run pos pins s st H Q I (k _ _ _ q)⟩
theorem _root_.L2.PS.imp {X : Cx} {e : Stmt} {t t' : TS} (h : PS X e t) (k : ∀ D st H, t' D st H → t D st H) : PS X e t' := ⟨fun pins s st H Q I q => h.run pins s st H Q I (k _ _ _ q)⟩
theorem _root_.L2.PSs.imp {X : Cx} {e : List Stmt} {t t' : TS} (h : PSs X e t) (k : ∀ D st H, t' D st H → t D st H) : PSs X e t' := ⟨fun pins s st H Q I q => h.run pins s st H Q I (k _ _ _ q)⟩

section
variable {R Ra Rb : RR} {W : PWs} {M : MS} {st : Sg} {H : Hp} {r : Rho} {ga gb : Rho → Res D}
/-- one value, then what hangs on it -/
theorem Dem.then {x : Res D} {k : D → Res D} {Q : VK} {P : V → Hp → Prop} (en : En K M H st r) (h : Dem K R W M st H (x.bind k) Q)
    (hk : ∀ d v H1, x = .ok d → Same H H1 → En K M H1 st r → Ra K M H1 v d → Dem K R W M st H1 (k d) Q → P v H1) : Dem K Ra W M st H x P := by
  cases x with
  | ok d => exact fun v H1 q rv => hk d v H1 rfl q (en.same q) rv (Dem.ext h q)
  | ex c => exact h
  | no => exact h
theorem Dem.thenA {x : Res D} {k : D → Res (List D)} {Q : List V → Hp → Prop} {P : V → Hp → Prop} (en : En K M H st r) (h : DemA K W M st H (x.bind k) Q)
    (hk : ∀ d v H1, x = .ok d → Same H H1 → En K M H1 st r → Ra K M H1 v d → DemA K W M st H1 (k d) Q → P v H1) : Dem K Ra W M st H x P := by
  cases x with
  | ok d => exact fun v H1 q rv => hk d v H1 rfl q (en.same q) rv (DemA.ext h q)
  | ex c => exact h
  | no => exact h
theorem DemA.then {x : Res (List D)} {k : List D → Res D} {Q : VK} {P : List V → Hp → Prop} (en : En K M H st r) (h : Dem K R W M st H (x.bind k) Q)
    (hk : ∀ d v H1, x = .ok d → Same H H1 → En K M H1 st r → RpL K M H1 v d → Dem K R W M st H1 (k d) Q → P v H1) : DemA K W M st H x P := by
  cases x with
  | ok d => exact fun v H1 q rv => hk d v H1 rfl q (en.same q) rv (Dem.ext h q)
  | ex c => exact h
  | no => exact h
theorem DemA.thenA {x : Res (List D)} {k : List D → Res (List D)} {Q : List V → Hp → Prop} {P : List V → Hp → Prop} (en : En K M H st r) (h : DemA K W M st H (x.bind k) Q)
    (hk : ∀ d v H1, x = .ok d → Same H H1 → En K M H1 st r → RpL K M H1 v d → DemA K W M st H1 (k d) Q → P v H1) : DemA K W M st H x P := by
  cases x with
  | ok d => exact fun v H1 q rv => hk d v H1 rfl q (en.same q) rv (DemA.ext h q)
  | ex c => exact h
  | no => exact h
theorem Dem.thenT {x : Res D} {k : D → Res Bool} {Q : Bool → Hp → Prop} {P : V → Hp → Prop} (en : En K M H st r) (h : DemT W st H (x.bind k) Q)
    (hk : ∀ d v H1, x = .ok d → Same H H1 → En K M H1 st r → Ra K M H1 v d → DemT W st H1 (k d) Q → P v H1) : Dem K Ra W M st H x P := by
  cases x with
  | ok d => exact fun v H1 q rv => hk d v H1 rfl q (en.same q) rv (DemT.ext h q)
  | ex c => exact h
  | no => exact h
theorem DemT.thenT {x : Res Bool} {k : Bool → Res Bool} {Q : Bool → Hp → Prop} {P : Bool → Hp → Prop} (en : En K M H st r) (h : DemT W st H (x.bind k) Q)
    (hk : ∀ d H1, x = .ok d → Same H H1 → En K M H1 st r → DemT W st H1 (k d) Q → P d H1) : DemT W st H x P := by
  cases x with
  | ok d => exact fun H1 q => hk d H1 rfl q (en.same q) (DemT.ext h q)
  | ex c => exact h
  | no => exact h
theorem DemT.then {x : Res Bool} {k : Bool → Res D} {Q : VK} {P : Bool → Hp → Prop} (en : En K M H st r) (h : Dem K R W M st H (x.bind k) Q)
    (hk : ∀ d H1, x = .ok d → Same H H1 → En K M H1 st r → Dem K R W M st H1 (k d) Q → P d H1) : DemT W st H x P := by
  cases x with
  | ok d => exact fun H1 q => hk d H1 rfl q (en.same q) (Dem.ext h q)
  | ex c => exact h
  | no => exact h
end

/-! ### expressions -/
section
variable {X : Cx} {W : PWs} {e a b c : Expr} {es : List Expr} {g ga gb gc : Rho → Res D} {gl : Rho → Res (List D)} {gt gu : Rho → Res Bool} {pos p : Pos}
theorem DE.weak (h : DE X W e g) : DW X W e g := ⟨h.run.imp fun st H Q ⟨r, M, en, q⟩ => ⟨r, M, en, by
  revert q
  cases g r with
  | ok d => exact fun q v H' s rw => q v H' s rw.weak
  | ex c => exact fun q => q
  | no => exact fun q => q⟩⟩
/-- reading a slot -/
def rd (i : Nat) (r : Rho) : Res D := match r[i]? with
  | some (.val d) => .ok d
  | _ => .no
def rdw (i : Nat) (r : Rho) : Res D := match r[i]? with
  | some (.val d) => .ok d
  | some (.own ds) => .ok (.list ds)
  | _ => .no
theorem de_var {i : Nat} {x : Str} (h : PE X (.Name x pos) (tVar i)) : DE X W (.Name x pos) (rd i) := ⟨h.imp fun st H Q ⟨r, M, en, q⟩ => by
  unfold rd at q
  cases e : r[i]? with
  | none => rw [e] at q; exact q.elim
  | some s =>
    rw [e] at q
    cases s with
    | no => exact q.elim
    | exc a => exact q.elim
    | own _ => exact q.elim
    | val d =>
      obtain ⟨v, e2, rv⟩ := en.slot i _ e
      exact ⟨v, e2, q v H (Same.refl _) rv⟩⟩
theorem dw_var {i : Nat} {x : Str} (h : PE X (.Name x pos) (tVar i)) : DW X W (.Name x pos) (rdw i) := ⟨h.imp fun st H Q ⟨r, M, en, q⟩ => by
  unfold rdw at q
  cases e : r[i]? with
  | none => rw [e] at q; exact q.elim
  | some s =>
    rw [e] at q
    cases s with
    | no => exact q.elim
    | exc a => exact q.elim
    | own ds =>
      obtain ⟨l, vs, e2, m, hl, rv⟩ := en.slot i _ e
      exact ⟨_, e2, q _ H (Same.refl _) ⟨l, vs, rfl, SqL.of hl, rv⟩⟩
    | val d =>
      obtain ⟨v, e2, rv⟩ := en.slot i _ e
      exact ⟨v, e2, q v H (Same.refl _) rv.weak⟩⟩
theorem de_const {v : V} {d : D} (h : PE X e (tC v)) (k : ∀ M H, Rp X.K M H v d) : DE X W e (fun _ => .ok d) := ⟨h.imp fun st H Q ⟨r, M, en, q⟩ => q v H (Same.refl _) (k M H)⟩
theorem de_int {i j} : DE X W (.Constant (.int i) j pos) (fun _ => .ok (.int i)) := de_const pe_int fun _ _ => .int _
theorem de_bl {i j} : DE X W (.Constant (.bool i) j pos) (fun _ => .ok (.bool i)) := de_const pe_bl fun _ _ => .bl _
theorem de_non {j} : DE X W (.Constant .none j pos) (fun _ => .ok .none) := de_const pe_non fun _ _ => .non
theorem de_str {i j} : DE X W (.Constant (.str i) j pos) (fun _ => .ok (.str i)) := de_const pe_str fun _ _ => .str _

/-- a two-place rule of the layer, by data -/
def OpD (K : PySem.W.Frag) (W : PWs) (r : R2) (f : D → D → Res D) : Prop :=
  ∀ (M : MS) (st : Sg) (rh : Rho) (H : Hp) (x y : V) (d e : D) (Q : VK), En K M H st rh → Rw K M H x d → Rw K M H y e → Dem K Rp W M st H (f d e) Q → r x y H Q
def bin2 (f : D → D → Res D) (ga gb : Rho → Res D) (r : Rho) : Res D := (ga r).bind fun d => (gb r).bind fun e => f d e
theorem tOp_of {r2 : R2} {f : D → D → Res D} (o : OpD K W r2 f) {st : Sg} {H : Hp} {Q : VK} (h : tE K Rp W (bin2 f ga gb) st H Q) : tOp r2 (tE K Rw W ga) (tE K Rw W gb) st H Q := by
  obtain ⟨r, M, en, q⟩ := h
  refine ⟨r, M, en, Dem.then (R := Rp) (Ra := Rw) en q fun d v H1 _ s1 en1 r1 q1 => ?_⟩
  refine ⟨r, M, en1, Dem.then (R := Rp) (Ra := Rw) en1 q1 fun d2 v2 H2 _ s2 en2 r2' q2 => ?_⟩
  exact o M st r H2 v v2 d d2 Q en2 (r1.same s2) r2' q2
theorem de_op {op : Operator} {r2 : R2} {f : D → D → Res D} (ho : OpR X (binaryOp op) r2) (o : OpD X.K W r2 f) (ha : DW X W a ga) (hb : DW X W b gb) : DE X W (.BinOp a op b pos) (bin2 f ga gb) :=
  ⟨(pe_op ho ha.run hb.run).imp fun _ _ _ h => tOp_of o h⟩
theorem de_cmp {op : CmpOp} {r2 : R2} {f : D → D → Res D} (ho : OpR X (compareOp op) r2) (o : OpD X.K W r2 f) (ha : DW X W a ga) (hb : DW X W b gb) (hm : behindInMarks op b = false) : DE X W (.Compare a [op] [b] pos) (bin2 f ga gb) :=
  ⟨(pe_cmpR ho ha.run hb.run hm).imp fun _ _ _ h => tOp_of o h⟩
theorem de_ix {r2 : R2} {f : D → D → Res D} (ho : IxR X r2) (o : OpD X.K W r2 f) (ha : DW X W a ga) (hb : DW X W b gb) (hs : PlainIx b) : DE X W (.Subscript a b pos) (bin2 f ga gb) :=
  ⟨(pe_ix ho ha.run hb.run hs).imp fun _ _ _ h => tOp_of o h⟩

/-! ints -/
def iAdd : D → D → Res D
  | .int i, .int j => .ok (.int (i + j))
  | _, _ => .no
def iSub : D → D → Res D
  | .int i, .int j => .ok (.int (i - j))
  | _, _ => .no
def MulOk (i j : Int) : Prop := CMul i j ∨ CMulW i j
open Classical in
noncomputable def iMul : D → D → Res D
  | .int i, .int j => if MulOk i j then .ok (.int (i * j)) else .no
  | _, _ => .no
open Classical in
noncomputable def iDiv : D → D → Res D
  | .int i, .int j => if CDivW i j then .ok (.int (i / j)) else .no
  | _, _ => .no
def iMod : D → D → Res D
  | .int i, .int j => if 0 < j then .ok (.int (i % j)) else .no
  | _, _ => .no
def iCmp (p : Int → Int → Bool) : D → D → Res D
  | .int i, .int j => .ok (.bool (p i j))
  | _, _ => .no
theorem opd_int0 {h : Int → Int → Int} {f : D → D → Res D} (hf : ∀ i j, f (.int i) (.int j) = .ok (.int (h i j))) (hn : ∀ d e, (∀ i j, ¬ (d = .int i ∧ e = .int j)) → f d e = .no) : OpD K W (rI0 fun i j => .int (h i j)) f := by
  intro M st r H x y d e Q en rx ry q
  by_cases hc : ∃ i j, d = .int i ∧ e = .int j
  · obtain ⟨i, j, rfl, rfl⟩ := hc
    rw [hf] at q
    exact ⟨i, j, rx.int_, ry.int_, q _ H (Same.refl _) (.int _)⟩
  · rw [hn d e fun i j z => hc ⟨i, j, z⟩] at q
    exact q.elim
theorem opd_add : OpD K W (rI0 fun i j => .int (i + j)) iAdd := opd_int0 (fun _ _ => rfl) fun d e h => by
  cases d <;> cases e <;> first | rfl | exact absurd ⟨rfl, rfl⟩ (h _ _)
theorem opd_sub : OpD K W (rI0 fun i j => .int (i - j)) iSub := opd_int0 (fun _ _ => rfl) fun d e h => by
  cases d <;> cases e <;> first | rfl | exact absurd ⟨rfl, rfl⟩ (h _ _)
theorem opd_cmp (p : Int → Int → Bool) : OpD K W (rI0 fun i j => .bl (p i j)) (iCmp p) := by
  intro M st r H x y d e Q en rx ry q
  cases d <;> cases e <;> first | exact q.elim | exact ⟨_, _, rx.int_, ry.int_, q _ H (Same.refl _) (.bl _)⟩
theorem op_mul2 : OpR X (binaryOp .Mult) (fun x y H Q => rI CMul (fun i j => .int (i * j)) x y H Q ∨ rI CMulW (fun i j => .int (i * j)) x y H Q) := op_mul.or op_mulW
open Classical in
theorem opd_mul : OpD K W (fun x y H Q => rI CMul (fun i j => .int (i * j)) x y H Q ∨ rI CMulW (fun i j => .int (i * j)) x y H Q) iMul := by
  intro M st r H x y d e Q en rx ry q
  cases d <;> cases e <;> first
    | exact q.elim
    | (rename_i i j
       simp only [iMul] at q
       by_cases hc : MulOk i j
       · rw [if_pos hc] at q
         rcases hc with hc | hc
         · exact .inl ⟨_, _, rx.int_, ry.int_, hc, q _ H (Same.refl _) (.int _)⟩
         · exact .inr ⟨_, _, rx.int_, ry.int_, hc, q _ H (Same.refl _) (.int _)⟩
       · rw [if_neg hc] at q
         exact q.elim)
open Classical in
theorem opd_div : OpD K W (rI CDivW fun i j => .int (i / j)) iDiv := by
  intro M st r H x y d e Q en rx ry q
  cases d <;> cases e <;> first
    | exact q.elim
    | (rename_i i j
       simp only [iDiv] at q
       by_cases hc : CDivW i j
       · rw [if_pos hc] at q
         exact ⟨_, _, rx.int_, ry.int_, hc, q _ H (Same.refl _) (.int _)⟩
       · rw [if_neg hc] at q
         exact q.elim)
theorem opd_mod : OpD K W (rI (fun _ j => 0 < j) fun i j => .int (i % j)) iMod := by
  intro M st r H x y d e Q en rx ry q
  cases d <;> cases e <;> first
    | exact q.elim
    | (rename_i i j
       simp only [iMod] at q
       by_cases hc : 0 < j
       · rw [if_pos hc] at q
         exact ⟨_, _, rx.int_, ry.int_, hc, q _ H (Same.refl _) (.int _)⟩
       · rw [if_neg hc] at q
         exact q.elim)
theorem de_sub (ha : DW X W a ga) (hb : DW X W b gb) : DE X W (.BinOp a .Sub b pos) (bin2 iSub ga gb) := de_op op_sub opd_sub ha hb
theorem de_mul (ha : DW X W a ga) (hb : DW X W b gb) : DE X W (.BinOp a .Mult b pos) (bin2 iMul ga gb) := de_op op_mul2 opd_mul ha hb
theorem de_div (ha : DW X W a ga) (hb : DW X W b gb) : DE X W (.BinOp a .FloorDiv b pos) (bin2 iDiv ga gb) := de_op op_fdivW opd_div ha hb
theorem de_mod (ha : DW X W a ga) (hb : DW X W b gb) : DE X W (.BinOp a .Mod b pos) (bin2 iMod ga gb) := de_op op_mod opd_mod ha hb
theorem de_addI (ha : DW X W a ga) (hb : DW X W b gb) : DE X W (.BinOp a .Add b pos) (bin2 iAdd ga gb) := de_op op_add opd_add ha hb
theorem de_lt (ha : DW X W a ga) (hb : DW X W b gb) : DE X W (.Compare a [.Lt] [b] pos) (bin2 (iCmp fun i j => decide (i < j)) ga gb) := de_cmp op_lt (opd_cmp _) ha hb (nomark _)
theorem de_le (ha : DW X W a ga) (hb : DW X W b gb) : DE X W (.Compare a [.LtE] [b] pos) (bin2 (iCmp fun i j => decide (i ≤ j)) ga gb) := de_cmp op_le (opd_cmp _) ha hb (nomark _)
theorem de_gt (ha : DW X W a ga) (hb : DW X W b gb) : DE X W (.Compare a [.Gt] [b] pos) (bin2 (iCmp fun i j => decide (j < i)) ga gb) := de_cmp op_gt (opd_cmp _) ha hb (nomark _)
theorem de_ge (ha : DW X W a ga) (hb : DW X W b gb) : DE X W (.Compare a [.GtE] [b] pos) (bin2 (iCmp fun i j => decide (j ≤ i)) ga gb) := de_cmp op_ge (opd_cmp _) ha hb (nomark _)
end
end PD

namespace PD
open PySem PySem.Spec PyProof.Rows L2
variable {K : PySem.W.Frag}
section
variable {X : Cx} {W : PWs} {e a b c : Expr} {es : List Expr} {g ga gb gc : Rho → Res D} {gl : Rho → Res (List D)} {gt gu : Rho → Res Bool} {pos p : Pos}

/-! ### tests -/
def asB : D → Res Bool
  | .bool b => .ok b
  | _ => .no
def tru : D → Res Bool
  | .none => .ok false
  | .bool b => .ok b
  | .int i => .ok (i != 0)
  | .list ds => .ok (!ds.isEmpty)
  | .tuple ds => .ok (!ds.isEmpty)
  | _ => .no
def thn1 (g : Rho → Res D) (k : D → Res Bool) (r : Rho) : Res Bool := (g r).bind k
theorem dt_tb {R : RR} (hR : ∀ {M H v b}, R X.K M H v (.bool b) → v = .bl b) (h : PT X e (tB (tE X.K R W g))) : DT X W e (thn1 g asB) := ⟨h.imp fun st H Q ⟨r, M, en, q⟩ =>
  ⟨r, M, en, Dem.thenT en q fun d v H1 _ s1 en1 r1 q1 => by
    cases d <;> first
      | exact q1.elim
      | exact ⟨_, hR r1, q1 H1 (Same.refl _)⟩⟩⟩
theorem dt_cmp {op : CmpOp} {r2 : R2} {f : D → D → Res D} (ho : OpR X (compareOp op) r2) (o : OpD X.K W r2 f) (ha : DW X W a ga) (hb : DW X W b gb) (hm : behindInMarks op b = false) : DT X W (.Compare a [op] [b] pos) (thn1 (bin2 f ga gb) asB) :=
  dt_tb (R := Rp) (fun h => h.weak.bool_) ((pt_cmpR ho ha.run hb.run hm).imp fun _ _ _ h => tOp_of o h)
/-- an expression whose value is a bool -/
theorem dt_val (h : DE X W e g) (he : ∀ whole, isTrue e X.env whole = (do let v ← whole; standAt e.pos; holding [v] (truthy v)) := by intro _; rfl) : DT X W e (thn1 g asB) :=
  dt_tb (R := Rp) (fun h => h.weak.bool_) (pt_val h.run he)
theorem tru_ok' {M : MS} {H : Hp} {v : V} {d : D} {k : Bool} (h : Rw K M H v d) (e : tru d = .ok k) : TruV K v H k := by
  cases d with
  | none => rw [h.none_]; cases e; exact rfl
  | bool b => rw [h.bool_]; cases e; exact rfl
  | int i => rw [h.int_]; cases e; exact rfl
  | str x => cases e
  | list ds =>
    obtain ⟨a, xs, rfl, r, l⟩ := h.lst_
    cases e
    exact .inl ⟨xs, r, by rw [l.nil_iff]⟩
  | tuple ds =>
    obtain ⟨a, xs, rfl, r, l, _⟩ := h.tup_
    cases e
    exact .inr (.inl ⟨xs, .inl r, by rw [l.nil_iff]⟩)
  | dict ds => cases e
theorem dt_tru (h : DW X W e g) (he : ∀ whole, isTrue e X.env whole = (do let v ← whole; standAt e.pos; holding [v] (truthy v)) := by intro _; rfl) : DT X W e (thn1 g tru) :=
  ⟨(pt_truth h.run he).imp fun st H Q ⟨r, M, en, q⟩ => ⟨r, M, en, Dem.thenT en q fun d v H1 _ s1 en1 r1 q1 => by
    cases e : tru d with
    | ok k => rw [e] at q1; exact ⟨k, tru_ok' r1 e, q1 H1 (Same.refl _)⟩
    | ex c => cases d <;> cases e
    | no => rw [e] at q1; exact q1.elim⟩⟩
def notT (gt : Rho → Res Bool) (r : Rho) : Res Bool := (gt r).bind fun c => .ok (!c)
def andT (gt gu : Rho → Res Bool) (r : Rho) : Res Bool := (gt r).bind fun c => if c then gu r else .ok false
def orT (gt gu : Rho → Res Bool) (r : Rho) : Res Bool := (gt r).bind fun c => if c then .ok true else gu r
theorem dt_not (h : DT X W a gt) : DT X W (.UnaryOp .Not a pos) (notT gt) :=
  ⟨(pt_not h.run).imp fun st H Q ⟨r, M, en, q⟩ => ⟨r, M, en, DemT.thenT en q fun d H1 _ s1 en1 q1 => q1 H1 (Same.refl _)⟩⟩
structure DP (X : Cx) (W : PWs) (e : Expr) (g : Rho → Res Bool) : Prop where
  run : PW X e (tT X.K W g)
theorem DP.dt (h : DP X W e gt) : DT X W e gt := ⟨h.run.pt⟩
theorem dp_and1 (h : DT X W a gt) : DP X W (.BoolOp .And [a] pos) gt := ⟨pw_and1 h.run⟩
theorem dp_or1 (h : DT X W a gt) : DP X W (.BoolOp .Or [a] pos) gt := ⟨pw_or1 h.run⟩
theorem dp_and {rest : List Expr} (ha : DT X W a gt) (hb : DP X W (.BoolOp .And (b :: rest) pos) gu) : DP X W (.BoolOp .And (a :: b :: rest) pos) (andT gt gu) :=
  ⟨(pw_and ha.run hb.run).imp fun st H Q ⟨r, M, en, q⟩ => ⟨r, M, en, DemT.thenT en q fun d H1 _ s1 en1 q1 => by
    cases d with
    | true => exact ⟨r, M, en1, q1⟩
    | false => exact q1 H1 (Same.refl _)⟩⟩
theorem dp_or {rest : List Expr} (ha : DT X W a gt) (hb : DP X W (.BoolOp .Or (b :: rest) pos) gu) : DP X W (.BoolOp .Or (a :: b :: rest) pos) (orT gt gu) :=
  ⟨(pw_or ha.run hb.run).imp fun st H Q ⟨r, M, en, q⟩ => ⟨r, M, en, DemT.thenT en q fun d H1 _ s1 en1 q1 => by
    cases d with
    | true => exact q1 H1 (Same.refl _)
    | false => exact ⟨r, M, en1, q1⟩⟩⟩
/-! as values -/
def andV (ga gb : Rho → Res D) (r : Rho) : Res D := (ga r).bind fun d => (asB d).bind fun c => if c then gb r else .ok (.bool false)
def orV (ga gb : Rho → Res D) (r : Rho) : Res D := (ga r).bind fun d => (asB d).bind fun c => if c then .ok (.bool true) else gb r
def notV (ga : Rho → Res D) (r : Rho) : Res D := (ga r).bind fun d => (asB d).bind fun c => .ok (.bool (!c))
theorem de_one {op} (h : DE X W a ga) : DE X W (.BoolOp op [a] pos) ga := ⟨pe_one h.run⟩
theorem de_and {rest : List Expr} (ha : DE X W a ga) (hb : DE X W (.BoolOp .And (b :: rest) pos) gb) : DE X W (.BoolOp .And (a :: b :: rest) pos) (andV ga gb) :=
  ⟨(pe_and ha.run hb.run).imp fun st H Q ⟨r, M, en, q⟩ => ⟨r, M, en, Dem.then en q fun d v H1 hg s1 en1 r1 q1 => by
    clear hg
    cases d <;> first
      | exact q1.elim
      | (rename_i k
         refine ⟨k, r1.weak.bool_, ?_⟩
         cases k with
         | true => exact ⟨r, M, en1, q1⟩
         | false => exact q1 _ H1 (Same.refl _) (.bl _))⟩⟩
theorem de_or {rest : List Expr} (ha : DE X W a ga) (hb : DE X W (.BoolOp .Or (b :: rest) pos) gb) : DE X W (.BoolOp .Or (a :: b :: rest) pos) (orV ga gb) :=
  ⟨(pe_or ha.run hb.run).imp fun st H Q ⟨r, M, en, q⟩ => ⟨r, M, en, Dem.then en q fun d v H1 hg s1 en1 r1 q1 => by
    clear hg
    cases d <;> first
      | exact q1.elim
      | (rename_i k
         refine ⟨k, r1.weak.bool_, ?_⟩
         cases k with
         | false => exact ⟨r, M, en1, q1⟩
         | true => exact q1 _ H1 (Same.refl _) (.bl _))⟩⟩
theorem de_not (ha : DE X W a ga) : DE X W (.UnaryOp .Not a pos) (notV ga) :=
  ⟨(pe_not ha.run).imp fun st H Q ⟨r, M, en, q⟩ => ⟨r, M, en, Dem.then en q fun d v H1 _ s1 en1 r1 q1 => by
    cases d <;> first
      | exact q1.elim
      | exact ⟨_, r1.weak.bool_, q1 _ H1 (Same.refl _) (.bl _)⟩⟩⟩
def ifV (gt : Rho → Res Bool) (ga gb : Rho → Res D) (r : Rho) : Res D := (gt r).bind fun c => if c then ga r else gb r
theorem de_if (hc : DT X W c gt) (ha : DE X W a ga) (hb : DE X W b gb) : DE X W (.IfExp c a b pos) (ifV gt ga gb) :=
  ⟨(pe_ifExp hc.run ha.run hb.run).imp fun st H Q ⟨r, M, en, q⟩ => ⟨r, M, en, DemT.then en q fun d H1 _ s1 en1 q1 => by
    cases d with
    | true => exact ⟨r, M, en1, q1⟩
    | false => exact ⟨r, M, en1, q1⟩⟩⟩
def negI : D → Res D
  | .int i => .ok (.int (-i))
  | _ => .no
def then1 (g : Rho → Res D) (k : D → Res D) (r : Rho) : Res D := (g r).bind k
theorem de_neg (ha : DW X W a ga) : DE X W (.UnaryOp .USub a pos) (then1 ga negI) :=
  ⟨(pe_un un_neg ha.run).imp fun st H Q ⟨r, M, en, q⟩ => ⟨r, M, en, Dem.then en q fun d v H1 _ s1 en1 r1 q1 => by
    cases d <;> first
      | exact q1.elim
      | exact ⟨_, r1.int_, q1 _ H1 (Same.refl _) (.int _)⟩⟩⟩
/-- is None, is not None -/
def isN : D → Bool
  | .none => true
  | _ => false
theorem isN_ok {M : MS} {H : Hp} {v : V} {d : D} (h : Rw K M H v d) : decide (v = .non) = isN d := by
  cases d with
  | none => rw [h.none_]; rfl
  | bool b => rw [h.bool_]; rfl
  | int i => rw [h.int_]; rfl
  | str x => rw [h.str_]; rfl
  | list ds => obtain ⟨a, xs, rfl, _⟩ := h.lst_; rfl
  | tuple ds => obtain ⟨a, xs, rfl, _⟩ := h.tup_; rfl
  | dict ds => cases (show Rp K M H v (.dict ds) from h)
theorem de_isN {j pos'} (ha : DW X W a ga) : DE X W (.Compare a [.Is] [.Constant .none j pos'] pos) (then1 ga fun d => .ok (.bool (isN d))) :=
  ⟨(pe_cmp (pc_isN ha.run)).imp fun st H Q ⟨r, M, en, q⟩ => ⟨r, M, en, Dem.then en q fun d v H1 _ s1 en1 r1 q1 => q1 _ H1 (Same.refl _) (by rw [isN_ok r1]; exact .bl _)⟩⟩
theorem de_notN {j pos'} (ha : DW X W a ga) : DE X W (.Compare a [.IsNot] [.Constant .none j pos'] pos) (then1 ga fun d => .ok (.bool (!isN d))) :=
  ⟨(pe_cmp (pc_notN ha.run)).imp fun st H Q ⟨r, M, en, q⟩ => ⟨r, M, en, Dem.then en q fun d v H1 _ s1 en1 r1 q1 => q1 _ H1 (Same.refl _) (by rw [isN_ok r1]; exact .bl _)⟩⟩
theorem dt_isN {j pos'} (ha : DW X W a ga) : DT X W (.Compare a [.Is] [.Constant .none j pos'] pos) (thn1 (then1 ga fun d => .ok (.bool (isN d))) asB) :=
  dt_tb (R := Rp) (fun h => h.weak.bool_) ((pt_cmp (pc_isN ha.run)).imp fun st H Q ⟨r, M, en, q⟩ => ⟨r, M, en, Dem.then en q fun d v H1 _ s1 en1 r1 q1 => q1 _ H1 (Same.refl _) (by rw [isN_ok r1]; exact .bl _)⟩)
theorem dt_notN {j pos'} (ha : DW X W a ga) : DT X W (.Compare a [.IsNot] [.Constant .none j pos'] pos) (thn1 (then1 ga fun d => .ok (.bool (!isN d))) asB) :=
  dt_tb (R := Rp) (fun h => h.weak.bool_) ((pt_cmp (pc_notN ha.run)).imp fun st H Q ⟨r, M, en, q⟩ => ⟨r, M, en, Dem.then en q fun d v H1 _ s1 en1 r1 q1 => q1 _ H1 (Same.refl _) (by rw [isN_ok r1]; exact .bl _)⟩)

/-! ### comparisons as tests -/
theorem dt_lt (ha : DW X W a ga) (hb : DW X W b gb) : DT X W (.Compare a [.Lt] [b] pos) (thn1 (bin2 (iCmp fun i j => decide (i < j)) ga gb) asB) := dt_cmp op_lt (opd_cmp _) ha hb (nomark _)
theorem dt_le (ha : DW X W a ga) (hb : DW X W b gb) : DT X W (.Compare a [.LtE] [b] pos) (thn1 (bin2 (iCmp fun i j => decide (i ≤ j)) ga gb) asB) := dt_cmp op_le (opd_cmp _) ha hb (nomark _)
theorem dt_gt (ha : DW X W a ga) (hb : DW X W b gb) : DT X W (.Compare a [.Gt] [b] pos) (thn1 (bin2 (iCmp fun i j => decide (j < i)) ga gb) asB) := dt_cmp op_gt (opd_cmp _) ha hb (nomark _)
theorem dt_ge (ha : DW X W a ga) (hb : DW X W b gb) : DT X W (.Compare a [.GtE] [b] pos) (thn1 (bin2 (iCmp fun i j => decide (j ≤ i)) ga gb) asB) := dt_cmp op_ge (opd_cmp _) ha hb (nomark _)
def qEq (d e : D) : Res D := if SeqAt.shaped d = true ∧ SeqAt.shaped e = true then .ok (.bool (PyData.eqv d e)) else .no
def qNe (d e : D) : Res D := if SeqAt.shaped d = true ∧ SeqAt.shaped e = true then .ok (.bool (!PyData.eqv d e)) else .no
theorem opd_eq : OpD K W (rEqD K) qEq := by
  intro M st r H x y d e Q en rx ry q
  unfold qEq at q
  by_cases hc : SeqAt.shaped d = true ∧ SeqAt.shaped e = true
  · rw [if_pos hc] at q
    exact ⟨d, e, rx.dp, ry.dp, hc.1, hc.2, q _ H (Same.refl _) (.bl _)⟩
  · rw [if_neg hc] at q
    exact q.elim
theorem opd_ne : OpD K W (rNeD K) qNe := by
  intro M st r H x y d e Q en rx ry q
  unfold qNe at q
  by_cases hc : SeqAt.shaped d = true ∧ SeqAt.shaped e = true
  · rw [if_pos hc] at q
    exact ⟨d, e, rx.dp, ry.dp, hc.1, hc.2, q _ H (Same.refl _) (.bl _)⟩
  · rw [if_neg hc] at q
    exact q.elim
theorem de_eq (hu : X.A.units + 64 < cLine) (ha : DW X W a ga) (hb : DW X W b gb) : DE X W (.Compare a [.Eq] [b] pos) (bin2 qEq ga gb) := de_cmp (op_eqD hu) opd_eq ha hb (nomark _)
theorem de_ne (hu : X.A.units + 64 < cLine) (ha : DW X W a ga) (hb : DW X W b gb) : DE X W (.Compare a [.NotEq] [b] pos) (bin2 qNe ga gb) := de_cmp (op_neD hu) opd_ne ha hb (nomark _)
theorem dt_eq (hu : X.A.units + 64 < cLine) (ha : DW X W a ga) (hb : DW X W b gb) : DT X W (.Compare a [.Eq] [b] pos) (thn1 (bin2 qEq ga gb) asB) := dt_cmp (op_eqD hu) opd_eq ha hb (nomark _)
theorem dt_ne (hu : X.A.units + 64 < cLine) (ha : DW X W a ga) (hb : DW X W b gb) : DT X W (.Compare a [.NotEq] [b] pos) (thn1 (bin2 qNe ga gb) asB) := dt_cmp (op_neD hu) opd_ne ha hb (nomark _)

/-! ### in, not in, over flat items -/
def flatD : D → Bool
  | .none => true
  | .bool _ => true
  | .int _ => true
  | .str _ => true
  | _ => false
theorem flat_ok {M : MS} {H : Hp} {v : V} {d : D} (h : Rw K M H v d) (f : flatD d = true) : flatV v = true := by
  cases d with
  | none => rw [h.none_]; rfl
  | bool b => rw [h.bool_]; rfl
  | int i => rw [h.int_]; rfl
  | str x => rw [h.str_]; rfl
  | list ds => cases f
  | tuple ds => cases f
  | dict ds => cases f
theorem eqV_ok {M : MS} {H : Hp} {v w : V} {d e : D} (h : Rw K M H v d) (h' : Rw K M H w e) (f : flatD d = true) (f' : flatD e = true) : eqV v w = PyData.eqv d e := by
  cases d with
  | none => rw [h.none_]; cases e <;> first | (rw [h'.none_]; simp only [eqV, PyData.eqv]) | (rw [h'.bool_]; simp only [eqV, PyData.eqv]) | (rw [h'.int_]; simp only [eqV, PyData.eqv]) | (rw [h'.str_]; simp only [eqV, PyData.eqv]) | cases f'
  | bool b => rw [h.bool_]; cases e <;> first | (rw [h'.none_]; simp only [eqV, PyData.eqv]) | (rw [h'.bool_]; simp only [eqV, PyData.eqv]) | (rw [h'.int_]; simp only [eqV, PyData.eqv]) | (rw [h'.str_]; simp only [eqV, PyData.eqv]) | cases f'
  | int i => rw [h.int_]; cases e <;> first | (rw [h'.none_]; simp only [eqV, PyData.eqv]) | (rw [h'.bool_]; simp only [eqV, PyData.eqv]) | (rw [h'.int_]; simp only [eqV, PyData.eqv]) | (rw [h'.str_]; simp only [eqV, PyData.eqv]) | cases f'
  | str x => rw [h.str_]; cases e <;> first | (rw [h'.none_]; simp only [eqV, PyData.eqv]) | (rw [h'.bool_]; simp only [eqV, PyData.eqv]) | (rw [h'.int_]; simp only [eqV, PyData.eqv]) | (rw [h'.str_]; simp only [eqV, PyData.eqv]) | cases f'
  | list ds => cases f
  | tuple ds => cases f
  | dict ds => cases f
theorem flatL_ok {M : MS} {H : Hp} : ∀ {vs : List V} {ds : List D}, RpL K M H vs ds → ds.all flatD = true → vs.all flatV = true
  | _, _, .nil, _ => rfl
  | _, _, .cons a t, f => by
    rw [List.all_cons, Bool.and_eq_true] at f ⊢
    exact ⟨flat_ok a.weak f.1, flatL_ok t f.2⟩
theorem inV_ok {M : MS} {H : Hp} {v : V} {d : D} (h : Rw K M H v d) (f : flatD d = true) : ∀ {vs : List V} {ds : List D}, RpL K M H vs ds → ds.all flatD = true → inV v vs = ds.any fun y => PyData.eqv y d
  | _, _, .nil, _ => rfl
  | _, _, .cons a t, fs => by
    rw [List.all_cons, Bool.and_eq_true] at fs
    have ih := inV_ok h f t fs.2
    unfold inV at ih ⊢
    rw [List.any_cons, List.any_cons, ih, eqV_ok a.weak h fs.1 f]
def items : D → Option (List D)
  | .list ds => some ds
  | .tuple ds => some ds
  | _ => none
def qIn (neg : Bool) (d e : D) : Res D := match items e with
  | some ds => if flatD d = true ∧ ds.all flatD = true then .ok (.bool (if neg then !(ds.any fun y => PyData.eqv y d) else ds.any fun y => PyData.eqv y d)) else .no
  | none => .no
theorem opd_in {neg : Bool} : OpD K W (rIn K neg) (qIn neg) := by
  intro M st r H x y d e Q en rx ry q
  unfold qIn at q
  cases e with
  | list ds =>
    obtain ⟨a, xs, rfl, rr, l⟩ := ry.lst_
    simp only [items] at q
    by_cases hc : flatD d = true ∧ ds.all flatD = true
    · rw [if_pos hc] at q
      exact ⟨a, xs, rfl, .inl rr, flat_ok rx hc.1, flatL_ok l hc.2, q _ H (Same.refl _) (by rw [inV_ok rx hc.1 l hc.2]; exact .bl _)⟩
    · rw [if_neg hc] at q
      exact q.elim
  | tuple ds =>
    obtain ⟨a, xs, rfl, rr, l, _⟩ := ry.tup_
    simp only [items] at q
    by_cases hc : flatD d = true ∧ ds.all flatD = true
    · rw [if_pos hc] at q
      exact ⟨a, xs, rfl, .inr (.inl rr), flat_ok rx hc.1, flatL_ok l hc.2, q _ H (Same.refl _) (by rw [inV_ok rx hc.1 l hc.2]; exact .bl _)⟩
    · rw [if_neg hc] at q
      exact q.elim
  | none => exact q.elim
  | bool => exact q.elim
  | int => exact q.elim
  | str => exact q.elim
  | dict => exact q.elim
theorem de_in (ha : DW X W a ga) (hb : DW X W b gb) (hm : behindInMarks .In b = false := by rfl) : DE X W (.Compare a [.In] [b] pos) (bin2 (qIn false) ga gb) := de_cmp op_in_seq opd_in ha hb hm
theorem dt_in (ha : DW X W a ga) (hb : DW X W b gb) (hm : behindInMarks .In b = false := by rfl) : DT X W (.Compare a [.In] [b] pos) (thn1 (bin2 (qIn false) ga gb) asB) := dt_cmp op_in_seq opd_in ha hb hm
theorem de_notin (ha : DW X W a ga) (hb : DW X W b gb) (hm : behindInMarks .NotIn b = false := by rfl) : DE X W (.Compare a [.NotIn] [b] pos) (bin2 (qIn true) ga gb) := de_cmp op_notIn_seq opd_in ha hb hm
theorem dt_notin (ha : DW X W a ga) (hb : DW X W b gb) (hm : behindInMarks .NotIn b = false := by rfl) : DT X W (.Compare a [.NotIn] [b] pos) (thn1 (bin2 (qIn true) ga gb) asB) := dt_cmp op_notIn_seq opd_in ha hb hm

/-! ### items -/
def qIx (d e : D) : Res D := match items d, e with
  | some ds, .int i => match atI ds i with
    | some z => .ok z
    | none => .no
  | _, _ => .no
theorem atI_ok {M : MS} {H : Hp} {vs : List V} {ds : List D} {i : Int} {d : D} (l : RpL K M H vs ds) (h : atI ds i = some d) : ∃ v, atI vs i = some v ∧ Rp K M H v d := by
  unfold atI at h ⊢
  rw [← l.length] at h
  cases e : ixN vs.length i with
  | none => rw [e] at h; cases h
  | some j =>
    rw [e] at h
    obtain ⟨v, h1, h2⟩ := l.get (show ds[j]? = some d from h)
    exact ⟨v, h1, h2⟩
theorem ix_lt : IxR X (fun x y H Q => rIxL X.K x y H Q ∨ rIxT X.K x y H Q) := ix_list.or ix_tup
theorem opd_ix : OpD K W (fun x y H Q => rIxL K x y H Q ∨ rIxT K x y H Q) qIx := by
  intro M st r H x y d e Q en rx ry q
  cases d with
  | list ds =>
    obtain ⟨a, xs, rfl, rr, l⟩ := rx.lst_
    cases e <;> first
      | exact q.elim
      | (rename_i i
         simp only [qIx, items] at q
         cases h : atI ds i with
         | none => rw [h] at q; exact q.elim
         | some z =>
           rw [h] at q
           obtain ⟨v, h1, h2⟩ := atI_ok l h
           exact .inl ⟨a, xs, i, v, rfl, ry.int_, rr, h1, q v H (Same.refl _) h2⟩)
  | tuple ds =>
    obtain ⟨a, xs, rfl, rr, l, _⟩ := rx.tup_
    cases e <;> first
      | exact q.elim
      | (rename_i i
         simp only [qIx, items] at q
         cases h : atI ds i with
         | none => rw [h] at q; exact q.elim
         | some z =>
           rw [h] at q
           obtain ⟨v, h1, h2⟩ := atI_ok l h
           exact .inr ⟨a, xs, i, v, rfl, ry.int_, .inl rr, h1, q v H (Same.refl _) h2⟩)
  | none => exact q.elim
  | bool => exact q.elim
  | int => exact q.elim
  | str => exact q.elim
  | dict => exact q.elim
theorem de_at (ha : DW X W a ga) (hb : DW X W b gb) (hs : PlainIx b := by exact fun _ _ => rfl) : DE X W (.Subscript a b pos) (bin2 qIx ga gb) := de_ix ix_lt opd_ix ha hb hs

/-! ### slices -/
def cutD {α : Type} (xs : List α) (lo hi : Option Int) : List α := (xs.drop (HT.sIx xs.length 0 lo)).take (HT.sIx xs.length xs.length hi - HT.sIx xs.length 0 lo)
def DemO (W : PWs) (st : Sg) (H : Hp) (r : Res (Option Int)) (Q : Option Int → Hp → Prop) : Prop :=
  match r with
  | .ok d => ∀ H', Same H H' → Q d H'
  | .ex c => ∀ H', Same H H' → W c st H'
  | .no => False
def tO (K : PySem.W.Frag) (W : PWs) (g : Rho → Res (Option Int)) : TO := fun st H Q => ∃ r M, En K M H st r ∧ DemO W st H (g r) Q
structure DO (X : Cx) (W : PWs) (e : Option Expr) (g : Rho → Res (Option Int)) : Prop where
  run : PO X e (tO X.K W g)
theorem do_none : DO X W none (fun _ => .ok none) := ⟨⟨fun pins s st H Q I ⟨r, M, en, q⟩ => po_none.run pins s st H Q I (q H (Same.refl _))⟩⟩
def asI : D → Res (Option Int)
  | .int i => .ok (some i)
  | _ => .no
def optI (g : Rho → Res D) (r : Rho) : Res (Option Int) := (g r).bind asI
theorem do_some (h : DW X W e g) : DO X W (some e) (optI g) := ⟨⟨fun pins s st H Q I ⟨r, M, en, q⟩ => (po_some h.run).run pins s st H Q I (by
  refine ⟨r, M, en, ?_⟩
  unfold optI at q
  cases hg : g r with
  | ok d =>
    rw [hg] at q
    clear hg
    cases d <;> first
      | exact q.elim
      | exact fun v H1 s1 r1 => ⟨_, r1.int_, q H1 s1⟩
  | ex c => rw [hg] at q; exact q
  | no => rw [hg] at q; exact q)⟩⟩
def qCut (d : D) (lo hi : Option Int) : Res D := match d with
  | .list ds => .ok (.list (cutD ds lo hi))
  | .tuple ds => .ok (.tuple (cutD ds lo hi))
  | _ => .no
def cut3 (g : Rho → Res D) (gl gh : Rho → Res (Option Int)) (r : Rho) : Res D := (g r).bind fun d => (gl r).bind fun lo => (gh r).bind fun hi => qCut d lo hi
theorem sl_both : L2.SlR X (fun x lo hi H Q => rSlL X.K x lo hi H Q ∨ rSlA X.K x lo hi H Q) := sl_list.or sl_tupA
theorem RpL.cut {M : MS} {H : Hp} {vs : List V} {ds : List D} (l : RpL K M H vs ds) (lo hi : Option Int) : RpL K M H (cutV vs lo hi) (cutD ds lo hi) := by
  unfold cutV cutD
  rw [l.length]
  exact (l.drop _).take _
theorem cutV_all (xs : List V) (lo hi : Option Int) (h : HT.sIx xs.length 0 lo = 0 ∧ HT.sIx xs.length xs.length hi = xs.length) : cutV xs lo hi = xs := by
  unfold cutV
  rw [h.1, h.2]
  simp
theorem de_slice {p2 : Pos} {lo hi : Option Expr} {gl gh : Rho → Res (Option Int)} (he : DW X W e g) (hl : DO X W lo gl) (hh : DO X W hi gh) : DE X W (.Subscript e (.Slice lo hi none p2) pos) (cut3 g gl gh) := by
  refine ⟨(pe_slice sl_both he.run hl.run hh.run).imp fun st H Q ⟨r, M, en, q⟩ => ⟨r, M, en, Dem.then en q fun d v H1 _ s1 en1 r1 q1 => ?_⟩⟩
  refine ⟨r, M, en1, ?_⟩
  cases hg : gl r with
  | ex c => rw [hg] at q1; exact q1
  | no => rw [hg] at q1; exact q1
  | ok o =>
    rw [hg] at q1
    refine fun H2 s2 => ⟨r, M, en1.same s2, ?_⟩
    have q2 : Dem X.K Rp W M st H2 ((gh r).bind fun hi => qCut d o hi) Q := Dem.ext q1 s2
    cases hg2 : gh r with
    | ex c => rw [hg2] at q2; exact q2
    | no => rw [hg2] at q2; exact q2
    | ok o2 =>
      rw [hg2] at q2
      intro H3 s3
      have q3 : Dem X.K Rp W M st H3 (qCut d o o2) Q := Dem.ext q2 s3
      have r3 := (r1.same s2).same s3
      have en3 := (en1.same s2).same s3
      cases d with
      | list ds =>
        obtain ⟨a, xs, rfl, rr, l⟩ := r3.lst_
        exact .inl ⟨a, xs, rfl, rr, fun p hp => q3 _ _ (same_upd hp) (.lst (en3.fresh hp) (.inl upd_same) ((l.cut o o2).same (same_upd hp)))⟩
      | tuple ds =>
        obtain ⟨a, xs, rfl, rr, l, nm⟩ := r3.tup_
        refine .inr ⟨a, xs, rfl, .inl rr, fun hw => ?_, fun hw p hp => q3 _ _ (same_upd hp) (.tup (en3.fresh hp) (.inl upd_same) ((l.cut o o2).same (same_upd hp)))⟩
        have l' := l.cut o o2
        rw [cutV_all xs o o2 hw] at l'
        exact q3 _ _ (Same.refl _) (.tup nm rr l')
      | none => exact q3.elim
      | bool => exact q3.elim
      | int => exact q3.elim
      | str => exact q3.elim
      | dict => exact q3.elim

/-! ### + of ints, tuples, lists -/
def rCatL (K : PySem.W.Frag) : R2 := fun x y H Q => ∃ l b xs zs, x = .ref l ∧ y = .ref b ∧ SqL K H l xs ∧ SqL K H b zs ∧ xs.length + zs.length ≤ sizeLine ∧ ∀ p, H p = none → Q (.ref p) (upd H p (.lst (xs ++ zs)))
theorem op_catL : OpR X (binaryOp .Add) (rCatL X.K) := by
  intro pins s st H x y v u Q I rx ry h
  obtain ⟨l, b, xs, zs, rfl, rfl, hH, hB, hz, q⟩ := h
  cases rx
  cases ry
  obtain ⟨its, r, ⟨o, n, eo, hc, hd, hs⟩, _⟩ := I.list hH
  obtain ⟨its2, r2, ⟨o2, n2, eo2, hc2, hd2, hs2⟩, _⟩ := I.list hB
  obtain ⟨oc, od, ot, osl⟩ := o
  obtain ⟨oc2, od2, ot2, osl2⟩ := o2
  simp only at hc hd hs hc2 hd2 hs2
  subst hc hd hs hc2 hd2 hs2
  have e : its.toArray ++ its2.toArray = (its ++ its2).toArray := by simp
  refine concat_meets ⟨_, eo, rfl⟩ ⟨_, eo2, rfl⟩ noFill_list_add seq_list_add PySem.F.slot_list_add PySem.F.entry_list_add (PySem.F.args_list_add_2 _ _) (PyProof.Rows.list_addW l b its.toArray its2.toArray n n2 none none osl osl2 (by have h1 := r.length; have h2 := r2.length; simp only [List.size_toArray]; omega)) ⟨eo, eo2, ?_⟩
  rw [e]
  exact ⟨.ref _, _, I.lnew (t' := s.toks) (r.append r2) (by rw [List.length_append]; omega), rfl, q _ I.fresh⟩
def pAdd : D → D → Res D
  | .int i, .int j => .ok (.int (i + j))
  | .tuple a, .tuple b => if a.length + b.length ≤ 16777216 then .ok (.tuple (a ++ b)) else .no
  | .list a, .list b => if a.length + b.length ≤ 16777216 then .ok (.list (a ++ b)) else .no
  | _, _ => .no
def rPlus (K : PySem.W.Frag) : R2 := fun x y H Q => rI0 (fun i j => .int (i + j)) x y H Q ∨ (rCatA K x y H Q ∨ rCatL K x y H Q)
theorem op_plus : OpR X (binaryOp .Add) (rPlus X.K) := op_add.or (op_catA.or op_catL)
theorem RpL.isnil {M : MS} {H : Hp} {vs : List V} {ds : List D} (l : RpL K M H vs ds) : vs = [] ↔ ds = [] := by
  cases l with
  | nil => simp
  | cons a b => simp
theorem opd_plus : OpD K W (rPlus K) pAdd := by
  intro M st r H x y d e Q en rx ry q
  have sz : sizeLine = 16777216 := sizeLine_eq
  cases d with
  | int i =>
    cases e <;> first
      | exact q.elim
      | exact .inl ⟨_, _, rx.int_, ry.int_, q _ H (Same.refl _) (.int _)⟩
  | tuple ds =>
    cases e <;> first
      | exact q.elim
      | (rename_i es
         obtain ⟨a, xs, rfl, rr, l, nm⟩ := rx.tup_
         obtain ⟨b, ys, rfl, rr2, l2, nm2⟩ := ry.tup_
         simp only [pAdd] at q
         by_cases hc : ds.length + es.length ≤ 16777216
         · rw [if_pos hc] at q
           refine .inr (.inl ⟨a, b, xs, ys, rfl, rfl, .inl rr, .inl rr2, by rw [l.length, l2.length, sz]; exact hc, fun h0 => ?_, fun h0 h1 => ?_, fun h0 h1 p hp => ?_⟩)
           · have z := l.isnil.mp h0
             subst z
             exact q _ H (Same.refl _) (.tup nm2 rr2 l2)
           · have z := l2.isnil.mp h1
             subst z
             rw [List.append_nil] at q
             exact q _ H (Same.refl _) (.tup nm rr l)
           · exact q _ _ (same_upd hp) (.tup (en.fresh hp) (.inl upd_same) ((l.app l2).same (same_upd hp)))
         · rw [if_neg hc] at q
           exact q.elim)
  | list ds =>
    cases e <;> first
      | exact q.elim
      | (rename_i es
         obtain ⟨a, xs, rfl, rr, l⟩ := rx.lst_
         obtain ⟨b, ys, rfl, rr2, l2⟩ := ry.lst_
         simp only [pAdd] at q
         by_cases hc : ds.length + es.length ≤ 16777216
         · rw [if_pos hc] at q
           refine .inr (.inr ⟨a, b, xs, ys, rfl, rfl, rr, rr2, by rw [l.length, l2.length, sz]; exact hc, fun p hp => ?_⟩)
           exact q _ _ (same_upd hp) (.lst (en.fresh hp) (.inl upd_same) ((l.app l2).same (same_upd hp)))
         · rw [if_neg hc] at q
           exact q.elim)
  | none => exact q.elim
  | bool => exact q.elim
  | str => exact q.elim
  | dict => exact q.elim
theorem de_add (ha : DW X W a ga) (hb : DW X W b gb) : DE X W (.BinOp a .Add b pos) (bin2 pAdd ga gb) := de_op op_plus opd_plus ha hb

/-! ### displays, arguments -/
def consA (g : Rho → Res D) (gl : Rho → Res (List D)) (r : Rho) : Res (List D) := (g r).bind fun d => (gl r).bind fun ds => .ok (d :: ds)
structure DL (X : Cx) (W : PWs) (es : List Expr) (g : Rho → Res (List D)) : Prop where
  run : PA X es (tA X.K W g)
  len : ∀ r ds, g r = .ok ds → ds.length = es.length
theorem dl_nil : DL X W [] (fun _ => .ok []) := ⟨pa_nil.imp fun st H Q ⟨r, M, en, q⟩ => q [] H (Same.refl _) .nil, fun r ds e => by cases e; rfl⟩
theorem dl_cons (h : DE X W e g) (hr : DL X W es gl) (hs : starEach (e :: es) X.env = (false, eval e X.env) :: starEach es X.env := by rfl) : DL X W (e :: es) (consA g gl) := by
  refine ⟨(pa_cons h.run hr.run hs).imp fun st H Q ⟨r, M, en, q⟩ => ⟨r, M, en, Dem.thenA en q fun d v H1 _ s1 en1 r1 q1 => ?_⟩, fun r ds e => ?_⟩
  · exact ⟨r, M, en1, DemA.thenA en1 q1 fun d2 v2 H2 _ s2 en2 r2 q2 => q2 _ H2 (Same.refl _) (.cons (r1.same s2) r2)⟩
  · unfold consA at e
    cases hg : g r with
    | ex c => rw [hg] at e; cases e
    | no => rw [hg] at e; cases e
    | ok d =>
      rw [hg] at e
      simp only [bind_ok] at e
      cases hl : gl r with
      | ex c => rw [hl] at e; cases e
      | no => rw [hl] at e; cases e
      | ok d2 =>
        rw [hl] at e
        cases e
        simp [hr.len r d2 hl]
def tupA (gl : Rho → Res (List D)) (r : Rho) : Res D := (gl r).bind fun ds => .ok (.tuple ds)
def lstA (gl : Rho → Res (List D)) (r : Rho) : Res D := (gl r).bind fun ds => .ok (.list ds)
theorem de_tup {x1} (h : DL X W es gl) (hl : es.length ≤ 1000 := by decide) : DE X W (.Tuple es x1 pos) (tupA gl) :=
  ⟨(pe_tup h.run).imp fun st H Q ⟨r, M, en, q⟩ => ⟨r, M, en, DemA.then en q fun d v H1 hg s1 en1 r1 q1 => ⟨by rw [r1.length, h.len r d hg, sizeLine_eq]; omega, fun p hp =>
    q1 _ _ (same_upd hp) (.tup (en1.fresh hp) (.inl upd_same) (r1.same (same_upd hp)))⟩⟩⟩
theorem de_lst (h : DL X W es gl) (hl : es.length ≤ 1000 := by decide) : DE X W (.List es pos) (lstA gl) :=
  ⟨(pe_lst h.run).imp fun st H Q ⟨r, M, en, q⟩ => ⟨r, M, en, DemA.then en q fun d v H1 hg s1 en1 r1 q1 => ⟨by rw [r1.length, h.len r d hg, sizeLine_eq]; omega, fun p hp =>
    q1 _ _ (same_upd hp) (.lst (en1.fresh hp) (.inl upd_same) (r1.same (same_upd hp)))⟩⟩⟩
end
end PD

namespace PD
open PySem PySem.Spec PyProof.Rows L2
variable {K : PySem.W.Frag}

/-! ### the state of a running def -/
structure Sts (K : PySem.W.Frag) (M0 : MS) (H0 : Hp) (M : MS) (H : Hp) (st : Sg) (r : Rho) : Prop where
  en : En K M H st r
  keep : Same H0 H
  sub : ∀ l, M0 l → M l
  new : ∀ l, M l → M0 l ∨ H0 l = none
  len : st.length = r.length
  dis : ∀ (i j : Nat) (l : Addr) (xs ys : List D), r[i]? = some (.own xs) → r[j]? = some (.own ys) → st[i]? = some (some (.ref l)) → st[j]? = some (some (.ref l)) → i = j
  own0 : ∀ (i : Nat) (l : Addr) (xs : List D), r[i]? = some (.own xs) → st[i]? = some (some (.ref l)) → ¬ M0 l
section
variable {M0 M : MS} {H0 H H' : Hp} {st : Sg} {r : Rho}
theorem Sts.same (s : Sts K M0 H0 M H st r) (q : Same H H') : Sts K M0 H0 M H' st r := ⟨s.en.same q, s.keep.trans q, s.sub, s.new, s.len, s.dis, s.own0⟩
theorem set_get {α : Type} {l : List α} {i j : Nat} {x y : α} (h : (l.set i x)[j]? = some y) : (j = i ∧ y = x ∧ i < l.length) ∨ (j ≠ i ∧ l[j]? = some y) := by
  by_cases e : j = i
  · subst e
    by_cases hl : j < l.length
    · rw [List.getElem?_set_self hl] at h
      exact .inl ⟨rfl, (Option.some.inj h).symm, hl⟩
    · rw [List.getElem?_eq_none (by rw [List.length_set]; omega)] at h
      cases h
  · rw [List.getElem?_set_ne (Ne.symm e)] at h
    exact .inr ⟨e, h⟩
theorem En.set (s : En K M H st r) {i : Nat} {v : V} {d : D} (h : Rp K M H v d) : En K M H (st.set i (some v)) (r.set i (.val d)) := by
  have hl := s.len
  refine ⟨s.live, fun j z e => ?_, by rw [List.length_set, List.length_set]; exact hl⟩
  rcases set_get e with ⟨rfl, rfl, hj⟩ | ⟨hj, e⟩
  · exact ⟨v, by rw [List.getElem?_set_self (by omega)], h⟩
  · have q := s.slot j z e
    rw [List.getElem?_set_ne (Ne.symm hj)]
    exact q
theorem Sts.set (s : Sts K M0 H0 M H st r) {i : Nat} {v : V} {d : D} (h : Rp K M H v d) : Sts K M0 H0 M H (st.set i (some v)) (r.set i (.val d)) := by
  have own : ∀ {j : Nat} {xs : List D}, (r.set i (.val d))[j]? = some (.own xs) → j ≠ i ∧ r[j]? = some (.own xs) := fun {j xs} e => by
    rcases set_get e with ⟨_, q, _⟩ | q
    · cases q
    · exact q
  have un : ∀ {j : Nat} {z : Option V}, j ≠ i → (st.set i (some v))[j]? = some z → st[j]? = some z := fun {j z} n e => by
    rw [List.getElem?_set_ne (Ne.symm n)] at e
    exact e
  refine ⟨s.en.set h, s.keep, s.sub, s.new, by rw [List.length_set, List.length_set]; exact s.len, fun a b l xs ys h1 h2 h3 h4 => ?_, fun a l xs h1 h2 => ?_⟩
  · obtain ⟨n1, e1⟩ := own h1
    obtain ⟨n2, e2⟩ := own h2
    exact s.dis a b l xs ys e1 e2 (un n1 h3) (un n2 h4)
  · obtain ⟨n1, e1⟩ := own h1
    exact s.own0 a l xs e1 (un n1 h2)
/-- a slot's value is forgotten -/
theorem Sts.gone (s : Sts K M0 H0 M H st r) (i : Nat) : Sts K M0 H0 M H (st.set i none) (r.set i .no) := by
  have own : ∀ {j : Nat} {xs : List D}, (r.set i .no)[j]? = some (.own xs) → j ≠ i ∧ r[j]? = some (.own xs) := fun {j xs} e => by
    rcases set_get e with ⟨_, q, _⟩ | q
    · cases q
    · exact q
  have un : ∀ {j : Nat} {z : Option V}, j ≠ i → (st.set i none)[j]? = some z → st[j]? = some z := fun {j z} n e => by
    rw [List.getElem?_set_ne (Ne.symm n)] at e
    exact e
  refine ⟨⟨s.en.live, fun j z e => ?_, by rw [List.length_set, List.length_set]; exact s.len⟩, s.keep, s.sub, s.new, by rw [List.length_set, List.length_set]; exact s.len, fun a b l xs ys h1 h2 h3 h4 => ?_, fun a l xs h1 h2 => ?_⟩
  · rcases set_get e with ⟨rfl, rfl, hj⟩ | ⟨hj, e⟩
    · exact trivial
    · have q := s.en.slot j z e
      rw [List.getElem?_set_ne (Ne.symm hj)]
      exact q
  · obtain ⟨n1, e1⟩ := own h1
    obtain ⟨n2, e2⟩ := own h2
    exact s.dis a b l xs ys e1 e2 (un n1 h3) (un n2 h4)
  · obtain ⟨n1, e1⟩ := own h1
    exact s.own0 a l xs e1 (un n1 h2)
/-- a slot holds anything -/
theorem Sts.any (s : Sts K M0 H0 M H st r) (i : Nat) (o : Option V) : Sts K M0 H0 M H (st.set i o) (r.set i .no) := by
  have own : ∀ {j : Nat} {xs : List D}, (r.set i .no)[j]? = some (.own xs) → j ≠ i ∧ r[j]? = some (.own xs) := fun {j xs} e => by
    rcases set_get e with ⟨_, q, _⟩ | q
    · cases q
    · exact q
  have un : ∀ {j : Nat} {z : Option V}, j ≠ i → (st.set i o)[j]? = some z → st[j]? = some z := fun {j z} n e => by
    rw [List.getElem?_set_ne (Ne.symm n)] at e
    exact e
  refine ⟨⟨s.en.live, fun j z e => ?_, by rw [List.length_set, List.length_set]; exact s.len⟩, s.keep, s.sub, s.new, by rw [List.length_set, List.length_set]; exact s.len, fun a b l xs ys h1 h2 h3 h4 => ?_, fun a l xs h1 h2 => ?_⟩
  · rcases set_get e with ⟨rfl, rfl, hj⟩ | ⟨hj, e⟩
    · exact trivial
    · have q := s.en.slot j z e
      rw [List.getElem?_set_ne (Ne.symm hj)]
      exact q
  · obtain ⟨n1, e1⟩ := own h1
    obtain ⟨n2, e2⟩ := own h2
    exact s.dis a b l xs ys e1 e2 (un n1 h3) (un n2 h4)
  · obtain ⟨n1, e1⟩ := own h1
    exact s.own0 a l xs e1 (un n1 h2)
/-- a new list of one's own, at p -/
theorem Sts.setOwn (s : Sts K M0 H0 M H st r) {i : Nat} {p : Addr} {vs : List V} {ds : List D} (hp : H p = none) (h : RpL K M H vs ds) :
    Sts K M0 H0 (fun l => M l ∨ l = p) (upd H p (.lst vs)) (st.set i (some (.ref p))) (r.set i (.own ds)) := by
  have fr : ¬ M p := s.en.fresh hp
  have grow : ∀ {a : Addr}, ¬ M a → (∃ o, H a = some o) → ¬ (M a ∨ a = p) := fun {a} n ⟨o, e⟩ z => z.elim n fun q => by rw [q, hp] at e; cases e
  have up : ∀ {v : V} {d : D}, Rp K M H v d → Rp K (fun l => M l ∨ l = p) (upd H p (.lst vs)) v d := fun {v d} q =>
    Rp.to (fun a n e => grow n e) (fun a o _ e => same_upd hp a o e) d v q
  have upL : ∀ {v : List V} {d : List D}, RpL K M H v d → RpL K (fun l => M l ∨ l = p) (upd H p (.lst vs)) v d := fun {v d} q =>
    RpL.to (fun a n e => grow n e) (fun a o _ e => same_upd hp a o e) d v q
  have un : ∀ {j : Nat} {z : Option V}, j ≠ i → (st.set i (some (.ref p)))[j]? = some z → st[j]? = some z := fun {j z} n e => by
    rw [List.getElem?_set_ne (Ne.symm n)] at e
    exact e
  have at_i : ∀ {l : Addr}, i < st.length → (st.set i (some (.ref p)))[i]? = some (some (.ref l)) → l = p := fun {l} hi e => by
    rw [List.getElem?_set_self hi] at e
    cases e
    rfl
  -- an own slot elsewhere does not hold p
  have ne : ∀ {j : Nat} {xs : List D} {l : Addr}, r[j]? = some (.own xs) → st[j]? = some (some (.ref l)) → l ≠ p := fun {j xs l} e1 e2 z => by
    obtain ⟨l', vs', e3, m, hl, _⟩ := s.en.slot j _ e1
    rw [e2] at e3
    cases e3
    exact fr (z ▸ m)
  refine ⟨⟨fun l z => ?_, fun j z e => ?_, by rw [List.length_set, List.length_set]; exact s.len⟩, s.keep.trans (same_upd hp), fun l z => .inl (s.sub l z), fun l z => ?_, by rw [List.length_set, List.length_set]; exact s.len, fun a b l xs ys h1 h2 h3 h4 => ?_, fun a l xs h1 h2 => ?_⟩
  · rcases z with z | z
    · obtain ⟨o, e⟩ := s.en.live l z
      exact ⟨o, same_upd hp _ _ e⟩
    · subst z
      exact ⟨_, upd_same⟩
  · rcases set_get e with ⟨rfl, rfl, hj⟩ | ⟨hj, e⟩
    · have hj' : j < st.length := by rw [s.len]; exact hj
      exact ⟨p, vs, by rw [List.getElem?_set_self hj'], .inr rfl, upd_same, upL h⟩
    · have q := s.en.slot j z e
      rw [List.getElem?_set_ne (Ne.symm hj)]
      cases z with
      | no => exact trivial
      | exc a => exact q
      | val d =>
        obtain ⟨v, e1, q1⟩ := q
        exact ⟨v, e1, up q1⟩
      | own xs =>
        obtain ⟨l, ws, e1, m, hl, q1⟩ := q
        exact ⟨l, ws, e1, .inl m, same_upd hp _ _ hl, upL q1⟩
  · rcases z with z | z
    · exact s.new l z
    · subst z
      refine .inr ?_
      cases q : H0 l with
      | none => rfl
      | some o => rw [s.keep _ _ q] at hp; cases hp
  · rcases set_get h1 with ⟨rfl, q1, hi⟩ | ⟨n1, e1⟩
    · have hi' : a < st.length := by rw [s.len]; exact hi
      have z := at_i hi' h3
      rcases set_get h2 with ⟨rfl, q2, _⟩ | ⟨n2, e2⟩
      · rfl
      · exact absurd z (ne e2 (un n2 h4))
    · rcases set_get h2 with ⟨rfl, q2, hi⟩ | ⟨n2, e2⟩
      · have hi' : b < st.length := by rw [s.len]; exact hi
        exact absurd (at_i hi' h4) (ne e1 (un n1 h3))
      · exact s.dis a b l xs ys e1 e2 (un n1 h3) (un n2 h4)
  · rcases set_get h1 with ⟨rfl, q1, hi⟩ | ⟨n1, e1⟩
    · have hi' : a < st.length := by rw [s.len]; exact hi
      have z := at_i hi' h2
      subst z
      exact fun m => fr (s.sub _ m)
    · exact s.own0 a l xs e1 (un n1 h2)
/-- the list of a slot of one's own has other items now -/
theorem Sts.write (s : Sts K M0 H0 M H st r) {i : Nat} {l : Addr} {xs es : List D} {ws : List V} (hi : r[i]? = some (.own xs)) (hl : st[i]? = some (some (.ref l))) (h : RpL K M H ws es) :
    Sts K M0 H0 M (upd H l (.lst ws)) st (r.set i (.own es)) := by
  obtain ⟨l', vs, e, m, hH, rv⟩ := s.en.slot i _ hi
  rw [hl] at e
  cases e
  have kp : ∀ {b : Addr} {o : HO}, ¬ M b → H b = some o → upd H l (.lst ws) b = some o := fun {b o} n e => by
    have nb : b ≠ l := by
      rintro rfl
      exact n m
    rw [upd_ne nb]
    exact e
  have up : ∀ {v : V} {d : D}, Rp K M H v d → Rp K M (upd H l (.lst ws)) v d := fun {v d} q => Rp.to (fun a n _ => n) (fun a o n e => kp n e) d v q
  have upL : ∀ {v : List V} {d : List D}, RpL K M H v d → RpL K M (upd H l (.lst ws)) v d := fun {v d} q => RpL.to (fun a n _ => n) (fun a o n e => kp n e) d v q
  have hi' : i < r.length := (List.getElem?_eq_some_iff.mp hi).1
  have h0 : H0 l = none := by
    rcases s.new l m with z | z
    · exact absurd z (s.own0 i l xs hi hl)
    · exact z
  have own : ∀ {j : Nat} {ys : List D}, (r.set i (.own es))[j]? = some (.own ys) → ∃ zs, r[j]? = some (.own zs) := fun {j ys} e => by
    rcases set_get e with ⟨rfl, _, _⟩ | ⟨_, q⟩
    · exact ⟨_, hi⟩
    · exact ⟨_, q⟩
  refine ⟨⟨fun b z => ?_, fun j z e => ?_, by rw [List.length_set]; exact s.len⟩, fun b o e => ?_, s.sub, s.new, by rw [List.length_set]; exact s.len, fun a b k ys zs h1 h2 h3 h4 => ?_, fun a k ys h1 h2 => ?_⟩
  · by_cases hb : b = l
    · subst hb
      exact ⟨_, upd_same⟩
    · rw [upd_ne hb]
      exact s.en.live b z
  · rcases set_get e with ⟨rfl, rfl, hj⟩ | ⟨hj, e⟩
    · exact ⟨l, ws, hl, m, upd_same, upL h⟩
    · have q := s.en.slot j z e
      cases z with
      | no => exact trivial
      | exc a => exact q
      | val d =>
        obtain ⟨v, e1, q1⟩ := q
        exact ⟨v, e1, up q1⟩
      | own ys =>
        obtain ⟨k, us, e1, mk, hk, q1⟩ := q
        have ne : k ≠ l := fun z => hj (s.dis j i l ys xs e hi (z ▸ e1) hl)
        exact ⟨k, us, e1, mk, by rw [upd_ne ne]; exact hk, upL q1⟩
  · have ne : b ≠ l := fun z => by rw [z, h0] at e; cases e
    rw [upd_ne ne]
    exact s.keep b o e
  · obtain ⟨_, q1⟩ := own h1
    obtain ⟨_, q2⟩ := own h2
    exact s.dis a b k _ _ q1 q2 h3 h4
  · obtain ⟨_, q1⟩ := own h1
    exact s.own0 a k _ q1 h2
/-- from here on the list of the slot is plain data -/
theorem Sts.freeze (s : Sts K M0 H0 M H st r) {i : Nat} {xs : List D} (hi : r[i]? = some (.own xs)) : ∃ M', Sts K M0 H0 M' H st (r.set i (.val (.list xs))) := by
  obtain ⟨l, vs, hl, m, hH, rv⟩ := s.en.slot i _ hi
  have dn : ∀ {v : V} {d : D}, Rp K M H v d → Rp K (fun b => M b ∧ b ≠ l) H v d := fun {v d} q => q.anti fun b z => z.1
  have dnL : ∀ {v : List V} {d : List D}, RpL K M H v d → RpL K (fun b => M b ∧ b ≠ l) H v d := fun {v d} q => q.anti fun b z => z.1
  have own : ∀ {j : Nat} {ys : List D}, (r.set i (.val (.list xs)))[j]? = some (.own ys) → j ≠ i ∧ r[j]? = some (.own ys) := fun {j ys} e => by
    rcases set_get e with ⟨_, q, _⟩ | q
    · cases q
    · exact q
  refine ⟨fun b => M b ∧ b ≠ l, ⟨fun b z => s.en.live b z.1, fun j z e => ?_, by rw [List.length_set]; exact s.len⟩, s.keep, fun b z => ⟨s.sub b z, fun q => s.own0 i l xs hi hl (q ▸ z)⟩, fun b z => s.new b z.1, by rw [List.length_set]; exact s.len,
    fun a b k ys zs h1 h2 h3 h4 => s.dis a b k ys zs (own h1).2 (own h2).2 h3 h4, fun a k ys h1 h2 => s.own0 a k ys (own h1).2 h2⟩
  rcases set_get e with ⟨rfl, rfl, hj⟩ | ⟨hj, e⟩
  · exact ⟨_, hl, .lst (fun z => z.2 rfl) (.inl hH) (dnL rv)⟩
  · have q := s.en.slot j z e
    cases z with
    | no => exact trivial
    | exc a => exact q
    | val d =>
      obtain ⟨v, e1, q1⟩ := q
      exact ⟨v, e1, dn q1⟩
    | own ys =>
      obtain ⟨k, us, e1, mk, hk, q1⟩ := q
      exact ⟨k, us, e1, ⟨mk, fun z => hj (s.dis j i l ys xs e hi (z ▸ e1) hl)⟩, hk, dnL q1⟩
end
open Classical in
/-- the part of H that no list of one's own stands in -/
noncomputable def still (M0 M : MS) (H : Hp) : Hp := fun b => if M b ∧ ¬ M0 b then none else H b
section
variable {M0 M : MS} {H0 H : Hp} {st : Sg} {r : Rho}
theorem still_of {b : Addr} {o : HO} (n : ¬ M b) (e : H b = some o) : still M0 M H b = some o := by
  unfold still
  rw [if_neg fun z => n z.1]
  exact e
theorem still_same : Same (still M0 M H) H := fun b o e => by
  unfold still at e
  split at e
  · cases e
  · exact e
theorem Sts.base (s : Sts K M0 H0 M H st r) : Same H0 (still M0 M H) := fun b o e => by
  unfold still
  rw [if_neg]
  · exact s.keep b o e
  · rintro ⟨z, n⟩
    rcases s.new b z with q | q
    · exact n q
    · rw [e] at q; cases q
theorem Sts.rebase (s : Sts K M0 H0 M H st r) : Sts K M0 (still M0 M H) M H st r := by
  refine ⟨s.en, still_same, s.sub, fun l z => ?_, s.len, s.dis, s.own0⟩
  by_cases h : M0 l
  · exact .inl h
  · refine .inr ?_
    unfold still
    rw [if_pos ⟨z, h⟩]
theorem Sts.unbase {H1 : Hp} (s : Sts K M0 H1 M H st r) (q : Same H0 H1) : Sts K M0 H0 M H st r := by
  refine ⟨s.en, q.trans s.keep, s.sub, fun l z => ?_, s.len, s.dis, s.own0⟩
  rcases s.new l z with h | h
  · exact .inl h
  · refine .inr ?_
    cases e : H0 l with
    | none => rfl
    | some o => rw [q _ _ e] at h; cases h
end

/-! ### what a statement does -/
inductive Out where
  | nx (r : Rho) | rt (d : D) | bk (r : Rho) | ct (r : Rho) | ex (c : Nat) (r : Rho) | no
def DemS (K : PySem.W.Frag) (W : PWs) (M0 : MS) (H0 : Hp) (E : Ends) : Out → Prop
  | .nx r => ∀ M st H, Sts K M0 H0 M H st r → E.nx st H
  | .bk r => ∀ M st H, Sts K M0 H0 M H st r → E.bk st H
  | .ct r => ∀ M st H, Sts K M0 H0 M H st r → E.ct st H
  | .rt d => ∀ v H, Same H0 H → Rp K M0 H v d → E.rt v H
  | .ex c r => ∀ M st H, Sts K M0 H0 M H st r → W c st H
  | .no => False
def tS (K : PySem.W.Frag) (W : PWs) (M0 : MS) (H0 : Hp) (f : Rho → Out) : TS := fun E st H => ∃ r M, Sts K M0 H0 M H st r ∧ DemS K W M0 H0 E (f r)
structure DS (X : Cx) (W : PWs) (st : Stmt) (f : Rho → Out) : Prop where
  run : ∀ M0 H0, PS X st (tS X.K W M0 H0 f)
structure DSs (X : Cx) (W : PWs) (st : List Stmt) (f : Rho → Out) : Prop where
  run : ∀ M0 H0, PSs X st (tS X.K W M0 H0 f)
def Out.seq : Out → (Rho → Out) → Out
  | .nx r, k => k r
  | o, _ => o
@[simp] theorem seq_nx (r : Rho) (k : Rho → Out) : (Out.nx r).seq k = k r := eq_of_heq HEq.rfl
@[simp] theorem seq_rt (r : D) (k : Rho → Out) : (Out.rt r).seq k = .rt r := eq_of_heq HEq.rfl
@[simp] theorem seq_bk (r : Rho) (k : Rho → Out) : (Out.bk r).seq k = .bk r := eq_of_heq HEq.rfl
@[simp] theorem seq_ct (r : Rho) (k : Rho → Out) : (Out.ct r).seq k = .ct r := eq_of_heq HEq.rfl
@[simp] theorem seq_ex (c : Nat) (r : Rho) (k : Rho → Out) : (Out.ex c r).seq k = .ex c r := eq_of_heq HEq.rfl
@[simp] theorem seq_no (k : Rho → Out) : Out.no.seq k = .no := eq_of_heq HEq.rfl
def sqf (f g : Rho → Out) (r : Rho) : Out := (f r).seq g
theorem DemS.imp {W : PWs} {M0 : MS} {H0 H1 : Hp} {E : Ends} {o : Out} (h : DemS K W M0 H0 E o) (q : Same H0 H1) : DemS K W M0 H1 E o := by
  cases o with
  | nx r => exact fun M st H s => h M st H (s.unbase q)
  | bk r => exact fun M st H s => h M st H (s.unbase q)
  | ct r => exact fun M st H s => h M st H (s.unbase q)
  | rt d => exact fun v H s => h v H (q.trans s)
  | ex c r => exact fun M st H s => h M st H (s.unbase q)
  | no => exact h
section
variable {X : Cx} {W : PWs} {e a b c : Expr} {s : Stmt} {ss : List Stmt} {f f2 : Rho → Out} {g : Rho → Res D} {gl : Rho → Res (List D)} {gt : Rho → Res Bool} {pos p : Pos}
theorem ds_nil : DSs X W [] .nx := ⟨fun M0 H0 => pss_nil.imp fun E st H ⟨r, M, t, q⟩ => q M st H t⟩
theorem ds_cons (h1 : DS X W s f) (h2 : DSs X W ss f2) : DSs X W (s :: ss) (sqf f f2) := ⟨fun M0 H0 => (pss_cons (h1.run M0 H0) (h2.run M0 H0)).imp fun E st H ⟨r, M, t, q⟩ => ⟨r, M, t, by
  unfold sqf at q
  revert q
  cases f r with
  | nx r2 => exact fun q M2 st2 H2 t2 => ⟨r2, M2, t2, q⟩
  | rt d => exact fun q => q
  | bk r2 => exact fun q => q
  | ct r2 => exact fun q => q
  | ex c r2 => exact fun q => q
  | no => exact fun q => q⟩⟩
/-- from a value on -/
def vThen (g : Rho → Res D) (k : D → Rho → Out) (r : Rho) : Out := (g r).fold (fun d => k d r) (fun c => .ex c r) .no
theorem vthen_ok {M0 M : MS} {H0 H : Hp} {st : Sg} {r : Rho} {k : D → Rho → Out} {E : Ends} {P : VK} {R : RR} (t : Sts K M0 H0 M H st r) (q : DemS K W M0 H0 E (vThen g k r))
    (h : ∀ d v H1, Same H H1 → Sts K M0 H0 M H1 st r → R K M H1 v d → DemS K W M0 H0 E (k d r) → P v H1) : tE K R W g st H P := by
  refine ⟨r, M, t.en, ?_⟩
  unfold vThen at q
  cases hg : g r with
  | ok d => rw [hg] at q; exact fun v H1 s1 rv => h d v H1 s1 (t.same s1) rv q
  | ex c => rw [hg] at q; exact fun H1 s1 => q M st H1 (t.same s1)
  | no => rw [hg] at q; exact q
def setE (i : Nat) (g : Rho → Res D) : Rho → Out := vThen g fun d r => .nx (r.set i (.val d))
def retE (g : Rho → Res D) : Rho → Out := vThen g fun d _ => .rt d
def drpE (g : Rho → Res D) : Rho → Out := vThen g fun _ r => .nx r
theorem ds_set {i : Nat} {x : Str} {pos' : Pos} (hN : X.N.Nodup) (hi : X.N[i]? = some x) (hx : Loc X.env.scope x) (he : DE X W e g) (hs : swapsWith e (some (.Name x pos')) pos.line X.env = pure false := by rfl) (hf : X.fn x = true ∨ X.env.scope.names.lookup x = some .local := by first | exact .inl rfl | exact .inr rfl | assumption) :
    DS X W (.Assign [.Name x pos'] e pos) (setE i g) :=
  ⟨fun M0 H0 => (ps_set hN hi hx he.run hs hf).imp fun E st H ⟨r, M, t, q⟩ => vthen_ok t q fun d v H1 s1 t1 rv q1 => q1 M _ H1 (t1.set rv)⟩
def lThen (g : Rho → Res (List D)) (k : List D → Rho → Out) (r : Rho) : Out := (g r).fold (fun d => k d r) (fun c => .ex c r) .no
def ownE (i : Nat) (gl : Rho → Res (List D)) : Rho → Out := lThen gl fun ds r => .nx (r.set i (.own ds))
/-- x = [..], a list of one's own -/
theorem ds_own {i : Nat} {x : Str} {pos' lpos : Pos} {es : List Expr} (hN : X.N.Nodup) (hi : X.N[i]? = some x) (hx : Loc X.env.scope x) (he : DL X W es gl) (hl : es.length ≤ 1000 := by decide) (hs : swapsWith (.List es lpos) (some (.Name x pos')) pos.line X.env = pure false := by rfl) (hf : X.fn x = true ∨ X.env.scope.names.lookup x = some .local := by first | exact .inl rfl | exact .inr rfl | assumption) :
    DS X W (.Assign [.Name x pos'] (.List es lpos) pos) (ownE i gl) :=
  ⟨fun M0 H0 => (ps_set hN hi hx (pe_lst he.run) hs hf).imp fun E st H ⟨r, M, t, q⟩ => by
    refine ⟨r, M, t.en, ?_⟩
    unfold ownE lThen at q
    cases hg : gl r with
    | ok d =>
      rw [hg] at q
      intro vs H1 s1 rv
      refine ⟨by rw [rv.length, he.len r d hg, sizeLine_eq]; omega, fun p hp => ?_⟩
      exact q _ _ _ ((t.same s1).setOwn hp rv)
    | ex c => rw [hg] at q; exact fun H1 s1 => q M st H1 (t.same s1)
    | no => rw [hg] at q; exact q⟩
/-- x.append(e) -/
def apnd (i : Nat) (d : D) (r : Rho) : Out := match r[i]? with
  | some (.own xs) => if xs.length < 16777216 then .nx (r.set i (.own (xs ++ [d]))) else .no
  | _ => .no
def apndE (i : Nat) (g : Rho → Res D) (r : Rho) : Out := match r[i]? with
  | some (.own _) => vThen g (apnd i) r
  | _ => .no
theorem mtr_append : MtR X "list.append" rAppend := fun pins s σ H x xs v us Q I rx rv h => mt_append pins s σ H x xs v us Q I rx rv h
theorem ds_append {i : Nat} {x : Str} {np apos cpos : Pos} (hv : PE X (.Name x np) (tVar i)) (he : DE X W e g)
    (hfew : ((backTo cpos (starEach (e :: []) X.env)).all (fun x => !x.1) && (backToKw cpos (keywordEach [] X.env)).all (fun x => x.1.isSome)
      && decide ((e :: []).length + ([] : List Keyword).length + (if ([] : List Keyword).isEmpty then 0 else 1) < 30)) = true := by rfl)
    (hbase : attributeBase (.Name x np) "append" X.env (eval (.Name x np) X.env) = eval (.Name x np) X.env := by rfl)
    (hline : (apos.endLine == cpos.line) = true := by rfl) (hs : starEach (e :: []) X.env = (false, eval e X.env) :: starEach [] X.env := by rfl) (hplain : (backTo cpos (starEach [] X.env)).any (·.1) = false := by rfl)
    (hsw : swapsWith (.Call (.Attribute (.Name x np) "append" apos) [e] [] cpos) none pos.line X.env = pure false := by rfl) :
    DS X W (.Expr (.Call (.Attribute (.Name x np) "append" apos) [e] [] cpos) pos) (apndE i g) :=
  ⟨fun M0 H0 => (ps_expr (pe_bm PySem.F.plainAttrs_list PySem.F.slot_list_append PySem.F.type_list_append mtr_append hv (pa_cons he.run pa_nil hs) hbase hfew hline hs hplain) hsw).imp fun E st H ⟨r, M, t, q⟩ => by
    unfold apndE at q
    cases hi : r[i]? with
    | none => rw [hi] at q; exact q.elim
    | some z =>
      rw [hi] at q
      cases z with
      | no => exact q.elim
      | exc a => exact q.elim
      | val d => exact q.elim
      | own xs =>
        obtain ⟨l, vs, e1, m, hH, rv⟩ := t.en.slot i _ hi
        refine ⟨_, e1, ⟨.inl ⟨rfl, vs, SqL.of hH⟩, ?_⟩⟩
        refine vthen_ok (R := Rp) t q fun d v H1 s1 t1 rd q1 => ?_
        unfold apnd at q1
        rw [hi] at q1
        simp only at q1
        by_cases hc : xs.length < 16777216
        · rw [if_pos hc] at q1
          refine ⟨l, vs, v, rfl, rfl, s1 _ _ hH, by rw [rv.length, sizeLine_eq]; exact hc, ?_⟩
          exact q1 M st _ (t1.write hi e1 ((rv.same s1).app (.one rd)))
        · rw [if_neg hc] at q1
          exact q1.elim⟩
theorem ds_ret (he : DE X W e g) : DS X W (.Return (some e) pos) (retE g) :=
  ⟨fun M0 H0 => (ps_ret he.run).imp fun E st H ⟨r, M, t, q⟩ => vthen_ok t q fun d v H1 s1 t1 rv q1 => q1 v H1 t1.keep (rv.anti t1.sub)⟩
theorem ds_expr (he : DE X W e g) (hs : swapsWith e none pos.line X.env = pure false := by rfl) : DS X W (.Expr e pos) (drpE g) :=
  ⟨fun M0 H0 => (ps_expr he.run hs).imp fun E st H ⟨r, M, t, q⟩ => vthen_ok t q fun d v H1 s1 t1 rv q1 => q1 M st H1 t1⟩
theorem ds_pass : DS X W (.Pass pos) .nx := ⟨fun M0 H0 => ps_pass.imp fun E st H ⟨r, M, t, q⟩ => q M st H t⟩
theorem ds_break : DS X W (.Break pos) .bk := ⟨fun M0 H0 => ps_break.imp fun E st H ⟨r, M, t, q⟩ => q M st H t⟩
theorem ds_cont : DS X W (.Continue pos) .ct := ⟨fun M0 H0 => ps_continue.imp fun E st H ⟨r, M, t, q⟩ => q M st H t⟩
def tThen (g : Rho → Res Bool) (k : Bool → Rho → Out) (r : Rho) : Out := (g r).fold (fun d => k d r) (fun c => .ex c r) .no
def sIf (gt : Rho → Res Bool) (f f2 : Rho → Out) : Rho → Out := tThen gt fun c r => if c then f r else f2 r
theorem tthen_ok {M0 M : MS} {H0 H : Hp} {st : Sg} {r : Rho} {k : Bool → Rho → Out} {E : Ends} {P : Bool → Hp → Prop} (t : Sts K M0 H0 M H st r) (q : DemS K W M0 H0 E (tThen gt k r))
    (h : ∀ d H1, Same H H1 → Sts K M0 H0 M H1 st r → gt r = .ok d → DemS K W M0 H0 E (k d r) → P d H1) : tT K W gt st H P := by
  refine ⟨r, M, t.en, ?_⟩
  unfold tThen at q
  cases hg : gt r with
  | ok d => rw [hg] at q; exact fun H1 s1 => h d H1 s1 (t.same s1) hg q
  | ex c => rw [hg] at q; exact fun H1 s1 => q M st H1 (t.same s1)
  | no => rw [hg] at q; exact q
theorem ds_if {ss2 : List Stmt} (hc : DT X W c gt) (ha : DSs X W ss f) (hb : DSs X W ss2 f2) : DS X W (.If c ss ss2 pos) (sIf gt f f2) :=
  ⟨fun M0 H0 => (ps_if hc.run (ha.run M0 H0) (hb.run M0 H0)).imp fun E st H ⟨r, M, t, q⟩ => tthen_ok t q fun d H1 s1 t1 _ q1 => by
    cases d with
    | true => exact ⟨r, M, t1, q1⟩
    | false => exact ⟨r, M, t1, q1⟩⟩
/-- ahead of the rest the list of a slot turns into plain data -/
def frz (i : Nat) (f : Rho → Out) (r : Rho) : Out := match r[i]? with
  | some (.own xs) => f (r.set i (.val (.list xs)))
  | _ => .no
theorem ds_frz (i : Nat) (h : DSs X W ss f) : DSs X W ss (frz i f) := ⟨fun M0 H0 => (h.run M0 H0).imp fun E st H ⟨r, M, t, q⟩ => by
  unfold frz at q
  cases hi : r[i]? with
  | none => rw [hi] at q; exact q.elim
  | some z =>
    rw [hi] at q
    cases z with
    | no => exact q.elim
    | exc a => exact q.elim
    | val d => exact q.elim
    | own xs =>
      obtain ⟨M', t'⟩ := t.freeze hi
      exact ⟨_, M', t', q⟩⟩
/-! while: fuel n -/
def whileD (gt : Rho → Res Bool) (f : Rho → Out) : Nat → Rho → Out
  | 0, _ => .no
  | n + 1, r => tThen gt (fun c r => if c then (match f r with
      | .nx r2 => whileD gt f n r2
      | .ct r2 => whileD gt f n r2
      | .bk r2 => .nx r2
      | o => o) else .nx r) r
theorem ds_while (n : Nat) (hp : PassesOwn (model X.prog X.w) X.A X.env X.xe) (hc : DT X W c gt) (hb : DSs X W ss f) : DS X W (.While c ss [] pos) (whileD gt f n) :=
  ⟨fun M0 H0 => (ps_while hp hc.run (hb.run M0 H0)).imp fun E st H ⟨r, M, t, q⟩ => by
    refine ⟨fun m st H => ∃ r M, Sts X.K M0 H0 M H st r ∧ DemS X.K W M0 H0 E (whileD gt f m r), ⟨n, r, M, t, q⟩, ?_⟩
    rintro m st H ⟨r, M, t, q⟩
    cases m with
    | zero => exact q.elim
    | succ m =>
      unfold whileD at q
      refine tthen_ok t q fun d H1 s1 t1 _ q1 => ?_
      cases d with
      | false => exact q1 M st H1 t1
      | true =>
        refine ⟨fun st H => ∃ r M, Sts X.K M0 H0 M H st r ∧ DemS X.K W M0 H0 E (whileD gt f m r), fun st2 H2 z => ⟨m, Nat.lt_succ_self m, z⟩, ?_⟩
        refine ⟨r, M, t1, ?_⟩
        simp only [if_true] at q1
        revert q1
        cases f r with
        | nx r2 => exact fun q1 M2 st2 H2 t2 => ⟨r2, M2, t2, q1⟩
        | ct r2 => exact fun q1 M2 st2 H2 t2 => ⟨r2, M2, t2, q1⟩
        | bk r2 => exact fun q1 => q1
        | rt d => exact fun q1 => q1
        | ex c r2 => exact fun q1 => q1
        | no => exact fun q1 => q1⟩
end
end PD

namespace PD
open PySem PySem.Spec PyProof.Rows L2
variable {K : PySem.W.Frag}

/-! ### what a loop walks -/
/-- J gives the items ds, whatever happens outside of Hb -/
def Serves (K : PySem.W.Frag) (M0 : MS) (Hb : Hp) (J : It) (ds : List D) : Prop :=
  ∀ (i : Nat) (M : MS) (H : Hp), Same Hb H → (∀ l, M l → M0 l ∨ Hb l = none) → (∀ l, M l → ∃ o, H l = some o) →
    (∀ d, ds[i]? = some d → J.go i H ∧ ∀ x H', J.yld i H x H' → Same H H' ∧ Rp K M H' x d) ∧ (ds.length ≤ i → J.stop i H)
def DemI (K : PySem.W.Frag) (W : PWs) (M : MS) (st : Sg) (H : Hp) (r : Res (List D)) (R : It → Hp → Prop) : Prop :=
  match r with
  | .ok ds => ∀ J H1, Same H H1 → (∀ (M0 : MS) (Hb : Hp), (∀ l, M0 l → M l) → (∀ b o, ¬ M b → H1 b = some o → Hb b = some o) → Serves K M0 Hb J ds) → R J H1
  | .ex c => ∀ H', Same H H' → W c st H'
  | .no => False
def tI (K : PySem.W.Frag) (W : PWs) (g : Rho → Res (List D)) : TI := fun st H R => ∃ r M, En K M H st r ∧ DemI K W M st H (g r) R
structure DI (X : Cx) (W : PWs) (tg iter : Expr) (g : Rho → Res (List D)) : Prop where
  run : PI X tg iter (tI X.K W g)
theorem _root_.L2.PI.imp {X : Cx} {tg e : Expr} {t t' : TI} (h : PI X tg e t) (k : ∀ st H Q, t' st H Q → t st H Q) : PI X tg e t' := ⟨fun pins s st H Q I q => h.run pins s st H Q I (k _ _ _ q)⟩
section
variable {X : Cx} {W : PWs} {e a b c tg : Expr} {s : Stmt} {ss : List Stmt} {f f2 : Rho → Out} {g ga gb : Rho → Res D} {gl : Rho → Res (List D)} {gt : Rho → Res Bool} {pos p : Pos}
def asL (g : Rho → Res D) (r : Rho) : Res (List D) := (g r).bind fun d => match d with
  | .list ds => .ok ds
  | _ => .no
def asT (g : Rho → Res D) (r : Rho) : Res (List D) := (g r).bind fun d => match d with
  | .tuple ds => .ok ds
  | _ => .no
theorem serves_list {M M0 : MS} {H1 Hb : Hp} {a : Addr} {xs : List V} {ds : List D} (hS : ∀ H2, Same Hb H2 → SqL K H2 a xs) (hl : RpL K M H1 xs ds) (h0 : ∀ l, M0 l → M l) (hb : ∀ b o, ¬ M b → H1 b = some o → Hb b = some o) :
    Serves K M0 Hb (Itl K a) ds := by
  intro i M2 H2 s2 n2 l2
  have r2 := hS H2 s2
  have lb : RpL K M0 Hb xs ds := RpL.to (fun b n _ z => n (h0 b z)) (fun b o n e => hb b o n e) ds xs hl
  have l2' : RpL K M2 H2 xs ds := RpL.to (fun b n ⟨o, e⟩ z => by
    rcases n2 b z with q | q
    · exact n q
    · rw [e] at q; cases q) (fun b o _ e => s2 b o e) ds xs lb
  refine ⟨fun d hd => ?_, fun hi => ⟨xs, r2, by rw [l2'.length]; exact hi⟩⟩
  obtain ⟨v, hv, rv⟩ := l2'.get hd
  refine ⟨⟨xs, v, r2, hv⟩, fun x H' ⟨e, q⟩ => ?_⟩
  subst e
  have z := q xs r2
  rw [hv] at z
  cases z
  exact ⟨Same.refl _, rv⟩
theorem serves_tup {M M0 : MS} {H1 Hb : Hp} {a : Addr} {xs : List V} {ds : List D} (hm : ¬ M a) (hr : Rd H1 a (.tup xs)) (hl : RpL K M H1 xs ds) (h0 : ∀ l, M0 l → M l) (hb : ∀ b o, ¬ M b → H1 b = some o → Hb b = some o) :
    Serves K M0 Hb (Itt K a) ds := by
  intro i M2 H2 s2 n2 l2
  have rb : Rd Hb a (.tup xs) := rd_to hr fun o e => hb a o hm e
  have r2 : Rd H2 a (.tup xs) := rd_to rb fun o e => s2 a o e
  have lb : RpL K M0 Hb xs ds := RpL.to (fun b n _ z => n (h0 b z)) (fun b o n e => hb b o n e) ds xs hl
  have l2' : RpL K M2 H2 xs ds := RpL.to (fun b n ⟨o, e⟩ z => by
    rcases n2 b z with q | q
    · exact n q
    · rw [e] at q; cases q) (fun b o _ e => s2 b o e) ds xs lb
  refine ⟨fun d hd => ?_, fun hi => ⟨xs, .inl r2, by rw [l2'.length]; exact hi⟩⟩
  obtain ⟨v, hv, rv⟩ := l2'.get hd
  refine ⟨⟨xs, v, .inl r2, hv⟩, fun x H' ⟨e, q⟩ => ?_⟩
  subst e
  have z := q xs (.inl r2)
  rw [hv] at z
  cases z
  exact ⟨Same.refl _, rv⟩
theorem di_list (h : DE X W e g) : DI X W tg e (asL g) := ⟨(pi_list h.run).imp fun st H R ⟨r, M, en, q⟩ => by
  refine ⟨r, M, en, ?_⟩
  unfold asL at q
  cases hg : g r with
  | ex c => rw [hg] at q; exact q
  | no => rw [hg] at q; exact q
  | ok d =>
    rw [hg] at q
    cases d with
    | list ds =>
      intro v H1 s1 rv
      cases rv with
      | lst n r1 l1 => exact ⟨_, rfl, ⟨_, .inl r1⟩, q _ H1 s1 fun M0 Hb h0 hb => serves_list (fun H2 s2 => .inl (rd_to (rd_to r1 fun o e => hb _ o n e) fun o e => s2 _ o e)) l1 h0 hb⟩
      | kls r1 l1 => exact ⟨_, rfl, ⟨_, .inr r1⟩, q _ H1 s1 fun M0 Hb h0 hb => serves_list (fun H2 s2 => .inr r1) l1 h0 hb⟩
    | none => exact q.elim
    | bool => exact q.elim
    | int => exact q.elim
    | str => exact q.elim
    | tuple => exact q.elim
    | dict => exact q.elim⟩
theorem di_tup (h : DE X W e g) : DI X W tg e (asT g) := ⟨(pi_tup h.run).imp fun st H R ⟨r, M, en, q⟩ => by
  refine ⟨r, M, en, ?_⟩
  unfold asT at q
  cases hg : g r with
  | ex c => rw [hg] at q; exact q
  | no => rw [hg] at q; exact q
  | ok d =>
    rw [hg] at q
    cases d with
    | tuple ds =>
      intro v H1 s1 rv
      cases rv with
      | tup n r1 l1 => exact ⟨_, rfl, ⟨_, .inl r1⟩, q _ H1 s1 fun M0 Hb h0 hb => serves_tup n r1 l1 h0 hb⟩
    | none => exact q.elim
    | bool => exact q.elim
    | int => exact q.elim
    | str => exact q.elim
    | list => exact q.elim
    | dict => exact q.elim⟩
/-- a list or a tuple -/
theorem pi_either {l : Expr} {tl : TE} (hl : PE X l tl) : PI X tg l (fun st H R => tl st H fun x H1 => ∃ a, x = .ref a ∧ ((∃ xs, SqL X.K H1 a xs ∧ R (Itl X.K a) H1) ∨ ∃ xs, SqT X.K H1 a xs ∧ R (Itt X.K a) H1)) where
  run := fun pins s st H R I h => thn (hl.run pins s st H _ I h) fun v s1 hv => by
    rcases hv with ⟨x, H1, I1, r1, a, rfl, q⟩
    cases r1
    have nf : H1 s1.heap.objs.size = none := I1.hok.fresh (Nat.le_refl _)
    have fp : ∀ b ∈ [s1.heap.objs.size], FpOk X pins H1 b := fun b hb => by
      rw [List.mem_singleton] at hb
      rw [hb]
      exact I1.fpOk (Nat.le_refl _) nf
    rcases q with ⟨xs, hq, q⟩ | ⟨xs, hq, q⟩
    · obtain ⟨its, -, p, -⟩ := I1.list hq
      refine wpAny_pyIter_list p.isList ⟨_, _, _, _, H1, rfl, ?_, turn_list a _, ⟨_, Heap.get?_push_size _ rfl, rfl, rfl⟩, fp, q⟩
      exact I1.kept (t' := s1.toks) fun b o e => Heap.get?_push_of_some _ e
    · obtain ⟨its, -, p, -⟩ := I1.tuple hq
      refine wpAny_pyIter_tuple p ⟨_, _, _, _, H1, rfl, ?_, turn_tuple a _, ⟨_, Heap.get?_push_size _ rfl, rfl, rfl⟩, fp, q⟩
      exact I1.kept (t' := s1.toks) fun b o e => Heap.get?_push_of_some _ e
def asS (g : Rho → Res D) (r : Rho) : Res (List D) := (g r).bind fun d => match items d with
  | some ds => .ok ds
  | none => .no
theorem di_seq (h : DE X W e g) : DI X W tg e (asS g) := ⟨(pi_either h.run).imp fun st H R ⟨r, M, en, q⟩ => by
  refine ⟨r, M, en, ?_⟩
  unfold asS at q
  cases hg : g r with
  | ex c => rw [hg] at q; exact q
  | no => rw [hg] at q; exact q
  | ok d =>
    rw [hg] at q
    cases d with
    | list ds =>
      intro v H1 s1 rv
      cases rv with
      | lst n r1 l1 => exact ⟨_, rfl, .inl ⟨_, .inl r1, q _ H1 s1 fun M0 Hb h0 hb => serves_list (fun H2 s2 => .inl (rd_to (rd_to r1 fun o e => hb _ o n e) fun o e => s2 _ o e)) l1 h0 hb⟩⟩
      | kls r1 l1 => exact ⟨_, rfl, .inl ⟨_, .inr r1, q _ H1 s1 fun M0 Hb h0 hb => serves_list (fun H2 s2 => .inr r1) l1 h0 hb⟩⟩
    | tuple ds =>
      intro v H1 s1 rv
      cases rv with
      | tup n r1 l1 => exact ⟨_, rfl, .inr ⟨_, .inl r1, q _ H1 s1 fun M0 Hb h0 hb => serves_tup n r1 l1 h0 hb⟩⟩
    | none => exact q.elim
    | bool => exact q.elim
    | int => exact q.elim
    | str => exact q.elim
    | dict => exact q.elim⟩
/-- lo, lo + 1, .. -/
def rngD (lo : Int) (n : Nat) : List D := (List.range n).map fun i => .int (lo + (i : Nat))
theorem serves_rng {M0 : MS} {Hb : Hp} {lo : Int} {n : Nat} : Serves K M0 Hb (Itr lo n) (rngD lo n) := by
  intro i M2 H2 s2 n2 l2
  refine ⟨fun d hd => ?_, fun hi => (by simpa [rngD] using hi : n ≤ i)⟩
  unfold rngD at hd
  rw [List.getElem?_map] at hd
  cases e : (List.range n)[i]? with
  | none => rw [e] at hd; cases hd
  | some j =>
    rw [e] at hd
    obtain ⟨hj, ej⟩ := List.getElem?_eq_some_iff.mp e
    rw [List.getElem_range] at ej
    subst ej
    rw [List.length_range] at hj
    cases hd
    refine ⟨hj, fun x H' ⟨e1, e2⟩ => ?_⟩
    subst e1 e2
    exact ⟨Same.refl _, .int _⟩
open Classical in
noncomputable def rg1 (g : Rho → Res D) (r : Rho) : Res (List D) := (g r).bind fun d => match d with
  | .int j => if j < 2 ^ 62 ∧ -(2 ^ 62) ≤ j then .ok (rngD 0 j.toNat) else .no
  | _ => .no
open Classical in
noncomputable def rg2 (ga gb : Rho → Res D) (r : Rho) : Res (List D) := (ga r).bind fun d => (gb r).bind fun e => match d, e with
  | .int i, .int j => if -(2 ^ 62) ≤ i ∧ i < 2 ^ 62 ∧ -(2 ^ 62) ≤ j ∧ j < 2 ^ 62 then .ok (rngD i (j - i).toNat) else .no
  | _, _ => .no
theorem di_rg1 (hm : X.mg "range" = none) (h : DW X W a g) (hg : Gl X "range" := by rfl) (hs1 : starEach (a :: []) X.env = (false, eval a X.env) :: starEach [] X.env := by rfl) : DI X W tg (.Call (.Name "range" p) [a] [] pos) (rg1 g) :=
  ⟨(pi_range1 hg hm (pa_cons h.run pa_nil hs1) (hs1.trans (by rfl))).imp fun st H R ⟨r, M, en, q⟩ => by
    refine ⟨r, M, en, ?_⟩
    unfold rg1 at q
    cases hg : g r with
    | ex c => rw [hg] at q; exact q
    | no => rw [hg] at q; exact q
    | ok d =>
      rw [hg] at q
      cases d with
      | int j =>
        simp only [bind_ok] at q
        by_cases hc : j < 2 ^ 62 ∧ -(2 ^ 62) ≤ j
        · rw [if_pos hc] at q
          intro v H1 s1 rv
          rw [rv.int_]
          exact ⟨j, rfl, hc.2, hc.1, q _ H1 s1 fun M0 Hb h0 hb => serves_rng⟩
        · rw [if_neg hc] at q
          exact q.elim
      | none => exact q.elim
      | bool => exact q.elim
      | list => exact q.elim
      | str => exact q.elim
      | tuple => exact q.elim
      | dict => exact q.elim⟩
theorem di_rg2 (hm : X.mg "range" = none) (ha : DW X W a ga) (hb : DW X W b gb) (hg : Gl X "range" := by rfl) (hs1 : starEach (a :: [b]) X.env = (false, eval a X.env) :: starEach [b] X.env := by rfl) (hs2 : starEach (b :: []) X.env = (false, eval b X.env) :: starEach [] X.env := by rfl) :
    DI X W tg (.Call (.Name "range" p) [a, b] [] pos) (rg2 ga gb) :=
  ⟨(pi_range2 hg hm (pa_cons ha.run (pa_cons hb.run pa_nil hs2) hs1) (by rw [hs1, hs2]; rfl) (by rw [hs2]; rfl)).imp fun st H R ⟨r, M, en, q⟩ => by
    refine ⟨r, M, en, ?_⟩
    unfold rg2 at q
    cases hga : ga r with
    | ex c => rw [hga] at q; exact q
    | no => rw [hga] at q; exact q
    | ok d =>
      rw [hga] at q
      simp only [bind_ok] at q
      intro v H1 s1 rv
      refine ⟨r, M, en.same s1, ?_⟩
      cases hgb : gb r with
      | ex c => rw [hgb] at q; exact fun H2 s2 => q H2 (s1.trans s2)
      | no => rw [hgb] at q; exact q
      | ok d2 =>
        rw [hgb] at q
        simp only [bind_ok] at q
        intro v2 H2 s2 rv2
        cases d <;> first
          | exact q.elim
          | skip
        cases d2 <;> first
          | exact q.elim
          | skip
        rename_i i j
        simp only at q
        by_cases hc : -(2 ^ 62) ≤ i ∧ i < 2 ^ 62 ∧ -(2 ^ 62) ≤ j ∧ j < 2 ^ 62
        · rw [if_pos hc] at q
          rw [rv.int_, rv2.int_]
          exact ⟨i, j, rfl, hc, q _ H2 (s1.trans s2) fun M0 Hb h0 hb => serves_rng⟩
        · rw [if_neg hc] at q
          exact q.elim⟩

/-! ### targets -/
abbrev Asg := D → Option (List (Nat × D))
def setsV (st : Sg) : List Nat → List V → Sg
  | i :: is, v :: vs => setsV (st.set i (some v)) is vs
  | _, _ => st
def setsD (r : Rho) : List (Nat × D) → Rho
  | [] => r
  | (i, d) :: ps => setsD (r.set i (.val d)) ps
theorem Sts.sets {M0 M : MS} {H0 H : Hp} : ∀ (ps : List (Nat × D)) (vs : List V) (st : Sg) (r : Rho), Sts K M0 H0 M H st r → RpL K M H vs (ps.map (·.2)) → Sts K M0 H0 M H (setsV st (ps.map (·.1)) vs) (setsD r ps)
  | [], _, _, _, s, h => by cases h; exact s
  | (i, d) :: ps, v :: vs, st, r, s, h => by
    cases h with
    | cons a t => exact Sts.sets ps vs _ _ (s.set a) t
theorem En.sets {M : MS} {H : Hp} : ∀ (ps : List (Nat × D)) (vs : List V) (st : Sg) (r : Rho), En K M H st r → RpL K M H vs (ps.map (·.2)) → En K M H (setsV st (ps.map (·.1)) vs) (setsD r ps)
  | [], _, _, _, s, h => by cases h; exact s
  | (i, d) :: ps, v :: vs, st, r, s, h => by
    cases h with
    | cons a t => exact En.sets ps vs _ _ (s.set a) t
/-- what a target asks of the value, and the stores -/
def tG (K : PySem.W.Frag) (asg : Asg) : TG := fun v st H Q => ∃ d M ps, Rp K M H v d ∧ asg d = some ps ∧ ∀ vs, RpL K M H vs (ps.map (·.2)) → Q (setsV st (ps.map (·.1)) vs) H
structure DG (X : Cx) (tg : Expr) (asg : Asg) : Prop where
  run : PG X tg (tG X.K asg)
theorem _root_.L2.PG.imp {X : Cx} {e : Expr} {t t' : TG} (h : PG X e t) (k : ∀ v st H Q, t' v st H Q → t v st H Q) : PG X e t' := ⟨fun pins s st H v u Q I r q => h.run pins s st H v u Q I r (k _ _ _ _ q)⟩
def aName (i : Nat) : Asg := fun d => some [(i, d)]
theorem dg_name {i : Nat} {x : Str} (hN : X.N.Nodup) (hi : X.N[i]? = some x) (hx : Loc X.env.scope x) (hf : X.fn x = true ∨ X.env.scope.names.lookup x = some .local := by first | exact .inl rfl | exact .inr rfl | assumption) : DG X (.Name x pos) (aName i) :=
  ⟨(pg_name hN hi hx hf).imp fun v st H Q ⟨d, M, ps, rv, e, q⟩ => by
    cases e
    exact q [v] (.one rv)⟩
/-- several plain names -/
def aTup (is : List Nat) : Asg := fun d => match d with
  | .tuple ds => if ds.length = is.length then some (is.zip ds) else none
  | _ => none
/-- the targets of a tuple are plain names at the slots is -/
inductive Names (X : Cx) : List Expr → List Nat → Prop where
  | nil : Names X [] []
  | cons {e : Expr} {es : List Expr} {i : Nat} {is : List Nat} (h : PG X e (gName i)) (hs : (assignEach (e :: es) X.env).map (·.2) = assign e X.env :: (assignEach es X.env).map (·.2)) (t : Names X es is) : Names X (e :: es) (i :: is)
def gNames : List Nat → TGs
  | [] => gNil
  | i :: is => gCons (gName i) (gNames is)
theorem Names.pgs : ∀ {es : List Expr} {is : List Nat}, Names X es is → PGs X es (gNames is)
  | _, _, .nil => pgs_nil
  | _, _, .cons h hs t => pgs_cons h t.pgs hs
theorem gNames_of : ∀ {is : List Nat} {vs : List V} {st : Sg} {H : Hp} {Q : Sg → Hp → Prop}, vs.length = is.length → Q (setsV st is vs) H → gNames is vs st H Q
  | [], [], _, _, _, _, q => ⟨rfl, q⟩
  | [], _ :: _, _, _, _, h, _ => by simp at h
  | _ :: _, [], _, _, _, h, _ => by simp at h
  | i :: is, v :: vs, st, H, Q, h, q => ⟨v, vs, rfl, gNames_of (is := is) (vs := vs) (by simpa using h) q⟩
theorem dg_tup {es : List Expr} {k : Nat} {is : List Nat} (hc : X.calm = true) (h : Names X es is)
    (hn : (assignEach es X.env).length = is.length := by rfl) (hst : (assignEach es X.env).findIdx? (·.1) = none := by rfl) : DG X (.Tuple es k pos) (aTup is) :=
  ⟨(pg_tup hc h.pgs hn hst).imp fun v st H Q ⟨d, M, ps, rv, e, q⟩ => by
    cases d with
    | tuple ds =>
      unfold aTup at e
      simp only at e
      by_cases hl : ds.length = is.length
      · rw [if_pos hl] at e
        cases e
        obtain ⟨a, xs, rfl, rr, l, _⟩ := rv.weak.tup_
        have l' := l.length
        have m1 : (is.zip ds).map (·.1) = is := by
          rw [List.map_fst_zip]
          omega
        have m2 : (is.zip ds).map (·.2) = ds := by
          rw [List.map_snd_zip]
          omega
        rw [m1, m2] at q
        exact ⟨a, xs, rfl, .inl rr, by omega, gNames_of (by omega) (q xs l)⟩
      · rw [if_neg hl] at e
        cases e
    | none => cases e
    | bool => cases e
    | int => cases e
    | str => cases e
    | list => cases e
    | dict => cases e⟩
/-- target = value -/
def sAsg (g : Rho → Res D) (asg : Asg) : Rho → Out := vThen g fun d r => match asg d with
  | some ps => .nx (setsD r ps)
  | none => .no
theorem ds_asg {asg : Asg} (he : DE X W e g) (hg : DG X tg asg) (hs : swapsWithSole [tg] e pos.line X.env = pure false := by rfl) (hw : swappedStores [tg] e X.env = pure none := by rfl)
    (h1 : (assignEach [tg] X.env).map (·.2) = [assign tg X.env] := by rfl) : DS X W (.Assign [tg] e pos) (sAsg g asg) :=
  ⟨fun M0 H0 => (ps_asg he.run hg.run hs hw h1).imp fun E st H ⟨r, M, t, q⟩ => vthen_ok t q fun d v H1 s1 t1 rv q1 => by
    cases e : asg d with
    | none => rw [e] at q1; exact q1.elim
    | some ps =>
      rw [e] at q1
      exact ⟨d, M, ps, rv, e, fun vs l => q1 M _ H1 (t1.sets ps vs _ _ l)⟩⟩

/-! ### for -/
def forD (asg : Asg) (f : Rho → Out) : List D → Rho → Out
  | [], r => .nx r
  | d :: ds, r => match asg d with
    | none => .no
    | some ps => match f (setsD r ps) with
      | .nx r2 => forD asg f ds r2
      | .ct r2 => forD asg f ds r2
      | .bk r2 => .nx r2
      | o => o
def forE (gl : Rho → Res (List D)) (asg : Asg) (f : Rho → Out) : Rho → Out := lThen gl fun ds => forD asg f ds
theorem ds_for {asg : Asg} {iter : Expr} (hp : PassesOwn (model X.prog X.w) X.A X.env X.xe) (hc : X.calm = true) (hi : DI X W tg iter gl) (hg : DG X tg asg) (hb : DSs X W ss f)
    (hs : ∀ x, foldedSetIterable iter X.env x = pure x := by intro _; rfl) : DS X W (.For tg iter ss [] pos) (forE gl asg f) := by
  refine ⟨fun M0 H0 => ⟨fun pins s st H E I h => ?_⟩⟩
  obtain ⟨r, M, t, q⟩ := h
  unfold forE lThen at q
  cases hgl : gl r with
  | ex c =>
    rw [hgl] at q
    exact (ps_for hp hc hi.run hg.run (hb.run M0 H0) hs).run pins s st H E I ⟨r, M, t.en, by rw [hgl]; exact fun H1 s1 => q M st H1 (t.same s1)⟩
  | no => rw [hgl] at q; exact q.elim
  | ok ds =>
    rw [hgl] at q
    -- the base within the loop is known only behind the iterable: the body serves any base
    refine (ps_for (tb := fun E st H => ∃ M0 H0, tS X.K W M0 H0 f E st H) hp hc hi.run hg.run ⟨fun pins s st H E I ⟨M0, H0, q⟩ => (hb.run M0 H0).run pins s st H E I q⟩ hs).run pins s st H E I ⟨r, M, t.en, ?_⟩
    rw [hgl]
    intro J H1 s1 serve
    obtain ⟨M1, eM⟩ : ∃ M1, M1 = M := ⟨M, rfl⟩
    subst eM
    have t1 := t.same s1
    have sv := serve M0 (still M0 M1 H1) t1.sub (fun b o n e => still_of n e)
    have hbase : Same H0 (still M0 M1 H1) := t1.base
    refine ⟨fun i m st H => m = ds.length - i ∧ i ≤ ds.length ∧ ∃ r M, Sts X.K M0 (still M0 M1 H1) M H st r ∧ DemS X.K W M0 H0 E (forD asg f (ds.drop i) r), ⟨_, rfl, Nat.zero_le _, r, M1, t1.rebase, by rw [List.drop_zero]; exact q⟩, ?_⟩
    rintro i m st2 H2 ⟨rfl, hi, r2, M2, t2, q2⟩
    obtain ⟨sgo, sstop⟩ := sv i M2 H2 t2.keep t2.new t2.en.live
    by_cases hlt : i < ds.length
    · have hd : ds[i]? = some ds[i] := List.getElem?_eq_getElem hlt
      obtain ⟨go, yl⟩ := sgo _ hd
      rw [List.drop_eq_getElem_cons hlt] at q2
      unfold forD at q2
      refine .inr ⟨go, fun st H => ∃ r M, Sts X.K M0 (still M0 M1 H1) M H st r ∧ DemS X.K W M0 H0 E (forD asg f (ds.drop (i + 1)) r), fun st3 H3 z => ⟨ds.length - (i + 1), by omega, rfl, hlt, z⟩, fun x H3 y => ?_⟩
      obtain ⟨s3, rx⟩ := yl x H3 y
      cases ea : asg ds[i] with
      | none => rw [ea] at q2; exact q2.elim
      | some ps =>
        rw [ea] at q2
        simp only at q2
        refine ⟨_, M2, ps, rx, ea, fun vs l => ⟨M0, still M0 M1 H1, _, M2, (t2.same s3).sets ps vs _ _ l, ?_⟩⟩
        revert q2
        cases f (setsD r2 ps) with
        | nx r3 => exact fun q2 M3 st3 H3 t3 => ⟨r3, M3, t3, q2⟩
        | ct r3 => exact fun q2 M3 st3 H3 t3 => ⟨r3, M3, t3, q2⟩
        | bk r3 => exact fun q2 M3 st3 H3 t3 => q2 M3 st3 H3 (t3.unbase hbase)
        | rt d => exact fun q2 v H3 s3 => q2 v H3 (hbase.trans s3)
        | ex c r3 => exact fun q2 M3 st3 H3 t3 => q2 M3 st3 H3 (t3.unbase hbase)
        | no => exact fun q2 => q2
    · have e : i = ds.length := by omega
      subst e
      rw [List.drop_length] at q2
      exact .inl ⟨sstop (Nat.le_refl _), q2 M2 st2 H2 (t2.unbase hbase)⟩
end
end PD

namespace PD
open PySem PySem.Spec PyProof.Rows L2
variable {K : PySem.W.Frag}

/-! ### comprehensions -/
abbrev W0 : PWs := fun _ _ _ => False
def Res.quiet {α : Type} : Res α → Res α
  | .ok a => .ok a
  | _ => .no
@[simp] theorem quiet_ok {α : Type} (a : α) : (Res.ok a).quiet = .ok a := rfl
def wipeR (r : Rho) : List Nat → Rho
  | [] => r
  | v :: vs => (wipeR r vs).set v .no
theorem wipeR_length (r : Rho) : ∀ vs : List Nat, (wipeR r vs).length = r.length
  | [] => rfl
  | v :: vs => by unfold wipeR; rw [List.length_set, wipeR_length r vs]
theorem En.wipe {M : MS} {H : Hp} {st : Sg} {r : Rho} (s : En K M H st r) : ∀ vs : List Nat, En K M H (wipe st vs) (wipeR r vs)
  | [] => s
  | v :: vs => by
    have ih := En.wipe s vs
    refine ⟨ih.live, fun j z e => ?_, by rw [wipe_length, wipeR_length]; exact s.len⟩
    unfold wipeR at e
    rcases set_get e with ⟨rfl, rfl, hj⟩ | ⟨hj, e⟩
    · exact trivial
    · have q := ih.slot j z e
      unfold L2.wipe
      rw [List.getElem?_set_ne (Ne.symm hj)]
      exact q
theorem wipe_get (st : Sg) (j : Nat) : ∀ vs : List Nat, (wipe st vs)[j]? = if j ∈ vs ∧ j < st.length then some none else st[j]?
  | [] => by simp [wipe]
  | v :: vs => by
    unfold L2.wipe
    have ih := wipe_get st j vs
    by_cases hj : j = v
    · subst hj
      by_cases hl : j < st.length
      · rw [List.getElem?_set_self (by rw [wipe_length]; exact hl), if_pos ⟨List.mem_cons_self, hl⟩]
      · rw [List.getElem?_eq_none (by rw [List.length_set, wipe_length]; omega), if_neg (fun z => hl z.2), List.getElem?_eq_none (by omega)]
    · rw [List.getElem?_set_ne (Ne.symm hj), ih]
      simp [hj]
theorem setsV_length : ∀ (is : List Nat) (vs : List V) (st : Sg), (setsV st is vs).length = st.length
  | [], _, _ => rfl
  | _ :: _, [], _ => rfl
  | i :: is, v :: vs, st => by
    unfold setsV
    rw [setsV_length is vs, List.length_set]
theorem setsV_out : ∀ (is : List Nat) (vs : List V) (st : Sg) {j : Nat}, j ∉ is → (setsV st is vs)[j]? = st[j]?
  | [], _, _, _, _ => rfl
  | _ :: _, [], _, _, _ => rfl
  | i :: is, v :: vs, st, j, h => by
    unfold setsV
    rw [setsV_out is vs _ (fun z => h (List.mem_cons_of_mem _ z)), List.getElem?_set_ne]
    exact fun z => h (z ▸ List.mem_cons_self)
theorem wipe_sets {st : Sg} {is : List Nat} {vs : List V} {own : List Nat} (h : ∀ i ∈ is, i ∈ own) : wipe (setsV (wipe st own) is vs) own = wipe st own := by
  apply List.ext_getElem?
  intro j
  rw [wipe_get, setsV_length, wipe_length]
  by_cases hj : j ∈ own ∧ j < st.length
  · rw [if_pos hj, wipe_get, if_pos hj]
  · rw [if_neg hj]
    by_cases ho : j ∈ own
    · have hl : ¬ j < st.length := fun z => hj ⟨ho, z⟩
      rw [List.getElem?_eq_none (by rw [setsV_length, wipe_length]; omega), List.getElem?_eq_none (by rw [wipe_length]; omega)]
    · rw [setsV_out _ _ _ (fun z => ho (h j z))]
def compD (asg : Asg) (gt : Rho → Res Bool) (ge : Rho → Res D) (r : Rho) : List D → Res (List D)
  | [] => .ok []
  | d :: ds => match asg d with
    | none => .no
    | some ps => (gt (setsD r ps)).quiet.bind fun c => if c then (ge (setsD r ps)).quiet.bind fun z => (compD asg gt ge r ds).bind fun zs => .ok (z :: zs) else compD asg gt ge r ds
def lcE (gl : Rho → Res (List D)) (asg : Asg) (gt : Rho → Res Bool) (ge : Rho → Res D) (own : List Nat) (r : Rho) : Res D :=
  (gl r).bind fun ds => if ds.length < 16777216 then (compD asg gt ge (wipeR r own) ds).bind fun zs => .ok (.list zs) else .no
section
variable {X : Cx} {W : PWs} {gl : Rho → Res (List D)} {asg : Asg} {gt : Rho → Res Bool} {ge : Rho → Res D} {own : List Nat}
theorem tLc_of (hN : ∀ d ps, asg d = some ps → ∀ p ∈ ps, p.1 ∈ own) {st : Sg} {H : Hp} {Q : VK} {R : RR} (hR : ∀ {M H v d}, Rp X.K M H v d → R X.K M H v d) (hl : tE X.K R W (lcE gl asg gt ge own) st H Q) :
    tLc (tI X.K W gl) (tG X.K asg) (tT X.K W0 gt) (tE X.K Rp W0 ge) own st H Q := by
  obtain ⟨r, M, en, q⟩ := hl
  refine ⟨r, M, en, ?_⟩
  unfold lcE at q
  cases hgl : gl r with
  | ex c => rw [hgl] at q; exact q
  | no => rw [hgl] at q; exact q
  | ok ds =>
    rw [hgl] at q
    simp only [bind_ok] at q
    by_cases hsz : ds.length < 16777216
    · rw [if_pos hsz] at q
      intro J H1 s1 serve D0 hD
      have en1 := en.same s1
      have fr : ¬ M D0 := en1.fresh hD
      have sv := serve M H1 (fun _ z => z) (fun _ _ _ e => e)
      have q1 := q.ext s1
      clear q
      refine ⟨fun i m H => m = ds.length - i ∧ i ≤ ds.length ∧ ∃ acc vs, acc.length ≤ i ∧ H D0 = some (.lst vs) ∧ RpL X.K (fun l => M l ∨ l = D0) H vs acc ∧ Same H1 H ∧
        Dem X.K R W M st H1 ((compD asg gt ge (wipeR r own) (ds.drop i)).bind fun zs => .ok (.list (acc ++ zs))) Q, ⟨_, rfl, Nat.zero_le _, [], [], Nat.le_refl _, upd_same, .nil, same_upd hD, by rw [List.drop_zero]; exact q1⟩, ?_⟩
      rintro i m H2 ⟨rfl, hi, acc, vs, hacc, hH2, rl, s2, q2⟩
      obtain ⟨sgo, sstop⟩ := sv i (fun l => M l ∨ l = D0) H2 s2 (fun l z => z.elim .inl fun e => .inr (e ▸ hD)) (fun l z => z.elim (fun z => by
        obtain ⟨o, e⟩ := en1.live l z
        exact ⟨o, s2 _ _ e⟩) fun e => ⟨_, e ▸ hH2⟩)
      by_cases hlt : i < ds.length
      · have hd : ds[i]? = some ds[i] := List.getElem?_eq_getElem hlt
        obtain ⟨go, yl⟩ := sgo _ hd
        rw [List.drop_eq_getElem_cons hlt] at q2
        unfold compD at q2
        refine .inr ⟨go, fun H => ∃ acc vs, acc.length ≤ i + 1 ∧ H D0 = some (.lst vs) ∧ RpL X.K (fun l => M l ∨ l = D0) H vs acc ∧ Same H1 H ∧
          Dem X.K R W M st H1 ((compD asg gt ge (wipeR r own) (ds.drop (i + 1))).bind fun zs => .ok (.list (acc ++ zs))) Q, fun H3 z => ⟨ds.length - (i + 1), by omega, rfl, hlt, z⟩, fun x H3 y => ?_⟩
        obtain ⟨s3, rx⟩ := yl x H3 y
        cases ea : asg ds[i] with
        | none => rw [ea] at q2; exact q2.elim
        | some ps =>
          rw [ea] at q2
          simp only at q2
          refine ⟨_, _, ps, rx, ea, fun ws l => ⟨wipe_sets fun i hi => by
            obtain ⟨p, hp, e⟩ := List.mem_map.mp hi
            exact e ▸ hN _ _ ea p hp, ?_⟩⟩
          have en3 : En X.K (fun l => M l ∨ l = D0) H3 st r := by
            have e2 : En X.K M H3 st r := (en1.same s2).same s3
            refine ⟨fun l z => z.elim (fun z => e2.live l z) fun e => ⟨_, e ▸ s3 _ _ hH2⟩, fun j z e => ?_, en.len⟩
            have z1 := en1.slot j z e
            have gr : ∀ a, ¬ M a → (∃ o, H1 a = some o) → ¬ (M a ∨ a = D0) := fun a n ⟨o, e⟩ z => z.elim n fun q => by rw [q, hD] at e; cases e
            cases z with
            | no => exact trivial
            | exc a => exact z1
            | val d =>
              obtain ⟨v, e1, rv⟩ := z1
              exact ⟨v, e1, Rp.to gr (fun a o _ e => s3 _ _ (s2 _ _ e)) d v rv⟩
            | own xs =>
              obtain ⟨l, us, e1, m, hh, rv⟩ := z1
              exact ⟨l, us, e1, .inl m, s3 _ _ (s2 _ _ hh), RpL.to gr (fun a o _ e => s3 _ _ (s2 _ _ e)) xs us rv⟩
          have en4 := En.sets ps ws _ _ (en3.wipe own) l
          refine ⟨_, _, en4, ?_⟩
          cases hgt : gt (setsD (wipeR r own) ps) with
          | ex c => rw [hgt] at q2; exact q2.elim
          | no => rw [hgt] at q2; exact q2.elim
          | ok c =>
            rw [hgt] at q2
            intro H4 s4
            cases c with
            | false =>
              exact ⟨acc, vs, by omega, s4 _ _ (s3 _ _ hH2), (rl.same s3).same s4, (s2.trans s3).trans s4, q2⟩
            | true =>
              simp only [quiet_ok, bind_ok, if_true] at q2
              refine ⟨_, _, en4.same s4, ?_⟩
              cases hge : ge (setsD (wipeR r own) ps) with
              | ex c => rw [hge] at q2; exact q2.elim
              | no => rw [hge] at q2; exact q2.elim
              | ok z =>
                rw [hge] at q2
                intro v H5 s5 rv
                have h5 := s5 _ _ (s4 _ _ (s3 _ _ hH2))
                have kp : ∀ {a : Addr} {o : HO}, ¬ (M a ∨ a = D0) → H5 a = some o → upd H5 D0 (.lst (vs ++ [v])) a = some o := fun {a o} n e => by
                  rw [upd_ne (fun z => n (.inr z))]
                  exact e
                refine ⟨vs, h5, by rw [rl.length, sizeLine_eq]; omega, acc ++ [z], vs ++ [v], by rw [List.length_append]; simp; omega, upd_same, ?_, ?_, ?_⟩
                · exact RpL.to (fun _ n _ => n) (fun a o n e => kp n e) _ _ ((((rl.same s3).same s4).same s5).app (.one rv))
                · intro b o e
                  have ne : b ≠ D0 := fun z => by rw [z, hD] at e; cases e
                  rw [upd_ne ne]
                  exact s5 _ _ (s4 _ _ (s3 _ _ (s2 _ _ e)))
                · revert q2
                  simp only [quiet_ok, bind_ok]
                  cases compD asg gt ge (wipeR r own) (ds.drop (i + 1)) with
                  | ok zs => simp only [bind_ok, List.append_assoc, List.singleton_append]; exact fun q2 => q2
                  | ex c => exact fun q2 => q2
                  | no => exact fun q2 => q2
      · have e : i = ds.length := by omega
        subst e
        rw [List.drop_length] at q2
        simp only [compD, bind_ok, List.append_nil] at q2
        exact .inl ⟨sstop (Nat.le_refl _), q2 _ _ s2 (hR (.lst fr (.inl hH2) (rl.anti fun l z => .inl z)))⟩
    · rw [if_neg hsz] at q
      exact q.elim
end
end PD

namespace PD
open PySem PySem.Spec PyProof.Rows L2
variable {K : PySem.W.Frag}
structure DTs (X : Cx) (W : PWs) (ifs : List Expr) (g : Rho → Res Bool) : Prop where
  run : PTs X ifs (tT X.K W g)
section
variable {X : Cx} {W : PWs} {e a b c elt tg iter : Expr} {es ifs : List Expr} {g ga gb ge : Rho → Res D} {gl : Rho → Res (List D)} {gt : Rho → Res Bool} {pos p : Pos} {asg : Asg}
theorem dts_nil : DTs X W [] (fun _ => .ok true) := ⟨⟨fun pins s st H Q I ⟨r, M, en, q⟩ => pts_nil.run pins s st H Q I (q H (Same.refl _))⟩⟩
theorem dts_one (h : DT X W c gt) : DTs X W [c] gt := ⟨pts_one h.run⟩
def inOwn (asg : Asg) (own : List Nat) : Prop := ∀ d ps, asg d = some ps → ∀ p ∈ ps, p.1 ∈ own
theorem inOwn_name {i : Nat} {own : List Nat} (h : i ∈ own) : inOwn (aName i) own := fun d ps e p hp => by
  cases e
  rw [List.mem_singleton] at hp
  subst hp
  exact h
theorem inOwn_tup {is own : List Nat} (h : ∀ i ∈ is, i ∈ own) : inOwn (aTup is) own := fun d ps e p hp => by
  unfold aTup at e
  cases d with
  | tuple ds =>
    simp only at e
    by_cases hl : ds.length = is.length
    · rw [if_pos hl] at e
      cases e
      obtain ⟨i, d⟩ := p
      exact h _ (List.of_mem_zip hp).1
    · rw [if_neg hl] at e
      cases e
  | none => cases e
  | bool => cases e
  | int => cases e
  | str => cases e
  | list => cases e
  | dict => cases e
theorem de_lc {scope : Scope} {own : List (Str × Nat)} (hc : X.calm = true) (hN : X.N.Nodup) (hi : DI X W tg iter gl) (ok : BlkOk X.N X.env.scope scope own) (ho : inOwn asg (own.map (·.2)))
    (hg : ∀ (s : Shared) (H : Hp) (C : Addr) (cl : List (Str × Addr)) (fp : List Addr), DG (X.blk s H scope (compEnvC scope cl C X.env) fp) tg asg) (ht : ∀ (s : Shared) (H : Hp) (C : Addr) (cl : List (Str × Addr)) (fp : List Addr), DTs (X.blk s H scope (compEnvC scope cl C X.env) fp) W0 ifs gt)
    (he : ∀ (s : Shared) (H : Hp) (C : Addr) (cl : List (Str × Addr)) (fp : List Addr), DE (X.blk s H scope (compEnvC scope cl C X.env) fp) W0 elt ge) (hs : ∀ x, foldedSetIterable iter X.env x = pure x := by intro _; rfl) :
    DE X W (.ListComp elt [⟨tg, iter, ifs, 0⟩] scope pos) (lcE gl asg gt ge (own.map (·.2))) :=
  ⟨(pe_lc hc hN hi.run ok (fun s H C cl fp => (hg s H C cl fp).run) (fun s H C cl fp => (ht s H C cl fp).run) (fun s H C cl fp => (he s H C cl fp).run) hs).imp fun st H Q q => tLc_of ho (R := Rp) (fun h => h) q⟩
theorem ds_setLc {i : Nat} {y : Str} {py spos : Pos} {scope : Scope} {own : List (Str × Nat)} (hc : X.calm = true) (hN : X.N.Nodup) (hy : X.N[i]? = some y) (hyl : X.env.scope.names.lookup y = some .local)
    (hsw : swapsWith (.ListComp elt [⟨tg, iter, ifs, 0⟩] scope pos) (some (.Name y py)) spos.line X.env = pure true) (hi : DI X W tg iter gl) (ok : BlkOk X.N X.env.scope scope own) (ho : inOwn asg (own.map (·.2)))
    (hg : ∀ (s : Shared) (H : Hp) (C : Addr) (cl : List (Str × Addr)) (fp : List Addr), DG (X.blk s H scope (compEnvC scope cl C X.env) fp) tg asg) (ht : ∀ (s : Shared) (H : Hp) (C : Addr) (cl : List (Str × Addr)) (fp : List Addr), DTs (X.blk s H scope (compEnvC scope cl C X.env) fp) W0 ifs gt)
    (he : ∀ (s : Shared) (H : Hp) (C : Addr) (cl : List (Str × Addr)) (fp : List Addr), DE (X.blk s H scope (compEnvC scope cl C X.env) fp) W0 elt ge) (hs : ∀ x, foldedSetIterable iter X.env x = pure x := by intro _; rfl) :
    DS X W (.Assign [.Name y py] (.ListComp elt [⟨tg, iter, ifs, 0⟩] scope pos) spos) (setE i (lcE gl asg gt ge (own.map (·.2)))) :=
  ⟨fun M0 H0 => (ps_setLc hc hN hy hyl hsw hi.run ok (fun s H C cl fp => (hg s H C cl fp).run) (fun s H C cl fp => (ht s H C cl fp).run) (fun s H C cl fp => (he s H C cl fp).run) hs).imp fun E st H ⟨r, M, t, q⟩ =>
    tLc_of ho (R := Rp) (fun h => h) (vthen_ok t q fun d v H1 s1 t1 rv q1 => q1 M _ H1 (t1.set rv))⟩

/-! ### calls of what is built in -/
def OpC1 (K : PySem.W.Frag) (W : PWs) (r : List V → Hp → VK → Prop) (f : D → Res D) : Prop :=
  ∀ (M : MS) (st : Sg) (rh : Rho) (H : Hp) (x : V) (d : D) (Q : VK), En K M H st rh → Rw K M H x d → Dem K Rp W M st H (f d) Q → r [x] H Q
def OpC2 (K : PySem.W.Frag) (W : PWs) (r : List V → Hp → VK → Prop) (f : D → D → Res D) : Prop :=
  ∀ (M : MS) (st : Sg) (rh : Rho) (H : Hp) (x y : V) (d e : D) (Q : VK), En K M H st rh → Rw K M H x d → Rw K M H y e → Dem K Rp W M st H (f d e) Q → r [x, y] H Q
theorem tCB1 {r : List V → Hp → VK → Prop} {f : D → Res D} (o : OpC1 K W r f) {st : Sg} {H : Hp} {Q : VK} (h : tE K Rp W (then1 ga f) st H Q) : tCB r (tCons (tE K Rw W ga) tNil) st H Q := by
  obtain ⟨rh, M, en, q⟩ := h
  exact ⟨rh, M, en, Dem.then en q fun d v H1 _ s1 en1 r1 q1 => o M st rh H1 v d Q en1 r1 q1⟩
theorem tCB2 {r : List V → Hp → VK → Prop} {f : D → D → Res D} (o : OpC2 K W r f) {st : Sg} {H : Hp} {Q : VK} (h : tE K Rp W (bin2 f ga gb) st H Q) : tCB r (tCons (tE K Rw W ga) (tCons (tE K Rw W gb) tNil)) st H Q := by
  obtain ⟨rh, M, en, q⟩ := h
  exact ⟨rh, M, en, Dem.then (R := Rp) (Ra := Rw) en q fun d v H1 _ s1 en1 r1 q1 => ⟨rh, M, en1, Dem.then (R := Rp) (Ra := Rw) en1 q1 fun d2 v2 H2 _ s2 en2 r2 q2 => o M st rh H2 v v2 d d2 Q en2 (r1.same s2) r2 q2⟩⟩
theorem de_b1 {x : Str} {id : String} {r : List V → Hp → VK → Prop} {f : D → Res D} (hc : CallR X (.builtin id) r) (o : OpC1 X.K W r f) (hm : X.mg x = none) (hv : bootBuiltins x = some (.builtin id)) (ha : DW X W a ga) (hg : Gl X x := by rfl) (hn : x ≠ "__name__" := by decide) (hdb : (x == ("__debug__" : Str)) = false := by decide)
    (he : starEach (a :: []) X.env = (false, eval a X.env) :: starEach [] X.env := by rfl) (hpl : (backTo pos (starEach [] X.env)).any (·.1) = false := by rfl) : DE X W (.Call (.Name x p) [a] [] pos) (then1 ga f) :=
  ⟨(pe_callB hc hg hm hv (pa_cons ha.run pa_nil he) hn hdb he hpl).imp fun st H Q q => tCB1 o q⟩
theorem de_t1 {x : Str} {T : String} {r : List V → Hp → VK → Prop} {f : D → Res D} (hc : CallR X (.type T) r) (o : OpC1 X.K W r f) (hm : X.mg x = none) (hv : bootBuiltins x = some (.type T)) (ha : DW X W a ga) (hg : Gl X x := by rfl) (hn : x ≠ "__name__" := by decide) (hdb : (x == ("__debug__" : Str)) = false := by decide)
    (he : starEach (a :: []) X.env = (false, eval a X.env) :: starEach [] X.env := by rfl) (hpl : (backTo pos (starEach [] X.env)).any (·.1) = false := by rfl) : DE X W (.Call (.Name x p) [a] [] pos) (then1 ga f) :=
  ⟨(pe_callTy hc hg hm hv (pa_cons ha.run pa_nil he) hn hdb he hpl).imp fun st H Q q => tCB1 o q⟩
theorem de_b2 {x : Str} {id : String} {r : List V → Hp → VK → Prop} {f : D → D → Res D} (hc : CallR X (.builtin id) r) (o : OpC2 X.K W r f) (hm : X.mg x = none) (hv : bootBuiltins x = some (.builtin id)) (ha : DW X W a ga) (hb : DW X W b gb) (hg : Gl X x := by rfl) (hn : x ≠ "__name__" := by decide) (hdb : (x == ("__debug__" : Str)) = false := by decide)
    (he : starEach (a :: [b]) X.env = (false, eval a X.env) :: starEach [b] X.env := by rfl) (he2 : starEach (b :: []) X.env = (false, eval b X.env) :: starEach [] X.env := by rfl) (hpl : (backTo pos (starEach [b] X.env)).any (·.1) = false := by rfl) : DE X W (.Call (.Name x p) [a, b] [] pos) (bin2 f ga gb) :=
  ⟨(pe_callB hc hg hm hv (pa_cons ha.run (pa_cons hb.run pa_nil he2) he) hn hdb he hpl).imp fun st H Q q => tCB2 o q⟩
def bLen : D → Res D
  | .list ds => .ok (.int ds.length)
  | .tuple ds => .ok (.int ds.length)
  | _ => .no
theorem opc_len : OpC1 K W (fun xs H Q => ∃ p ys, xs = [.ref p] ∧ (SqL K H p ys ∨ SqT K H p ys) ∧ Q (.int ys.length) H) bLen := by
  intro M st rh H x d Q en rx q
  cases d with
  | list ds =>
    obtain ⟨a, xs, rfl, rr, l⟩ := rx.lst_
    exact ⟨a, xs, rfl, .inl rr, q _ H (Same.refl _) (by rw [l.length]; exact .int _)⟩
  | tuple ds =>
    obtain ⟨a, xs, rfl, rr, l, _⟩ := rx.tup_
    exact ⟨a, xs, rfl, .inr (.inl rr), q _ H (Same.refl _) (by rw [l.length]; exact .int _)⟩
  | none => exact q.elim
  | bool => exact q.elim
  | int => exact q.elim
  | str => exact q.elim
  | dict => exact q.elim
theorem de_len (hm : X.mg "len" = none) (ha : DW X W a ga) (hg : Gl X "len" := by rfl)
    (he : starEach (a :: []) X.env = (false, eval a X.env) :: starEach [] X.env := by rfl) (hpl : (backTo pos (starEach [] X.env)).any (·.1) = false := by rfl) : DE X W (.Call (.Name "len" p) [a] [] pos) (then1 ga bLen) :=
  de_b1 call_len_seq opc_len hm PySem.boot_len ha hg (by decide) (by decide) he hpl
def bList : D → Res D
  | .list ds => .ok (.list ds)
  | .tuple ds => .ok (.list ds)
  | _ => .no
theorem opc_list : OpC1 K W (fun xs H Q => ∃ p ys, xs = [.ref p] ∧ (SqL K H p ys ∨ SqT K H p ys) ∧ ∀ l, H l = none → Q (.ref l) (upd H l (.lst ys))) bList := by
  intro M st rh H x d Q en rx q
  cases d with
  | list ds =>
    obtain ⟨a, xs, rfl, rr, l⟩ := rx.lst_
    exact ⟨a, xs, rfl, .inl rr, fun p hp => q _ _ (same_upd hp) (.lst (en.fresh hp) (.inl upd_same) (l.same (same_upd hp)))⟩
  | tuple ds =>
    obtain ⟨a, xs, rfl, rr, l, _⟩ := rx.tup_
    exact ⟨a, xs, rfl, .inr (.inl rr), fun p hp => q _ _ (same_upd hp) (.lst (en.fresh hp) (.inl upd_same) (l.same (same_upd hp)))⟩
  | none => exact q.elim
  | bool => exact q.elim
  | int => exact q.elim
  | str => exact q.elim
  | dict => exact q.elim
theorem de_list (hm : X.mg "list" = none) (ha : DW X W a ga) (hg : Gl X "list" := by rfl)
    (he : starEach (a :: []) X.env = (false, eval a X.env) :: starEach [] X.env := by rfl) (hpl : (backTo pos (starEach [] X.env)).any (·.1) = false := by rfl) : DE X W (.Call (.Name "list" p) [a] [] pos) (then1 ga bList) :=
  de_t1 call_list_of opc_list hm PyProof.Rows.boot_list ha hg (by decide) (by decide) he hpl
def bTuple : D → Res D
  | .list ds => .ok (.tuple ds)
  | .tuple ds => .ok (.tuple ds)
  | _ => .no
theorem opc_tuple : OpC1 K W (fun xs H Q => ∃ p ys, xs = [.ref p] ∧ ((SqL K H p ys ∧ ∀ l, H l = none → Q (.ref l) (upd H l (.tup ys))) ∨ (SqT K H p ys ∧ Q (.ref p) H))) bTuple := by
  intro M st rh H x d Q en rx q
  cases d with
  | list ds =>
    obtain ⟨a, xs, rfl, rr, l⟩ := rx.lst_
    exact ⟨a, xs, rfl, .inl ⟨rr, fun p hp => q _ _ (same_upd hp) (.tup (en.fresh hp) (.inl upd_same) (l.same (same_upd hp)))⟩⟩
  | tuple ds =>
    obtain ⟨a, xs, rfl, rr, l, n⟩ := rx.tup_
    exact ⟨a, xs, rfl, .inr ⟨.inl rr, q _ _ (Same.refl _) (.tup n rr l)⟩⟩
  | none => exact q.elim
  | bool => exact q.elim
  | int => exact q.elim
  | str => exact q.elim
  | dict => exact q.elim
theorem de_tuple (hm : X.mg "tuple" = none) (ha : DW X W a ga) (hg : Gl X "tuple" := by rfl)
    (he : starEach (a :: []) X.env = (false, eval a X.env) :: starEach [] X.env := by rfl) (hpl : (backTo pos (starEach [] X.env)).any (·.1) = false := by rfl) : DE X W (.Call (.Name "tuple" p) [a] [] pos) (then1 ga bTuple) :=
  de_t1 call_tuple_of opc_tuple hm PyProof.Rows.boot_tuple ha hg (by decide) (by decide) he hpl
def bInt : D → Res D
  | .int i => .ok (.int i)
  | .bool b => .ok (.int (if b then 1 else 0))
  | _ => .no
theorem opc_int : OpC1 K W (fun xs H Q => (∃ i, xs = [.int i] ∧ Q (.int i) H) ∨ ∃ k, xs = [.bl k] ∧ Q (.int (if k then 1 else 0)) H) bInt := by
  intro M st rh H x d Q en rx q
  cases d <;> first
    | exact q.elim
    | exact .inl ⟨_, by rw [rx.int_], q _ H (Same.refl _) (.int _)⟩
    | exact .inr ⟨_, by rw [rx.bool_], q _ H (Same.refl _) (.int _)⟩
theorem de_int1 (hm : X.mg "int" = none) (ha : DW X W a ga) (hg : Gl X "int" := by rfl)
    (he : starEach (a :: []) X.env = (false, eval a X.env) :: starEach [] X.env := by rfl) (hpl : (backTo pos (starEach [] X.env)).any (·.1) = false := by rfl) : DE X W (.Call (.Name "int" p) [a] [] pos) (then1 ga bInt) :=
  de_t1 call_int1 opc_int hm PyProof.Rows.boot_int ha hg (by decide) (by decide) he hpl
def bMin : D → D → Res D
  | .int i, .int j => .ok (.int (if j < i then j else i))
  | _, _ => .no
def bMax : D → D → Res D
  | .int i, .int j => .ok (.int (if j > i then j else i))
  | _, _ => .no
theorem opc_min : OpC2 K W (fun xs H Q => ∃ i j, xs = [.int i, .int j] ∧ Q (.int (if j < i then j else i)) H) bMin := by
  intro M st rh H x y d e Q en rx ry q
  cases d <;> cases e <;> first
    | exact q.elim
    | exact ⟨_, _, by rw [rx.int_, ry.int_], q _ H (Same.refl _) (.int _)⟩
theorem opc_max : OpC2 K W (fun xs H Q => ∃ i j, xs = [.int i, .int j] ∧ Q (.int (if j > i then j else i)) H) bMax := by
  intro M st rh H x y d e Q en rx ry q
  cases d <;> cases e <;> first
    | exact q.elim
    | exact ⟨_, _, by rw [rx.int_, ry.int_], q _ H (Same.refl _) (.int _)⟩
theorem de_min (hc : X.calm = true) (hm : X.mg "min" = none) (ha : DW X W a ga) (hb : DW X W b gb) (hg : Gl X "min" := by rfl)
    (he : starEach (a :: [b]) X.env = (false, eval a X.env) :: starEach [b] X.env := by rfl) (he2 : starEach (b :: []) X.env = (false, eval b X.env) :: starEach [] X.env := by rfl) (hpl : (backTo pos (starEach [b] X.env)).any (·.1) = false := by rfl) : DE X W (.Call (.Name "min" p) [a, b] [] pos) (bin2 bMin ga gb) :=
  de_b2 (call_min2 hc) opc_min hm PyProof.Rows.boot_min ha hb hg (by decide) (by decide) he he2 hpl
theorem de_max (hc : X.calm = true) (hm : X.mg "max" = none) (ha : DW X W a ga) (hb : DW X W b gb) (hg : Gl X "max" := by rfl)
    (he : starEach (a :: [b]) X.env = (false, eval a X.env) :: starEach [b] X.env := by rfl) (he2 : starEach (b :: []) X.env = (false, eval b X.env) :: starEach [] X.env := by rfl) (hpl : (backTo pos (starEach [b] X.env)).any (·.1) = false := by rfl) : DE X W (.Call (.Name "max" p) [a, b] [] pos) (bin2 bMax ga gb) :=
  de_b2 (call_max2 hc) opc_max hm PyProof.Rows.boot_max ha hb hg (by decide) (by decide) he he2 hpl
/-! sum of ints -/
def intsOf : List D → Option (List Int)
  | [] => some []
  | .int i :: ds => (intsOf ds).map fun is => i :: is
  | _ :: _ => none
theorem intsOf_ok {M : MS} {H : Hp} : ∀ {ds : List D} {vs : List V} {ns : List Int}, RpL K M H vs ds → intsOf ds = some ns → vs = ns.map V.int
  | [], _, _, h, e => by cases h; cases e; rfl
  | d :: ds, _, _, h, e => by
    cases h with
    | cons a t =>
      cases d <;> first
        | (cases e; done)
        | (rename_i i
           unfold intsOf at e
           cases ei : intsOf ds with
           | none => rw [ei] at e; cases e
           | some is =>
             rw [ei] at e
             cases e
             rw [a.weak.int_, intsOf_ok t ei]
             rfl)
def bSum : D → Res D
  | .list ds => match intsOf ds with
    | some ns => .ok (.int ns.sum)
    | none => .no
  | _ => .no
theorem opc_sum : OpC1 K W (rSum K) bSum := by
  intro M st rh H x d Q en rx q
  cases d with
  | list ds =>
    obtain ⟨a, xs, rfl, rr, l⟩ := rx.lst_
    unfold bSum at q
    simp only at q
    cases ei : intsOf ds with
    | none => rw [ei] at q; exact q.elim
    | some ns =>
      rw [ei] at q
      have z := intsOf_ok l ei
      subst z
      exact ⟨a, ns, rfl, rr, q _ H (Same.refl _) (.int _)⟩
  | tuple ds => exact q.elim
  | none => exact q.elim
  | bool => exact q.elim
  | int => exact q.elim
  | str => exact q.elim
  | dict => exact q.elim
theorem de_sum (hc : X.calm = true) (hm : X.mg "sum" = none) (ha : DW X W a ga) (hg : Gl X "sum" := by rfl)
    (he : starEach (a :: []) X.env = (false, eval a X.env) :: starEach [] X.env := by rfl) (hpl : (backTo pos (starEach [] X.env)).any (·.1) = false := by rfl) : DE X W (.Call (.Name "sum" p) [a] [] pos) (then1 ga bSum) :=
  de_b1 (cr_sum hc) opc_sum hm PyProof.Rows.boot_sum ha hg (by decide) (by decide) he hpl
/-! isinstance(x, T), T a built-in type -/
def tyD : D → String
  | .none => "NoneType"
  | .bool _ => "bool"
  | .int _ => "int"
  | .str _ => "str"
  | .list _ => "list"
  | .tuple _ => "tuple"
  | .dict _ => "dict"
theorem tyD_ok {M : MS} {H : Hp} {v : V} {d : D} (h : Rw K M H v d) : TyX K H v (.type (tyD d)) := by
  cases d with
  | none => rw [h.none_]; exact .base .non
  | bool b => rw [h.bool_]; exact .base (.bl _)
  | int i => rw [h.int_]; exact .base (.int _)
  | str x => rw [h.str_]; exact .base (.str _)
  | list ds =>
    obtain ⟨a, xs, rfl, r, _⟩ := h.lst_
    rcases r with (r | ⟨o, r⟩) | ⟨o, its, n, hk, hc, _⟩
    · exact .base (.lst r)
    · exact .base (.frz r)
    · exact .kList hk hc
  | tuple ds =>
    obtain ⟨a, xs, rfl, r, _⟩ := h.tup_
    rcases r with r | ⟨o, r⟩
    · exact .base (.tup r)
    · exact .fTuple r
  | dict ds => cases (show Rp K M H v (.dict ds) from h)
/-- the answers for the type T -/
structure IsiT (T : String) (f : String → Bool) : Prop where
  h : ∀ t ∈ ["NoneType", "bool", "int", "str", "list", "tuple"], kitB t T = some (f t)
theorem isi_int : IsiT "int" (fun t => t == "int" || t == "bool") := ⟨by decide +kernel⟩
theorem isi_bool : IsiT "bool" (fun t => t == "bool") := ⟨by decide +kernel⟩
theorem isi_tuple : IsiT "tuple" (fun t => t == "tuple") := ⟨by decide +kernel⟩
theorem isi_list : IsiT "list" (fun t => t == "list") := ⟨by decide +kernel⟩
theorem isi_str : IsiT "str" (fun t => t == "str") := ⟨by decide +kernel⟩
theorem tyD_mem {M : MS} {H : Hp} {v : V} {d : D} (h : Rw K M H v d) : tyD d ∈ ["NoneType", "bool", "int", "str", "list", "tuple"] := by
  cases d with
  | dict ds => cases (show Rp K M H v (.dict ds) from h)
  | _ => simp [tyD]
def isiE (f : String → Bool) (ga : Rho → Res D) : Rho → Res D := then1 ga fun d => .ok (.bool (f (tyD d)))
theorem de_isi {T : String} {f : String → Bool} {x : Str} {px : Pos} (t : IsiT T f) (hm : X.mg "isinstance" = none) (hmT : X.mg x = none) (hvT : bootBuiltins x = some (.type T)) (ha : DW X W a ga) (hg : Gl X "isinstance" := by rfl) (hgT : Gl X x := by rfl) (hn : x ≠ "__name__" := by decide) (hdb : (x == ("__debug__" : Str)) = false := by decide)
    (he : starEach (a :: [.Name x px]) X.env = (false, eval a X.env) :: starEach [.Name x px] X.env := by rfl) (he2 : starEach (.Name x px :: []) X.env = (false, eval (.Name x px) X.env) :: starEach [] X.env := by rfl) (hpl : (backTo pos (starEach [.Name x px] X.env)).any (·.1) = false := by rfl) :
    DE X W (.Call (.Name "isinstance" p) [a, .Name x px] [] pos) (isiE f ga) :=
  ⟨(pe_callB call_isi hg hm PyProof.Rows.boot_isinstance (pa_cons ha.run (pa_cons (pe_bltn (v := .ty T) hgT hmT hvT rfl hn hdb) pa_nil he2) he) (by decide) (by decide) he hpl).imp fun st H Q ⟨rh, M, en, q⟩ =>
    ⟨rh, M, en, Dem.then en q fun d v H1 _ s1 en1 r1 q1 => ⟨v, .ty T, _, _, _, rfl, .ty T, tyD_ok r1, kit_ty (t.h _ (tyD_mem r1)), q1 _ H1 (Same.refl _) (.bl _)⟩⟩⟩

/-! ### defs and their calls -/
def outR : Out → Res D
  | .rt d => .ok d
  | .nx _ => .ok .none
  | .ex c _ => .ex c
  | _ => .no
/-- the wish, of the classes' numbers; cs: where the classes stand -/
def lft (cs : Nat → Addr) (W : PWs) : L2.WX := fun cls d st H => ∃ c, cls = .ref (cs c) ∧ d = none ∧ W c st H
theorem takes00 {cs : Nat → Addr} : Takes X (lft cs W0) := takes0.imp fun _ _ _ _ ⟨_, _, _, z⟩ => z
def spD (cs : Nat → Addr) (K : PySem.W.Frag) (n : Nat) (f : List D → Out) : Sp := fun vs H Q E => vs.length = n ∧ ∃ (M0 : MS) (ds : List D), (∀ l, M0 l → ∃ o, H l = some o) ∧ RpL K M0 H vs ds ∧
  match outR (f ds) with
  | .ok d => ∀ v H', Same H H' → Rp K M0 H' v d → Q v H'
  | .ex c => ∀ H', Same H H' → E (.ref (cs c)) none H'
  | .no => False
def fnD (fb : Rho → Out) (n : Nat) (ds : List D) : Out := fb (ds.map Sl.val ++ List.replicate (n - ds.length) Sl.no)
def callE (gl : Rho → Res (List D)) (fc : List D → Out) (r : Rho) : Res D := (gl r).bind fun ds => outR (fc ds)
theorem de_call {k n : Nat} {f : Addr} {fd : FuncData} {ps : List Str} {fc : List D → Out} {x : Str} {cs : Nat → Addr} (tk : Takes X (lft cs W)) (F : FnOk X.prog X.w X.K X.mg X.base (L2.CX X.prog X.w) k f fd ps (spD cs X.K n fc)) (hr : Room k X.A) (hm : X.mg x = some (.ref f)) (hk : PySem.W.keepIn X.K (.ref f) = true) (hb : Binds X.K fd ps [])
    (ha : DL X W (e :: es) gl) (hn : n = es.length + 1 := by rfl) (hg : Gl X x := by rfl) (hdb : (x == ("__debug__" : Str)) = false := by decide) (he : starEach (e :: es) X.env = (false, eval e X.env) :: starEach es X.env := by rfl) (hpl : (backTo pos (starEach es X.env)).any (·.1) = false := by rfl) :
    DE X W (.Call (.Name x p) (e :: es) [] pos) (callE gl fc) :=
  ⟨(pe_callS F hr hg hm hk hb (fun st => passAt tk st) ha.run hdb he hpl).imp fun st H Q ⟨r, M, en, q⟩ => by
    refine ⟨r, M, en, DemA.then en q fun ds vs H1 hgl s1 en1 r1 q1 => ⟨by rw [r1.length, ha.len r ds hgl, hn]; rfl, M, ds, en1.live, r1, ?_⟩⟩
    revert q1
    cases outR (fc ds) with
    | ok d => exact fun q1 => q1
    | ex c => exact fun q1 H' s' => ⟨c, rfl, rfl, q1 H' s'⟩
    | no => exact fun q1 => q1⟩
abbrev WD (cs : Nat → Addr) (E : XK) : PWs := fun c _ H => E (.ref (cs c)) none H
abbrev CxD (P : Program) (w : World) (K : PySem.W.Frag) (mg : Str → Option Value) (base : Heap) (N : List Str) (qual : Str) (st : Stmt) (f : Addr) (cdv : Value) (A : Around) (outer : List Env) (s : Shared) (H : Hp) (E : XK) : Cx :=
  cxOf (L2.CX P w) P w K mg base N qual (defScope st) f cdv A outer s H E
end
section
variable {P : Program} {w : World} {K : PySem.W.Frag} {mg : Str → Option Value} {base : Heap} {N : List Str} {qual : Str} {st : Stmt} {f : Addr} {cdv : Value} {A : Around} {outer : List Env} {s : Shared} {H : Hp} {E : XK}
theorem tk_of {cs : Nat → Addr} : Takes (CxD P w K mg base N qual st f cdv A outer s H E) (lft cs (WD cs E)) := (takes_of (X := CxD P w K mg base N qual st f cdv A outer s H E) rfl rfl rfl rfl).imp fun cls d st H ⟨c, e1, e2, z⟩ => by
  subst e1 e2
  exact z
theorem po_of : PassesOwn (model P w) (CxD P w K mg base N qual st f cdv A outer s H E).A (CxD P w K mg base N qual st f cdv A outer s H E).env (CxD P w K mg base N qual st f cdv A outer s H E).xe :=
  passes_of (X := CxD P w K mg base N qual st f cdv A outer s H E) rfl
theorem start_rep {M : MS} {H : Hp} {vs : List V} {ds : List D} {N : List Str} (live : ∀ l, M l → ∃ o, H l = some o) (l : RpL K M H vs ds) : En K M H (L2.start N vs) (ds.map Sl.val ++ List.replicate (N.length - ds.length) Sl.no) := by
  have hl := l.length
  refine ⟨live, fun i z e => ?_, by unfold L2.start; simp [hl]⟩
  by_cases hi : i < ds.length
  · rw [List.getElem?_append_left (by rw [List.length_map]; exact hi), List.getElem?_map] at e
    cases e2 : ds[i]? with
    | none => rw [e2] at e; cases e
    | some d =>
      rw [e2] at e
      cases e
      obtain ⟨v, h1, h2⟩ := l.get e2
      refine ⟨v, ?_, h2⟩
      unfold L2.start
      rw [List.getElem?_append_left (by rw [List.length_map]; omega), List.getElem?_map, h1]
      rfl
  · rw [List.getElem?_append_right (by rw [List.length_map]; omega)] at e
    obtain ⟨_, e3⟩ := List.getElem?_eq_some_iff.mp e
    rw [List.getElem_replicate] at e3
    subst e3
    exact trivial
theorem own_none {ds : List D} {n i : Nat} {xs : List D} (e : (ds.map Sl.val ++ List.replicate n Sl.no)[i]? = some (.own xs)) : False := by
  by_cases hi : i < ds.length
  · rw [List.getElem?_append_left (by rw [List.length_map]; exact hi), List.getElem?_map] at e
    cases e2 : ds[i]? with
    | none => rw [e2] at e; cases e
    | some d => rw [e2] at e; cases e
  · rw [List.getElem?_append_right (by rw [List.length_map]; omega)] at e
    obtain ⟨_, e3⟩ := List.getElem?_eq_some_iff.mp e
    rw [List.getElem_replicate] at e3
    cases e3
/-- THE RULE for a def -/
theorem def_ok {x : Str} {fd : FuncData} {ps : List Str} {k : Nat} {fb : Rho → Out} {cs : Nat → Addr} (F : Fun K x qual st f fd) (S : FnScope N ps (defScope st))
    (hb : ∀ (cdv : Value) (A : Around) (outer : List Env) (s : Shared) (H : Hp) (E : XK), Room k (CxD P w K mg base N qual st f cdv A outer s H E).A → DSs (CxD P w K mg base N qual st f cdv A outer s H E) (WD cs E) (defBody st) fb) :
    FnOk P w K mg base (L2.CX P w) (k + 1) f fd ps (spD cs K ps.length (fnD fb N.length)) := by
  refine F.okX S (fun vs H Q E h => h.1) (fun cdv A outer s H vs Q E hr h => ⟨_, (hb cdv A outer s H E hr).run (Classical.choose h.2) H, ?_⟩)
  obtain ⟨ds, live, l, q⟩ := Classical.choose_spec h.2
  have en := start_rep (N := N) live l
  refine ⟨_, _, ⟨en, Same.refl _, fun _ z => z, fun _ z => .inl z, en.len, fun i j l xs ys e => (own_none e).elim, fun i l xs e => (own_none e).elim⟩, ?_⟩
  have q' : match outR (fb (ds.map Sl.val ++ List.replicate (N.length - ds.length) Sl.no)) with
    | .ok d => ∀ v H', Same H H' → Rp K (Classical.choose h.2) H' v d → Q v H'
    | .ex c => ∀ H', Same H H' → E (.ref (cs c)) none H'
    | .no => False := q
  revert q'
  cases fb (ds.map Sl.val ++ List.replicate (N.length - ds.length) Sl.no) with
  | nx r => exact fun q M2 st2 H2 t2 => q .non H2 t2.keep .non
  | rt d => exact fun q v H2 s2 rv => q v H2 s2 rv
  | ex c r => exact fun q M2 st2 H2 t2 => q H2 t2.keep
  | bk r => exact fun q => q.elim
  | ct r => exact fun q => q.elim
  | no => exact fun q => q
end
end PD

namespace PD
open PySem PySem.Spec PyProof.Rows L2
variable {K : PySem.W.Frag}
section
variable {X : Cx} {W : PWs} {e a b c : Expr} {es : List Expr} {g ga gb : Rho → Res D} {gl : Rho → Res (List D)} {gt : Rho → Res Bool} {pos p : Pos}
/-- a power that is written out -/
theorem de_pow {i j n : Int} {k1 k2 : Nat} {p1 p2 : Pos} (h0 : 0 ≤ j ∧ j ≤ 1000000 ∧ i.natAbs < 2 ^ 64) (hn : i ^ j.toNat = n) : DE X W (.BinOp (.Constant (.int i) k1 p1) .Pow (.Constant (.int j) k2 p2) pos) (fun _ => .ok (.int n)) :=
  ⟨(pe_op op_pow pe_int pe_int).imp fun st H Q ⟨r, M, en, q⟩ => ⟨i, j, rfl, rfl, h0, q _ H (Same.refl _) (by show Rp _ _ _ (V.int (i ^ j.toNat)) _; rw [hn]; exact .int _)⟩⟩
/-! x op= e -/
def augE (i : Nat) (f : D → D → Res D) (g : Rho → Res D) (r : Rho) : Out := match r[i]? with
  | some (.val d) => vThen (fun r => (g r).bind fun e => f d e) (fun z r => .nx (r.set i (.val z))) r
  | _ => .no

/-! ### a def that may be called -/
structure Cal (cs : Nat → Addr) (P : Program) (w : World) (K : PySem.W.Frag) (mg : Str → Option Value) (base : Heap) (k n : Nat) (x : Str) (fc : List D → Out) : Prop where
  ex : ∃ (f : Addr) (fd : FuncData) (ps : List Str), FnOk P w K mg base (L2.CX P w) k f fd ps (spD cs K n fc) ∧ mg x = some (.ref f) ∧ PySem.W.keepIn K (.ref f) = true ∧ Binds K fd ps []
theorem de_callC {k n : Nat} {fc : List D → Out} {x : Str} {cs : Nat → Addr} (tk : Takes X (lft cs W)) (C : Cal cs X.prog X.w X.K X.mg X.base k n x fc) (hr : Room k X.A)
    (ha : DL X W (e :: es) gl) (hn : n = es.length + 1 := by rfl) (hg : Gl X x := by rfl) (hdb : (x == ("__debug__" : Str)) = false := by decide) (he : starEach (e :: es) X.env = (false, eval e X.env) :: starEach es X.env := by rfl) (hpl : (backTo pos (starEach es X.env)).any (·.1) = false := by rfl) :
    DE X W (.Call (.Name x p) (e :: es) [] pos) (callE gl fc) := by
  obtain ⟨f, fd, ps, F, hm, hk, hb⟩ := C.ex
  exact de_call tk F hr hm hk hb ha hn hg hdb he hpl

/-! ### raise -/
/-- what the top says of an own class of errors without a body -/
structure ExcAt (K : PySem.W.Frag) (mg : Str → Option Value) (x : Str) (C : Addr) : Prop where
  g : mg x = some (.ref C)
  k : PySem.W.keepIn K (.ref C) = true
  q : PySem.W.excIn K C PySem.HandSPX.veTail "ValueError.__new__" = true
  b : PySem.W.subIn K (.ref C) (.type "BaseException") = some true
  t : PySem.W.typeIn K (.ref C) = some (.type "type")
theorem ds_raise {x m : Str} {j c : Nat} {cs : Nat → Addr} {p2 pos2 : Pos} (hc : X.calm = true) (tk : Takes X (lft cs W)) (T : ExcAt X.K X.mg x (cs c)) (hg : Gl X x := by rfl) (hdb : (x == ("__debug__" : Str)) = false := by decide) :
    DS X W (.Raise (some (.Call (.Name x p) [.Constant (.str m) j p2] [] pos)) none pos2) (fun r => .ex c r) :=
  ⟨fun M0 H0 => (ps_raise hc tk (pmk_own PySem.F.excBase_ValueError T.q T.g T.k (raises_own T.b T.t) hg hdb)).imp fun E st H ⟨r, M, t, q⟩ => ⟨c, rfl, rfl, q M st H t⟩⟩
/-! the parts of a message -/
open Classical in
noncomputable def msgI (g : Rho → Res D) (gt : Rho → Res Bool) (r : Rho) : Res Bool := (g r).bind fun d => match d with
  | .int i => if i.natAbs.log2 < 1920 then gt r else .no
  | _ => .no
end
/-! ### the end of a law -/
/-- the law says True of every script of at most 63 ints -/
def spT (K : PySem.W.Frag) : Sp := fun vs H Q _ => ∃ (a : Addr) (ns : List Int), vs = [.ref a] ∧ SqL K H a (ns.map V.int) ∧ ns.length ≤ 63 ∧ ∀ H', Q (.bl true) H'
theorem ints_rep {M : MS} {H : Hp} : ∀ ns : List Int, RpL K M H (ns.map V.int) (ns.map PyData.int)
  | [] => .nil
  | i :: is => .cons (.int i) (ints_rep is)
theorem law_imp {P : Program} {w : World} {mg : Str → Option Value} {base : Heap} {k : Nat} {f : Addr} {fd : FuncData} {ps : List Str} {fc : List D → Out} {cs : Nat → Addr} (F : FnOk P w K mg base (L2.CX P w) k f fd ps (spD cs K 1 fc))
    (h : ∀ ns : List Int, ns.length ≤ 63 → outR (fc [.list (ns.map PyData.int)]) = .ok (.bool true)) : FnOk P w K mg base (L2.CX P w) k f fd ps (spT K) :=
  F.imp fun vs H Q E ⟨a, ns, e, hs, hl, q⟩ => by
    subst e
    refine ⟨rfl, fun _ => False, [.list (ns.map PyData.int)], fun l z => z.elim, .one ?_, ?_⟩
    · rcases hs with hs | hs
      · exact .lst (fun z => z) hs (ints_rep ns)
      · exact .kls hs (ints_rep ns)
    · rw [h ns hl]
      intro v H' _ rv
      rw [rv.weak.bool_]
      exact q H'
theorem walk_law {l : PySem.W.OpenLaw} {k : Nat} {q : Program} {loose : List Str} {XP : (Str → Option Value) → Heap → Prop} {YP : World → Heap → Prop} {d : DefRec} {K : Params → PySem.W.Frag} {x : Str}
    (hn : l.most = some 63) (hn2 : 63 ≤ sizeLine) (hdf : d.params.defaults = []) (hr : Room k callerA) (hY : ∀ (w : World) (h : Heap), YP w h → (K w.params).In h)
    (F : ∀ (w : World) (mg : Str → Option Value) (fa : Addr) (h : Heap), (K w.params).In h → h.Ns mainGlobals mg → mg d.name = some (.ref fa) →
      ∃ fd : FuncData, (∀ (s : Shared) (u : Value), BindsTo s fd ⟨[u], []⟩ [(x, u)]) ∧ ∀ base : Heap, (K w.params).In base → base.Ns mainGlobals mg → FnOk l.prog w (K w.params) mg base (L2.CX l.prog w) k fa fd [x] (spT (K w.params))) :
    PySem.W.WalkO q loose XP YP l.row.toRowW d [] (fun f vs => PySem.call f vs) :=
  L2.walk_of (n := 63) (k := k) (x := x) (CX := fun w => L2.CX l.prog w) (sp := fun w => spT (K w.params)) hn hn2 hdf hr hY F (fun _ _ a ns hl _ hS => ⟨a, ns, rfl, hS, hl, fun _ => rfl⟩) fun w H s e s' h => by
    obtain ⟨_, _, _, _, _, _, _, _, _, _, _, _, z⟩ := h
    exact z
end PD

namespace PD
open PySem PySem.Spec PyProof.Rows L2

/-! ### what the pure functions come to -/
theorem shaped_int (i : Int) : SeqAt.shaped (.int i) = true := by simp [SeqAt.shaped, PyData.canLay0, PyData.depth]
theorem shaped_bool (i : Bool) : SeqAt.shaped (.bool i) = true := by simp [SeqAt.shaped, PyData.canLay0, PyData.depth]
theorem shaped_str {i : Str} (h : PyData.strOk i = true) : SeqAt.shaped (.str i) = true := by simp [SeqAt.shaped, PyData.canLay0, PyData.depth, h]
theorem shaped_none : SeqAt.shaped .none = true := by simp [SeqAt.shaped, PyData.canLay0, PyData.depth]
@[simp] theorem qEq_int (i j : Int) : qEq (.int i) (.int j) = .ok (.bool (i == j)) := by
  unfold qEq
  rw [if_pos ⟨shaped_int i, shaped_int j⟩, PyData.eqv]
@[simp] theorem qNe_int (i j : Int) : qNe (.int i) (.int j) = .ok (.bool (!(i == j))) := by
  unfold qNe
  rw [if_pos ⟨shaped_int i, shaped_int j⟩, PyData.eqv]
theorem qEq_str {i j : Str} (hi : PyData.strOk i = true) (hj : PyData.strOk j = true) : qEq (.str i) (.str j) = .ok (.bool (i == j)) := by
  unfold qEq
  rw [if_pos ⟨shaped_str hi, shaped_str hj⟩, PyData.eqv]
theorem qNe_str {i j : Str} (hi : PyData.strOk i = true) (hj : PyData.strOk j = true) : qNe (.str i) (.str j) = .ok (.bool (!(i == j))) := by
  unfold qNe
  rw [if_pos ⟨shaped_str hi, shaped_str hj⟩, PyData.eqv]
/-! loops -/
theorem forD_inv {asg : Asg} {f : Rho → Out} : ∀ (ds : List D) (r : Rho) (I : Nat → Rho → Prop) (k : Nat), I k r → (∀ i d r, ds[i]? = some d → I (k + i) r → ∃ ps r2, asg d = some ps ∧ (f (setsD r ps) = .nx r2 ∨ f (setsD r ps) = .ct r2) ∧ I (k + i + 1) r2) →
    ∃ r2, forD asg f ds r = .nx r2 ∧ I (k + ds.length) r2
  | [], r, I, k, h, _ => ⟨r, rfl, h⟩
  | d :: ds, r, I, k, h, st => by
    obtain ⟨ps, r2, e, hf, h2⟩ := st 0 d r rfl h
    obtain ⟨r3, e3, h3⟩ := forD_inv ds r2 I (k + 1) h2 fun i d r hd hi => by
      have q := st (i + 1) d r (by simpa using hd) (by rw [show k + (i + 1) = k + 1 + i by omega]; exact hi)
      rw [show k + (i + 1) + 1 = k + 1 + i + 1 by omega] at q
      exact q
    refine ⟨r3, ?_, by rw [List.length_cons, show k + (ds.length + 1) = k + 1 + ds.length by omega]; exact h3⟩
    unfold forD
    rw [e]
    rcases hf with hf | hf
    · simp only [hf]; exact e3
    · simp only [hf]; exact e3
theorem rngD_length (lo : Int) (n : Nat) : (rngD lo n).length = n := by simp [rngD]
theorem rngD_get {lo : Int} {n i : Nat} {d : D} (h : (rngD lo n)[i]? = some d) : i < n ∧ d = .int (lo + i) := by
  have hi : i < n := by
    have := (List.getElem?_eq_some_iff.mp h).1
    rw [rngD_length] at this
    exact this
  refine ⟨hi, ?_⟩
  simp [rngD, hi] at h
  exact h.symm
/-- over a range -/
theorem forD_rng {asg : Asg} {f : Rho → Out} (lo : Int) (n : Nat) (r : Rho) (I : Nat → Rho → Prop) (h : I 0 r) (st : ∀ i r, i < n → I i r → ∃ ps r2, asg (.int (lo + i)) = some ps ∧ (f (setsD r ps) = .nx r2 ∨ f (setsD r ps) = .ct r2) ∧ I (i + 1) r2) :
    ∃ r2, forD asg f (rngD lo n) r = .nx r2 ∧ I n r2 := by
  obtain ⟨r2, e, q⟩ := forD_inv (asg := asg) (f := f) (rngD lo n) r I 0 h fun i d r hd hi => by
    obtain ⟨hn, rfl⟩ := rngD_get hd
    rw [Nat.zero_add] at hi ⊢
    exact st i r hn hi
  rw [Nat.zero_add, rngD_length] at q
  exact ⟨r2, e, q⟩

/-! shapes of data: depth one above the deepest item -/
def flatL (ds : List D) : Bool := ds.all flatD
theorem mulok_r {i j : Int} (h : -(2 ^ 64) < j ∧ j < 2 ^ 64) : MulOk i j := .inl (.inr h)
theorem mulok_l {i j : Int} (h : -(2 ^ 64) < i ∧ i < 2 ^ 64) : MulOk i j := .inl (.inl h)
theorem iMul_r {i j : Int} (h : -(2 ^ 64) < j ∧ j < 2 ^ 64) : iMul (.int i) (.int j) = .ok (.int (i * j)) := by
  simp only [iMul]
  rw [if_pos (mulok_r h)]
theorem iMul_l {i j : Int} (h : -(2 ^ 64) < i ∧ i < 2 ^ 64) : iMul (.int i) (.int j) = .ok (.int (i * j)) := by
  simp only [iMul]
  rw [if_pos (mulok_l h)]
theorem iMul_w {i j : Int} {a b : Nat} (ha : i.natAbs < 2 ^ a) (hb : j.natAbs < 2 ^ b) (h0 : 0 < a) (h1 : 0 < b) (h : a + b ≤ 1000000) : iMul (.int i) (.int j) = .ok (.int (i * j)) := by
  simp only [iMul]
  rw [if_pos (.inr (wide_mul ha hb h0 h1 h))]
theorem iDiv_w {i j : Int} {b : Nat} (h : 0 < j) (hb : j.natAbs < 2 ^ b) (h0 : 0 < b) (h9 : b ≤ 9000) : iDiv (.int i) (.int j) = .ok (.int (i / j)) := by
  simp only [iDiv]
  rw [if_pos (wide_div h hb h0 h9)]
theorem iDiv_lit {i j : Int} (h : 0 < j ∧ j < 2 ^ 64) : iDiv (.int i) (.int j) = .ok (.int (i / j)) := iDiv_w (b := 64) h.1 (by omega) (by decide) (by decide)
theorem iMod_p {i j : Int} (h : 0 < j) : iMod (.int i) (.int j) = .ok (.int (i % j)) := by
  simp only [iMod]
  rw [if_pos h]
theorem qIx_at {d : D} {ds : List D} {i : Int} {z : D} (hd : items d = some ds) (h : atI ds i = some z) : qIx d (.int i) = .ok z := by
  unfold qIx
  rw [hd]
  simp only
  rw [h]
theorem atI_in {α : Type} {ds : List α} {i : Int} (h0 : 0 ≤ i) (h1 : i.toNat < ds.length) : atI ds i = some (ds[i.toNat]) := by
  have e : ((i.toNat : Nat) : Int) = i := by omega
  have q := atI_nat (List.getElem?_eq_getElem h1)
  rw [e] at q
  exact q
theorem qIx_list {ds : List D} {i : Int} (h0 : 0 ≤ i) (h1 : i.toNat < ds.length) : qIx (.list ds) (.int i) = .ok (ds[i.toNat]) := qIx_at rfl (atI_in h0 h1)
theorem qIx_tup {ds : List D} {i : Int} (h0 : 0 ≤ i) (h1 : i.toNat < ds.length) : qIx (.tuple ds) (.int i) = .ok (ds[i.toNat]) := qIx_at rfl (atI_in h0 h1)
theorem atI_cast {α : Type} (ds : List α) (n : Nat) : atI ds (n : Int) = ds[n]? := by
  unfold atI ixN
  rw [if_pos (by omega)]
  by_cases h : n < ds.length
  · rw [if_pos (by omega)]
    rfl
  · rw [if_neg (by omega), List.getElem?_eq_none (by omega)]
    rfl
@[simp] theorem atI_0 {α : Type} (ds : List α) : atI ds 0 = ds[0]? := atI_cast ds 0
@[simp] theorem atI_1 {α : Type} (ds : List α) : atI ds 1 = ds[1]? := atI_cast ds 1
@[simp] theorem atI_2 {α : Type} (ds : List α) : atI ds 2 = ds[2]? := atI_cast ds 2
@[simp] theorem atI_3 {α : Type} (ds : List α) : atI ds 3 = ds[3]? := atI_cast ds 3
@[simp] theorem atI_4 {α : Type} (ds : List α) : atI ds 4 = ds[4]? := atI_cast ds 4
@[simp] theorem atI_5 {α : Type} (ds : List α) : atI ds 5 = ds[5]? := atI_cast ds 5
@[simp] theorem atI_m1 {α : Type} (ds : List α) : atI ds (-1) = ds.getLast? := by
  unfold atI ixN
  rw [if_neg (by decide), List.getLast?_eq_getElem?]
  by_cases h : -(ds.length : Int) ≤ -1
  · rw [if_pos h]
    have e : (-1 + (ds.length : Int)).toNat = ds.length - 1 := by omega
    show ds[(-1 + (ds.length : Int)).toNat]? = _
    rw [e]
  · rw [if_neg h, List.getElem?_eq_none (by omega)]
    rfl
end PD

namespace PD
open PySem PySem.Spec PyProof.Rows L2
variable {K : PySem.W.Frag}
section
variable {X : Cx} {W : PWs} {e a b c : Expr} {es : List Expr} {f : Rho → Out} {g ga gb : Rho → Res D} {gl : Rho → Res (List D)} {gt : Rho → Res Bool} {pos p : Pos} {cs : Nat → Addr}
/-! ### a message of written pieces and whole numbers -/
def DemM (W : PWs) (st : Sg) (H : Hp) (r : Res Bool) (Q : Str → Hp → Prop) : Prop := match r with
  | .ok _ => ∀ y H', Same H H' → Q y H'
  | .ex c => ∀ H', Same H H' → W c st H'
  | .no => False
/-- the parts, the text so far at most n signs long -/
inductive Msg (X : Cx) (W : PWs) : List Expr → Nat → (Rho → Res Bool) → Prop where
  | nil {n : Nat} (h : n ≤ 16000000) : Msg X W [] n (fun _ => .ok true)
  | str {x : Str} {j n : Nat} {p : Pos} {es : List Expr} {gt : Rho → Res Bool} (hl : x.length ≤ 2000) (t : Msg X W es (n + 2000) gt) : Msg X W (.Constant (.str x) j p :: es) n gt
  | int {e : Expr} {n : Nat} {p : Pos} {es : List Expr} {g : Rho → Res D} {gt : Rho → Res Bool} (he : DW X W e g) (t : Msg X W es (n + 2000) gt) : Msg X W (.FormattedValue e (-1) none p :: es) n (msgI g gt)
theorem Msg.le {es : List Expr} {n : Nat} {gt : Rho → Res Bool} (h : Msg X W es n gt) : n ≤ 16000000 := by
  induction h with
  | nil h => exact h
  | str _ _ ih => omega
  | int _ _ ih => omega
theorem Msg.run {es : List Expr} {n : Nat} {gt : Rho → Res Bool} (h : Msg X W es n gt) : ∃ ts, PJ X es ts ∧ ∀ (acc : Str) (st : Sg) (H : Hp) (r : Rho) (M : MS) (Q : Str → Hp → Prop), acc.length ≤ n → En X.K M H st r → DemM W st H (gt r) Q → tJs ts acc st H Q := by
  have sz : sizeLine = 16777216 := sizeLine_eq
  induction h with
  | nil h => exact ⟨[], .nil, fun acc st H r M Q _ _ q => q acc H (Same.refl _)⟩
  | @str x j n p es gt hl t ih =>
    obtain ⟨ts, hj, k⟩ := ih
    refine ⟨_ :: ts, .cons pe_str hj, fun acc st H r M Q ha en q => ⟨x, rfl, ?_, k _ st H r M Q ?_ en q⟩⟩
    · rw [Str.length_append]
      have := t.le
      omega
    · rw [Str.length_append]
      omega
  | @int e n p es g gt he t ih =>
    obtain ⟨ts, hj, k⟩ := ih
    refine ⟨_ :: ts, .cons (pe_fmt he.run) hj, fun acc st H r M Q ha en q => ⟨r, M, en, ?_⟩⟩
    unfold msgI at q
    cases hg : g r with
    | ex c => rw [hg] at q; exact q
    | no => rw [hg] at q; exact q
    | ok d =>
      rw [hg] at q
      cases d with
      | int i =>
        simp only [bind_ok] at q
        by_cases hi : i.natAbs.log2 < 1920
        · rw [if_pos hi] at q
          intro v H1 s1 rv
          have hl : (Str.ofString (toString i)).length ≤ 1921 := by
            rw [PySem.ofString_length]
            exact int_text_length_le (by decide) hi
          refine .inr ⟨i, rv.int_, hi, Str.ofString (toString i), rfl, ?_, k _ st H1 r M Q ?_ (en.same s1) ?_⟩
          · rw [Str.length_append]
            have := t.le
            omega
          · rw [Str.length_append]
            omega
          · revert q
            cases gt r with
            | ok b => exact fun q y H2 s2 => q y H2 (s1.trans s2)
            | ex c => exact fun q H2 s2 => q H2 (s1.trans s2)
            | no => exact fun q => q
        · rw [if_neg hi] at q
          exact q.elim
      | none => exact q.elim
      | bool => exact q.elim
      | str => exact q.elim
      | list => exact q.elim
      | tuple => exact q.elim
      | dict => exact q.elim
/-- raise X(f'..') -/
def rsE (gt : Rho → Res Bool) (c : Nat) : Rho → Out := tThen gt fun _ r => .ex c r
theorem ds_raiseF {x : Str} {c : Nat} {v1 v2 : Expr} {rest : List Expr} {jpos pos2 : Pos} (hc : X.calm = true) (tk : Takes X (lft cs W)) (T : ExcAt X.K X.mg x (cs c)) (m : Msg X W (v1 :: v2 :: rest) 0 gt) (hg : Gl X x := by rfl) (hdb : (x == ("__debug__" : Str)) = false := by decide)
    (hs : starEach [.JoinedStr (v1 :: v2 :: rest) jpos] X.env = (false, eval (.JoinedStr (v1 :: v2 :: rest) jpos) X.env) :: starEach [] X.env := by rfl) :
    DS X W (.Raise (some (.Call (.Name x p) [.JoinedStr (v1 :: v2 :: rest) jpos] [] pos)) none pos2) (rsE gt c) := by
  obtain ⟨ts, hj, k⟩ := m.run
  refine ⟨fun M0 H0 => (ps_raise hc tk (SkE.pmk_own1 PySem.F.excBase_ValueError T.q T.g T.k (raises_own T.b T.t) hg (pe_joined hj) hs hdb)).imp fun E st H ⟨r, M, t, q⟩ => ?_⟩
  refine k _ st H r M _ (Nat.zero_le _) t.en ?_
  unfold rsE tThen at q
  cases hgt : gt r with
  | ok b => rw [hgt] at q; exact fun y H' s => ⟨c, rfl, rfl, q M st H' (t.same s)⟩
  | ex c2 => rw [hgt] at q; exact fun H' s => q M st H' (t.same s)
  | no => rw [hgt] at q; exact q

/-! ### try .. except X as e -/
/-- slot i holds the error at a -/
theorem Sts.setExc {M0 M : MS} {H0 H : Hp} {st : Sg} {r : Rho} (s : Sts K M0 H0 M H st r) (i : Nat) (a : Addr) : Sts K M0 H0 M H (st.set i (some (.ref a))) (r.set i (.exc a)) := by
  have own : ∀ {j : Nat} {xs : List D}, (r.set i (.exc a))[j]? = some (.own xs) → j ≠ i ∧ r[j]? = some (.own xs) := fun {j xs} e => by
    rcases set_get e with ⟨_, q, _⟩ | q
    · cases q
    · exact q
  have un : ∀ {j : Nat} {z : Option V}, j ≠ i → (st.set i (some (.ref a)))[j]? = some z → st[j]? = some z := fun {j z} n e => by
    rw [List.getElem?_set_ne (Ne.symm n)] at e
    exact e
  refine ⟨⟨s.en.live, fun j z e => ?_, by rw [List.length_set, List.length_set]; exact s.len⟩, s.keep, s.sub, s.new, by rw [List.length_set, List.length_set]; exact s.len, fun a b l xs ys h1 h2 h3 h4 => ?_, fun a l xs h1 h2 => ?_⟩
  · rcases set_get e with ⟨rfl, rfl, hj⟩ | ⟨hj, e⟩
    · have hj' : j < st.length := by rw [s.len]; exact hj
      show (st.set j (some (.ref a)))[j]? = _
      rw [List.getElem?_set_self hj']
    · have q := s.en.slot j z e
      rw [List.getElem?_set_ne (Ne.symm hj)]
      exact q
  · obtain ⟨n1, e1⟩ := own h1
    obtain ⟨n2, e2⟩ := own h2
    exact s.dis _ _ l xs ys e1 e2 (un n1 h3) (un n2 h4)
  · obtain ⟨n1, e1⟩ := own h1
    exact s.own0 _ l xs e1 (un n1 h2)
def Out.gone (i : Nat) : Out → Out
  | .nx r => .nx (r.set i .no)
  | .bk r => .bk (r.set i .no)
  | .ct r => .ct (r.set i .no)
  | .rt d => .rt d
  | _ => .no
@[simp] theorem gone_nx (i : Nat) (r : Rho) : (Out.nx r).gone i = .nx (r.set i .no) := eq_of_heq HEq.rfl
@[simp] theorem gone_ct (i : Nat) (r : Rho) : (Out.ct r).gone i = .ct (r.set i .no) := eq_of_heq HEq.rfl
@[simp] theorem gone_bk (i : Nat) (r : Rho) : (Out.bk r).gone i = .bk (r.set i .no) := eq_of_heq HEq.rfl
@[simp] theorem gone_rt (i : Nat) (r : D) : (Out.rt r).gone i = .rt r := eq_of_heq HEq.rfl
open Classical in
/-- what the suite comes to, wherever the error lies -/
noncomputable def caught (i : Nat) (su : Addr → Rho → Out) (r : Rho) : Out :=
  if h : ∃ o, ∀ a, (su a (r.set i (.exc a))).gone i = o then choose h else .no
theorem caught_eq {i : Nat} {su : Addr → Rho → Out} {r : Rho} {o : Out} (h : ∀ a, (su a (r.set i (.exc a))).gone i = o) : caught i su r = o := by
  have ex : ∃ o, ∀ a, (su a (r.set i (.exc a))).gone i = o := ⟨o, h⟩
  unfold caught
  rw [dif_pos ex, ← Classical.choose_spec ex 0]
  exact h 0
/-- hd: which errors the clause takes; su c a: the suite where an error of class c lies at a -/
noncomputable def tryE (f : Rho → Out) (i : Nat) (hd : Nat → Bool) (su : Nat → Addr → Rho → Out) (r : Rho) : Out := match f r with
  | .ex c r2 => if hd c then caught i (su c) r2 else .ex c r2
  | o => o
theorem ds_try_as {x n : Str} {C : Value} {i : Nat} {body suite : List Stmt} {b0 : Stmt} {np pos' : Pos} {hd : Nat → Bool} {su : Nat → Addr → Rho → Out}
    (hs : X.stack = X.env :: X.outer) (hf : X.env.frame = some X.env.locals) (hN : X.N.Nodup) (hi : X.N[i]? = some n) (hln : X.env.kindOf n = some .local) (hc : L2.Names X x C) (tk : Takes X (lft cs W))
    (hm : ∀ c, PySem.W.exmOne X.K (.ref (cs c)) C = some (hd c))
    (hb : ∀ (W : PWs) (pn : List (Addr × Obj)) (xe : Value → Shared → Prop), Takes (X.tr pn xe) (lft cs W) → PassesOwn (model X.prog X.w) X.A X.env xe → DSs (X.tr pn xe) W body f)
    (hsu : ∀ (c : Nat) (a : Addr) (oe : Obj) (pn : List (Addr × Obj)), Zc (.ref (cs c)) none oe → (∃ vs, oe.data = .fields vs) → DSs (X.suite a ((a, oe) :: pn)) W0 (b0 :: suite) (su c a)) :
    DS X W (.Try body [.ExceptHandler (some (.Name x np)) (some n) (b0 :: suite) pos'] [] [] pos) (tryE f i hd su) := by
  refine ⟨fun M0 H0 => (ps_try_as (i := i) (tb := fun WW E st H => ∃ (M0 : MS) (H0 : Hp) (W' : PWs), (∀ c st H, W' c st H → WW (.ref (cs c)) none st H) ∧ tS X.K W' M0 H0 f E st H)
    (ts := fun a cls d E st H => ∃ c, cls = .ref (cs c) ∧ d = none ∧ ∃ M0 H0, tS X.K W0 M0 H0 (su c a) E st H) hs hf hN hi hln hc tk ?_ ?_).imp ?_⟩
  · intro WW pn xe tk' po
    exact ⟨fun pins s st H E I ⟨M0, H0, W', hW, q⟩ => ((hb W' pn xe (tk'.imp fun cls d st H ⟨c, e1, e2, z⟩ => by
      subst e1 e2
      exact hW c st H z) po).run M0 H0).run pins s st H E I q⟩
  · intro a oe cls d pn hz hf
    exact ⟨fun pins s st H E I ⟨c, e1, e2, M0, H0, q⟩ => by
      subst e1 e2
      exact ((hsu c a oe pn hz hf).run M0 H0).run pins s st H E I q⟩
  · rintro E st H ⟨r, M, t, q⟩
    refine ⟨M0, H0, fun c st H => wAs X.K C i (fun a cls d E st H => ∃ c, cls = .ref (cs c) ∧ d = none ∧ ∃ M0 H0, tS X.K W0 M0 H0 (su c a) E st H) (lft cs W) E (.ref (cs c)) none st H, fun _ _ _ z => z, r, M, t, ?_⟩
    unfold tryE at q
    revert q
    cases f r with
    | nx r2 => exact fun q => q
    | bk r2 => exact fun q => q
    | ct r2 => exact fun q => q
    | rt d => exact fun q => q
    | no => exact fun q => q
    | ex c r2 =>
      intro q M2 st2 H2 t2
      simp only at q
      refine ⟨hd c, hm c, fun hc a ha => ⟨c, rfl, rfl, M0, H0, _, M2, t2.setExc i a, ?_⟩, fun hc => ?_⟩
      · rw [if_pos hc] at q
        unfold caught at q
        split at q
        · rename_i ex
          have sp := Classical.choose_spec ex a
          rw [← sp] at q
          revert q
          cases su c a (r2.set i (.exc a)) with
          | nx r3 => exact fun q M3 st3 H3 t3 => q M3 _ H3 (t3.gone i)
          | bk r3 => exact fun q M3 st3 H3 t3 => q M3 _ H3 (t3.gone i)
          | ct r3 => exact fun q M3 st3 H3 t3 => q M3 _ H3 (t3.gone i)
          | rt d => exact fun q => q
          | ex c3 r3 => exact fun q => q.elim
          | no => exact fun q => q.elim
        · exact q.elim
      · rw [hc] at q
        exact ⟨c, rfl, rfl, q M2 st2 H2 t2⟩
/-! without a name -/
def Out.flat : Out → Out
  | .ex _ _ => .no
  | o => o
def tryO (f : Rho → Out) (hd : Nat → Bool) (su : Nat → Rho → Out) (r : Rho) : Out := match f r with
  | .ex c r2 => if hd c then (su c r2).flat else .ex c r2
  | o => o
theorem ds_try_only {x : Str} {C : Value} {body suite : List Stmt} {b0 : Stmt} {np pos' : Pos} {hd : Nat → Bool} {su : Nat → Rho → Out}
    (hs : X.stack = X.env :: X.outer) (hf : X.env.frame = some X.env.locals) (hc : L2.Names X x C) (tk : Takes X (lft cs W))
    (hm : ∀ c, PySem.W.exmOne X.K (.ref (cs c)) C = some (hd c))
    (hb : ∀ (W : PWs) (pn : List (Addr × Obj)) (xe : Value → Shared → Prop), Takes (X.tr pn xe) (lft cs W) → PassesOwn (model X.prog X.w) X.A X.env xe → DSs (X.tr pn xe) W body f)
    (hsu : ∀ (c : Nat) (a : Addr) (oe : Obj) (pn : List (Addr × Obj)), Zc (.ref (cs c)) none oe → (∃ vs, oe.data = .fields vs) → DSs (X.suite a ((a, oe) :: pn)) W0 (b0 :: suite) (su c)) :
    DS X W (.Try body [.ExceptHandler (some (.Name x np)) none (b0 :: suite) pos'] [] [] pos) (tryO f hd su) := by
  refine ⟨fun M0 H0 => (ps_try_only (tb := fun WW E st H => ∃ (M0 : MS) (H0 : Hp) (W' : PWs), (∀ c st H, W' c st H → WW (.ref (cs c)) none st H) ∧ tS X.K W' M0 H0 f E st H)
    (ts := fun a cls d E st H => ∃ c, cls = .ref (cs c) ∧ d = none ∧ ∃ M0 H0, tS X.K W0 M0 H0 (su c) E st H) hs hf hc tk ?_ ?_).imp ?_⟩
  · intro WW pn xe tk' po
    exact ⟨fun pins s st H E I ⟨M0, H0, W', hW, q⟩ => ((hb W' pn xe (tk'.imp fun cls d st H ⟨c, e1, e2, z⟩ => by
      subst e1 e2
      exact hW c st H z) po).run M0 H0).run pins s st H E I q⟩
  · intro a oe cls d pn hz hf
    exact ⟨fun pins s st H E I ⟨c, e1, e2, M0, H0, q⟩ => by
      subst e1 e2
      exact ((hsu c a oe pn hz hf).run M0 H0).run pins s st H E I q⟩
  · rintro E st H ⟨r, M, t, q⟩
    refine ⟨M0, H0, fun c st H => wOnly X.K C (fun a cls d E st H => ∃ c, cls = .ref (cs c) ∧ d = none ∧ ∃ M0 H0, tS X.K W0 M0 H0 (su c) E st H) (lft cs W) E (.ref (cs c)) none st H, fun _ _ _ z => z, r, M, t, ?_⟩
    unfold tryO at q
    revert q
    cases f r with
    | nx r2 => exact fun q => q
    | bk r2 => exact fun q => q
    | ct r2 => exact fun q => q
    | rt d => exact fun q => q
    | no => exact fun q => q
    | ex c r2 =>
      intro q M2 st2 H2 t2
      simp only at q
      refine ⟨hd c, hm c, fun hc a ha => ⟨c, rfl, rfl, M0, H0, _, M2, t2, ?_⟩, fun hc => ?_⟩
      · rw [if_pos hc] at q
        revert q
        cases su c r2 with
        | nx r3 => exact fun q => q
        | bk r3 => exact fun q => q
        | ct r3 => exact fun q => q
        | rt d => exact fun q => q
        | ex c3 r3 => exact fun q => q.elim
        | no => exact fun q => q
      · rw [hc] at q
        exact ⟨c, rfl, rfl, q M2 st2 H2 t2⟩
/-! isinstance(e, C), e the error that the suite holds at a, of class number c -/
def isE (i : Nat) (a : Addr) (b : Bool) (r : Rho) : Res D := match r[i]? with
  | some (.exc a') => if a' = a then .ok (.bool b) else .no
  | _ => .no
theorem tE_isE {st : Sg} {H : Hp} {Q : VK} {i : Nat} {a : Addr} {b : Bool} (h : tE K Rp W (isE i a b) st H Q) : st[i]? = some (some (.ref a)) ∧ Q (.bl b) H := by
  obtain ⟨r, M, en, q⟩ := h
  unfold isE at q
  cases e : r[i]? with
  | none => rw [e] at q; exact q.elim
  | some z =>
    rw [e] at q
    cases z with
    | no => exact q.elim
    | val d => exact q.elim
    | own ds => exact q.elim
    | exc a' =>
      simp only at q
      by_cases h : a' = a
      · rw [if_pos h] at q
        subst h
        exact ⟨en.slot i _ e, q _ H (Same.refl _) (.bl _)⟩
      · rw [if_neg h] at q
        exact q.elim
theorem de_isE {i c : Nat} {a : Addr} {oe : Obj} {pn : List (Addr × Obj)} {en xn : Str} {pe px : Pos} {cv : Value} {bb : Bool} {v : V} (T : ExcC X.K (cs c)) (hz : Zc (.ref (cs c)) none oe) (hf : ∃ vs, oe.data = .fields vs) (hm : X.mg "isinstance" = none)
    (hv : PE (X.suite a ((a, oe) :: pn)) (.Name en pe) (tVar i)) (hx : PE (X.suite a ((a, oe) :: pn)) (.Name xn px) (tC v)) (hr : ∀ u, RelV v u → u = cv) (hk : PySem.W.kitOne X.K (.ref (cs c)) cv = some bb) (hg : Gl X "isinstance" := by rfl)
    (he : starEach (.Name en pe :: [.Name xn px]) X.env = (false, eval (.Name en pe) X.env) :: starEach [.Name xn px] X.env := by rfl) (he2 : starEach (.Name xn px :: []) X.env = (false, eval (.Name xn px) X.env) :: starEach [] X.env := by rfl) (hpl : (backTo pos (starEach [.Name xn px] X.env)).any (·.1) = false := by rfl) :
    DE (X.suite a ((a, oe) :: pn)) W (.Call (.Name "isinstance" p) [.Name en pe, .Name xn px] [] pos) (isE i a bb) :=
  ⟨(pe_callB (X := X.suite a ((a, oe) :: pn)) (call_isE T hz hf) hg hm PyProof.Rows.boot_isinstance (pa_cons hv (pa_cons hx pa_nil he2) he) (by decide) (by decide) he hpl).imp fun st H Q q => by
    obtain ⟨e, q⟩ := tE_isE q
    exact ⟨.ref a, e, v, cv, bb, rfl, hr, hk, q⟩⟩

/-! ### enumerate of a tuple -/
/-- the tuple at a as it stands, each item in a new pair -/
def Itet (K : PySem.W.Frag) (a : Addr) : It where
  go := fun i H => ∃ (xs : List V) (x : V), SqT K H a xs ∧ xs[i]? = some x
  yld := fun i H v H' => ∃ T x, v = .ref T ∧ H T = none ∧ H' = upd H T (.tup [.int (i : Nat), x]) ∧ ∀ xs, SqT K H a xs → xs[i]? = some x
  stop := fun i H => ∃ xs : List V, SqT K H a xs ∧ xs.length ≤ i
theorem turn_enumT {P : Program} {w : World} {elts : List Expr} {kk : Nat} {tpos : Pos} (a ea it : Addr) :
    Turn P w K (.Tuple elts kk tpos) (Itet K a) [ea, it] ea (fun i h => (∃ old, IsEnum h ea it ((i : Nat) : Int) old) ∧ h.IsTupleIter it a i ∧ ea ≠ it ∧ a ≠ it ∧ ea ≠ a) where
  mem := by simp
  obj := fun i h st b hb => by
    obtain ⟨⟨old, he⟩, ⟨o, ho, hc, hd⟩, _⟩ := st
    rcases List.mem_cons.mp hb with z | z
    · subst z
      exact ⟨_, he, fun v q => by
        have q' : Data.fields _ = Data.cell v := q
        cases q'⟩
    · rw [List.mem_singleton] at z
      subst z
      exact ⟨o, ho, fun v q => by rw [hd] at q; cases q⟩
  keep := fun i h h' st k => by
    obtain ⟨⟨old, he⟩, hi, hne⟩ := st
    exact ⟨⟨old, k ea (by simp) _ he⟩, hi.at fun o q => k it (by simp) o q, hne⟩
  item := by
    intro X hP hw hK hc i pins s st H E I hf tn hg
    subst hP hw hK
    obtain ⟨he, hit, hne, hai, hea⟩ := tn
    obtain ⟨xs, x, hq, hx⟩ := hg
    obtain ⟨its, rv, p, hz⟩ := I.tuple hq
    have hil : i < its.toArray.size := by
      have h1 := (List.getElem?_eq_some_iff.mp hx).1
      have h2 := rv.length
      rw [List.size_toArray]
      omega
    have G := GoesN.enumFrom (prog := X.prog) (w := X.w) (A := X.A) (elts := elts) (x1 := kk) (pos := tpos) 0 (Draws.tuple (prog := X.prog) (w := X.w) (A := X.A.in1) (I.ok.hd hc) it a hai its.toArray) ea hne (by simp [hne, hea]) (by simp)
    have st0 : (∃ old, IsEnum s.heap ea it (0 + (i : Int)) old) ∧ s.heap.IsTupleIter it a i ∧ s.heap.IsTuple a its.toArray := by
      rw [Int.zero_add]
      exact ⟨he, hit, p⟩
    refine wpAny_mono (G.goes i s (fun u s2 => ∃ x H', Inv X pins st H' s2 ∧ RelV x u ∧ (Itet X.K a).yld i H x H' ∧ ((∃ old, IsEnum s2.heap ea it ((i + 1 : Nat) : Int) old) ∧ s2.heap.IsTupleIter it a (i + 1) ∧ ea ≠ it ∧ a ≠ it ∧ ea ≠ a) ∧ ∀ b ∈ [ea, it], H' b = none) E hil st0 ?_) (fun r s1 hr => hr) fun _ _ z => z
    intro v h' tk hy st1 hk htk
    obtain ⟨T, t, u, rfl, hn, hu, hT⟩ := hy
    obtain ⟨he1, hit1, _⟩ := st1
    have hu' : its[i]? = some u := by simpa using hu
    obtain ⟨u2, hu2, ru⟩ := rv.get hx
    rw [hu'] at hu2
    cases hu2
    rw [Int.zero_add] at hT
    have new : ObjOk X.prog X.w (upd H T (.tup [.int (i : Nat), x])) h' T (.tup [.int (i : Nat), x]) :=
      ⟨by show 2 ≤ sizeLine; decide, [.int i t, u], .cons ⟨_, rfl⟩ (.cons ru .nil), hT⟩
    have I1 : Inv X pins st (upd H T (.tup [.int (i : Nat), x])) { s with heap := h', toks := tk } :=
      I.turnedNew (ch := [ea, it]) (fun b o hb q => hk b o hb q) hf hn new
    have hTn : H T = none := I.hok.fresh hn
    refine ⟨.ref T, _, I1, rfl, ⟨T, x, rfl, hTn, rfl, fun ys hy => by rw [I.tuple_inj hy hq]; exact hx⟩, ⟨?_, hit1, hne, hai, hea⟩, fun b hb => ?_⟩
    · have e1 : (0 : Int) + ((i + 1 : Nat) : Int) = ((i + 1 : Nat) : Int) := Int.zero_add _
      rw [e1] at he1
      exact he1
    · have hbl : b < s.heap.objs.size := by
        obtain ⟨old, he0⟩ := he
        obtain ⟨o, ho, _⟩ := hit
        rcases List.mem_cons.mp hb with z | z
        · exact z ▸ Heap.lt_size he0
        · rw [List.mem_singleton] at z
          exact z ▸ Heap.lt_size ho
      rw [upd_ne (Nat.ne_of_lt (Nat.lt_of_lt_of_le hbl hn))]
      exact (hf b hb).1
  done := by
    intro X hP hw hK hc i pins s st H E I hf tn hg
    subst hP hw hK
    obtain ⟨he, hit, hne, hai, hea⟩ := tn
    obtain ⟨xs, hq, hx⟩ := hg
    obtain ⟨its, rv, p, hz⟩ := I.tuple hq
    have hl := rv.length
    obtain ⟨f0, f1, f2, f3, f4, f5⟩ := hf it (by simp)
    have D : Draws X.prog X.w X.A.in1 it [it, a] i (fun _ _ => True) (fun j h => j = i ∧ h.IsTupleIter it a j ∧ h.IsTuple a its.toArray) := by
      refine ⟨fun j h st => ?_, fun j h h2 st k => ?_, fun j s Q E hj st => ?_, fun s Q E st q => ?_⟩
      · obtain ⟨_, ⟨o, ho, _⟩, _⟩ := st
        exact ⟨o, ho⟩
      · exact ⟨st.1, st.2.1.at fun o e => k it (by simp) o e, st.2.2.at fun o e => k a (by simp) o e⟩
      · omega
      · refine wpAny_nextOf_tuple_end (I.ok.hd hc) st.2.1 st.2.2 ?_ q
        rw [List.getElem?_toArray, List.getElem?_eq_none]
        omega
    obtain ⟨old, he⟩ := he
    exact wpAny_pyNext_enum_endD D he ⟨rfl, hit, p⟩ fun h' eb => ⟨rfl, I.turned (t' := s.toks) (fun b o hb q => eb b o hb q) f0 f1 f3 f4 f5⟩
  self := fun A i s Q E st h => by
    obtain ⟨⟨_, he⟩, _⟩ := st
    exact wpAny_pyIter_enum he h
/-! the call -/
theorem meets_enum1 {v : Value} {o : Obj} {G : Heap → Prop} (B : Begins v o G) :
    Meets (Builtin.«enumerate.__new__» ⟨[.type "enumerate", v], []⟩) (fun _ R s => G s.heap ∧
      R (.ok (.ret (.ref (s.heap.push o).objs.size)))
        { s with heap := (s.heap.push o).push { cls := .type "enumerate", data := .fields #[.none, .bool false, .ref s.heap.objs.size, rawInt 0, .none, .none] } }) :=
  .of_wp fun prog w A R s h => by
    obtain ⟨hp, g, d, tk, os⟩ := s
    obtain ⟨h1, h⟩ := h
    have sb := sub_enumerate
    have mk : ∀ {A' : Around} {E Q : Value → Shared → Prop}, Q (.ref hp.objs.size) ⟨hp.push o, g, d, tk, os⟩ → wpAny (model prog w) A' (pyIter v) Q E ⟨hp, g, d, tk, os⟩ :=
      fun z => B.iter prog w _ _ ⟨hp, g, d, tk, os⟩ _ h1 z
    wp_walk using mk
    refine wpAny_stack_any fun _ => wpAny_pure ?_
    split
    · rename_i c _ _ _ _ _
      cases (c == Value.type "enumerate") <;>
        (wp_walk using mk; exact ⟨_, rfl, h⟩)
    · (wp_walk using mk; exact ⟨_, rfl, h⟩)
theorem call_enum1 {prog : Program} {w : World} {A : Around} {E : Value → Shared → Prop} {s : Shared} {v : Value} {o : Obj} {G : Heap → Prop} {Q : Value → Shared → Prop} (B : Begins v o G) (h1 : G s.heap)
    (h : ∀ h', IsEnum h' (s.heap.objs.size + 1) s.heap.objs.size 0 .none → h'.get? s.heap.objs.size = some o → (∀ b u, s.heap.get? b = some u → h'.get? b = some u) → Q (.ref (s.heap.objs.size + 1)) { s with heap := h' }) :
    wpAny (model prog w) A (call (.type "enumerate") [v]) Q E s := by
  refine callType_new PySem.F.called_enumerate (by decide) (PySem.F.typeCall_enumerate_1 _)
    (PySem.F.newCall_enumerate_1 _) (fun z => PySem.F.args_object_init_2 z _) PySem.F.entry_enumerate_new (meets_enum1 B) ⟨h1, ?_⟩
  have sz : (s.heap.push o).objs.size = s.heap.objs.size + 1 := Heap.size_push ..
  show _ ∧ _
  have en : ∀ u : Obj, u = { cls := .type "enumerate", data := .fields #[.none, .bool false, .ref s.heap.objs.size, rawInt 0, .none, .none] } → ((s.heap.push o).push u).get? (s.heap.objs.size + 1) = some u := by
    rintro u rfl
    rw [← sz]
    exact Heap.get?_push_size _ rfl
  rw [sz]
  exact ⟨⟨_, en _ rfl, rfl⟩, h _ (en _ rfl) (Heap.get?_push_of_some _ (Heap.get?_push_size _ B.free)) fun b u x => Heap.get?_push_of_some _ (Heap.get?_push_of_some _ x)⟩
def iEnumT (K : PySem.W.Frag) (tb : TA) : TI := fun st H R => tb st H fun vs H1 => ∃ a xs, vs = [.ref a] ∧ SqT K H1 a xs ∧ R (Itet K a) H1
theorem pi_enumT {X : Cx} {e : Expr} {tb : TA} {p pos tpos : Pos} {elts : List Expr} {kk : Nat} (hg : Gl X "enumerate") (hm : X.mg "enumerate" = none) (ha : PA X [e] tb) (hs : starEach [e] X.env = [(false, eval e X.env)] := by rfl) :
    PI X (.Tuple elts kk tpos) (.Call (.Name "enumerate" p) [e] [] pos) (iEnumT X.K tb) where
  run := fun pins s st H R I h => by
    refine Call_ (ld_blt I hg hm boot_enumerate (PyProof.Rows.callWith_type1 (thn (ha.run pos pins s st H _ I h) ?_) hs rfl))
    rintro us s1 ⟨vs, H1, I1, r1, a, xs, rfl, hq, q⟩
    cases r1 with
    | cons r rr =>
      cases rr
      cases r
      obtain ⟨its, rv, p', hz⟩ := I1.tuple hq
      have la : a < s1.heap.objs.size := by
        obtain ⟨o, ho, _⟩ := p'
        exact Heap.lt_size ho
      refine call_enum1 (begins_tuple a its.toArray) p' fun h' he hi hk => wpAny_pyIter_enum he ?_
      have I2 : Inv X pins st H1 { s1 with heap := h' } := I1.kept (t' := s1.toks) hk
      refine ⟨s1.heap.objs.size + 1, [s1.heap.objs.size + 1, s1.heap.objs.size], _, _, H1, rfl, I2, turn_enumT a (s1.heap.objs.size + 1) s1.heap.objs.size,
        ⟨⟨.none, he⟩, ⟨_, hi, rfl, rfl⟩, Nat.succ_ne_self _, Nat.ne_of_lt la, Nat.ne_of_gt (Nat.lt_succ_of_lt la)⟩, fun b hb => ?_, q⟩
      have ge : s1.heap.objs.size ≤ b := by
        rcases List.mem_cons.mp hb with z | z
        · rw [z]
          exact Nat.le_succ _
        · rw [List.mem_singleton] at z
          rw [z]
          exact Nat.le_refl _
      exact I1.fpOk ge (I1.hok.fresh ge)
/-! as data -/
def enumD (ds : List D) : List D := ds.zipIdx.map fun z => .tuple [.int (z.2 : Nat), z.1]
theorem serves_enumT {M M0 : MS} {H1 Hb : Hp} {a : Addr} {xs : List V} {ds : List D} (hm : ¬ M a) (hr : Rd H1 a (.tup xs)) (hl : RpL K M H1 xs ds) (h0 : ∀ l, M0 l → M l) (hb : ∀ b o, ¬ M b → H1 b = some o → Hb b = some o) :
    Serves K M0 Hb (Itet K a) (enumD ds) := by
  intro i M2 H2 s2 n2 l2
  have r2 : Rd H2 a (.tup xs) := rd_to (rd_to hr fun o e => hb a o hm e) fun o e => s2 a o e
  have lb : RpL K M0 Hb xs ds := RpL.to (fun b n _ z => n (h0 b z)) (fun b o n e => hb b o n e) ds xs hl
  have l2' : RpL K M2 H2 xs ds := RpL.to (fun b n ⟨o, e⟩ z => by
    rcases n2 b z with q | q
    · exact n q
    · rw [e] at q; cases q) (fun b o _ e => s2 b o e) ds xs lb
  have len : (enumD ds).length = ds.length := by simp [enumD]
  refine ⟨fun d hd => ?_, fun hi => ⟨xs, .inl r2, by rw [l2'.length, ← len]; exact hi⟩⟩
  unfold enumD at hd
  rw [List.getElem?_map, List.getElem?_zipIdx] at hd
  cases e : ds[i]? with
  | none => rw [e] at hd; cases hd
  | some z =>
    rw [e] at hd
    simp only [Option.map_some, Option.some.injEq, Nat.zero_add] at hd
    subst hd
    obtain ⟨v, hv, rv⟩ := l2'.get e
    refine ⟨⟨xs, v, .inl r2, hv⟩, fun x H' ⟨T, y, e1, hT, e2, q⟩ => ?_⟩
    have z := q xs (.inl r2)
    rw [hv] at z
    cases z
    subst e1 e2
    have sm : Same H2 (upd H2 T (.tup [.int (i : Nat), v])) := same_upd hT
    have nT : ¬ M2 T := fun z => by
      obtain ⟨o, e⟩ := l2 T z
      rw [hT] at e
      cases e
    exact ⟨sm, .tup nT (.inl upd_same) (.cons (.int _) (.one (rv.same sm)))⟩
def enS (g : Rho → Res D) (r : Rho) : Res (List D) := (g r).bind fun d => match d with
  | .tuple ds => .ok (enumD ds)
  | _ => .no
theorem di_enum {tpos : Pos} {elts : List Expr} {kk : Nat} (hm : X.mg "enumerate" = none) (h : DE X W a g) (hg : Gl X "enumerate" := by rfl) (hs1 : starEach (a :: []) X.env = (false, eval a X.env) :: starEach [] X.env := by rfl) :
    DI X W (.Tuple elts kk tpos) (.Call (.Name "enumerate" p) [a] [] pos) (enS g) :=
  ⟨(pi_enumT hg hm (pa_cons h.run pa_nil hs1) (hs1.trans (by rfl))).imp fun st H R ⟨r, M, en, q⟩ => by
    refine ⟨r, M, en, ?_⟩
    unfold enS at q
    cases hga : g r with
    | ex c => rw [hga] at q; exact q
    | no => rw [hga] at q; exact q
    | ok d =>
      rw [hga] at q
      cases d with
      | tuple ds =>
        intro v H1 s1 rv
        cases rv with
        | tup n r1 l1 => exact ⟨_, _, rfl, .inl r1, q _ H1 s1 fun M0 Hb h0 hb => serves_enumT n r1 l1 h0 hb⟩
      | none => exact q.elim
      | bool => exact q.elim
      | int => exact q.elim
      | str => exact q.elim
      | list => exact q.elim
      | dict => exact q.elim⟩
end
end PD

namespace PD
open PySem PySem.Spec PyProof.Rows L2

/-! ### shapes: what equality may be asked of -/
def Lay (n : Nat) (d : D) : Prop := d.canLay0 = true ∧ d.depth ≤ n
theorem lay_int {n : Nat} (i : Int) : Lay n (.int i) := ⟨by simp [PyData.canLay0], by simp [PyData.depth]⟩
theorem lay_bool {n : Nat} (b : Bool) : Lay n (.bool b) := ⟨by simp [PyData.canLay0], by simp [PyData.depth]⟩
theorem lay_none {n : Nat} : Lay n .none := ⟨by simp [PyData.canLay0], by simp [PyData.depth]⟩
theorem lay_str {n : Nat} {x : Str} (h : PyData.strOk x = true) : Lay n (.str x) := ⟨by simp [PyData.canLay0, h], by simp [PyData.depth]⟩
theorem lay_all {n : Nat} : ∀ {ds : List D}, (∀ d ∈ ds, Lay n d) → PyData.canLayAll0 ds = true ∧ PyData.depthAll ds ≤ n
  | [], _ => ⟨by simp [PyData.canLayAll0], by simp [PyData.depthAll]⟩
  | d :: ds, h => by
    obtain ⟨a, b⟩ := h d List.mem_cons_self
    obtain ⟨a2, b2⟩ := lay_all fun e he => h e (List.mem_cons_of_mem _ he)
    exact ⟨by simp [PyData.canLayAll0, a, a2], by simp only [PyData.depthAll]; omega⟩
theorem lay_list {n : Nat} {ds : List D} (h : ∀ d ∈ ds, Lay n d) : Lay (n + 1) (.list ds) := by
  obtain ⟨a, b⟩ := lay_all h
  exact ⟨by simp [PyData.canLay0, a], by simp only [PyData.depth]; omega⟩
theorem lay_tup {n : Nat} {ds : List D} (h : ∀ d ∈ ds, Lay n d) : Lay (n + 1) (.tuple ds) := by
  obtain ⟨a, b⟩ := lay_all h
  exact ⟨by simp [PyData.canLay0, a], by simp only [PyData.depth]; omega⟩
theorem Lay.shaped {n : Nat} {d : D} (h : Lay n d) (hn : n ≤ 64) : SeqAt.shaped d = true := by
  unfold SeqAt.shaped
  rw [h.1, Bool.true_and]
  exact decide_eq_true (Nat.le_trans h.2 hn)
theorem qEq_lay {m n : Nat} {d e : D} (h : Lay m d) (k : Lay n e) (hm : m ≤ 64 := by decide) (hn : n ≤ 64 := by decide) : qEq d e = .ok (.bool (PyData.eqv d e)) := by
  unfold qEq
  rw [if_pos ⟨h.shaped hm, k.shaped hn⟩]
theorem qNe_lay {m n : Nat} {d e : D} (h : Lay m d) (k : Lay n e) (hm : m ≤ 64 := by decide) (hn : n ≤ 64 := by decide) : qNe d e = .ok (.bool (!PyData.eqv d e)) := by
  unfold qNe
  rw [if_pos ⟨h.shaped hm, k.shaped hn⟩]
theorem Lay.self {n : Nat} {d : D} (h : Lay n d) : PyData.eqv d d = true := SeqAt.eqv_refl d h.1
@[simp] theorem eqv_bb (a b : Bool) : PyData.eqv (.bool a) (.bool b) = (a == b) := by rw [PyData.eqv]
@[simp] theorem eqv_ii (a b : Int) : PyData.eqv (.int a) (.int b) = (a == b) := by rw [PyData.eqv]
@[simp] theorem eqv_ss (a b : Str) : PyData.eqv (.str a) (.str b) = (a == b) := by rw [PyData.eqv]
theorem eqv_nil (ds : List D) : PyData.eqv (.list ds) (.list []) = ds.isEmpty := by
  cases ds <;> simp [PyData.eqv, PyData.eqvAll]

/-! ### loops that end early -/
def Out.last : Out → Bool
  | .rt _ => true
  | .ex _ _ => true
  | .no => true
  | _ => false
theorem forD_hit {asg : Asg} {f : Rho → Out} : ∀ (ds : List D) (r : Rho) (I : Nat → Rho → Prop) (k n : Nat) (d : D) (o : Out), o.last = true → ds[n]? = some d → I k r →
    (∀ i d r, i < n → ds[i]? = some d → I (k + i) r → ∃ ps r2, asg d = some ps ∧ (f (setsD r ps) = .nx r2 ∨ f (setsD r ps) = .ct r2) ∧ I (k + i + 1) r2) →
    (∀ r, I (k + n) r → ∃ ps, asg d = some ps ∧ f (setsD r ps) = o) → forD asg f ds r = o
  | [], _, _, _, _, _, _, _, h, _, _, _ => by simp at h
  | d0 :: ds, r, I, k, 0, d, o, ho, h, h0, _, hd => by
    have e := Option.some.inj h
    subst e
    obtain ⟨ps, e1, e2⟩ := hd r h0
    unfold forD
    rw [e1]
    simp only [e2]
    cases o <;> first | rfl | cases ho
  | d0 :: ds, r, I, k, n + 1, d, o, ho, h, h0, st, hd => by
    obtain ⟨ps, r2, e, hf, h2⟩ := st 0 d0 r (Nat.succ_pos n) rfl h0
    have rest := forD_hit ds r2 I (k + 1) n d o ho (by simpa using h) h2 (fun i d r hi hd hI => by
      have q := st (i + 1) d r (by omega) (by simpa using hd) (by rw [show k + (i + 1) = k + 1 + i by omega]; exact hI)
      rw [show k + (i + 1) + 1 = k + 1 + i + 1 by omega] at q
      exact q) (fun r hI => hd r (by rw [show k + (n + 1) = k + 1 + n by omega]; exact hI))
    unfold forD
    rw [e]
    rcases hf with hf | hf
    · simp only [hf]; exact rest
    · simp only [hf]; exact rest
theorem enumD_get (ds : List D) (i : Nat) : (enumD ds)[i]? = ds[i]?.map fun d => .tuple [.int (i : Nat), d] := by
  unfold enumD
  rw [List.getElem?_map, List.getElem?_zipIdx]
  cases ds[i]? with
  | none => rfl
  | some d => simp
theorem enumD_length (ds : List D) : (enumD ds).length = ds.length := by simp [enumD]
theorem rg1_ok {g : Rho → Res D} (n : Nat) (h : n ≤ 4000) (r : Rho) (e : g r = .ok (.int (n : Int))) : rg1 g r = .ok (rngD 0 n) := by
  have c : ∃ j : Int, j = n ∧ j < 2 ^ 62 ∧ -(2 ^ 62) ≤ j := by
    have a : (n : Int) ≤ 4000 := Int.ofNat_le.mpr h
    have b : (0 : Int) ≤ n := Int.natCast_nonneg n
    exact ⟨n, rfl, Int.lt_of_le_of_lt a (by decide), Int.le_trans (by decide) b⟩
  obtain ⟨j, ej, hj⟩ := c
  unfold rg1
  rw [e, ← ej]
  simp only [bind_ok]
  rw [if_pos hj, ej, Int.toNat_natCast]
theorem rngD_at {lo : Int} {n i : Nat} (h : i < n) : (rngD lo n)[i]? = some (.int (lo + i)) := by simp [rngD, h]

theorem compD_map {α : Type} {i : Nat} {G : Rho → Res Bool} {F : Rho → Res D} {r : Rho} (dat out : α → D) (p : α → Bool) : ∀ xs : List α, (∀ x ∈ xs, G (r.set i (.val (dat x))) = .ok (p x)) → (∀ x ∈ xs, p x = true → F (r.set i (.val (dat x))) = .ok (out x)) →
    compD (aName i) G F r (xs.map dat) = .ok ((xs.filter p).map out)
  | [], _, _ => rfl
  | x :: xs, hG, hF => by
    have ih := compD_map dat out p xs (fun y hy => hG y (List.mem_cons_of_mem _ hy)) (fun y hy => hF y (List.mem_cons_of_mem _ hy))
    have g := hG x List.mem_cons_self
    have f := hF x List.mem_cons_self
    rw [List.map_cons]
    unfold compD
    show (G (r.set i (.val (dat x)))).quiet.bind _ = _
    rw [g]
    cases hp : p x with
    | false =>
      rw [List.filter_cons_of_neg (by rw [hp]; decide)]
      exact ih
    | true =>
      rw [List.filter_cons_of_pos hp, List.map_cons]
      show (F (r.set i (.val (dat x)))).quiet.bind _ = _
      rw [f hp]
      show (compD (aName i) G F r (xs.map dat)).bind _ = _
      rw [ih]
      rfl

/-! ### slices -/
theorem cut_to {α : Type} (ds : List α) {n : Nat} (h : n ≤ ds.length) : cutD ds none (some (n : Int)) = ds.take n := by
  unfold cutD
  rw [HT.sIx_none, HT.sIx_nat]
  simp [h]
theorem cut_from {α : Type} (ds : List α) {n : Nat} (h : n ≤ ds.length) : cutD ds (some (n : Int)) none = ds.drop n := by
  unfold cutD
  rw [HT.sIx_none, HT.sIx_nat, Nat.min_eq_left h, List.take_of_length_le]
  simp

/-! ### entries of a history -/
abbrev sStart : Str := PySem.Str.ofString "start"
abbrev sRead : Str := PySem.Str.ofString "read"
abbrev sChange : Str := PySem.Str.ofString "change"
theorem ok_start : PyData.strOk sStart = true := by decide +kernel
theorem ok_read : PyData.strOk sRead = true := by decide +kernel
theorem ok_change : PyData.strOk sChange = true := by decide +kernel
theorem ne_sr : (sStart == sRead) = false := by decide +kernel
theorem ne_cr : (sChange == sRead) = false := by decide +kernel
theorem ne_sc : (sStart == sChange) = false := by decide +kernel
theorem ne_rc : (sRead == sChange) = false := by decide +kernel
theorem ne_rs : (sRead == sStart) = false := by decide +kernel
theorem ne_cs : (sChange == sStart) = false := by decide +kernel
theorem q_sr : qEq (.str sStart) (.str sRead) = .ok (.bool false) := by rw [qEq_str ok_start ok_read, ne_sr]
theorem q_cr : qEq (.str sChange) (.str sRead) = .ok (.bool false) := by rw [qEq_str ok_change ok_read, ne_cr]
theorem q_rr : qEq (.str sRead) (.str sRead) = .ok (.bool true) := by rw [qEq_str ok_read ok_read]; simp
theorem q_sc : qEq (.str sStart) (.str sChange) = .ok (.bool false) := by rw [qEq_str ok_start ok_change, ne_sc]
theorem q_rc : qEq (.str sRead) (.str sChange) = .ok (.bool false) := by rw [qEq_str ok_read ok_change, ne_rc]
theorem q_cc : qEq (.str sChange) (.str sChange) = .ok (.bool true) := by rw [qEq_str ok_change ok_change]; simp
inductive Ent where
  | start (d s v : Int) | read (d v : Int) (x : Bool) | change (d v s w : Int)
  deriving DecidableEq
def Ent.dat : Ent → D
  | .start d s v => .tuple [.str sStart, .int d, .int s, .int v]
  | .read d v x => .tuple [.str sRead, .int d, .int v, .bool x]
  | .change d v s w => .tuple [.str sChange, .int d, .int v, .int s, .int w]
def Ent.name : Ent → Str
  | .start .. => sStart
  | .read .. => sRead
  | .change .. => sChange
def Ent.day : Ent → Int
  | .start d _ _ => d
  | .read d _ _ => d
  | .change d _ _ _ => d
def Ent.two : Ent → Int
  | .start _ s _ => s
  | .read _ v _ => v
  | .change _ v _ _ => v
theorem Ent.at0 (e : Ent) : qIx e.dat (.int 0) = .ok (.str e.name) := by cases e <;> simp [Ent.dat, Ent.name, qIx, items]
theorem Ent.at1 (e : Ent) : qIx e.dat (.int 1) = .ok (.int e.day) := by cases e <;> simp [Ent.dat, Ent.day, qIx, items]
theorem Ent.at2 (e : Ent) : qIx e.dat (.int 2) = .ok (.int e.two) := by cases e <;> simp [Ent.dat, Ent.two, qIx, items]
theorem Ent.ok (e : Ent) : PyData.strOk e.name = true := by
  cases e
  · exact ok_start
  · exact ok_read
  · exact ok_change
theorem Ent.lay (e : Ent) : Lay 1 e.dat := by
  cases e with
  | start d s v =>
    exact lay_tup fun d hd => by
      simp only [List.mem_cons, List.not_mem_nil, or_false] at hd
      rcases hd with rfl | rfl | rfl | rfl
      · exact lay_str ok_start
      · exact lay_int _
      · exact lay_int _
      · exact lay_int _
  | read d v x =>
    exact lay_tup fun d hd => by
      simp only [List.mem_cons, List.not_mem_nil, or_false] at hd
      rcases hd with rfl | rfl | rfl | rfl
      · exact lay_str ok_read
      · exact lay_int _
      · exact lay_int _
      · exact lay_bool _
  | change d v s w =>
    exact lay_tup fun d hd => by
      simp only [List.mem_cons, List.not_mem_nil, or_false] at hd
      rcases hd with rfl | rfl | rfl | rfl | rfl
      · exact lay_str ok_change
      · exact lay_int _
      · exact lay_int _
      · exact lay_int _
      · exact lay_int _
theorem Ent.eqv_day {e f : Ent} (h : e.day ≠ f.day) : PyData.eqv e.dat f.dat = false := by
  cases e <;> cases f <;> simp_all [Ent.dat, Ent.day, PyData.eqv, PyData.eqvAll]
theorem Ent.eqv_self (e : Ent) : PyData.eqv e.dat e.dat = true := e.lay.self
abbrev datL (es : List Ent) : List D := es.map Ent.dat
abbrev hist (es : List Ent) : D := .tuple (datL es)
theorem datL_get (es : List Ent) (i : Nat) : (datL es)[i]? = es[i]?.map Ent.dat := by simp [datL]
theorem lay_hist (es : List Ent) : Lay 2 (hist es) := lay_tup fun d hd => by
  obtain ⟨e, _, rfl⟩ := List.mem_map.mp hd
  exact e.lay
theorem lay_datL (es : List Ent) : Lay 2 (.list (datL es)) := lay_list fun d hd => by
  obtain ⟨e, _, rfl⟩ := List.mem_map.mp hd
  exact e.lay
/-- an entry that may come on the day d, at the size s -/
def Ent.fits (s : Int) : Ent → Prop
  | .start .. => False
  | .read _ v _ => 0 ≤ v ∧ v < s
  | .change _ v z w => (0 ≤ v ∧ v < s) ∧ (2 ≤ z ∧ z ≤ 1000000000000) ∧ 0 ≤ w ∧ w < z
def Ent.size (s : Int) : Ent → Int
  | .start _ z _ => z
  | .read .. => s
  | .change _ _ z _ => z
def Ent.shown : Ent → Int
  | .start _ _ v => v
  | .read _ v _ => v
  | .change _ _ _ w => w
/-- a history as the scripts grow it: last day, size and what is shown -/
inductive Hist : List Ent → Int → Int → Int → Prop where
  | start {d s v : Int} : 0 ≤ d → d < 12 → 2 ≤ s → s ≤ 1000000000000 → 0 ≤ v → v < s → Hist [.start d s v] d s v
  | more {es : List Ent} {l s v : Int} {e : Ent} : Hist es l s v → l < e.day → e.day ≤ l + 60 → e.fits s → Hist (es ++ [e]) e.day (e.size s) e.shown
theorem Hist.facts {es : List Ent} {l s v : Int} (h : Hist es l s v) : (∃ e, es.getLast? = some e ∧ e.day = l) ∧ es.length ≠ 0 ∧ (∀ e ∈ es, 0 ≤ e.day ∧ e.day ≤ l) ∧ l ≤ 12 + 60 * es.length ∧ 2 ≤ s ∧ s ≤ 1000000000000 ∧ 0 ≤ v ∧ v < s := by
  induction h with
  | start h1 h2 h3 h4 h5 h6 =>
    refine ⟨⟨_, rfl, rfl⟩, by simp, fun e he => ?_, by simp; omega, h3, h4, h5, h6⟩
    rw [List.mem_singleton] at he
    subst he
    exact ⟨h1, Int.le_refl _⟩
  | @more es l s v e h h1 h2 h3 ih =>
    obtain ⟨_, k0, k, kl, k1, k2, k3, k4⟩ := ih
    refine ⟨⟨e, by simp, rfl⟩, by simp, fun f hf => ?_, by rw [List.length_append]; simp; omega, ?_⟩
    · rcases List.mem_append.mp hf with z | z
      · have := k f z
        exact ⟨this.1, by omega⟩
      · rw [List.mem_singleton] at z
        subst z
        cases es with
        | nil => simp at k0
        | cons a t =>
          have := k a List.mem_cons_self
          exact ⟨by omega, Int.le_refl _⟩
    · cases e with
      | start => exact h3.elim
      | read d x b =>
        obtain ⟨a1, a2⟩ : 0 ≤ x ∧ x < s := h3
        exact ⟨k1, k2, a1, a2⟩
      | change d x z w =>
        obtain ⟨_, b, c1, c2⟩ : (0 ≤ x ∧ x < s) ∧ (2 ≤ z ∧ z ≤ 1000000000000) ∧ 0 ≤ w ∧ w < z := h3
        exact ⟨b.1, b.2, c1, c2⟩
theorem Hist.days {es : List Ent} {l s v : Int} (h : Hist es l s v) : es.Pairwise fun a b => a.day < b.day := by
  induction h with
  | start => exact List.pairwise_singleton _ _
  | @more es l s v e h h1 h2 h3 ih =>
    refine List.pairwise_append.mpr ⟨ih, List.pairwise_singleton _ _, fun a ha b hb => ?_⟩
    rw [List.mem_singleton] at hb
    subst hb
    have := (h.facts.2.2.1 a ha).2
    omega
/-- one entry a day -/
theorem one_day {es : List Ent} (h : es.Pairwise fun a b => a.day < b.day) {i j : Nat} {e f : Ent} (hi : es[i]? = some e) (hj : es[j]? = some f) (he : e.day = f.day) : i = j := by
  obtain ⟨i1, rfl⟩ := List.getElem?_eq_some_iff.mp hi
  obtain ⟨j1, rfl⟩ := List.getElem?_eq_some_iff.mp hj
  have p := List.pairwise_iff_getElem.mp h
  rcases Nat.lt_trichotomy i j with q | q | q
  · have := p i j i1 j1 q
    omega
  · exact q
  · have := p j i j1 i1 q
    omega
/-- a reading of the day that stands -/
def Ent.hit (day : Int) : Ent → Bool
  | .read d _ x => d == day && !x
  | _ => false
def Ent.mark : Ent → Ent
  | .read d v _ => .read d v true
  | e => e
theorem Ent.mark_day (e : Ent) : e.mark.day = e.day := by cases e <;> rfl
theorem Ent.hit_day {day : Int} {e : Ent} (h : e.hit day = true) : ∃ v, e = .read day v false := by
  cases e with
  | read d v x =>
    simp only [Ent.hit, Bool.and_eq_true, beq_iff_eq, Bool.not_eq_true'] at h
    exact ⟨v, by rw [h.1, h.2]⟩
  | start => cases h
  | change => cases h
end PD

namespace PD
open PySem PySem.Spec PyProof.Rows L2
variable {K : PySem.W.Frag}
section
variable {X : Cx} {W : PWs} {e a b c : Expr} {es : List Expr} {f : Rho → Out} {g ga gb : Rho → Res D} {gl : Rho → Res (List D)} {gt : Rho → Res Bool} {pos p : Pos} {cs : Nat → Addr}
/-! ### x += .., x -= .. of whole numbers -/
def opI (h : Int → Int → Int) : D → D → Res D
  | .int i, .int j => .ok (.int (h i j))
  | _, _ => .no
theorem ds_aug {i : Nat} {x : Str} {op : Operator} {h : Int → Int → Int} {pos' : Pos} (hN : X.N.Nodup) (hi : X.N[i]? = some x) (hx : Loc X.env.scope x) (he : DW X W e g) (ho : PIp X op (ipI h)) (hf : X.fn x = true ∨ X.env.scope.names.lookup x = some .local := by first | exact .inl rfl | exact .inr rfl | assumption) :
    DS X W (.AugAssign (.Name x pos') op e pos) (augE i (opI h) g) :=
  ⟨fun M0 H0 => (ps_aug hN hi hx he.run ho hf).imp fun E st H ⟨r, M, t, q⟩ => by
    unfold augE at q
    cases hr : r[i]? with
    | none => rw [hr] at q; exact q.elim
    | some z =>
      rw [hr] at q
      cases z with
      | no => exact q.elim
      | exc a => exact q.elim
      | own ds => exact q.elim
      | val d =>
        obtain ⟨v, hv, rv⟩ := t.en.slot i _ hr
        refine ⟨v, hv, r, M, t.en, ?_⟩
        change DemS X.K W M0 H0 E (((g r).bind fun y => opI h d y).fold (fun z => .nx (r.set i (.val z))) (fun c => .ex c r) .no) at q
        cases hg : g r with
        | ex c => rw [hg] at q; exact fun H1 s1 => q M st H1 (t.same s1)
        | no => rw [hg] at q; exact q
        | ok y =>
          rw [hg] at q
          intro u H1 s1 ru
          cases d <;> first
            | exact q.elim
            | skip
          cases y <;> first
            | exact q.elim
            | skip
          rename_i j k
          refine ⟨j, k, rv.weak.int_, ru.int_, ?_⟩
          exact q M _ H1 ((t.same s1).set (.int _))⟩
/-! ### l.count(x), l.index(x) of flat items -/
def bCount (d e : D) : Res D := match d with
  | .list ds => if flatD e = true ∧ ds.all flatD = true then .ok (.int (ds.countP fun y => PyData.eqv y e : Nat)) else .no
  | _ => .no
def lstE (f : D → D → Res D) (ga gb : Rho → Res D) (r : Rho) : Res D := (ga r).bind fun d => match d with
  | .list ds => (gb r).bind fun y => f (.list ds) y
  | _ => .no
def rCountF (K : PySem.W.Frag) : V → List V → Hp → VK → Prop := fun x xs H Q => ∃ (l : Addr) (ys : List V) (y : V), x = .ref l ∧ xs = [y] ∧ SqL K H l ys ∧ flatV y = true ∧ ys.all flatV = true ∧ Q (.int (ys.countP fun z => eqV z y : Nat)) H
theorem countU {y : V} : ∀ {ys : List V} {us : List Value}, Vals ys us → ys.all flatV = true → us.countP (eqU y) = ys.countP fun z => eqV z y
  | _, _, .nil, _ => rfl
  | z :: ys, u :: us, .cons r t, h => by
    rw [List.all_cons, Bool.and_eq_true] at h
    rw [List.countP_cons, List.countP_cons, countU t h.2, eqU_of r h.1]
theorem mtr_countF : MtR X "list.count" (rCountF X.K) := by
  intro pins s st H x xs v us Q I rx rxs h
  obtain ⟨l, ys, y, rfl, rfl, hs, fy, fys, q⟩ := h
  cases rx
  obtain ⟨u, rfl, ru⟩ := rxs.one
  obtain ⟨its, rv, ⟨⟨cls, dd, data, sl⟩, n, ho, hc, hdn, hd⟩, hlen⟩ := I.list hs
  simp only at hc hd
  subst hc hd
  refine call_meets PySem.F.slot_list_count ⟨_, ho, rfl⟩ PySem.F.entry_list_count
    (PySem.F.args_list_count_2 _ _) (SeqAt.list_countAt l its.toArray n dd sl u (eqU y)) ⟨ho, fun z hz => mem_eqAt ru fy rv fys z (by simpa using hz), ?_⟩
  refine ⟨.int (ys.countP fun z => eqV z y : Nat), H, I.tok _, ⟨s.toks, ?_⟩, q⟩
  show Value.int ((its.toArray.toList.countP (eqU y) : Nat) : Int) s.toks = Value.int ((ys.countP fun z => eqV z y : Nat) : Int) s.toks
  rw [← countU rv fys]
theorem countV {M : MS} {H : Hp} {w : V} {e : D} (rw' : Rw K M H w e) (fe : flatD e = true) : ∀ {vs : List V} {ds : List D}, RpL K M H vs ds → ds.all flatD = true → (vs.countP fun z => eqV z w) = ds.countP fun y => PyData.eqv y e
  | _, _, .nil, _ => rfl
  | v :: vs, d :: ds, .cons r t, h => by
    rw [List.all_cons, Bool.and_eq_true] at h
    rw [List.countP_cons, List.countP_cons, countV rw' fe t h.2, eqV_ok r.weak rw' h.1 fe]
theorem de_count {apos cpos : Pos} (ha : DW X W a ga) (hb : DW X W b gb) (hbase : attributeBase a "count" X.env (eval a X.env) = eval a X.env := by rfl)
    (hfew : ((backTo cpos (starEach (b :: []) X.env)).all (fun x => !x.1) && (backToKw cpos (keywordEach [] X.env)).all (fun x => x.1.isSome) && decide ((b :: []).length + ([] : List Keyword).length + (if ([] : List Keyword).isEmpty then 0 else 1) < 30)) = true := by rfl)
    (hline : (apos.endLine == cpos.line) = true := by rfl) (hs : starEach (b :: []) X.env = (false, eval b X.env) :: starEach [] X.env := by rfl) (hplain : (backTo cpos (starEach [] X.env)).any (·.1) = false := by rfl) :
    DE X W (.Call (.Attribute a "count" apos) [b] [] cpos) (lstE bCount ga gb) :=
  ⟨(pe_bm PySem.F.plainAttrs_list PySem.F.slot_list_count PySem.F.type_list_count mtr_countF ha.run (pa_cons hb.run pa_nil hs) hbase hfew hline hs hplain).imp fun st H Q ⟨r, M, en, q⟩ => by
    refine ⟨r, M, en, Dem.then (R := Rp) (Ra := Rw) en q fun d v H1 _ s1 en1 r1 q1 => ?_⟩
    cases d with
    | list ds =>
      obtain ⟨l, ys, rfl, hs, lv⟩ := r1.lst_
      refine ⟨.inl ⟨rfl, ys, hs⟩, r, M, en1, Dem.then (R := Rp) (Ra := Rw) en1 q1 fun d2 v2 H2 _ s2 en2 r2 q2 => ?_⟩
      unfold bCount at q2
      simp only at q2
      by_cases hc : flatD d2 = true ∧ ds.all flatD = true
      · rw [if_pos hc] at q2
        refine ⟨l, ys, v2, rfl, rfl, s2.seq hs, flat_ok r2 hc.1, flatL_ok (lv.same s2) hc.2, q2 _ H2 (Same.refl _) ?_⟩
        rw [countV r2 hc.1 (lv.same s2) hc.2]
        exact .int _
      · rw [if_neg hc] at q2
        exact q2.elim
    | none => exact q1.elim
    | bool => exact q1.elim
    | int => exact q1.elim
    | str => exact q1.elim
    | tuple => exact q1.elim
    | dict => exact q1.elim⟩
def bIndex (d e : D) : Res D := match d with
  | .list ds => if flatD e = true ∧ ds.all flatD = true then (match ds.findIdx? fun y => PyData.eqv y e with
    | some j => .ok (.int (j : Nat))
    | none => .no) else .no
  | _ => .no
theorem de_index {apos cpos : Pos} (ha : DW X W a ga) (hb : DW X W b gb) (hbase : attributeBase a "index" X.env (eval a X.env) = eval a X.env := by rfl)
    (hfew : ((backTo cpos (starEach (b :: []) X.env)).all (fun x => !x.1) && (backToKw cpos (keywordEach [] X.env)).all (fun x => x.1.isSome) && decide ((b :: []).length + ([] : List Keyword).length + (if ([] : List Keyword).isEmpty then 0 else 1) < 30)) = true := by rfl)
    (hline : (apos.endLine == cpos.line) = true := by rfl) (hs : starEach (b :: []) X.env = (false, eval b X.env) :: starEach [] X.env := by rfl) (hplain : (backTo cpos (starEach [] X.env)).any (·.1) = false := by rfl) :
    DE X W (.Call (.Attribute a "index" apos) [b] [] cpos) (lstE bIndex ga gb) :=
  ⟨(pe_bm PySem.F.plainAttrs_list PySem.F.slot_list_index PySem.F.type_list_index mt_index ha.run (pa_cons hb.run pa_nil hs) hbase hfew hline hs hplain).imp fun st H Q ⟨r, M, en, q⟩ => by
    refine ⟨r, M, en, Dem.then (R := Rp) (Ra := Rw) en q fun d v H1 _ s1 en1 r1 q1 => ?_⟩
    cases d with
    | list ds =>
      obtain ⟨l, ys, rfl, hs, lv⟩ := r1.lst_
      refine ⟨.inl ⟨rfl, ys, hs⟩, r, M, en1, Dem.then (R := Rp) (Ra := Rw) en1 q1 fun d2 v2 H2 _ s2 en2 r2 q2 => ?_⟩
      unfold bIndex at q2
      simp only at q2
      by_cases hc : flatD d2 = true ∧ ds.all flatD = true
      · rw [if_pos hc] at q2
        cases hj : ds.findIdx? fun y => PyData.eqv y d2 with
        | none => rw [hj] at q2; exact q2.elim
        | some j =>
          rw [hj] at q2
          obtain ⟨hl, hp, hno⟩ := List.findIdx?_eq_some_iff_getElem.mp hj
          have lv2 := lv.same s2
          obtain ⟨z, hz, rz⟩ := lv2.get (List.getElem?_eq_getElem hl)
          have fl : ∀ (i : Nat) (h : i < ds.length), flatD ds[i] = true := fun i h => List.all_eq_true.mp hc.2 _ (List.getElem_mem h)
          refine ⟨l, ys, v2, j, z, rfl, rfl, s2.seq hs, flat_ok r2 hc.1, flatL_ok lv2 hc.2, hz, ?_, fun m z' hm hz' => ?_, q2 _ H2 (Same.refl _) (.int _)⟩
          · rw [eqV_ok rz.weak r2 (fl j hl) hc.1]
            exact hp
          · obtain ⟨dm, hdm, rm⟩ := lv2.getV hz'
            obtain ⟨lm, rfl⟩ := List.getElem?_eq_some_iff.mp hdm
            rw [eqV_ok rm.weak r2 (fl m lm) hc.1]
            exact Bool.eq_false_iff.mpr (hno m hm)
      · rw [if_neg hc] at q2
        exact q2.elim
    | none => exact q1.elim
    | bool => exact q1.elim
    | int => exact q1.elim
    | str => exact q1.elim
    | tuple => exact q1.elim
    | dict => exact q1.elim⟩
end
/-! ### a def that is handed the error which the suite holds -/
def exE (i : Nat) (a : Addr) (r : Res D) (rho : Rho) : Res D := match rho[i]? with
  | some (.exc a') => if a' = a then r else .no
  | _ => .no
def spE (K : PySem.W.Frag) (r : Res D) (H : Hp) (Q : VK) : Prop := match r with
  | .ok d => ∃ M0 : MS, (∀ l, M0 l → ∃ o, H l = some o) ∧ ∀ v H', Same H H' → Rp K M0 H' v d → Q v H'
  | _ => False
structure FnE (cs : Nat → Addr) (P : Program) (w : World) (K : PySem.W.Frag) (mg : Str → Option Value) (base : Heap) (k : Nat) (f : Addr) (fd : FuncData) (y : Str) (g : Nat → Res D) : Prop where
  run : ∀ (A : Around) (outer : List Env) (s : Shared) (H : Hp) (args : Args) (Q : VK) (p : Addr × Obj) (c : Nat), L2H.RoomH k A → A.handled = some (.ref p.1) → L2H.PinOk outer H s p → Zc (.ref (cs c)) none p.2 → (∃ vs, p.2.data = .fields vs) → Env0 P w K mg base A outer s H →
    BindsTo s fd args [(y, .ref p.1)] → spE K (g c) H Q → codeAny (model P w) A (.call (.ref f) args) (CR (L2.CX P w) outer P w H s Q fun _ _ _ => False) s
open Classical in
/-- what the body comes to, wherever the error lies -/
noncomputable def resE (fb : Nat → Addr → Rho → Out) (n : Nat) (c : Nat) : Res D :=
  if h : ∃ o, ∀ a, outR (fb c a (Sl.exc a :: List.replicate (n - 1) Sl.no)) = o then choose h else .no
theorem resE_eq {fb : Nat → Addr → Rho → Out} {n c : Nat} {o : Res D} (h : ∀ a, outR (fb c a (Sl.exc a :: List.replicate (n - 1) Sl.no)) = o) : resE fb n c = o := by
  have ex : ∃ o, ∀ a, outR (fb c a (Sl.exc a :: List.replicate (n - 1) Sl.no)) = o := ⟨o, h⟩
  unfold resE
  rw [dif_pos ex, ← Classical.choose_spec ex 0]
  exact h 0
section
variable {P : Program} {w : World} {K : PySem.W.Frag} {mg : Str → Option Value} {base : Heap} {N : List Str} {qual : Str} {st : Stmt} {f : Addr} {cs : Nat → Addr}
theorem start_exc {M : MS} {H : Hp} {N : List Str} {a : Addr} (live : ∀ l, M l → ∃ o, H l = some o) (hN : N.length ≠ 0) : En K M H (L2.start N [V.ref a]) (Sl.exc a :: List.replicate (N.length - 1) Sl.no) := by
  refine ⟨live, fun i z e => ?_, by unfold L2.start; simp <;> omega⟩
  cases i with
  | zero =>
    cases e
    rfl
  | succ i =>
    rw [List.getElem?_cons_succ, List.getElem?_replicate] at e
    split at e
    · cases e
      exact trivial
    · cases e
theorem fnE_ok {x y : Str} {fd : FuncData} {k : Nat} {fb : Nat → Addr → Rho → Out} (F : Fun K x qual st f fd) (S : FnScope N [y] (defScope st))
    (hb : ∀ (cdv : Value) (A : Around) (outer : List Env) (s : Shared) (H : Hp) (E : XK) (c : Nat) (a : Addr) (oe : Obj), L2H.RoomH k (CxD P w K mg base N qual st f cdv A outer s H E).A → Zc (.ref (cs c)) none oe → (∃ vs, oe.data = .fields vs) →
      DSs ((CxD P w K mg base N qual st f cdv A outer s H E).suite a ((a, oe) :: [])) W0 (defBody st) (fb c a)) :
    FnE cs P w K mg base (k + 1) f fd y (resE fb N.length) := by
  obtain ⟨oc, od, kV, doc, pm, an, cdv, ct, osl, rfl, lk, hcd⟩ := F.ex
  refine ⟨fun A outer s H args Q p c hr hh hpin hz hf e0 hbd hsp => ?_⟩
  have inK : K.In s.heap := e0.mod.kin.keeps fun b o e => (e0.bs b o e).1
  have lim : s.heap.NoLimit := e0.mod.nolimit.keeps fun b o e => (e0.bs b o e).1
  have names : ∀ z ∈ [(y, Value.ref p.1)], (defScope st).names.lookup z.1 = some .local ∨ ((defScope st).names.lookup z.1 = some .cell ∧ ((cellsFrom (s.heap.objs.size + 1) (defScope st).names []).lookup z.1).isSome = true) := fun z hz => by
    rw [List.mem_singleton] at hz
    subst hz
    rcases S.par y List.mem_cons_self with q | q
    · exact .inl q
    · exact .inr ⟨q, PySem.W.cellsFrom_some _ _ _ (.inl q)⟩
  refine codeAny_call_function hr.depth (inK _ _ lk) rfl S.co S.gen rfl (PySem.W.codeRec_of inK hcd) (hbd _ _ _ _ ?_)
  refine wpAny_newFunctionEnv_cells S.kind names fun env he s1 xx => ?_
  subst he
  refine ⟨lim.keeps xx.toInCall.keep, codeAny_func ?_⟩
  have I := L2H.inv_startH (CX := L2.CX P w) (f := f) (cd := cdv) (E := fun _ _ _ => False) (vs := [V.ref p.1]) (us := [Value.ref p.1]) S hpin e0 rfl (.cons rfl .nil) xx
  have eA : (A.deeper (envOfC qual (defScope st) s.heap.objs.size f cdv)).mark (some (.ref p.1)) = A.deeper (envOfC qual (defScope st) s.heap.objs.size f cdv) := by
    have same : ∀ (B : Around) (v : Value), B.handled = some v → B.mark (some v) = B := fun B v h => by
      obtain ⟨b1, b2, b3, b4, b5⟩ := B
      cases h
      rfl
    exact same _ _ hh
  have I2 : Inv ((CxD P w K mg base N qual st f cdv A outer s H fun _ _ _ => False).suite p.1 [p]) [] (L2.start N [V.ref p.1]) H s1 := by
    have J := I.wish (fun _ _ => False)
    unfold Cx.suite
    have e2 : (CxD P w K mg base N qual st f cdv A outer s H fun _ _ _ => False).A.mark (some (.ref p.1)) = (CxD P w K mg base N qual st f cdv A outer s H fun _ _ _ => False).A := eA
    rw [e2]
    exact J
  have rm : L2H.RoomH k (CxD P w K mg base N qual st f cdv A outer s H fun _ _ _ => False).A := hr.deeper _
  have body := hb cdv A outer s H (fun _ _ _ => False) c p.1 p.2 rm hz hf
  unfold spE at hsp
  cases ho : resE fb N.length c with
  | ex c2 => rw [ho] at hsp; exact hsp.elim
  | no => rw [ho] at hsp; exact hsp.elim
  | ok d =>
    rw [ho] at hsp
    obtain ⟨M0, live, q⟩ := hsp
    have out : outR (fb c p.1 (Sl.exc p.1 :: List.replicate (N.length - 1) Sl.no)) = .ok d := by
      unfold resE at ho
      split at ho
      · rename_i ex
        rw [Classical.choose_spec ex p.1, ho]
      · cases ho
    have hN : N.length ≠ 0 := fun z => by
      have := S.pre
      rw [List.eq_nil_of_length_eq_zero z] at this
      cases this
    have en := start_exc (K := K) (a := p.1) live hN
    have sts : Sts K M0 H M0 H (L2.start N [V.ref p.1]) (Sl.exc p.1 :: List.replicate (N.length - 1) Sl.no) := by
      have noown : ∀ (i : Nat) (zs : List D), (Sl.exc p.1 :: List.replicate (N.length - 1) Sl.no)[i]? = some (.own zs) → False := fun i zs e => by
        cases i with
        | zero => cases e
        | succ i =>
          rw [List.getElem?_cons_succ, List.getElem?_replicate] at e
          split at e <;> cases e
      exact ⟨en, Same.refl _, fun _ z => z, fun _ z => .inl z, en.len, fun i j l xs ys e => (noown _ _ e).elim, fun i l xs e => (noown _ _ e).elim⟩
    have run := (body.run M0 H).run [] s1 _ H { nx := fun _ H' => Q .non H', rt := Q } I2 ⟨_, M0, sts, by
      revert out
      cases fb c p.1 (Sl.exc p.1 :: List.replicate (N.length - 1) Sl.no) with
      | nx r => exact fun out M2 st2 H2 t2 => q .non H2 t2.keep (by cases out; exact .non)
      | rt d2 => exact fun out v H2 s2 rv => q v H2 s2 (by cases out; exact rv)
      | ex c2 r => exact fun out => by cases out
      | bk r => exact fun out => by cases out
      | ct r => exact fun out => by cases out
      | no => exact fun out => by cases out⟩
    have run2 : wpAny (model P w) (A.deeper (envOfC qual (defScope st) s.heap.objs.size f cdv)) (execs (defBody st) (envOfC qual (defScope st) s.heap.objs.size f cdv)) (SP ((CxD P w K mg base N qual st f cdv A outer s H fun _ _ _ => False).suite p.1 [p]) [] { nx := fun _ H' => Q .non H', rt := Q }) (fun _ _ => False) s1 := by
      rw [← eA]
      exact run
    refine wpAny_mono run2 (fun fl s' hs => ?_) fun e s' hs => hs.elim
    have fin : ∀ {st' : L2.St} {H' : Hp} {v : V} {u : Value}, Inv ((CxD P w K mg base N qual st f cdv A outer s H fun _ _ _ => False).suite p.1 [p]) [] st' H' s' → RelV v u → Q v H' → CE outer P w H s Q u s' :=
      fun {st' H' v u} J rv qv => ⟨v, H', J.os, J.bare, J.base, J.hok, rv, qv⟩
    cases fl with
    | ret u =>
      obtain ⟨v, st', H', J, rv, qv⟩ := hs
      exact fin J rv qv
    | next =>
      obtain ⟨st', H', J, qv⟩ := hs
      exact fin (v := V.non) (u := Value.none) J rfl qv
    | brk => exact hs.choose_spec.choose_spec.2.elim
    | cont => exact hs.choose_spec.choose_spec.2.elim
end
theorem hotRoom {k : Nat} {A : Around} {h : Option Value} (r : Room k A) : L2H.RoomH k (A.mark h) := ⟨r.dp, r.un⟩
theorem unitsH {k : Nat} {A : Around} (r : L2H.RoomH k A) : A.units + 64 < cLine := by
  have := r.un
  omega
theorem unitsM {k : Nat} {A : Around} {h : Option Value} (r : L2H.RoomH k A) : (A.mark h).units + 64 < cLine := by
  have := unitsH r
  rw [Around.mark_units]
  exact this
/-- a def that may be handed the error -/
structure CalE (cs : Nat → Addr) (P : Program) (w : World) (K : PySem.W.Frag) (mg : Str → Option Value) (base : Heap) (k : Nat) (x : Str) (g : Nat → Res D) : Prop where
  ex : ∃ (f : Addr) (fd : FuncData) (y : Str), FnE cs P w K mg base k f fd y g ∧ mg x = some (.ref f) ∧ PySem.W.keepIn K (.ref f) = true ∧ Binds K fd [y] []
section
variable {X : Cx} {W : PWs} {cs : Nat → Addr} {pos p : Pos}
theorem de_callE {i k c : Nat} {a : Addr} {oe : Obj} {pn : List (Addr × Obj)} {x en : Str} {pe : Pos} {g : Nat → Res D} (C : CalE cs X.prog X.w X.K X.mg X.base k x g) (hr : L2H.RoomH k (X.suite a ((a, oe) :: pn)).A) (hz : Zc (.ref (cs c)) none oe) (hf : ∃ vs, oe.data = .fields vs)
    (hv : PE (X.suite a ((a, oe) :: pn)) (.Name en pe) (tVar i)) (hg : Gl X x := by rfl) (hdb : (x == ("__debug__" : Str)) = false := by decide)
    (he : starEach (.Name en pe :: []) X.env = (false, eval (.Name en pe) X.env) :: starEach [] X.env := by rfl) (hpl : (backTo pos (starEach [] X.env)).any (·.1) = false := by rfl) :
    DE (X.suite a ((a, oe) :: pn)) W (.Call (.Name x p) [.Name en pe] [] pos) (exE i a (g c).quiet) := by
  obtain ⟨f, fd, y, F, hm, hk, hb⟩ := C.ex
  refine ⟨⟨fun pins s st H Q I ⟨r, M, e1, q⟩ => ?_⟩⟩
  have hi : st[i]? = some (some (.ref a)) ∧ Dem X.K Rp W M st H (g c).quiet Q := by
    unfold exE at q
    cases e : r[i]? with
    | none => rw [e] at q; exact q.elim
    | some z =>
      rw [e] at q
      cases z with
      | no => exact q.elim
      | val d => exact q.elim
      | own ds => exact q.elim
      | exc b =>
        simp only at q
        by_cases hb : b = a
        · rw [if_pos hb] at q
          subst hb
          exact ⟨e1.slot i _ e, q⟩
        · rw [if_neg hb] at q
          exact q.elim
  refine wpAny_Call_Name_kw (ld_glob I hg hm ?_ hdb)
  refine PySem.W.callWith_K (h₀ := X.base) I.ok.mod.kin hk (thn ((pa_cons hv pa_nil he).run pos pins s st H (fun vs H1 => vs = [V.ref a] ∧ Dem X.K Rp W M st H1 (g c).quiet Q ∧ En X.K M H1 st r) I ⟨V.ref a, hi.1, rfl, hi.2, e1⟩) fun us s1 ⟨vs, H1, I1, rv, ev, q1, en1⟩ => ⟨I1.kIn, ?_⟩) he hpl
  subst ev
  obtain ⟨u, rfl, ru⟩ := rv.one
  cases ru
  have P1 := I1.pin (a, oe) (List.mem_append.mpr (.inl List.mem_cons_self))
  have hpin : L2H.PinOk X.stack H1 s1 (a, oe) := ⟨P1.1, P1.2.1, fun hm => (List.mem_cons.mp (I1.stkSub a hm)).elim P1.2.2.1 P1.2.2.2.1, P1.2.2.2.2⟩
  have bd := hb s1 [.ref a] I1.kIn rfl
  rw [List.append_nil] at bd
  have sp : spE X.K (g c) H1 (fun v H' => Q v H') := by
    unfold spE
    revert q1
    cases g c with
    | ok d => exact fun q1 => ⟨M, en1.live, q1⟩
    | ex c2 => exact fun q1 => q1.elim
    | no => exact fun q1 => q1
  refine wpAny_call (codeAny_mono (F.run (X.suite a ((a, oe) :: pn)).A X.stack s1 H1 ⟨[.ref a], []⟩ (fun v H' => Q v H') (a, oe) c hr rfl hpin hz hf I1.env0 bd sp) fun res s' hq => ?_)
  cases res with
  | error e =>
    obtain ⟨_, _, _, _, _, _, _, _, _, _, _, _, z⟩ := hq
    exact False.elim z
  | ok fl =>
    cases fl with
    | ret u => exact I1.after hq
    | next => exact False.elim hq
    | brk => exact False.elim hq
    | cont => exact False.elim hq
end
end PD

namespace PD
open PySem PySem.Spec PyProof.Rows L2
@[simp] theorem outR_rt (d : D) : outR (.rt d) = .ok d := eq_of_heq HEq.rfl
@[simp] theorem outR_nx (r : Rho) : outR (.nx r) = .ok .none := eq_of_heq HEq.rfl
@[simp] theorem outR_ex (c : Nat) (r : Rho) : outR (.ex c r) = .ex c := eq_of_heq HEq.rfl
/-! ### sizes along a history -/
def lastSize (c : Int) (es : List Ent) : Int := es.foldl (fun s e => e.size s) c
def sizesOf (c : Int) : List Ent → List Int
  | [] => []
  | e :: es => e.size c :: sizesOf (e.size c) es
theorem lastSize_app (c : Int) (es : List Ent) (e : Ent) : lastSize c (es ++ [e]) = e.size (lastSize c es) := by simp [lastSize, List.foldl_append]
theorem sizesOf_length : ∀ (c : Int) (es : List Ent), (sizesOf c es).length = es.length
  | _, [] => rfl
  | c, e :: es => by simp [sizesOf, sizesOf_length (e.size c) es]
theorem sizesOf_app : ∀ (c : Int) (es : List Ent) (e : Ent), sizesOf c (es ++ [e]) = sizesOf c es ++ [e.size (lastSize c es)]
  | _, [], _ => rfl
  | c, f :: es, e => by
    show f.size c :: sizesOf (f.size c) (es ++ [e]) = _
    rw [sizesOf_app (f.size c) es e]
    rfl
theorem sizesOf_last : ∀ (c : Int) (es : List Ent), es ≠ [] → (sizesOf c es).getLast? = some (lastSize c es)
  | c, es, h => by
    obtain ⟨fs, e, rfl⟩ : ∃ fs e, es = fs ++ [e] := ⟨es.dropLast, es.getLast h, (List.dropLast_concat_getLast h).symm⟩
    rw [sizesOf_app, lastSize_app, List.getLast?_append]
    simp
theorem sizesOf_get (c : Int) (es : List Ent) (i : Nat) (h : i < es.length) : (sizesOf c es)[i]? = some (lastSize c (es.take (i + 1))) := by
  induction es generalizing c i with
  | nil => simp at h
  | cons e es ih =>
    cases i with
    | zero => simp [sizesOf, lastSize]
    | succ i =>
      have := ih (e.size c) i (by simpa using h)
      simpa [sizesOf, lastSize] using this
def Ent.isRead : Ent → Bool
  | .read .. => true
  | _ => false
theorem Ent.qRead (e : Ent) : qEq (.str e.name) (.str sRead) = .ok (.bool e.isRead) := by
  cases e
  · exact q_sr
  · exact q_rr
  · exact q_cr
theorem Ent.size_read {e : Ent} (h : e.isRead = true) (s : Int) : e.size s = s := by
  cases e with
  | read => rfl
  | start => cases h
  | change => cases h
/-- a history that does not begin with a reading -/
def OkHead (es : List Ent) : Prop := ∀ e, es[0]? = some e → e.isRead = false
theorem OkHead.app {es : List Ent} {e : Ent} (h : OkHead es) (he : es = [] → e.isRead = false) : OkHead (es ++ [e]) := by
  intro f hf
  cases es with
  | nil =>
    cases hf
    exact he rfl
  | cons a t => exact h f hf
theorem take_succ_get {es : List Ent} {j : Nat} {e : Ent} (h : es[j]? = some e) : es.take (j + 1) = es.take j ++ [e] := by
  obtain ⟨hl, rfl⟩ := List.getElem?_eq_some_iff.mp h
  exact List.take_succ_eq_append_getElem hl
end PD


namespace K04
open PySem PySem.Spec PyProof.Rows L2 PD
/-- the text's statements by their places -/
abbrev topS (i : Nat) : Stmt := PySem.Challenge.pw_metergap_k04_histories_grown.main.body.getD i (.Pass ⟨0, 0, 0, 0⟩)

/-- the built-in names that the text does not store -/
structure Bi (mg : Str → Option Value) : Prop where
  len : mg "len" = none
  min : mg "min" = none
  max : mg "max" = none
  int : mg "int" = none
  isinstance : mg "isinstance" = none
  ValueError : mg "ValueError" = none
  range : mg "range" = none
  list : mg "list" = none
  tuple : mg "tuple" = none
  bool : mg "bool" = none
/-- is the class c one of those under C -/
def subC (c C : Nat) : Bool := (([[0], [0, 1], [0, 2], [0, 3], [0, 4], [0, 5]] : List (List Nat)).getD c [0]).contains C
/-- what the text says of its classes -/
structure Txt (K : PySem.W.Frag) (mg : Str → Option Value) (cs : Nat → Addr) : Prop where
  a_MeterError : ExcAt K mg "MeterError" (cs 0)
  a_NoMeter : ExcAt K mg "NoMeter" (cs 1)
  a_StandsAlready : ExcAt K mg "StandsAlready" (cs 2)
  a_NotLater : ExcAt K mg "NotLater" (cs 3)
  a_NoValue : ExcAt K mg "NoValue" (cs 4)
  a_NoReading : ExcAt K mg "NoReading" (cs 5)
  c : ∀ c, ExcC K (cs c)
  kitv : ∀ c, PySem.W.kitOne K (.ref (cs c)) (.type "ValueError") = some true
  kit_NoValue : ∀ c, PySem.W.kitOne K (.ref (cs c)) (.ref (cs 4)) = some (subC c 4)
  kit_NotLater : ∀ c, PySem.W.kitOne K (.ref (cs c)) (.ref (cs 3)) = some (subC c 3)
  kit_StandsAlready : ∀ c, PySem.W.kitOne K (.ref (cs c)) (.ref (cs 2)) = some (subC c 2)
  kit_NoMeter : ∀ c, PySem.W.kitOne K (.ref (cs c)) (.ref (cs 1)) = some (subC c 1)
  kit_NoReading : ∀ c, PySem.W.kitOne K (.ref (cs c)) (.ref (cs 5)) = some (subC c 5)
  exm_MeterError : ∀ c, PySem.W.exmOne K (.ref (cs c)) (.ref (cs 0)) = some (subC c 0)
section
variable {P : Program} {w : World} {K : PySem.W.Frag} {mg : Str → Option Value} {base : Heap}
/-! ### _law_mixed -/
abbrev s__law_mixed : Stmt := topS 17
abbrev nm__law_mixed : List Str := ["_law_script", "_law_k", "_law_cell", "_law_number"]
theorem sc__law_mixed : FnScope nm__law_mixed ["_law_script", "_law_k"] (defScope s__law_mixed) := ⟨rfl, rfl, rfl, by decide +kernel, rfl, by decide +kernel, by decide +kernel⟩
noncomputable def r__law_mixed_3 : Rho → Out :=
  (sqf (retE (bin2 iMod (bin2 iMul (rdw 3) (rdw 3)) (fun _ => .ok (.int 2147483647)))) .nx)
noncomputable def r__law_mixed_2 : Rho → Out :=
  (sqf (setE 3 (bin2 iMod (bin2 iMul (bin2 pAdd (rdw 2) (bin2 iMul (fun _ => .ok (.int 7919)) (rdw 1))) (fun _ => .ok (.int 48271))) (fun _ => .ok (.int 2147483647)))) r__law_mixed_3)
noncomputable def r__law_mixed_1 : Rho → Out :=
  (sqf (sIf (thn1 (bin2 (iCmp fun i j => decide (j < i)) (then1 (rdw 0) bLen) (fun _ => .ok (.int 0))) asB) (sqf (setE 2 (bin2 qIx (rdw 0) (bin2 iMod (rdw 1) (then1 (rdw 0) bLen)))) .nx) .nx) r__law_mixed_2)
noncomputable def b__law_mixed : Rho → Out :=
  (sqf (setE 2 (fun _ => .ok (.int 0))) r__law_mixed_1)
noncomputable def f__law_mixed : List D → Out := fnD b__law_mixed 4
theorem fo__law_mixed {cs : Nat → Addr} {f : Addr} {fd : FuncData} (F : Fun K "_law_mixed" "_law_mixed" s__law_mixed f fd) (B : Bi mg) :
    FnOk P w K mg base (L2.CX P w) 1 f fd ["_law_script", "_law_k"] (spD cs K 2 f__law_mixed) := by
  refine def_ok (K := K) F sc__law_mixed (fun cdv A outer s H E hr => ?_)
  exact (ds_cons (ds_set (i := 2) sc__law_mixed.nd rfl (by first | exact Or.inl rfl | exact Or.inr rfl) de_int) (ds_cons (ds_if (dt_gt (de_len B.len (dw_var (pv 0))).weak de_int.weak) (ds_cons (ds_set (i := 2) sc__law_mixed.nd rfl (by first | exact Or.inl rfl | exact Or.inr rfl) (de_at (dw_var (pv 0)) (de_mod (dw_var (pv 1)) (de_len B.len (dw_var (pv 0))).weak).weak)) ds_nil) ds_nil) (ds_cons (ds_set (i := 3) sc__law_mixed.nd rfl (by first | exact Or.inl rfl | exact Or.inr rfl) (de_mod (de_mul (de_add (dw_var (pv 2)) (de_mul de_int.weak (dw_var (pv 1))).weak).weak de_int.weak).weak de_int.weak)) (ds_cons (ds_ret (de_mod (de_mul (dw_var (pv 3)) (dw_var (pv 3))).weak de_int.weak)) ds_nil))))
/-! ### _law_size_by -/
abbrev s__law_size_by : Stmt := topS 18
abbrev nm__law_size_by : List Str := ["_law_number"]
theorem sc__law_size_by : FnScope nm__law_size_by ["_law_number"] (defScope s__law_size_by) := ⟨rfl, rfl, rfl, by decide +kernel, rfl, by decide +kernel, by decide +kernel⟩
noncomputable def b__law_size_by : Rho → Out :=
  (sqf (sIf (thn1 (bin2 qEq (bin2 iMod (rdw 0) (fun _ => .ok (.int 4))) (fun _ => .ok (.int 3))) asB) (sqf (retE (bin2 pAdd (fun _ => .ok (.int 2)) (bin2 iMod (bin2 iMul (rdw 0) (rdw 0)) (bin2 iSub (fun _ => .ok (.int 1000000000000)) (fun _ => .ok (.int 1)))))) .nx) .nx) (sqf (retE (bin2 qIx (lstA (consA (fun _ => .ok (.int 2)) (consA (fun _ => .ok (.int 10)) (consA (fun _ => .ok (.int 100)) (consA (fun _ => .ok (.int 1000)) (consA (fun _ => .ok (.int 100000)) (consA (fun _ => .ok (.int 1000000000000)) (consA (fun _ => .ok (.int 7)) (consA (fun _ => .ok (.int 60)) (fun _ => .ok [])))))))))) (bin2 iMod (bin2 iDiv (rdw 0) (fun _ => .ok (.int 4))) (fun _ => .ok (.int 8))))) .nx))
noncomputable def f__law_size_by : List D → Out := fnD b__law_size_by 1
theorem fo__law_size_by {cs : Nat → Addr} {f : Addr} {fd : FuncData} (F : Fun K "_law_size_by" "_law_size_by" s__law_size_by f fd) (B : Bi mg) :
    FnOk P w K mg base (L2.CX P w) 1 f fd ["_law_number"] (spD cs K 1 f__law_size_by) := by
  refine def_ok (K := K) F sc__law_size_by (fun cdv A outer s H E hr => ?_)
  exact (ds_cons (ds_if (dt_eq (by exact hr.units) (de_mod (dw_var (pv 0)) de_int.weak).weak de_int.weak) (ds_cons (ds_ret (de_add de_int.weak (de_mod (de_mul (dw_var (pv 0)) (dw_var (pv 0))).weak (de_sub (de_pow (by decide) (by decide)).weak de_int.weak).weak).weak)) ds_nil) ds_nil) (ds_cons (ds_ret (de_at (de_lst (dl_cons de_int (dl_cons de_int (dl_cons de_int (dl_cons de_int (dl_cons (de_pow (by decide) (by decide)) (dl_cons (de_pow (by decide) (by decide)) (dl_cons de_int (dl_cons de_int dl_nil))))))))).weak (de_mod (de_div (dw_var (pv 0)) de_int.weak).weak de_int.weak).weak)) ds_nil))
/-! ### _law_day_by -/
abbrev s__law_day_by : Stmt := topS 22
abbrev nm__law_day_by : List Str := ["_law_history", "_law_number", "_law_last"]
theorem sc__law_day_by : FnScope nm__law_day_by ["_law_history", "_law_number"] (defScope s__law_day_by) := ⟨rfl, rfl, rfl, by decide +kernel, rfl, by decide +kernel, by decide +kernel⟩
noncomputable def b__law_day_by : Rho → Out :=
  (sqf (setE 2 (fun _ => .ok (.int 0))) (sqf (sIf (thn1 (bin2 (iCmp fun i j => decide (j < i)) (then1 (rdw 0) bLen) (fun _ => .ok (.int 0))) asB) (sqf (setE 2 (bin2 qIx (bin2 qIx (rdw 0) (then1 (fun _ => .ok (.int 1)) negI)) (fun _ => .ok (.int 1)))) .nx) .nx) (sqf (retE (bin2 bMin (fun _ => .ok (.int 2000)) (bin2 bMax (fun _ => .ok (.int 0)) (bin2 qIx (lstA (consA (bin2 pAdd (bin2 pAdd (rdw 2) (fun _ => .ok (.int 1))) (bin2 iMod (rdw 1) (fun _ => .ok (.int 9)))) (consA (bin2 pAdd (rdw 2) (fun _ => .ok (.int 1))) (consA (rd 2) (consA (bin2 iSub (rdw 2) (fun _ => .ok (.int 1))) (consA (bin2 iMod (rdw 1) (fun _ => .ok (.int 300))) (fun _ => .ok []))))))) (bin2 iMod (bin2 iDiv (rdw 1) (fun _ => .ok (.int 9))) (fun _ => .ok (.int 5))))))) .nx)))
noncomputable def f__law_day_by : List D → Out := fnD b__law_day_by 3
theorem fo__law_day_by {cs : Nat → Addr} {f : Addr} {fd : FuncData} (F : Fun K "_law_day_by" "_law_day_by" s__law_day_by f fd) (B : Bi mg) :
    FnOk P w K mg base (L2.CX P w) 1 f fd ["_law_history", "_law_number"] (spD cs K 2 f__law_day_by) := by
  refine def_ok (K := K) F sc__law_day_by (fun cdv A outer s H E hr => ?_)
  exact (ds_cons (ds_set (i := 2) sc__law_day_by.nd rfl (by first | exact Or.inl rfl | exact Or.inr rfl) de_int) (ds_cons (ds_if (dt_gt (de_len B.len (dw_var (pv 0))).weak de_int.weak) (ds_cons (ds_set (i := 2) sc__law_day_by.nd rfl (by first | exact Or.inl rfl | exact Or.inr rfl) (de_at (de_at (dw_var (pv 0)) (de_neg de_int.weak).weak).weak de_int.weak)) ds_nil) ds_nil) (ds_cons (ds_ret (de_min rfl B.min de_int.weak (de_max rfl B.max de_int.weak (de_at (de_lst (dl_cons (de_add (de_add (dw_var (pv 2)) de_int.weak).weak (de_mod (dw_var (pv 1)) de_int.weak).weak) (dl_cons (de_add (dw_var (pv 2)) de_int.weak) (dl_cons (de_var (pv 2)) (dl_cons (de_sub (dw_var (pv 2)) de_int.weak) (dl_cons (de_mod (dw_var (pv 1)) de_int.weak) dl_nil)))))).weak (de_mod (de_div (dw_var (pv 1)) de_int.weak).weak de_int.weak).weak).weak).weak)) ds_nil)))
/-! ### _law_due -/
abbrev s__law_due : Stmt := topS 24
abbrev nm__law_due : List Str := ["_law_history", "_law_kind", "_law_day", "_law_values", "_law_size", "_law_other"]
theorem sc__law_due : FnScope nm__law_due ["_law_history", "_law_kind", "_law_day", "_law_values", "_law_size", "_law_other"] (defScope s__law_due) := ⟨rfl, rfl, rfl, by decide +kernel, rfl, by decide +kernel, by decide +kernel⟩
noncomputable def r__law_due_4 : Rho → Out :=
  (sqf (retE (fun _ => .ok (.int 4))) .nx)
noncomputable def r__law_due_3 : Rho → Out :=
  (sqf (sIf (orT (thn1 (bin2 (iCmp fun i j => decide (j ≤ i)) (bin2 qIx (rdw 3) (fun _ => .ok (.int 0))) (rdw 4)) asB) (andT (thn1 (bin2 qEq (rdw 1) (fun _ => .ok (.int 1))) asB) (thn1 (bin2 (iCmp fun i j => decide (j ≤ i)) (bin2 qIx (rdw 3) (fun _ => .ok (.int 1))) (rdw 5)) asB))) (sqf (retE (fun _ => .ok (.int 3))) .nx) .nx) r__law_due_4)
noncomputable def r__law_due_2 : Rho → Out :=
  (sqf (sIf (thn1 (bin2 (iCmp fun i j => decide (i ≤ j)) (rdw 2) (bin2 qIx (bin2 qIx (rdw 0) (then1 (fun _ => .ok (.int 1)) negI)) (fun _ => .ok (.int 1)))) asB) (sqf (retE (fun _ => .ok (.int 2))) .nx) .nx) r__law_due_3)
noncomputable def r__law_due_1 : Rho → Out :=
  (sqf (sIf (thn1 (bin2 qEq (then1 (rdw 0) bLen) (fun _ => .ok (.int 0))) asB) (sqf (retE (fun _ => .ok (.int 0))) .nx) .nx) r__law_due_2)
noncomputable def b__law_due : Rho → Out :=
  (sqf (sIf (thn1 (bin2 qEq (rdw 1) (fun _ => .ok (.int 0))) asB) (sqf (sIf (thn1 (bin2 (iCmp fun i j => decide (j < i)) (then1 (rdw 0) bLen) (fun _ => .ok (.int 0))) asB) (sqf (retE (fun _ => .ok (.int 1))) .nx) .nx) (sqf (retE (bin2 qIx (lstA (consA (fun _ => .ok (.int 4)) (consA (fun _ => .ok (.int 3)) (fun _ => .ok [])))) (then1 (bin2 (iCmp fun i j => decide (j ≤ i)) (bin2 qIx (rdw 3) (fun _ => .ok (.int 1))) (rdw 5)) bInt))) .nx)) .nx) r__law_due_1)
noncomputable def f__law_due : List D → Out := fnD b__law_due 6
theorem fo__law_due {cs : Nat → Addr} {f : Addr} {fd : FuncData} (F : Fun K "_law_due" "_law_due" s__law_due f fd) (B : Bi mg) :
    FnOk P w K mg base (L2.CX P w) 1 f fd ["_law_history", "_law_kind", "_law_day", "_law_values", "_law_size", "_law_other"] (spD cs K 6 f__law_due) := by
  refine def_ok (K := K) F sc__law_due (fun cdv A outer s H E hr => ?_)
  exact (ds_cons (ds_if (dt_eq (by exact hr.units) (dw_var (pv 1)) de_int.weak) (ds_cons (ds_if (dt_gt (de_len B.len (dw_var (pv 0))).weak de_int.weak) (ds_cons (ds_ret de_int) ds_nil) ds_nil) (ds_cons (ds_ret (de_at (de_lst (dl_cons de_int (dl_cons de_int dl_nil))).weak (de_int1 B.int (de_ge (de_at (dw_var (pv 3)) de_int.weak).weak (dw_var (pv 5))).weak).weak)) ds_nil)) ds_nil) (ds_cons (ds_if (dt_eq (by exact hr.units) (de_len B.len (dw_var (pv 0))).weak de_int.weak) (ds_cons (ds_ret de_int) ds_nil) ds_nil) (ds_cons (ds_if (dt_le (dw_var (pv 2)) (de_at (de_at (dw_var (pv 0)) (de_neg de_int.weak).weak).weak de_int.weak).weak) (ds_cons (ds_ret de_int) ds_nil) ds_nil) (ds_cons (ds_if (DP.dt (dp_or (dt_ge (de_at (dw_var (pv 3)) de_int.weak).weak (dw_var (pv 4))) (dp_or1 (DP.dt (dp_and (dt_eq (by exact hr.units) (dw_var (pv 1)) de_int.weak) (dp_and1 (dt_ge (de_at (dw_var (pv 3)) de_int.weak).weak (dw_var (pv 5))))))))) (ds_cons (ds_ret de_int) ds_nil) ds_nil) (ds_cons (ds_ret de_int) ds_nil)))))
/-! ### _law_sizes -/
abbrev s__law_sizes : Stmt := topS 21
abbrev nm__law_sizes : List Str := ["_law_history", "_law_found", "_law_entry_here"]
theorem sc__law_sizes : FnScope nm__law_sizes ["_law_history"] (defScope s__law_sizes) := ⟨rfl, rfl, rfl, by decide +kernel, rfl, by decide +kernel, by decide +kernel⟩
noncomputable def lb__law_sizes_1 : Rho → Out :=
  (sqf (sIf (thn1 (bin2 qEq (bin2 qIx (rdw 2) (fun _ => .ok (.int 0))) (fun _ => .ok (.str (PySem.Str.ofString "start")))) asB) (sqf (apndE 1 (bin2 qIx (rdw 2) (fun _ => .ok (.int 2)))) .nx) (sqf (sIf (thn1 (bin2 qEq (bin2 qIx (rdw 2) (fun _ => .ok (.int 0))) (fun _ => .ok (.str (PySem.Str.ofString "change")))) asB) (sqf (apndE 1 (bin2 qIx (rdw 2) (fun _ => .ok (.int 3)))) .nx) (sqf (apndE 1 (bin2 qIx (rdw 1) (then1 (fun _ => .ok (.int 1)) negI))) .nx)) .nx)) .nx)
noncomputable def b__law_sizes : Rho → Out :=
  (sqf (lThen (fun _ => .ok []) fun ds r => .nx (r.set 1 (.own ds))) (sqf (forE (asS (rd 0)) (aName 2) lb__law_sizes_1) (frz 1 (sqf (retE (rd 1)) .nx))))
noncomputable def f__law_sizes : List D → Out := fnD b__law_sizes 3
theorem fo__law_sizes {cs : Nat → Addr} {f : Addr} {fd : FuncData} (F : Fun K "_law_sizes" "_law_sizes" s__law_sizes f fd) (B : Bi mg) :
    FnOk P w K mg base (L2.CX P w) 1 f fd ["_law_history"] (spD cs K 1 f__law_sizes) := by
  refine def_ok (K := K) F sc__law_sizes (fun cdv A outer s H E hr => ?_)
  exact (ds_cons (ds_own (i := 1) sc__law_sizes.nd rfl (by first | exact Or.inl rfl | exact Or.inr rfl) dl_nil) (ds_cons (ds_for po_of rfl (di_seq (de_var (pv 0))) (dg_name (i := 2) sc__law_sizes.nd rfl (by first | exact Or.inl rfl | exact Or.inr rfl)) (ds_cons (ds_if (dt_eq (by exact hr.units) (de_at (dw_var (pv 2)) de_int.weak).weak de_str.weak) (ds_cons (ds_append (pv 1) (de_at (dw_var (pv 2)) de_int.weak)) ds_nil) (ds_cons (ds_if (dt_eq (by exact hr.units) (de_at (dw_var (pv 2)) de_int.weak).weak de_str.weak) (ds_cons (ds_append (pv 1) (de_at (dw_var (pv 2)) de_int.weak)) ds_nil) (ds_cons (ds_append (pv 1) (de_at (dw_var (pv 1)) (de_neg de_int.weak).weak)) ds_nil)) ds_nil)) ds_nil)) (ds_frz 1 (ds_cons (ds_ret (de_var (pv 1))) ds_nil))))
/-! ### _law_value_of -/
abbrev s__law_value_of : Stmt := topS 20
abbrev nm__law_value_of : List Str := ["_law_number", "_law_size"]
theorem sc__law_value_of : FnScope nm__law_value_of ["_law_number", "_law_size"] (defScope s__law_value_of) := ⟨rfl, rfl, rfl, by decide +kernel, rfl, by decide +kernel, by decide +kernel⟩
noncomputable def b__law_value_of : Rho → Out :=
  (sqf (retE (bin2 qIx (lstA (consA (bin2 iMod (bin2 iDiv (rdw 0) (fun _ => .ok (.int 3))) (rdw 1)) (consA (bin2 iMod (bin2 iDiv (rdw 0) (fun _ => .ok (.int 3))) (rdw 1)) (consA (bin2 iSub (rdw 1) (fun _ => .ok (.int 1))) (consA (rd 1) (fun _ => .ok [])))))) (bin2 iMod (rdw 0) (fun _ => .ok (.int 4))))) .nx)
noncomputable def f__law_value_of : List D → Out := fnD b__law_value_of 2
theorem fo__law_value_of {cs : Nat → Addr} {f : Addr} {fd : FuncData} (F : Fun K "_law_value_of" "_law_value_of" s__law_value_of f fd) (B : Bi mg) :
    FnOk P w K mg base (L2.CX P w) 1 f fd ["_law_number", "_law_size"] (spD cs K 2 f__law_value_of) := by
  refine def_ok (K := K) F sc__law_value_of (fun cdv A outer s H E hr => ?_)
  exact (ds_cons (ds_ret (de_at (de_lst (dl_cons (de_mod (de_div (dw_var (pv 0)) de_int.weak).weak (dw_var (pv 1))) (dl_cons (de_mod (de_div (dw_var (pv 0)) de_int.weak).weak (dw_var (pv 1))) (dl_cons (de_sub (dw_var (pv 1)) de_int.weak) (dl_cons (de_var (pv 1)) dl_nil))))).weak (de_mod (dw_var (pv 0)) de_int.weak).weak)) ds_nil)
/-! ### check_day -/
abbrev s_check_day : Stmt := topS 13
abbrev nm_check_day : List Str := ["history", "day", "latest"]
theorem sc_check_day : FnScope nm_check_day ["history", "day"] (defScope s_check_day) := ⟨rfl, rfl, rfl, by decide +kernel, rfl, by decide +kernel, by decide +kernel⟩
noncomputable def b_check_day : Rho → Out :=
  (sqf (sIf (notT (thn1 (rdw 0) tru)) (sqf (fun r => .ex 1 r) .nx) .nx) (sqf (setE 2 (bin2 qIx (bin2 qIx (rdw 0) (then1 (fun _ => .ok (.int 1)) negI)) (fun _ => .ok (.int 1)))) (sqf (sIf (thn1 (bin2 (iCmp fun i j => decide (i ≤ j)) (rdw 1) (rdw 2)) asB) (sqf (rsE (msgI (rdw 1) (msgI (rdw 2) (fun _ => .ok true))) 3) .nx) .nx) .nx)))
noncomputable def f_check_day : List D → Out := fnD b_check_day 3
theorem fo_check_day {cs : Nat → Addr} {f : Addr} {fd : FuncData} (F : Fun K "check_day" "check_day" s_check_day f fd) (B : Bi mg) (T : Txt K mg cs) :
    FnOk P w K mg base (L2.CX P w) 1 f fd ["history", "day"] (spD cs K 2 f_check_day) := by
  refine def_ok (K := K) F sc_check_day (fun cdv A outer s H E hr => ?_)
  exact (ds_cons (ds_if (dt_not (dt_tru (dw_var (pv 0)))) (ds_cons (ds_raise rfl tk_of T.a_NoMeter) ds_nil) ds_nil) (ds_cons (ds_set (i := 2) sc_check_day.nd rfl (by first | exact Or.inl rfl | exact Or.inr rfl) (de_at (de_at (dw_var (pv 0)) (de_neg de_int.weak).weak).weak de_int.weak)) (ds_cons (ds_if (dt_le (dw_var (pv 1)) (dw_var (pv 2))) (ds_cons (ds_raiseF rfl tk_of T.a_NotLater (.str (by decide) (.int (dw_var (pv 1)) (.str (by decide) (.int (dw_var (pv 2)) (.nil (by decide))))))) ds_nil) ds_nil) ds_nil)))
/-! ### check_value -/
abbrev s_check_value : Stmt := topS 14
abbrev nm_check_value : List Str := ["size", "value"]
theorem sc_check_value : FnScope nm_check_value ["size", "value"] (defScope s_check_value) := ⟨rfl, rfl, rfl, by decide +kernel, rfl, by decide +kernel, by decide +kernel⟩
noncomputable def b_check_value : Rho → Out :=
  (sqf (sIf (thn1 (bin2 (iCmp fun i j => decide (j ≤ i)) (rdw 1) (rdw 0)) asB) (sqf (rsE (msgI (rdw 0) (msgI (rdw 1) (fun _ => .ok true))) 4) .nx) .nx) .nx)
noncomputable def f_check_value : List D → Out := fnD b_check_value 2
theorem fo_check_value {cs : Nat → Addr} {f : Addr} {fd : FuncData} (F : Fun K "check_value" "check_value" s_check_value f fd) (B : Bi mg) (T : Txt K mg cs) :
    FnOk P w K mg base (L2.CX P w) 1 f fd ["size", "value"] (spD cs K 2 f_check_value) := by
  refine def_ok (K := K) F sc_check_value (fun cdv A outer s H E hr => ?_)
  exact (ds_cons (ds_if (dt_ge (dw_var (pv 1)) (dw_var (pv 0))) (ds_cons (ds_raiseF rfl tk_of T.a_NoValue (.str (by decide) (.int (dw_var (pv 0)) (.str (by decide) (.int (dw_var (pv 1)) (.nil (by decide))))))) ds_nil) ds_nil) ds_nil)
/-! ### size_at -/
abbrev s_size_at : Stmt := topS 11
abbrev nm_size_at : List Str := ["history", "place", "at", "entry"]
theorem sc_size_at : FnScope nm_size_at ["history", "place"] (defScope s_size_at) := ⟨rfl, rfl, rfl, by decide +kernel, rfl, by decide +kernel, by decide +kernel⟩
noncomputable def lb_size_at_1 : Rho → Out :=
  (sqf (augE 2 (opI fun i j => i - j) (fun _ => .ok (.int 1))) .nx)
noncomputable def r_size_at_3 : Rho → Out :=
  (sqf (retE (ifV (thn1 (bin2 qEq (bin2 qIx (rdw 3) (fun _ => .ok (.int 0))) (fun _ => .ok (.str (PySem.Str.ofString "start")))) asB) (bin2 qIx (rdw 3) (fun _ => .ok (.int 2))) (bin2 qIx (rdw 3) (fun _ => .ok (.int 3))))) .nx)
noncomputable def r_size_at_2 : Rho → Out :=
  (sqf (setE 3 (bin2 qIx (rdw 0) (rdw 2))) r_size_at_3)
noncomputable def r_size_at_1 : Rho → Out :=
  (sqf (whileD (thn1 (bin2 qEq (bin2 qIx (bin2 qIx (rdw 0) (rdw 2)) (fun _ => .ok (.int 0))) (fun _ => .ok (.str (PySem.Str.ofString "read")))) asB) lb_size_at_1 1000) r_size_at_2)
noncomputable def b_size_at : Rho → Out :=
  (sqf (setE 2 (rd 1)) r_size_at_1)
noncomputable def f_size_at : List D → Out := fnD b_size_at 4
theorem fo_size_at {cs : Nat → Addr} {f : Addr} {fd : FuncData} (F : Fun K "size_at" "size_at" s_size_at f fd) (B : Bi mg) :
    FnOk P w K mg base (L2.CX P w) 1 f fd ["history", "place"] (spD cs K 2 f_size_at) := by
  refine def_ok (K := K) F sc_size_at (fun cdv A outer s H E hr => ?_)
  exact (ds_cons (ds_set (i := 2) sc_size_at.nd rfl (by first | exact Or.inl rfl | exact Or.inr rfl) (de_var (pv 1))) (ds_cons (ds_while 1000 po_of (dt_eq (by exact hr.units) (de_at (de_at (dw_var (pv 0)) (dw_var (pv 2))).weak de_int.weak).weak de_str.weak) (ds_cons (ds_aug (i := 2) sc_size_at.nd rfl (by first | exact Or.inl rfl | exact Or.inr rfl) de_int.weak ip_sub) ds_nil)) (ds_cons (ds_set (i := 3) sc_size_at.nd rfl (by first | exact Or.inl rfl | exact Or.inr rfl) (de_at (dw_var (pv 0)) (dw_var (pv 2)))) (ds_cons (ds_ret (de_if (dt_eq (by exact hr.units) (de_at (dw_var (pv 3)) de_int.weak).weak de_str.weak) (de_at (dw_var (pv 3)) de_int.weak) (de_at (dw_var (pv 3)) de_int.weak))) ds_nil))))
/-! ### size_now -/
abbrev s_size_now : Stmt := topS 12
abbrev nm_size_now : List Str := ["history"]
theorem sc_size_now : FnScope nm_size_now ["history"] (defScope s_size_now) := ⟨rfl, rfl, rfl, by decide +kernel, rfl, by decide +kernel, by decide +kernel⟩
noncomputable def b_size_now : Rho → Out :=
  (sqf (retE (callE (consA (rd 0) (consA (bin2 iSub (then1 (rdw 0) bLen) (fun _ => .ok (.int 1))) (fun _ => .ok []))) f_size_at)) .nx)
noncomputable def f_size_now : List D → Out := fnD b_size_now 1
theorem fo_size_now {cs : Nat → Addr} {f : Addr} {fd : FuncData} (F : Fun K "size_now" "size_now" s_size_now f fd) (B : Bi mg) (G_size_at : Cal cs P w K mg base 1 2 "size_at" f_size_at) :
    FnOk P w K mg base (L2.CX P w) 2 f fd ["history"] (spD cs K 1 f_size_now) := by
  refine def_ok (K := K) F sc_size_now (fun cdv A outer s H E hr => ?_)
  exact (ds_cons (ds_ret (de_callC tk_of G_size_at (by exact hr.mono (by decide)) (dl_cons (de_var (pv 0)) (dl_cons (de_sub (de_len B.len (dw_var (pv 0))).weak de_int.weak) dl_nil)))) ds_nil)
/-! ### read_on -/
abbrev s_read_on : Stmt := topS 9
abbrev nm_read_on : List Str := ["history", "day", "value"]
theorem sc_read_on : FnScope nm_read_on ["history", "day", "value"] (defScope s_read_on) := ⟨rfl, rfl, rfl, by decide +kernel, rfl, by decide +kernel, by decide +kernel⟩
noncomputable def b_read_on : Rho → Out :=
  (sqf (drpE (callE (consA (rd 0) (consA (rd 1) (fun _ => .ok []))) f_check_day)) (sqf (drpE (callE (consA (callE (consA (rd 0) (fun _ => .ok [])) f_size_now) (consA (rd 2) (fun _ => .ok []))) f_check_value)) (sqf (retE (bin2 pAdd (rdw 0) (tupA (consA (tupA (consA (fun _ => .ok (.str (PySem.Str.ofString "read"))) (consA (rd 1) (consA (rd 2) (consA (fun _ => .ok (.bool false)) (fun _ => .ok [])))))) (fun _ => .ok []))))) .nx)))
noncomputable def f_read_on : List D → Out := fnD b_read_on 3
theorem fo_read_on {cs : Nat → Addr} {f : Addr} {fd : FuncData} (F : Fun K "read_on" "read_on" s_read_on f fd) (B : Bi mg) (T : Txt K mg cs) (G_check_day : Cal cs P w K mg base 1 2 "check_day" f_check_day) (G_check_value : Cal cs P w K mg base 1 2 "check_value" f_check_value) (G_size_now : Cal cs P w K mg base 2 1 "size_now" f_size_now) :
    FnOk P w K mg base (L2.CX P w) 3 f fd ["history", "day", "value"] (spD cs K 3 f_read_on) := by
  refine def_ok (K := K) F sc_read_on (fun cdv A outer s H E hr => ?_)
  exact (ds_cons (ds_expr (de_callC tk_of G_check_day (by exact hr.mono (by decide)) (dl_cons (de_var (pv 0)) (dl_cons (de_var (pv 1)) dl_nil)))) (ds_cons (ds_expr (de_callC tk_of G_check_value (by exact hr.mono (by decide)) (dl_cons (de_callC tk_of G_size_now (by exact hr.mono (by decide)) (dl_cons (de_var (pv 0)) dl_nil)) (dl_cons (de_var (pv 2)) dl_nil)))) (ds_cons (ds_ret (de_add (dw_var (pv 0)) (de_tup (dl_cons (de_tup (dl_cons de_str (dl_cons (de_var (pv 1)) (dl_cons (de_var (pv 2)) (dl_cons de_bl dl_nil))))) dl_nil)).weak)) ds_nil)))
/-! ### begun -/
abbrev s_begun : Stmt := topS 8
abbrev nm_begun : List Str := ["history", "day", "size", "value"]
theorem sc_begun : FnScope nm_begun ["history", "day", "size", "value"] (defScope s_begun) := ⟨rfl, rfl, rfl, by decide +kernel, rfl, by decide +kernel, by decide +kernel⟩
noncomputable def b_begun : Rho → Out :=
  (sqf (sIf (thn1 (rdw 0) tru) (sqf (fun r => .ex 2 r) .nx) .nx) (sqf (drpE (callE (consA (rd 2) (consA (rd 3) (fun _ => .ok []))) f_check_value)) (sqf (retE (tupA (consA (tupA (consA (fun _ => .ok (.str (PySem.Str.ofString "start"))) (consA (rd 1) (consA (rd 2) (consA (rd 3) (fun _ => .ok [])))))) (fun _ => .ok [])))) .nx)))
noncomputable def f_begun : List D → Out := fnD b_begun 4
theorem fo_begun {cs : Nat → Addr} {f : Addr} {fd : FuncData} (F : Fun K "begun" "begun" s_begun f fd) (B : Bi mg) (T : Txt K mg cs) (G_check_value : Cal cs P w K mg base 1 2 "check_value" f_check_value) :
    FnOk P w K mg base (L2.CX P w) 2 f fd ["history", "day", "size", "value"] (spD cs K 4 f_begun) := by
  refine def_ok (K := K) F sc_begun (fun cdv A outer s H E hr => ?_)
  exact (ds_cons (ds_if (dt_tru (dw_var (pv 0))) (ds_cons (ds_raise rfl tk_of T.a_StandsAlready) ds_nil) ds_nil) (ds_cons (ds_expr (de_callC tk_of G_check_value (by exact hr.mono (by decide)) (dl_cons (de_var (pv 2)) (dl_cons (de_var (pv 3)) dl_nil)))) (ds_cons (ds_ret (de_tup (dl_cons (de_tup (dl_cons de_str (dl_cons (de_var (pv 1)) (dl_cons (de_var (pv 2)) (dl_cons (de_var (pv 3)) dl_nil))))) dl_nil))) ds_nil)))
/-! ### changed_on -/
abbrev s_changed_on : Stmt := topS 10
abbrev nm_changed_on : List Str := ["history", "day", "last", "size", "first"]
theorem sc_changed_on : FnScope nm_changed_on ["history", "day", "last", "size", "first"] (defScope s_changed_on) := ⟨rfl, rfl, rfl, by decide +kernel, rfl, by decide +kernel, by decide +kernel⟩
noncomputable def r_changed_on_3 : Rho → Out :=
  (sqf (retE (bin2 pAdd (rdw 0) (tupA (consA (tupA (consA (fun _ => .ok (.str (PySem.Str.ofString "change"))) (consA (rd 1) (consA (rd 2) (consA (rd 3) (consA (rd 4) (fun _ => .ok []))))))) (fun _ => .ok []))))) .nx)
noncomputable def r_changed_on_2 : Rho → Out :=
  (sqf (drpE (callE (consA (rd 3) (consA (rd 4) (fun _ => .ok []))) f_check_value)) r_changed_on_3)
noncomputable def r_changed_on_1 : Rho → Out :=
  (sqf (drpE (callE (consA (callE (consA (rd 0) (fun _ => .ok [])) f_size_now) (consA (rd 2) (fun _ => .ok []))) f_check_value)) r_changed_on_2)
noncomputable def b_changed_on : Rho → Out :=
  (sqf (drpE (callE (consA (rd 0) (consA (rd 1) (fun _ => .ok []))) f_check_day)) r_changed_on_1)
noncomputable def f_changed_on : List D → Out := fnD b_changed_on 5
theorem fo_changed_on {cs : Nat → Addr} {f : Addr} {fd : FuncData} (F : Fun K "changed_on" "changed_on" s_changed_on f fd) (B : Bi mg) (T : Txt K mg cs) (G_check_day : Cal cs P w K mg base 1 2 "check_day" f_check_day) (G_check_value : Cal cs P w K mg base 1 2 "check_value" f_check_value) (G_size_now : Cal cs P w K mg base 2 1 "size_now" f_size_now) :
    FnOk P w K mg base (L2.CX P w) 3 f fd ["history", "day", "last", "size", "first"] (spD cs K 5 f_changed_on) := by
  refine def_ok (K := K) F sc_changed_on (fun cdv A outer s H E hr => ?_)
  exact (ds_cons (ds_expr (de_callC tk_of G_check_day (by exact hr.mono (by decide)) (dl_cons (de_var (pv 0)) (dl_cons (de_var (pv 1)) dl_nil)))) (ds_cons (ds_expr (de_callC tk_of G_check_value (by exact hr.mono (by decide)) (dl_cons (de_callC tk_of G_size_now (by exact hr.mono (by decide)) (dl_cons (de_var (pv 0)) dl_nil)) (dl_cons (de_var (pv 2)) dl_nil)))) (ds_cons (ds_expr (de_callC tk_of G_check_value (by exact hr.mono (by decide)) (dl_cons (de_var (pv 3)) (dl_cons (de_var (pv 4)) dl_nil)))) (ds_cons (ds_ret (de_add (dw_var (pv 0)) (de_tup (dl_cons (de_tup (dl_cons de_str (dl_cons (de_var (pv 1)) (dl_cons (de_var (pv 2)) (dl_cons (de_var (pv 3)) (dl_cons (de_var (pv 4)) dl_nil)))))) dl_nil)).weak)) ds_nil))))
/-! ### _law_done -/
abbrev s__law_done : Stmt := topS 23
abbrev nm__law_done : List Str := ["_law_history", "_law_kind", "_law_day", "_law_values", "_law_other"]
theorem sc__law_done : FnScope nm__law_done ["_law_history", "_law_kind", "_law_day", "_law_values", "_law_other"] (defScope s__law_done) := ⟨rfl, rfl, rfl, by decide +kernel, rfl, by decide +kernel, by decide +kernel⟩
noncomputable def b__law_done : Rho → Out :=
  (sqf (sIf (thn1 (bin2 qEq (rdw 1) (fun _ => .ok (.int 0))) asB) (sqf (retE (callE (consA (rd 0) (consA (rd 2) (consA (rd 4) (consA (bin2 qIx (rdw 3) (fun _ => .ok (.int 1))) (fun _ => .ok []))))) f_begun)) .nx) .nx) (sqf (sIf (thn1 (bin2 qEq (rdw 1) (fun _ => .ok (.int 1))) asB) (sqf (retE (callE (consA (rd 0) (consA (rd 2) (consA (bin2 qIx (rdw 3) (fun _ => .ok (.int 0))) (consA (rd 4) (consA (bin2 qIx (rdw 3) (fun _ => .ok (.int 1))) (fun _ => .ok [])))))) f_changed_on)) .nx) .nx) (sqf (retE (callE (consA (rd 0) (consA (rd 2) (consA (bin2 qIx (rdw 3) (fun _ => .ok (.int 0))) (fun _ => .ok [])))) f_read_on)) .nx)))
noncomputable def f__law_done : List D → Out := fnD b__law_done 5
theorem fo__law_done {cs : Nat → Addr} {f : Addr} {fd : FuncData} (F : Fun K "_law_done" "_law_done" s__law_done f fd) (B : Bi mg) (T : Txt K mg cs) (G_read_on : Cal cs P w K mg base 3 3 "read_on" f_read_on) (G_begun : Cal cs P w K mg base 2 4 "begun" f_begun) (G_changed_on : Cal cs P w K mg base 3 5 "changed_on" f_changed_on) :
    FnOk P w K mg base (L2.CX P w) 4 f fd ["_law_history", "_law_kind", "_law_day", "_law_values", "_law_other"] (spD cs K 5 f__law_done) := by
  refine def_ok (K := K) F sc__law_done (fun cdv A outer s H E hr => ?_)
  exact (ds_cons (ds_if (dt_eq (by exact hr.units) (dw_var (pv 1)) de_int.weak) (ds_cons (ds_ret (de_callC tk_of G_begun (by exact hr.mono (by decide)) (dl_cons (de_var (pv 0)) (dl_cons (de_var (pv 2)) (dl_cons (de_var (pv 4)) (dl_cons (de_at (dw_var (pv 3)) de_int.weak) dl_nil)))))) ds_nil) ds_nil) (ds_cons (ds_if (dt_eq (by exact hr.units) (dw_var (pv 1)) de_int.weak) (ds_cons (ds_ret (de_callC tk_of G_changed_on (by exact hr.mono (by decide)) (dl_cons (de_var (pv 0)) (dl_cons (de_var (pv 2)) (dl_cons (de_at (dw_var (pv 3)) de_int.weak) (dl_cons (de_var (pv 4)) (dl_cons (de_at (dw_var (pv 3)) de_int.weak) dl_nil))))))) ds_nil) ds_nil) (ds_cons (ds_ret (de_callC tk_of G_read_on (by exact hr.mono (by decide)) (dl_cons (de_var (pv 0)) (dl_cons (de_var (pv 2)) (dl_cons (de_at (dw_var (pv 3)) de_int.weak) dl_nil))))) ds_nil)))
/-! ### _law_cell_at -/
abbrev s__law_cell_at : Stmt := topS 16
abbrev nm__law_cell_at : List Str := ["_law_script", "_law_k"]
theorem sc__law_cell_at : FnScope nm__law_cell_at ["_law_script", "_law_k"] (defScope s__law_cell_at) := ⟨rfl, rfl, rfl, by decide +kernel, rfl, by decide +kernel, by decide +kernel⟩
noncomputable def b__law_cell_at : Rho → Out :=
  (sqf (sIf (thn1 (bin2 (iCmp fun i j => decide (i < j)) (rdw 1) (then1 (rdw 0) bLen)) asB) (sqf (retE (bin2 qIx (rdw 0) (rdw 1))) .nx) .nx) (sqf (retE (fun _ => .ok (.int 0))) .nx))
noncomputable def f__law_cell_at : List D → Out := fnD b__law_cell_at 2
theorem fo__law_cell_at {cs : Nat → Addr} {f : Addr} {fd : FuncData} (F : Fun K "_law_cell_at" "_law_cell_at" s__law_cell_at f fd) (B : Bi mg) :
    FnOk P w K mg base (L2.CX P w) 1 f fd ["_law_script", "_law_k"] (spD cs K 2 f__law_cell_at) := by
  refine def_ok (K := K) F sc__law_cell_at (fun cdv A outer s H E hr => ?_)
  exact (ds_cons (ds_if (dt_lt (dw_var (pv 1)) (de_len B.len (dw_var (pv 0))).weak) (ds_cons (ds_ret (de_at (dw_var (pv 0)) (dw_var (pv 1)))) ds_nil) ds_nil) (ds_cons (ds_ret de_int) ds_nil))
/-! ### _law_classes -/
abbrev s__law_classes : Stmt := topS 19
abbrev nm__law_classes : List Str := ["_law_e", "_law_found"]
theorem sc__law_classes : FnScope nm__law_classes ["_law_e"] (defScope s__law_classes) := ⟨rfl, rfl, rfl, by decide +kernel, rfl, by decide +kernel, by decide +kernel⟩
noncomputable def b__law_classes (c : Nat) (a : Addr) : Rho → Out :=
  (sqf (setE 1 (lstA (consA (isE 0 a (subC c 1)) (consA (isE 0 a (subC c 2)) (consA (isE 0 a (subC c 3)) (consA (isE 0 a (subC c 4)) (fun _ => .ok []))))))) (sqf (sIf (orT (notT (thn1 (isE 0 a true) tru)) (orT (thn1 (isE 0 a (subC c 5)) tru) (thn1 (bin2 qNe (lstE bCount (rdw 1) (fun _ => .ok (.bool true))) (fun _ => .ok (.int 1))) asB))) (sqf (retE (then1 (fun _ => .ok (.int 1)) negI)) .nx) .nx) (sqf (retE (lstE bIndex (rdw 1) (fun _ => .ok (.bool true)))) .nx)))
noncomputable def g__law_classes : Nat → Res D := resE b__law_classes 2
theorem fo__law_classes {cs : Nat → Addr} {f : Addr} {fd : FuncData} (F : Fun K "_law_classes" "_law_classes" s__law_classes f fd) (B : Bi mg) (T : Txt K mg cs) :
    FnE cs P w K mg base 1 f fd "_law_e" g__law_classes := by
  refine fnE_ok (K := K) F sc__law_classes (fun cdv A outer s H E c a oe hr hz hf => ?_)
  exact (ds_cons (ds_set (i := 1) sc__law_classes.nd rfl (by first | exact Or.inl rfl | exact Or.inr rfl) (de_lst (dl_cons (de_isE (T.c c) hz hf B.isinstance (pv 0) (pe_glob (v := .ref (cs 1)) (by rfl) T.a_NoMeter.g (by rfl)) (fun u h => h) (T.kit_NoMeter c)) (dl_cons (de_isE (T.c c) hz hf B.isinstance (pv 0) (pe_glob (v := .ref (cs 2)) (by rfl) T.a_StandsAlready.g (by rfl)) (fun u h => h) (T.kit_StandsAlready c)) (dl_cons (de_isE (T.c c) hz hf B.isinstance (pv 0) (pe_glob (v := .ref (cs 3)) (by rfl) T.a_NotLater.g (by rfl)) (fun u h => h) (T.kit_NotLater c)) (dl_cons (de_isE (T.c c) hz hf B.isinstance (pv 0) (pe_glob (v := .ref (cs 4)) (by rfl) T.a_NoValue.g (by rfl)) (fun u h => h) (T.kit_NoValue c)) dl_nil)))))) (ds_cons (ds_if (DP.dt (dp_or (dt_not (dt_tru (de_isE (T.c c) hz hf B.isinstance (pv 0) (pe_bltn (v := .ty "ValueError") (u := .type "ValueError") (by rfl) B.ValueError (by decide +kernel) (by rfl)) (fun u h => by cases h; rfl) (T.kitv c)).weak)) (dp_or (dt_tru (de_isE (T.c c) hz hf B.isinstance (pv 0) (pe_glob (v := .ref (cs 5)) (by rfl) T.a_NoReading.g (by rfl)) (fun u h => h) (T.kit_NoReading c)).weak) (dp_or1 (dt_ne (by exact unitsM hr) (de_count (dw_var (pv 1)) de_bl.weak).weak de_int.weak))))) (ds_cons (ds_ret (de_neg de_int.weak)) ds_nil) ds_nil) (ds_cons (ds_ret (de_index (dw_var (pv 1)) de_bl.weak)) ds_nil)))
/-! ### _law_entry -/
abbrev s__law_entry : Stmt := topS 25
abbrev nm__law_entry : List Str := ["_law_kind", "_law_day", "_law_values", "_law_other"]
theorem sc__law_entry : FnScope nm__law_entry ["_law_kind", "_law_day", "_law_values", "_law_other"] (defScope s__law_entry) := ⟨rfl, rfl, rfl, by decide +kernel, rfl, by decide +kernel, by decide +kernel⟩
noncomputable def b__law_entry : Rho → Out :=
  (sqf (sIf (thn1 (bin2 qEq (rdw 0) (fun _ => .ok (.int 0))) asB) (sqf (retE (tupA (consA (fun _ => .ok (.str (PySem.Str.ofString "start"))) (consA (rd 1) (consA (rd 3) (consA (bin2 qIx (rdw 2) (fun _ => .ok (.int 1))) (fun _ => .ok []))))))) .nx) .nx) (sqf (sIf (thn1 (bin2 qEq (rdw 0) (fun _ => .ok (.int 1))) asB) (sqf (retE (tupA (consA (fun _ => .ok (.str (PySem.Str.ofString "change"))) (consA (rd 1) (consA (bin2 qIx (rdw 2) (fun _ => .ok (.int 0))) (consA (rd 3) (consA (bin2 qIx (rdw 2) (fun _ => .ok (.int 1))) (fun _ => .ok [])))))))) .nx) .nx) (sqf (retE (tupA (consA (fun _ => .ok (.str (PySem.Str.ofString "read"))) (consA (rd 1) (consA (bin2 qIx (rdw 2) (fun _ => .ok (.int 0))) (consA (fun _ => .ok (.bool false)) (fun _ => .ok []))))))) .nx)))
noncomputable def f__law_entry : List D → Out := fnD b__law_entry 4
theorem fo__law_entry {cs : Nat → Addr} {f : Addr} {fd : FuncData} (F : Fun K "_law_entry" "_law_entry" s__law_entry f fd) (B : Bi mg) :
    FnOk P w K mg base (L2.CX P w) 1 f fd ["_law_kind", "_law_day", "_law_values", "_law_other"] (spD cs K 4 f__law_entry) := by
  refine def_ok (K := K) F sc__law_entry (fun cdv A outer s H E hr => ?_)
  exact (ds_cons (ds_if (dt_eq (by exact hr.units) (dw_var (pv 0)) de_int.weak) (ds_cons (ds_ret (de_tup (dl_cons de_str (dl_cons (de_var (pv 1)) (dl_cons (de_var (pv 3)) (dl_cons (de_at (dw_var (pv 2)) de_int.weak) dl_nil)))))) ds_nil) ds_nil) (ds_cons (ds_if (dt_eq (by exact hr.units) (dw_var (pv 0)) de_int.weak) (ds_cons (ds_ret (de_tup (dl_cons de_str (dl_cons (de_var (pv 1)) (dl_cons (de_at (dw_var (pv 2)) de_int.weak) (dl_cons (de_var (pv 3)) (dl_cons (de_at (dw_var (pv 2)) de_int.weak) dl_nil))))))) ds_nil) ds_nil) (ds_cons (ds_ret (de_tup (dl_cons de_str (dl_cons (de_var (pv 1)) (dl_cons (de_at (dw_var (pv 2)) de_int.weak) (dl_cons de_bl dl_nil)))))) ds_nil)))
/-! ### law -/
abbrev s_law : Stmt := topS 26
abbrev nm_law : List Str := ["_law_script", "_law_history", "_law_k", "_law_number", "_law_more", "_law_kind", "_law_size", "_law_other", "_law_day", "_law_values", "_law_due_here", "_law_kept", "_law_found", "_law_e"]
theorem sc_law : FnScope nm_law ["_law_script"] (defScope s_law) := ⟨rfl, rfl, rfl, by decide +kernel, rfl, by decide +kernel, by decide +kernel⟩
noncomputable def su_law_1 (c : Nat) (a : Addr) : Rho → Out :=
  (sqf (sIf (thn1 (bin2 qNe (exE 13 a (g__law_classes c).quiet) (rdw 10)) asB) (sqf (retE (fun _ => .ok (.bool false))) .nx) .nx) (sqf .ct .nx))
noncomputable def q1_law_15 : Rho → Out :=
  (sqf (setE 1 (rd 12)) .nx)
noncomputable def q1_law_14 : Rho → Out :=
  (sqf (sIf (andT (thn1 (bin2 (iCmp fun i j => decide (j < i)) (rdw 5) (fun _ => .ok (.int 1))) asB) (notT (thn1 (isiE (fun t => t == "bool") (bin2 qIx (bin2 qIx (rdw 12) (then1 (fun _ => .ok (.int 1)) negI)) (fun _ => .ok (.int 3)))) tru))) (sqf (retE (fun _ => .ok (.bool false))) .nx) .nx) q1_law_15)
noncomputable def q1_law_13 : Rho → Out :=
  (sqf (sIf (thn1 (bin2 qNe (rdw 12) (bin2 pAdd (rdw 1) (tupA (consA (callE (consA (rd 5) (consA (rd 8) (consA (rd 9) (consA (rd 7) (fun _ => .ok []))))) f__law_entry) (fun _ => .ok []))))) asB) (sqf (retE (fun _ => .ok (.bool false))) .nx) .nx) q1_law_14)
noncomputable def q1_law_12 : Rho → Out :=
  (sqf (sIf (orT (thn1 (bin2 qNe (rdw 10) (fun _ => .ok (.int 4))) asB) (orT (thn1 (bin2 qNe (then1 (rdw 1) bList) (rdw 11)) asB) (notT (thn1 (isiE (fun t => t == "tuple") (rdw 12)) tru)))) (sqf (retE (fun _ => .ok (.bool false))) .nx) .nx) q1_law_13)
noncomputable def q1_law_11 : Rho → Out :=
  (sqf (tryE (sqf (setE 12 (callE (consA (rd 1) (consA (rd 5) (consA (rd 8) (consA (rd 9) (consA (rd 7) (fun _ => .ok [])))))) f__law_done)) .nx) 13 (fun c => subC c 0) su_law_1) q1_law_12)
noncomputable def q1_law_10 : Rho → Out :=
  (sqf (setE 11 (then1 (rdw 1) bList)) q1_law_11)
noncomputable def q1_law_9 : Rho → Out :=
  (sqf (setE 10 (callE (consA (rd 1) (consA (rd 5) (consA (rd 8) (consA (rd 9) (consA (rd 6) (consA (rd 7) (fun _ => .ok []))))))) f__law_due)) q1_law_10)
noncomputable def q1_law_8 : Rho → Out :=
  (sqf (setE 9 (lstA (consA (callE (consA (bin2 iDiv (rdw 4) (fun _ => .ok (.int 7))) (consA (rd 6) (fun _ => .ok []))) f__law_value_of) (consA (callE (consA (bin2 iDiv (rdw 3) (fun _ => .ok (.int 11))) (consA (rd 7) (fun _ => .ok []))) f__law_value_of) (fun _ => .ok []))))) q1_law_9)
noncomputable def q1_law_7 : Rho → Out :=
  (sqf (setE 8 (callE (consA (rd 1) (consA (bin2 iDiv (rdw 3) (fun _ => .ok (.int 5))) (fun _ => .ok []))) f__law_day_by)) q1_law_8)
noncomputable def q1_law_6 : Rho → Out :=
  (sqf (setE 7 (callE (consA (rd 4) (fun _ => .ok [])) f__law_size_by)) q1_law_7)
noncomputable def q1_law_5 : Rho → Out :=
  (sqf (sIf (thn1 (bin2 (iCmp fun i j => decide (j < i)) (then1 (rdw 1) bLen) (fun _ => .ok (.int 0))) asB) (sqf (setE 6 (bin2 qIx (callE (consA (rd 1) (fun _ => .ok [])) f__law_sizes) (then1 (fun _ => .ok (.int 1)) negI))) .nx) .nx) q1_law_6)
noncomputable def q1_law_4 : Rho → Out :=
  (sqf (setE 6 (fun _ => .ok (.int 10))) q1_law_5)
noncomputable def q1_law_3 : Rho → Out :=
  (sqf (sIf (andT (thn1 (bin2 qEq (then1 (rdw 1) bLen) (fun _ => .ok (.int 0))) asB) (thn1 (bin2 (iCmp fun i j => decide (j < i)) (bin2 iMod (callE (consA (rd 0) (consA (fun _ => .ok (.int 0)) (fun _ => .ok []))) f__law_cell_at) (fun _ => .ok (.int 3))) (fun _ => .ok (.int 0))) asB)) (sqf (setE 5 (fun _ => .ok (.int 0))) .nx) .nx) q1_law_4)
noncomputable def q1_law_2 : Rho → Out :=
  (sqf (setE 5 (bin2 iMod (rdw 3) (fun _ => .ok (.int 5)))) q1_law_3)
noncomputable def q1_law_1 : Rho → Out :=
  (sqf (setE 4 (callE (consA (rd 0) (consA (bin2 pAdd (fun _ => .ok (.int 80)) (rdw 2)) (fun _ => .ok []))) f__law_mixed)) q1_law_2)
noncomputable def lb_law_1 : Rho → Out :=
  (sqf (setE 3 (callE (consA (rd 0) (consA (bin2 pAdd (fun _ => .ok (.int 40)) (rdw 2)) (fun _ => .ok []))) f__law_mixed)) q1_law_1)
noncomputable def b_law : Rho → Out :=
  (sqf (setE 1 (tupA (fun _ => .ok []))) (sqf (forE (rg1 (then1 (cut3 (rdw 0) (optI (fun _ => .ok (.int 2))) (optI (fun _ => .ok (.int 32)))) bLen)) (aName 2) lb_law_1) (sqf (retE (bin2 qEq (lcE (rg1 (then1 (rdw 1) bLen)) (aName 2) (fun _ => .ok true) (callE (consA (rd 1) (consA (rd 2) (fun _ => .ok []))) f_size_at) [2]) (callE (consA (rd 1) (fun _ => .ok [])) f__law_sizes))) .nx)))
noncomputable def f_law : List D → Out := fnD b_law 14
theorem fo_law {cs : Nat → Addr} {f : Addr} {fd : FuncData} (F : Fun K "law" "law" s_law f fd) (B : Bi mg) (T : Txt K mg cs) (G__law_mixed : Cal cs P w K mg base 1 2 "_law_mixed" f__law_mixed) (G__law_size_by : Cal cs P w K mg base 1 1 "_law_size_by" f__law_size_by) (G__law_day_by : Cal cs P w K mg base 1 2 "_law_day_by" f__law_day_by) (G__law_due : Cal cs P w K mg base 1 6 "_law_due" f__law_due) (G__law_sizes : Cal cs P w K mg base 1 1 "_law_sizes" f__law_sizes) (G__law_value_of : Cal cs P w K mg base 1 2 "_law_value_of" f__law_value_of) (G__law_done : Cal cs P w K mg base 4 5 "_law_done" f__law_done) (G_size_at : Cal cs P w K mg base 1 2 "size_at" f_size_at) (G__law_cell_at : Cal cs P w K mg base 1 2 "_law_cell_at" f__law_cell_at) (G__law_classes : CalE cs P w K mg base 1 "_law_classes" g__law_classes) (G__law_entry : Cal cs P w K mg base 1 4 "_law_entry" f__law_entry) :
    FnOk P w K mg base (L2.CX P w) 5 f fd ["_law_script"] (spD cs K 1 f_law) := by
  refine def_ok (K := K) F sc_law (fun cdv A outer s H E hr => ?_)
  exact (ds_cons (ds_set (i := 1) sc_law.nd rfl (by first | exact Or.inl rfl | exact Or.inr rfl) (de_tup dl_nil)) (ds_cons (ds_for po_of rfl (di_rg1 B.range (de_len B.len (de_slice (dw_var (pv 0)) (do_some de_int.weak) (do_some de_int.weak)).weak).weak) (dg_name (i := 2) sc_law.nd rfl (by first | exact Or.inl rfl | exact Or.inr rfl)) (ds_cons (ds_set (i := 3) sc_law.nd rfl (by first | exact Or.inl rfl | exact Or.inr rfl) (de_callC tk_of G__law_mixed (by exact hr.mono (by decide)) (dl_cons (de_var (pv 0)) (dl_cons (de_add de_int.weak (dw_var (pv 2))) dl_nil)))) (ds_cons (ds_set (i := 4) sc_law.nd rfl (by first | exact Or.inl rfl | exact Or.inr rfl) (de_callC tk_of G__law_mixed (by exact hr.mono (by decide)) (dl_cons (de_var (pv 0)) (dl_cons (de_add de_int.weak (dw_var (pv 2))) dl_nil)))) (ds_cons (ds_set (i := 5) sc_law.nd rfl (by first | exact Or.inl rfl | exact Or.inr rfl) (de_mod (dw_var (pv 3)) de_int.weak)) (ds_cons (ds_if (DP.dt (dp_and (dt_eq (by exact hr.units) (de_len B.len (dw_var (pv 1))).weak de_int.weak) (dp_and1 (dt_gt (de_mod (de_callC tk_of G__law_cell_at (by exact hr.mono (by decide)) (dl_cons (de_var (pv 0)) (dl_cons de_int dl_nil))).weak de_int.weak).weak de_int.weak)))) (ds_cons (ds_set (i := 5) sc_law.nd rfl (by first | exact Or.inl rfl | exact Or.inr rfl) de_int) ds_nil) ds_nil) (ds_cons (ds_set (i := 6) sc_law.nd rfl (by first | exact Or.inl rfl | exact Or.inr rfl) de_int) (ds_cons (ds_if (dt_gt (de_len B.len (dw_var (pv 1))).weak de_int.weak) (ds_cons (ds_set (i := 6) sc_law.nd rfl (by first | exact Or.inl rfl | exact Or.inr rfl) (de_at (de_callC tk_of G__law_sizes (by exact hr.mono (by decide)) (dl_cons (de_var (pv 1)) dl_nil)).weak (de_neg de_int.weak).weak)) ds_nil) ds_nil) (ds_cons (ds_set (i := 7) sc_law.nd rfl (by first | exact Or.inl rfl | exact Or.inr rfl) (de_callC tk_of G__law_size_by (by exact hr.mono (by decide)) (dl_cons (de_var (pv 4)) dl_nil))) (ds_cons (ds_set (i := 8) sc_law.nd rfl (by first | exact Or.inl rfl | exact Or.inr rfl) (de_callC tk_of G__law_day_by (by exact hr.mono (by decide)) (dl_cons (de_var (pv 1)) (dl_cons (de_div (dw_var (pv 3)) de_int.weak) dl_nil)))) (ds_cons (ds_set (i := 9) sc_law.nd rfl (by first | exact Or.inl rfl | exact Or.inr rfl) (de_lst (dl_cons (de_callC tk_of G__law_value_of (by exact hr.mono (by decide)) (dl_cons (de_div (dw_var (pv 4)) de_int.weak) (dl_cons (de_var (pv 6)) dl_nil))) (dl_cons (de_callC tk_of G__law_value_of (by exact hr.mono (by decide)) (dl_cons (de_div (dw_var (pv 3)) de_int.weak) (dl_cons (de_var (pv 7)) dl_nil))) dl_nil)))) (ds_cons (ds_set (i := 10) sc_law.nd rfl (by first | exact Or.inl rfl | exact Or.inr rfl) (de_callC tk_of G__law_due (by exact hr.mono (by decide)) (dl_cons (de_var (pv 1)) (dl_cons (de_var (pv 5)) (dl_cons (de_var (pv 8)) (dl_cons (de_var (pv 9)) (dl_cons (de_var (pv 6)) (dl_cons (de_var (pv 7)) dl_nil)))))))) (ds_cons (ds_set (i := 11) sc_law.nd rfl (by first | exact Or.inl rfl | exact Or.inr rfl) (de_list B.list (dw_var (pv 1)))) (ds_cons (ds_try_as (i := 13) rfl rfl sc_law.nd rfl rfl ⟨rfl, by decide, .inl T.a_MeterError.g⟩ tk_of T.exm_MeterError (fun W' pn xe tk' po' => (ds_cons (ds_set (i := 12) sc_law.nd rfl (by first | exact Or.inl rfl | exact Or.inr rfl) (de_callC tk' G__law_done (by exact hr.mono (by decide)) (dl_cons (de_var (pv 1)) (dl_cons (de_var (pv 5)) (dl_cons (de_var (pv 8)) (dl_cons (de_var (pv 9)) (dl_cons (de_var (pv 7)) dl_nil))))))) ds_nil)) (fun c a oe pn hz hf => (ds_cons (ds_if (dt_ne (by exact hr.units) (de_callE G__law_classes (by exact hotRoom (hr.mono (by decide))) hz hf (pv 13)).weak (dw_var (pv 10))) (ds_cons (ds_ret de_bl) ds_nil) ds_nil) (ds_cons ds_cont ds_nil)))) (ds_cons (ds_if (DP.dt (dp_or (dt_ne (by exact hr.units) (dw_var (pv 10)) de_int.weak) (dp_or (dt_ne (by exact hr.units) (de_list B.list (dw_var (pv 1))).weak (dw_var (pv 11))) (dp_or1 (dt_not (dt_tru (de_isi isi_tuple B.isinstance B.tuple PyProof.Rows.boot_tuple (dw_var (pv 12))).weak)))))) (ds_cons (ds_ret de_bl) ds_nil) ds_nil) (ds_cons (ds_if (dt_ne (by exact hr.units) (dw_var (pv 12)) (de_add (dw_var (pv 1)) (de_tup (dl_cons (de_callC tk_of G__law_entry (by exact hr.mono (by decide)) (dl_cons (de_var (pv 5)) (dl_cons (de_var (pv 8)) (dl_cons (de_var (pv 9)) (dl_cons (de_var (pv 7)) dl_nil))))) dl_nil)).weak).weak) (ds_cons (ds_ret de_bl) ds_nil) ds_nil) (ds_cons (ds_if (DP.dt (dp_and (dt_gt (dw_var (pv 5)) de_int.weak) (dp_and1 (dt_not (dt_tru (de_isi isi_bool B.isinstance B.bool PyProof.Rows.boot_bool (de_at (de_at (dw_var (pv 12)) (de_neg de_int.weak).weak).weak de_int.weak).weak).weak))))) (ds_cons (ds_ret de_bl) ds_nil) ds_nil) (ds_cons (ds_set (i := 1) sc_law.nd rfl (by first | exact Or.inl rfl | exact Or.inr rfl) (de_var (pv 12))) ds_nil))))))))))))))))) (ds_cons (ds_ret (de_eq (by exact hr.units) (de_lc (own := [("_law_k", 2)]) rfl sc_law.nd (di_rg1 B.range (de_len B.len (dw_var (pv 1))).weak) (blkOk_by (own := [("_law_k", 2)]) (N := nm_law) (sc := defScope s_law) (by decide +kernel)) (inOwn_name (by decide)) (fun _ _ _ _ _ => (dg_name (i := 2) sc_law.nd rfl (by first | exact Or.inl rfl | exact Or.inr rfl))) (fun _ _ _ _ _ => dts_nil) (fun _ _ _ _ _ => (de_callC takes00 G_size_at (by exact hr.mono (by decide)) (dl_cons (de_var (pv 1)) (dl_cons (de_var (pv 2)) dl_nil))))).weak (de_callC tk_of G__law_sizes (by exact hr.mono (by decide)) (dl_cons (de_var (pv 1)) dl_nil)).weak)) ds_nil)))
end
end K04
namespace K04
open PySem PySem.Spec PyProof.Rows L2 PD
abbrev script (ns : List Int) : D := .list (ns.map PyData.int)
def cell (ns : List Int) (k : Nat) : Int := ns.getD k 0
theorem cell_run (ns : List Int) (k : Nat) : f__law_cell_at [script ns, .int k] = .rt (.int (cell ns k)) := by
  by_cases h : k < ns.length
  · have e : atI (ns.map PyData.int) (k : Int) = some (.int (cell ns k)) := atI_nat (by simp [cell, h])
    simp [f__law_cell_at, b__law_cell_at, fnD, sqf, sIf, tThen, thn1, bin2, rdw, iCmp, then1, bLen, asB, retE, vThen, h, qIx, items, e]
  · simp [f__law_cell_at, b__law_cell_at, fnD, sqf, sIf, tThen, thn1, bin2, rdw, iCmp, then1, bLen, asB, retE, vThen, h, cell]
theorem iMul_lit_r (i : Int) : iMul (.int i) (.int 48271) = .ok (.int (i * 48271)) := iMul_r (by decide)
def drawn (ns : List Int) (k : Nat) : Int := if ns.length = 0 then 0 else ns.getD (k % ns.length) 0
def mixed (ns : List Int) (k : Nat) : Int :=
  let n := (drawn ns k + 7919 * k) * 48271 % 2147483647
  n * n % 2147483647
theorem mixed_run (ns : List Int) (k : Nat) : f__law_mixed [script ns, .int k] = .rt (.int (mixed ns k)) := by
  have m1 : iMul (.int 7919) (.int (k : Int)) = .ok (.int (7919 * k)) := iMul_l (by decide)
  have m3 : ∀ x : Int, iMul (.int (x % 2147483647)) (.int (x % 2147483647)) = .ok (.int (x % 2147483647 * (x % 2147483647))) := fun x => iMul_l (by omega)
  by_cases h : ns = []
  · subst h
    simp [f__law_mixed, b__law_mixed, r__law_mixed_1, r__law_mixed_2, r__law_mixed_3, fnD, sqf, sIf, tThen, thn1, bin2, rdw, iCmp, then1, bLen, asB, retE, setE, vThen, pAdd, m1, m3, iMul_lit_r, iMod, mixed, drawn]
  · have hl : 0 < ns.length := List.length_pos_iff.mpr h
    have e : atI (ns.map PyData.int) ((k : Int) % (ns.length : Int)) = some (.int (drawn ns k)) := by
      have z : (k : Int) % (ns.length : Int) = ((k % ns.length : Nat) : Int) := by simp
      rw [z]
      refine atI_nat ?_
      have hk : k % ns.length < ns.length := Nat.mod_lt _ hl
      have h0 : ns.length ≠ 0 := by omega
      simp [drawn, hk, h]
    simp [f__law_mixed, b__law_mixed, r__law_mixed_1, r__law_mixed_2, r__law_mixed_3, fnD, sqf, sIf, tThen, thn1, bin2, rdw, iCmp, then1, bLen, asB, retE, setE, vThen, pAdd, m1, m3, iMul_lit_r, iMod, mixed, hl, qIx, items, e]
theorem mixed_range (ns : List Int) (k : Nat) : 0 ≤ mixed ns k ∧ mixed ns k < 2147483647 := by
  unfold mixed
  simp only
  omega
def sizeBy (n : Int) : Int := if n % 4 = 3 then 2 + n * n % (1000000000000 - 1) else ([2, 10, 100, 1000, 100000, 1000000000000, 7, 60] : List Int).getD (n / 4 % 8).toNat 0
theorem size_run {n : Int} (h : 0 ≤ n ∧ n < 2147483647) : f__law_size_by [.int n] = .rt (.int (sizeBy n)) := by
  have m : iMul (.int n) (.int n) = .ok (.int (n * n)) := iMul_l (by omega)
  have d4 : iDiv (.int n) (.int 4) = .ok (.int (n / 4)) := iDiv_lit (by decide)
  have e : atI [PyData.int 2, .int 10, .int 100, .int 1000, .int 100000, .int 1000000000000, .int 7, .int 60] (n / 4 % 8) = some (.int (([2, 10, 100, 1000, 100000, 1000000000000, 7, 60] : List Int).getD (n / 4 % 8).toNat 0)) := by
    have hj : (n / 4 % 8).toNat < 8 := by omega
    have ej : n / 4 % 8 = (((n / 4 % 8).toNat : Nat) : Int) := by omega
    generalize (n / 4 % 8).toNat = j at hj ej
    rw [ej]
    refine atI_nat ?_
    match j, hj with
    | 0, _ => rfl
    | 1, _ => rfl
    | 2, _ => rfl
    | 3, _ => rfl
    | 4, _ => rfl
    | 5, _ => rfl
    | 6, _ => rfl
    | 7, _ => rfl
  by_cases h3 : n % 4 = 3
  · simp [f__law_size_by, b__law_size_by, fnD, sqf, sIf, tThen, thn1, bin2, rdw, asB, retE, vThen, pAdd, m, iMod, iSub, h3, sizeBy]
  · simp [f__law_size_by, b__law_size_by, fnD, sqf, sIf, tThen, thn1, bin2, rdw, asB, retE, vThen, iMod, h3, sizeBy, d4, qIx, items, e, lstA, consA]
theorem size_range {n : Int} (h : 0 ≤ n ∧ n < 2147483647) : 2 ≤ sizeBy n ∧ sizeBy n ≤ 1000000000000 := by
  unfold sizeBy
  by_cases h3 : n % 4 = 3
  · rw [if_pos h3]
    generalize n * n = z
    omega
  · rw [if_neg h3]
    have hj : (n / 4 % 8).toNat < 8 := by omega
    generalize (n / 4 % 8).toNat = j at hj
    match j, hj with
    | 0, _ => decide
    | 1, _ => decide
    | 2, _ => decide
    | 3, _ => decide
    | 4, _ => decide
    | 5, _ => decide
    | 6, _ => decide
    | 7, _ => decide
theorem while_run {es : List Ent} {p : D} {x : Sl} (hb : OkHead es) : ∀ (j n : Nat), j < n → j < es.length → ∃ (i : Nat) (e : Ent), es[i]? = some e ∧ e.isRead = false ∧ lastSize 0 (es.take (i + 1)) = lastSize 0 (es.take (j + 1)) ∧
    whileD (thn1 (bin2 qEq (bin2 qIx (bin2 qIx (rdw 0) (rdw 2)) (fun _ => .ok (.int 0))) (fun _ => .ok (.str (PySem.Str.ofString "read")))) asB) lb_size_at_1 n [.val (hist es), .val p, .val (.int (j : Nat)), x] = .nx [.val (hist es), .val p, .val (.int (i : Nat)), x]
  | _, 0, h, _ => by omega
  | j, n + 1, h, hj => by
    have he := List.getElem?_eq_getElem hj
    generalize es[j] = e at he
    have ix : qIx (hist es) (.int (j : Int)) = .ok e.dat := qIx_at rfl (by rw [atI_cast, datL_get, he]; rfl)
    have a0 := e.at0
    have q := e.qRead
    have test : (thn1 (bin2 qEq (bin2 qIx (bin2 qIx (rdw 0) (rdw 2)) (fun _ => .ok (.int 0))) (fun _ => .ok (.str (PySem.Str.ofString "read")))) asB) [.val (hist es), .val p, .val (.int (j : Nat)), x] = .ok e.isRead := by
      generalize hist es = A at ix
      simp [thn1, bin2, rdw, ix, a0, q, asB]
    unfold whileD tThen
    rw [test, fold_ok]
    cases hr : e.isRead with
    | false => exact ⟨j, e, he, hr, rfl, rfl⟩
    | true =>
      cases j with
      | zero =>
        have := hb e he
        rw [hr] at this
        cases this
      | succ j =>
        obtain ⟨i, f, h1, h2, h3, h4⟩ := while_run (x := x) (p := p) hb j n (by omega) (by omega)
        have step : lb_size_at_1 [.val (hist es), .val p, .val (.int ((j + 1 : Nat) : Int)), x] = .nx [.val (hist es), .val p, .val (.int (j : Nat)), x] := by
          have e1 : ((j + 1 : Nat) : Int) - 1 = (j : Nat) := by omega
          generalize ((j + 1 : Nat) : Int) = z at e1
          generalize hist es = A
          simp [lb_size_at_1, sqf, augE, vThen, PD.opI, e1]
        simp only [if_true, step]
        refine ⟨i, f, h1, h2, ?_, h4⟩
        rw [h3, take_succ_get he, lastSize_app, Ent.size_read hr]
theorem size_at_run {es : List Ent} {j : Nat} (hb : OkHead es) (hj : j < es.length) (hl : es.length ≤ 999) : f_size_at [hist es, .int (j : Nat)] = .rt (.int (lastSize 0 (es.take (j + 1)))) := by
  obtain ⟨i, e, he, hr, hs, hw⟩ := while_run (p := .int (j : Nat)) (x := .no) hb j 1000 (by omega) hj
  have ix : qIx (hist es) (.int (i : Int)) = .ok e.dat := qIx_at rfl (by rw [atI_cast, datL_get, he]; rfl)
  rw [take_succ_get he, lastSize_app] at hs
  rw [← hs]
  have a0 := e.at0
  have a2 := e.at2
  generalize hist es = A at ix hw
  generalize ((j : Nat) : Int) = z at hw
  cases e with
  | read => cases hr
  | start d s v =>
    have q : qEq (.str sStart) (.str sStart) = .ok (.bool true) := by rw [qEq_str ok_start ok_start]; simp
    simp [f_size_at, b_size_at, r_size_at_1, r_size_at_2, r_size_at_3, fnD, sqf, setE, vThen, rd, hw, bin2, rdw, ix, retE, ifV, thn1, a0, a2, Ent.name, q, asB, Ent.two, Ent.size]
  | change d y s v =>
    have q : qEq (.str sChange) (.str sStart) = .ok (.bool false) := by rw [qEq_str ok_change ok_start, ne_cs]
    have a3 : qIx (Ent.change d y s v).dat (.int 3) = .ok (.int s) := by simp [Ent.dat, qIx, items]
    simp [f_size_at, b_size_at, r_size_at_1, r_size_at_2, r_size_at_3, fnD, sqf, setE, vThen, rd, hw, bin2, rdw, ix, retE, ifV, thn1, a0, a3, Ent.name, q, asB, Ent.size]
theorem size_now_run {es : List Ent} (hb : OkHead es) (h0 : es ≠ []) (hl : es.length ≤ 999) : f_size_now [hist es] = .rt (.int (lastSize 0 es)) := by
  have hp : 0 < es.length := List.length_pos_iff.mpr h0
  have r := size_at_run (j := es.length - 1) hb (by omega) hl
  rw [show es.length - 1 + 1 = es.length by omega, List.take_length] at r
  have e1 : ((es.length - 1 : Nat) : Int) = ((es.length : Nat) : Int) - 1 := by omega
  rw [e1] at r
  have la : bLen (hist es) = .ok (.int ((es.length : Nat) : Int)) := by simp [bLen]
  generalize hist es = A at r la
  generalize ((es.length : Nat) : Int) = z at r la
  simp [f_size_now, b_size_now, fnD, sqf, retE, vThen, callE, consA, rd, rdw, bin2, then1, la, iSub, r, outR]
end K04

namespace K04
open PySem PySem.Spec PyProof.Rows L2 PD
def small (x : Int) : Prop := x.natAbs.log2 < 1920
theorem small_of {x : Int} (h : -(2 ^ 60) ≤ x ∧ x ≤ 2 ^ 60) : small x := by
  unfold small
  by_cases z : x.natAbs = 0
  · rw [z]
    decide
  · have := (Nat.log2_lt z (k := 64)).mpr (by omega)
    omega
theorem check_value_run {s v : Int} (hs : small s) (hv : small v) : outR (f_check_value [.int s, .int v]) = if s ≤ v then .ex 4 else .ok .none := by
  unfold small at hs hv
  by_cases h : s ≤ v
  · simp [f_check_value, b_check_value, fnD, sqf, sIf, tThen, thn1, bin2, rdw, iCmp, h, asB, rsE, msgI, hs, hv]
  · simp [f_check_value, b_check_value, fnD, sqf, sIf, tThen, thn1, bin2, rdw, iCmp, h, asB]
theorem check_day_none {d : Int} : outR (f_check_day [hist [], .int d]) = .ex 1 := by
  simp [f_check_day, b_check_day, fnD, sqf, sIf, tThen, thn1, notT, rdw, tru]
theorem last_at {es : List Ent} {e : Ent} (h : es.getLast? = some e) : qIx (hist es) (.int (-1)) = .ok e.dat := qIx_at rfl (by rw [atI_m1, List.getLast?_map, h]; rfl)
theorem tru_hist {es : List Ent} (h : es ≠ []) : tru (hist es) = .ok true := by
  cases es with
  | nil => exact absurd rfl h
  | cons e t => rfl
theorem check_day_run {es : List Ent} {e : Ent} {d : Int} (h : es.getLast? = some e) (hd : small d) (he : small e.day) : outR (f_check_day [hist es, .int d]) = if d ≤ e.day then .ex 3 else .ok .none := by
  unfold small at hd he
  have ix := last_at h
  have t := tru_hist (es := es) (by rintro rfl; cases h)
  have a1 := e.at1
  generalize hist es = A at ix t
  generalize e.dat = B at ix a1
  by_cases hh : d ≤ e.day
  · simp [f_check_day, b_check_day, fnD, sqf, sIf, tThen, thn1, then1, notT, rdw, t, bin2, negI, ix, a1, setE, vThen, iCmp, hh, asB, rsE, msgI, hd, he]
  · simp [f_check_day, b_check_day, fnD, sqf, sIf, tThen, thn1, then1, notT, rdw, t, bin2, negI, ix, a1, setE, vThen, iCmp, hh, asB]
theorem drp_ok {gl : Rho → Res (List D)} {f : List D → Out} {r : Rho} {ds : List D} {d : D} (h : gl r = .ok ds) (ho : outR (f ds) = .ok d) : drpE (callE gl f) r = .nx r := by simp [drpE, vThen, callE, h, ho]
theorem begun_none {d s v : Int} (hs : small s) (hv : small v) : outR (f_begun [hist [], .int d, .int s, .int v]) = if s ≤ v then .ex 4 else .ok (hist [.start d s v]) := by
  have c := check_value_run hs hv
  by_cases h : s ≤ v
  · rw [if_pos h] at c ⊢
    simp [f_begun, b_begun, fnD, sqf, sIf, tThen, thn1, rdw, tru, drpE, vThen, callE, consA, rd, c]
  · rw [if_neg h] at c ⊢
    simp [f_begun, b_begun, fnD, sqf, sIf, tThen, thn1, rdw, tru, drpE, vThen, callE, consA, rd, c, retE, tupA, Ent.dat]
theorem begun_some {es : List Ent} {d s v : Int} (h : es ≠ []) : outR (f_begun [hist es, .int d, .int s, .int v]) = .ex 2 := by
  have t := tru_hist h
  generalize hist es = A at t
  simp [f_begun, b_begun, fnD, sqf, sIf, tThen, thn1, rdw, t]
theorem app_one {es : List Ent} {e : Ent} (hl : es.length ≤ 999) : pAdd (hist es) (.tuple [e.dat]) = .ok (hist (es ++ [e])) := by
  have : (datL es).length + [e.dat].length ≤ 16777216 := by
    rw [List.length_map]
    simp
    omega
  unfold pAdd
  simp only [hist]
  rw [if_pos this]
  simp [datL]
theorem read_on_none {d v : Int} : outR (f_read_on [hist [], .int d, .int v]) = .ex 1 := by
  have c := check_day_none (d := d)
  generalize hist [] = A at c ⊢
  simp [f_read_on, b_read_on, fnD, sqf, drpE, vThen, callE, consA, rd, c]
theorem changed_on_none {d v s w : Int} : outR (f_changed_on [hist [], .int d, .int v, .int s, .int w]) = .ex 1 := by
  have c := check_day_none (d := d)
  generalize hist [] = A at c ⊢
  simp [f_changed_on, b_changed_on, fnD, sqf, drpE, vThen, callE, consA, rd, c]
theorem read_on_run {es : List Ent} {e : Ent} {d v z : Int} (h : es.getLast? = some e) (hd : small d) (he : small e.day) (hb : OkHead es) (hl : es.length ≤ 999) (hz : lastSize 0 es = z) (sz : small z) (sv : small v) :
    outR (f_read_on [hist es, .int d, .int v]) = if d ≤ e.day then .ex 3 else if z ≤ v then .ex 4 else .ok (hist (es ++ [.read d v false])) := by
  have c := check_day_run h hd he
  have n := size_now_run hb (by rintro rfl; cases h) hl
  rw [hz] at n
  have cv := check_value_run sz sv
  have ap := app_one (e := .read d v false) hl
  simp only [Ent.dat] at ap
  generalize hist (es ++ [.read d v false]) = B at ap ⊢
  generalize hist es = A at c n ap ⊢
  by_cases h1 : d ≤ e.day
  · rw [if_pos h1] at c ⊢
    simp [f_read_on, b_read_on, fnD, sqf, drpE, vThen, callE, consA, rd, c]
  · rw [if_neg h1] at c ⊢
    by_cases h2 : z ≤ v
    · rw [if_pos h2] at cv ⊢
      simp [f_read_on, b_read_on, fnD, sqf, drpE, vThen, callE, consA, rd, c, n, cv]
    · rw [if_neg h2] at cv ⊢
      simp [f_read_on, b_read_on, fnD, sqf, drpE, vThen, callE, consA, rd, rdw, c, n, cv, retE, bin2, tupA, ap]
theorem changed_on_run {es : List Ent} {e : Ent} {d v s w z : Int} (h : es.getLast? = some e) (hd : small d) (he : small e.day) (hb : OkHead es) (hl : es.length ≤ 999) (hz : lastSize 0 es = z) (sz : small z) (sv : small v) (ss : small s) (sw : small w) :
    outR (f_changed_on [hist es, .int d, .int v, .int s, .int w]) = if d ≤ e.day then .ex 3 else if z ≤ v ∨ s ≤ w then .ex 4 else .ok (hist (es ++ [.change d v s w])) := by
  have c := check_day_run h hd he
  have n := size_now_run hb (by rintro rfl; cases h) hl
  rw [hz] at n
  have cv := check_value_run sz sv
  have cw := check_value_run ss sw
  have ap := app_one (e := .change d v s w) hl
  simp only [Ent.dat] at ap
  generalize hist (es ++ [.change d v s w]) = B at ap ⊢
  generalize hist es = A at c n ap ⊢
  by_cases h1 : d ≤ e.day
  · rw [if_pos h1] at c ⊢
    simp [f_changed_on, b_changed_on, fnD, sqf, drpE, vThen, callE, consA, rd, c]
  · rw [if_neg h1] at c ⊢
    by_cases h2 : z ≤ v
    · rw [if_pos h2] at cv
      rw [if_pos (.inl h2)]
      simp [f_changed_on, b_changed_on, r_changed_on_1, fnD, sqf, drpE, vThen, callE, consA, rd, c, n, cv]
    · rw [if_neg h2] at cv
      by_cases h3 : s ≤ w
      · rw [if_pos h3] at cw
        rw [if_pos (.inr h3)]
        simp [f_changed_on, b_changed_on, r_changed_on_1, r_changed_on_2, fnD, sqf, drpE, vThen, callE, consA, rd, c, n, cv, cw]
      · rw [if_neg h3] at cw
        rw [if_neg (by rintro (q | q) <;> contradiction)]
        simp [f_changed_on, b_changed_on, r_changed_on_1, r_changed_on_2, r_changed_on_3, fnD, sqf, drpE, vThen, callE, consA, rd, rdw, c, n, cv, cw, retE, bin2, tupA, ap]
end K04

namespace K04
open PySem PySem.Spec PyProof.Rows L2 PD
theorem sizes_run {es : List Ent} (hb : OkHead es) (hl : es.length ≤ 999) : f__law_sizes [hist es] = .rt (.list ((sizesOf 0 es).map PyData.int)) := by
  obtain ⟨r2, e2, x, rfl⟩ := forD_inv (asg := aName 2) (f := lb__law_sizes_1) (datL es) [.val (hist es), .own [], .no]
    (fun i r => ∃ x, r = [.val (hist es), .own ((sizesOf 0 (es.take i)).map PyData.int), x]) 0 ⟨_, rfl⟩ (by
      rintro i d r hd ⟨x, rfl⟩
      rw [Nat.zero_add] at *
      rw [datL_get] at hd
      cases he : es[i]? with
      | none => rw [he] at hd; cases hd
      | some e =>
        rw [he] at hd
        cases hd
        refine ⟨_, _, rfl, .inl ?_, .val e.dat, rfl⟩
        rw [take_succ_get he, sizesOf_app, List.map_append]
        have hlt : i < es.length := (List.getElem?_eq_some_iff.mp he).1
        have hlen : ((sizesOf 0 (es.take i)).map PyData.int).length < 16777216 := by
          rw [List.length_map, sizesOf_length, List.length_take]
          omega
        have a0 := e.at0
        have a2 := e.at2
        have hs : e.isRead = true → qIx (.list ((sizesOf 0 (es.take i)).map PyData.int)) (.int (-1)) = .ok (.int (lastSize 0 (es.take i))) := fun hr => by
          refine qIx_at rfl ?_
          rw [atI_m1, List.getLast?_map]
          have ne : es.take i ≠ [] := by
            cases i with
            | zero =>
              have := hb e he
              rw [hr] at this
              cases this
            | succ i =>
              intro z
              have := congrArg List.length z
              rw [List.length_take, List.length_nil] at this
              omega
          rw [sizesOf_last 0 _ ne]
          rfl
        generalize lastSize 0 (es.take i) = z at hs ⊢
        generalize (sizesOf 0 (es.take i)).map PyData.int = L at hlen hs ⊢
        generalize hist es = A
        cases e with
        | start d s v =>
          have q : qEq (.str sStart) (.str sStart) = .ok (.bool true) := by rw [qEq_str ok_start ok_start]; simp
          simp [lb__law_sizes_1, setsD, sqf, sIf, tThen, thn1, bin2, rd, rdw, a0, a2, Ent.name, q, asB, apndE, apnd, vThen, Ent.two, Ent.size, hlen]
        | change d y s v =>
          have q : qEq (.str sChange) (.str sStart) = .ok (.bool false) := by rw [qEq_str ok_change ok_start, ne_cs]
          have a3 : qIx (Ent.change d y s v).dat (.int 3) = .ok (.int s) := by simp [Ent.dat, qIx, items]
          simp [lb__law_sizes_1, setsD, sqf, sIf, tThen, thn1, bin2, rd, rdw, a0, a3, Ent.name, q, q_cc, asB, apndE, apnd, vThen, Ent.size, hlen]
        | read d v x2 =>
          have q : qEq (.str sRead) (.str sStart) = .ok (.bool false) := by rw [qEq_str ok_read ok_start, ne_rs]
          have hs := hs rfl
          simp [lb__law_sizes_1, setsD, sqf, sIf, tThen, thn1, then1, negI, bin2, rd, rdw, a0, Ent.name, q, q_rc, asB, apndE, apnd, vThen, Ent.size, hlen, hs])
  have e3 : (datL es).length = es.length := List.length_map _
  rw [Nat.zero_add, e3, List.take_length] at e2
  generalize (sizesOf 0 es).map PyData.int = L at e2 ⊢
  change forD (aName 2) lb__law_sizes_1 (datL es) [.val (.tuple (datL es)), .own [], .no] = _ at e2
  show f__law_sizes [.tuple (datL es)] = _
  generalize datL es = A at e2 ⊢
  simp [f__law_sizes, b__law_sizes, fnD, sqf, lThen, forE, asS, rd, items, e2, frz, retE, vThen]
theorem classes_run {c : Nat} {u : Int} (h : (c = 1 ∧ u = 0) ∨ (c = 2 ∧ u = 1) ∨ (c = 3 ∧ u = 2) ∨ (c = 4 ∧ u = 3)) : g__law_classes c = .ok (.int u) := by
  refine resE_eq fun a => ?_
  have z : ∀ i j, subC i j = subC i j := fun _ _ => rfl
  rcases h with ⟨rfl, rfl⟩ | ⟨rfl, rfl⟩ | ⟨rfl, rfl⟩ | ⟨rfl, rfl⟩
  · have s1 : subC 1 1 = true := by decide
    have s2 : subC 1 2 = false := by decide
    have s3 : subC 1 3 = false := by decide
    have s4 : subC 1 4 = false := by decide
    have s5 : subC 1 5 = false := by decide
    simp [b__law_classes, sqf, setE, vThen, lstA, consA, isE, s1, s2, s3, s4, s5, sIf, tThen, thn1, orT, notT, tru, bin2, lstE, rdw, bCount, flatD, asB, retE, bIndex, List.findIdx?_cons]
  · have s1 : subC 2 1 = false := by decide
    have s2 : subC 2 2 = true := by decide
    have s3 : subC 2 3 = false := by decide
    have s4 : subC 2 4 = false := by decide
    have s5 : subC 2 5 = false := by decide
    simp [b__law_classes, sqf, setE, vThen, lstA, consA, isE, s1, s2, s3, s4, s5, sIf, tThen, thn1, orT, notT, tru, bin2, lstE, rdw, bCount, flatD, asB, retE, bIndex, List.findIdx?_cons]
  · have s1 : subC 3 1 = false := by decide
    have s2 : subC 3 2 = false := by decide
    have s3 : subC 3 3 = true := by decide
    have s4 : subC 3 4 = false := by decide
    have s5 : subC 3 5 = false := by decide
    simp [b__law_classes, sqf, setE, vThen, lstA, consA, isE, s1, s2, s3, s4, s5, sIf, tThen, thn1, orT, notT, tru, bin2, lstE, rdw, bCount, flatD, asB, retE, bIndex, List.findIdx?_cons]
  · have s1 : subC 4 1 = false := by decide
    have s2 : subC 4 2 = false := by decide
    have s3 : subC 4 3 = false := by decide
    have s4 : subC 4 4 = true := by decide
    have s5 : subC 4 5 = false := by decide
    simp [b__law_classes, sqf, setE, vThen, lstA, consA, isE, s1, s2, s3, s4, s5, sIf, tThen, thn1, orT, notT, tru, bin2, lstE, rdw, bCount, flatD, asB, retE, bIndex, List.findIdx?_cons]
def ent (kind d v0 v1 other : Int) : Ent := if kind = 0 then .start d other v1 else if kind = 1 then .change d v0 other v1 else .read d v0 false
theorem entry_run {kind d v0 v1 other : Int} : f__law_entry [.int kind, .int d, .list [.int v0, .int v1], .int other] = .rt (ent kind d v0 v1 other).dat := by
  by_cases h0 : kind = 0
  · subst h0
    simp [f__law_entry, b__law_entry, fnD, sqf, sIf, tThen, thn1, bin2, rd, rdw, asB, retE, vThen, tupA, consA, qIx, items, ent, Ent.dat]
  · by_cases h1 : kind = 1
    · subst h1
      simp [f__law_entry, b__law_entry, fnD, sqf, sIf, tThen, thn1, bin2, rd, rdw, asB, retE, vThen, tupA, consA, qIx, items, ent, Ent.dat]
    · simp [f__law_entry, b__law_entry, fnD, sqf, sIf, tThen, thn1, bin2, rd, rdw, asB, retE, vThen, tupA, consA, qIx, items, ent, Ent.dat, h0, h1]
theorem len_hist (es : List Ent) : bLen (hist es) = .ok (.int ((es.length : Nat) : Int)) := by simp [bLen]
/-- what the law awaits, and what the program does -/
theorem both_run {es : List Ent} {kind d v0 v1 z other : Int} (hb : OkHead es) (hl : es.length ≤ 999) (hd : small d) (hdays : ∀ e ∈ es, small e.day) (hz : es ≠ [] → lastSize 0 es = z) (sz : small z) (s0 : small v0) (s1 : small v1) (so : small other) :
    ∃ u : Int, f__law_due [hist es, .int kind, .int d, .list [.int v0, .int v1], .int z, .int other] = .rt (.int u) ∧
      ((u = 4 ∧ (kind = 0 ↔ es = []) ∧ outR (f__law_done [hist es, .int kind, .int d, .list [.int v0, .int v1], .int other]) = .ok (hist (es ++ [ent kind d v0 v1 other]))) ∨
       ∃ c, outR (f__law_done [hist es, .int kind, .int d, .list [.int v0, .int v1], .int other]) = .ex c ∧ subC c 0 = true ∧ g__law_classes c = .ok (.int u)) := by
  have k1 := classes_run (c := 1) (u := 0) (by simp)
  have k2 := classes_run (c := 2) (u := 1) (by simp)
  have k3 := classes_run (c := 3) (u := 2) (by simp)
  have k4 := classes_run (c := 4) (u := 3) (by simp)
  have b1 : subC 1 0 = true := by decide
  have b2 : subC 2 0 = true := by decide
  have b3 : subC 3 0 = true := by decide
  have b4 : subC 4 0 = true := by decide
  have la := len_hist es
  have i0 : qIx (.list [.int v0, .int v1]) (.int 0) = .ok (.int v0) := by simp [qIx, items]
  have i1 : qIx (.list [.int v0, .int v1]) (.int 1) = .ok (.int v1) := by simp [qIx, items]
  by_cases h0 : kind = 0
  · subst h0
    cases es with
    | cons a t =>
      have bs := begun_some (es := a :: t) (d := d) (s := other) (v := v1) (by simp)
      have pos : (0 : Int) < (((a :: t).length : Nat) : Int) := by simp only [List.length_cons]; omega
      generalize hist (a :: t) = A at la bs ⊢
      generalize (((a :: t).length : Nat) : Int) = n at la pos
      generalize PyData.list [.int v0, .int v1] = V at i0 i1 ⊢
      refine ⟨1, ?_, .inr ⟨2, ?_, b2, k2⟩⟩
      · simp [f__law_due, b__law_due, fnD, sqf, sIf, tThen, thn1, then1, bin2, rd, rdw, asB, la, iCmp, pos, retE, vThen]
      · simp [f__law_done, b__law_done, fnD, sqf, sIf, tThen, thn1, bin2, rd, rdw, asB, retE, vThen, callE, consA, i1, bs]
    | nil =>
      have bs := begun_none (d := d) so s1
      have en : ent 0 d v0 v1 other = .start d other v1 := rfl
      rw [en]
      simp only [List.length_nil, List.nil_append] at la ⊢
      by_cases hv : other ≤ v1
      · rw [if_pos hv] at bs
        have mm : qIx (.list [.int 4, .int 3]) (.int 1) = .ok (.int 3) := by simp [qIx, items]
        generalize hist [] = A at la bs ⊢
        generalize PyData.list [.int v0, .int v1] = V at i0 i1 ⊢
        refine ⟨3, ?_, .inr ⟨4, ?_, b4, k4⟩⟩
        · simp [f__law_due, b__law_due, fnD, sqf, sIf, tThen, thn1, then1, bin2, rd, rdw, asB, la, iCmp, retE, vThen, lstA, consA, i1, hv, bInt, mm]
        · simp [f__law_done, b__law_done, fnD, sqf, sIf, tThen, thn1, bin2, rd, rdw, asB, retE, vThen, callE, consA, i1, bs]
      · rw [if_neg hv] at bs
        have mm : qIx (.list [.int 4, .int 3]) (.int 0) = .ok (.int 4) := by simp [qIx, items]
        generalize hist [.start d other v1] = B at bs ⊢
        generalize hist [] = A at la bs ⊢
        generalize PyData.list [.int v0, .int v1] = V at i0 i1 ⊢
        refine ⟨4, ?_, .inl ⟨rfl, by simp, ?_⟩⟩
        · simp [f__law_due, b__law_due, fnD, sqf, sIf, tThen, thn1, then1, bin2, rd, rdw, asB, la, iCmp, retE, vThen, lstA, consA, i1, hv, bInt, mm]
        · simp [f__law_done, b__law_done, fnD, sqf, sIf, tThen, thn1, bin2, rd, rdw, asB, retE, vThen, callE, consA, i1, bs]
  · cases he : es.getLast? with
    | none =>
      have en : es = [] := List.getLast?_eq_none_iff.mp he
      subst en
      have ro := read_on_none (d := d) (v := v0)
      have co := changed_on_none (d := d) (v := v0) (s := other) (w := v1)
      simp only [List.length_nil] at la
      generalize hist [] = A at la ro co ⊢
      generalize PyData.list [.int v0, .int v1] = V at i0 i1 ⊢
      refine ⟨0, ?_, .inr ⟨1, ?_, b1, k1⟩⟩
      · simp [f__law_due, b__law_due, r__law_due_1, fnD, sqf, sIf, tThen, thn1, then1, bin2, rd, rdw, asB, la, retE, vThen, h0]
      · by_cases h1 : kind = 1
        · simp [f__law_done, b__law_done, fnD, sqf, sIf, tThen, thn1, bin2, rd, rdw, asB, retE, vThen, callE, consA, i0, i1, h1, co]
        · simp [f__law_done, b__law_done, fnD, sqf, sIf, tThen, thn1, bin2, rd, rdw, asB, retE, vThen, callE, consA, i0, i1, h0, h1, ro]
    | some e =>
      have hm : e ∈ es := List.mem_of_getLast? he
      have ne : es ≠ [] := by rintro rfl; cases he
      have ro := read_on_run (v := v0) he hd (hdays e hm) hb hl (hz ne) sz s0
      have co := changed_on_run (v := v0) (s := other) (w := v1) he hd (hdays e hm) hb hl (hz ne) sz s0 so s1
      have ix := last_at he
      have a1 := e.at1
      have n0 : ¬ ((es.length : Nat) : Int) = 0 := by
        have := List.length_pos_iff.mpr ne
        omega
      have e1 : kind = 1 → ent kind d v0 v1 other = .change d v0 other v1 := fun h => by subst h; rfl
      have e2 : ¬ kind = 1 → ent kind d v0 v1 other = .read d v0 false := fun h => by unfold ent; rw [if_neg h0, if_neg h]
      have nk : (kind = 0 ↔ es = []) := ⟨fun h => absurd h h0, fun h => absurd h ne⟩
      by_cases h1 : kind = 1
      · rw [e1 h1]
        clear e1 e2 ro
        generalize hist (es ++ [.change d v0 other v1]) = B at co ⊢
        generalize hist es = A at la ix co ⊢
        generalize ((es.length : Nat) : Int) = n at la n0
        generalize e.dat = E at ix a1
        generalize PyData.list [.int v0, .int v1] = V at i0 i1 ⊢
        subst h1
        by_cases hda : d ≤ e.day
        · rw [if_pos hda] at co
          refine ⟨2, ?_, .inr ⟨3, ?_, b3, k3⟩⟩
          · simp [f__law_due, b__law_due, r__law_due_1, r__law_due_2, fnD, sqf, sIf, tThen, thn1, then1, negI, bin2, rd, rdw, asB, la, n0, iCmp, ix, a1, hda, retE, vThen]
          · simp [f__law_done, b__law_done, fnD, sqf, sIf, tThen, thn1, bin2, rd, rdw, asB, retE, vThen, callE, consA, i0, i1, co]
        · rw [if_neg hda] at co
          by_cases hv : z ≤ v0 ∨ other ≤ v1
          · rw [if_pos hv] at co
            refine ⟨3, ?_, .inr ⟨4, ?_, b4, k4⟩⟩
            · by_cases hz0 : z ≤ v0
              · simp [f__law_due, b__law_due, r__law_due_1, r__law_due_2, r__law_due_3, fnD, sqf, sIf, tThen, thn1, then1, negI, bin2, rd, rdw, asB, la, n0, iCmp, ix, a1, hda, retE, vThen, orT, i0, hz0]
              · have hw := hv.resolve_left hz0
                simp [f__law_due, b__law_due, r__law_due_1, r__law_due_2, r__law_due_3, fnD, sqf, sIf, tThen, thn1, then1, negI, bin2, rd, rdw, asB, la, n0, iCmp, ix, a1, hda, retE, vThen, orT, andT, i0, i1, hz0, hw]
            · simp [f__law_done, b__law_done, fnD, sqf, sIf, tThen, thn1, bin2, rd, rdw, asB, retE, vThen, callE, consA, i0, i1, co]
          · rw [if_neg hv] at co
            have hz0 : ¬ z ≤ v0 := fun q => hv (.inl q)
            have hw : ¬ other ≤ v1 := fun q => hv (.inr q)
            refine ⟨4, ?_, .inl ⟨rfl, nk, ?_⟩⟩
            · simp [f__law_due, b__law_due, r__law_due_1, r__law_due_2, r__law_due_3, r__law_due_4, fnD, sqf, sIf, tThen, thn1, then1, negI, bin2, rd, rdw, asB, la, n0, iCmp, ix, a1, hda, retE, vThen, orT, andT, i0, i1, hz0, hw]
            · simp [f__law_done, b__law_done, fnD, sqf, sIf, tThen, thn1, bin2, rd, rdw, asB, retE, vThen, callE, consA, i0, i1, co]
      · rw [e2 h1]
        clear e1 e2 co
        generalize hist (es ++ [.read d v0 false]) = B at ro ⊢
        generalize hist es = A at la ix ro ⊢
        generalize ((es.length : Nat) : Int) = n at la n0
        generalize e.dat = E at ix a1
        generalize PyData.list [.int v0, .int v1] = V at i0 i1 ⊢
        by_cases hda : d ≤ e.day
        · rw [if_pos hda] at ro
          refine ⟨2, ?_, .inr ⟨3, ?_, b3, k3⟩⟩
          · simp [f__law_due, b__law_due, r__law_due_1, r__law_due_2, fnD, sqf, sIf, tThen, thn1, then1, negI, bin2, rd, rdw, asB, la, n0, iCmp, ix, a1, hda, retE, vThen, h0]
          · simp [f__law_done, b__law_done, fnD, sqf, sIf, tThen, thn1, bin2, rd, rdw, asB, retE, vThen, callE, consA, i0, i1, h0, h1, ro]
        · rw [if_neg hda] at ro
          by_cases hz0 : z ≤ v0
          · rw [if_pos hz0] at ro
            refine ⟨3, ?_, .inr ⟨4, ?_, b4, k4⟩⟩
            · simp [f__law_due, b__law_due, r__law_due_1, r__law_due_2, r__law_due_3, fnD, sqf, sIf, tThen, thn1, then1, negI, bin2, rd, rdw, asB, la, n0, iCmp, ix, a1, hda, retE, vThen, orT, i0, hz0, h0]
            · simp [f__law_done, b__law_done, fnD, sqf, sIf, tThen, thn1, bin2, rd, rdw, asB, retE, vThen, callE, consA, i0, i1, h0, h1, ro]
          · rw [if_neg hz0] at ro
            refine ⟨4, ?_, .inl ⟨rfl, nk, ?_⟩⟩
            · simp [f__law_due, b__law_due, r__law_due_1, r__law_due_2, r__law_due_3, r__law_due_4, fnD, sqf, sIf, tThen, thn1, then1, negI, bin2, rd, rdw, asB, la, n0, iCmp, ix, a1, hda, retE, vThen, orT, andT, i0, i1, hz0, h0, h1]
            · simp [f__law_done, b__law_done, fnD, sqf, sIf, tThen, thn1, bin2, rd, rdw, asB, retE, vThen, callE, consA, i0, i1, h0, h1, ro]
end K04

namespace K04
open PySem PySem.Spec PyProof.Rows L2 PD
theorem value_of_run {n s : Int} (hs : 0 < s) : ∃ v, f__law_value_of [.int n, .int s] = .rt (.int v) ∧ 0 ≤ v ∧ v ≤ s := by
  have d3 : iDiv (.int n) (.int 3) = .ok (.int (n / 3)) := iDiv_lit (by decide)
  have r := Int.emod_nonneg (n / 3) (show s ≠ 0 by omega)
  have q := Int.emod_lt_of_pos (n / 3) hs
  have h4 : n % 4 = 0 ∨ n % 4 = 1 ∨ n % 4 = 2 ∨ n % 4 = 3 := by omega
  rcases h4 with h | h | h | h
  · exact ⟨n / 3 % s, by simp [f__law_value_of, b__law_value_of, fnD, sqf, retE, vThen, bin2, lstA, consA, d3, rd, rdw, iMod, hs, iSub, h, qIx, items], r, by omega⟩
  · exact ⟨n / 3 % s, by simp [f__law_value_of, b__law_value_of, fnD, sqf, retE, vThen, bin2, lstA, consA, d3, rd, rdw, iMod, hs, iSub, h, qIx, items], r, by omega⟩
  · exact ⟨s - 1, by simp [f__law_value_of, b__law_value_of, fnD, sqf, retE, vThen, bin2, lstA, consA, d3, rd, rdw, iMod, hs, iSub, h, qIx, items], by omega, by omega⟩
  · exact ⟨s, by simp [f__law_value_of, b__law_value_of, fnD, sqf, retE, vThen, bin2, lstA, consA, d3, rd, rdw, iMod, hs, iSub, h, qIx, items], by omega, Int.le_refl _⟩
theorem clamp_run {x : Int} : ∃ d, (bMax (.int 0) (.int x)).bind (fun y => bMin (.int 2000) y) = .ok (.int d) ∧ 0 ≤ d ∧ d ≤ 2000 := by
  simp only [bMax, bind_ok, bMin]
  refine ⟨_, rfl, ?_, ?_⟩ <;> split <;> split <;> omega
theorem day_by_run {es : List Ent} {n : Int} : ∃ d, f__law_day_by [hist es, .int n] = .rt (.int d) ∧ 0 ≤ d ∧ d ≤ 2000 := by
  have d9 : iDiv (.int n) (.int 9) = .ok (.int (n / 9)) := iDiv_lit (by decide)
  have la := len_hist es
  have h5 : n / 9 % 5 = 0 ∨ n / 9 % 5 = 1 ∨ n / 9 % 5 = 2 ∨ n / 9 % 5 = 3 ∨ n / 9 % 5 = 4 := by omega
  have pick : ∀ l : Int, ∃ x, qIx (.list [.int (l + 1 + n % 9), .int (l + 1), .int l, .int (l - 1), .int (n % 300)]) (.int (n / 9 % 5)) = .ok (.int x) := fun l => by
    rcases h5 with h | h | h | h | h <;> rw [h]
    · exact ⟨_, by simp [qIx, items]; rfl⟩
    · exact ⟨_, by simp [qIx, items]; rfl⟩
    · exact ⟨_, by simp [qIx, items]; rfl⟩
    · exact ⟨_, by simp [qIx, items]; rfl⟩
    · exact ⟨_, by simp [qIx, items]; rfl⟩
  cases he : es.getLast? with
  | none =>
    have en : es = [] := List.getLast?_eq_none_iff.mp he
    subst en
    obtain ⟨x, hx⟩ := pick 0
    obtain ⟨d, hd, d0, d1⟩ := clamp_run (x := x)
    simp only [List.length_nil] at la
    generalize hist [] = A at la
    refine ⟨d, ?_, d0, d1⟩
    rw [Int.zero_add, Int.zero_sub] at hx
    simp [f__law_day_by, b__law_day_by, fnD, sqf, setE, vThen, sIf, tThen, thn1, then1, bin2, rd, rdw, la, iCmp, asB, retE, lstA, consA, pAdd, iSub, iMod, d9, hx, hd]
  | some e =>
    obtain ⟨x, hx⟩ := pick e.day
    obtain ⟨d, hd, d0, d1⟩ := clamp_run (x := x)
    have ix := last_at he
    have a1 := e.at1
    have pos : (0 : Int) < ((es.length : Nat) : Int) := by
      have : es ≠ [] := by rintro rfl; cases he
      have := List.length_pos_iff.mpr this
      omega
    generalize hist es = A at la ix ⊢
    generalize ((es.length : Nat) : Int) = L at la pos
    generalize e.dat = E at ix a1
    refine ⟨d, ?_, d0, d1⟩
    simp [f__law_day_by, b__law_day_by, fnD, sqf, setE, vThen, sIf, tThen, thn1, then1, negI, bin2, rd, rdw, la, pos, ix, a1, iCmp, asB, retE, lstA, consA, pAdd, iSub, iMod, d9, hx, hd]
theorem stage_a {S : D} {As : List D} {k n m c L z other d v0 v1 u kind : Int} {x3 x4 x5 x6 x7 x8 x9 x10 x11 x12 x13 : Sl} {o : Out} {Z : List D}
    (m1 : f__law_mixed [S, .int (40 + k)] = .rt (.int n)) (m2 : f__law_mixed [S, .int (80 + k)] = .rt (.int m)) (la : bLen (.tuple As) = .ok (.int L)) (c0 : f__law_cell_at [S, .int 0] = .rt (.int c))
    (hk : (L = 0 ∧ 0 < c % 3 ∧ kind = 0) ∨ (¬ (L = 0 ∧ 0 < c % 3) ∧ kind = n % 5)) (hz : (0 < L ∧ f__law_sizes [.tuple As] = .rt (.list Z) ∧ qIx (.list Z) (.int (-1)) = .ok (.int z)) ∨ (¬ 0 < L ∧ z = 10))
    (ob : f__law_size_by [.int m] = .rt (.int other)) (db : f__law_day_by [.tuple As, .int (n / 5)] = .rt (.int d)) (e0 : f__law_value_of [.int (m / 7), .int z] = .rt (.int v0)) (e1 : f__law_value_of [.int (n / 11), .int other] = .rt (.int v1))
    (du : f__law_due [.tuple As, .int kind, .int d, .list [.int v0, .int v1], .int z, .int other] = .rt (.int u))
    (t : q1_law_11 [.val S, .val (.tuple As), .val (.int k), .val (.int n), .val (.int m), .val (.int kind), .val (.int z), .val (.int other), .val (.int d), .val (.list [.int v0, .int v1]), .val (.int u), .val (.list As), x12, x13] = o) :
    lb_law_1 [.val S, .val (.tuple As), .val (.int k), x3, x4, x5, x6, x7, x8, x9, x10, x11, x12, x13] = o := by
  have d5 : iDiv (.int n) (.int 5) = .ok (.int (n / 5)) := iDiv_lit (by decide)
  have d7 : iDiv (.int m) (.int 7) = .ok (.int (m / 7)) := iDiv_lit (by decide)
  have d11 : iDiv (.int n) (.int 11) = .ok (.int (n / 11)) := iDiv_lit (by decide)
  have tail : ∀ (kk : Int) (x6 : Sl), kk = kind → q1_law_4 [.val S, .val (.tuple As), .val (.int k), .val (.int n), .val (.int m), .val (.int kk), x6, x7, x8, x9, x10, x11, x12, x13] = o := by
    rintro kk x6 rfl
    rcases hz with ⟨hp, sr, sl⟩ | ⟨hp, rfl⟩
    · simp [q1_law_4, q1_law_5, q1_law_6, q1_law_7, q1_law_8, q1_law_9, q1_law_10, sqf, setE, vThen, sIf, tThen, thn1, then1, bin2, rd, rdw, la, iCmp, hp, asB, callE, consA, sr, negI, sl, ob, outR, d5, db, d7, e0, d11, e1, lstA, du, bList, t]
    · simp [q1_law_4, q1_law_5, q1_law_6, q1_law_7, q1_law_8, q1_law_9, q1_law_10, sqf, setE, vThen, sIf, tThen, thn1, then1, bin2, rd, rdw, la, iCmp, hp, asB, callE, consA, ob, outR, d5, db, d7, e0, d11, e1, lstA, du, bList, t]
  rcases hk with ⟨h1, h2, h3⟩ | ⟨h1, h3⟩
  · have tl := tail 0 x6 h3.symm
    simp [lb_law_1, q1_law_1, q1_law_2, q1_law_3, sqf, setE, vThen, sIf, tThen, thn1, then1, bin2, rd, rdw, la, iCmp, asB, callE, consA, outR, pAdd, m1, m2, iMod, andT, h1, c0, h2, tl]
  · have tl := tail (n % 5) x6 h3.symm
    by_cases h4 : L = 0
    · have h2 : ¬ 0 < c % 3 := fun q => h1 ⟨h4, q⟩
      simp [lb_law_1, q1_law_1, q1_law_2, q1_law_3, sqf, setE, vThen, sIf, tThen, thn1, then1, bin2, rd, rdw, la, iCmp, asB, callE, consA, outR, pAdd, m1, m2, iMod, andT, h4, c0, h2, tl]
    · simp [lb_law_1, q1_law_1, q1_law_2, q1_law_3, sqf, setE, vThen, sIf, tThen, thn1, then1, bin2, rd, rdw, la, iCmp, asB, callE, consA, outR, pAdd, m1, m2, iMod, andT, h4, tl]
theorem stage_ex {S V : D} {As : List D} {k n m z other d u kind : Int} {c : Nat} {x12 x13 : Sl} (ho : outR (f__law_done [.tuple As, .int kind, .int d, V, .int other]) = .ex c) (hc : subC c 0 = true) (hg : g__law_classes c = .ok (.int u)) :
    q1_law_11 [.val S, .val (.tuple As), .val (.int k), .val (.int n), .val (.int m), .val (.int kind), .val (.int z), .val (.int other), .val (.int d), .val V, .val (.int u), .val (.list As), x12, x13] =
      .ct [.val S, .val (.tuple As), .val (.int k), .val (.int n), .val (.int m), .val (.int kind), .val (.int z), .val (.int other), .val (.int d), .val V, .val (.int u), .val (.list As), x12, .no] := by
  have cg : caught 13 (su_law_1 c) [.val S, .val (.tuple As), .val (.int k), .val (.int n), .val (.int m), .val (.int kind), .val (.int z), .val (.int other), .val (.int d), .val V, .val (.int u), .val (.list As), x12, x13] =
      .ct [.val S, .val (.tuple As), .val (.int k), .val (.int n), .val (.int m), .val (.int kind), .val (.int z), .val (.int other), .val (.int d), .val V, .val (.int u), .val (.list As), x12, .no] := caught_eq fun a => by
    simp [su_law_1, sqf, sIf, tThen, thn1, bin2, exE, hg, rdw, asB]
  simp [q1_law_11, sqf, tryE, setE, vThen, callE, consA, rd, ho, hc, cg]
theorem stage_ok {S V E : D} {As Bs : List D} {k n m z other d kind : Int} {x12 x13 : Sl} (ho : outR (f__law_done [.tuple As, .int kind, .int d, V, .int other]) = .ok (.tuple Bs)) (ee : f__law_entry [.int kind, .int d, V, .int other] = .rt E)
    (sa : qNe (.list As) (.list As) = .ok (.bool false)) (sb : qNe (.tuple Bs) (.tuple Bs) = .ok (.bool false)) (ap : pAdd (.tuple As) (.tuple [E]) = .ok (.tuple Bs)) (lb : qIx (.tuple Bs) (.int (-1)) = .ok E) (hb : 1 < kind → ∃ b, qIx E (.int 3) = .ok (.bool b)) :
    q1_law_11 [.val S, .val (.tuple As), .val (.int k), .val (.int n), .val (.int m), .val (.int kind), .val (.int z), .val (.int other), .val (.int d), .val V, .val (.int 4), .val (.list As), x12, x13] =
      .nx [.val S, .val (.tuple Bs), .val (.int k), .val (.int n), .val (.int m), .val (.int kind), .val (.int z), .val (.int other), .val (.int d), .val V, .val (.int 4), .val (.list As), .val (.tuple Bs), x13] := by
  by_cases h : 1 < kind
  · obtain ⟨b, e3⟩ := hb h
    simp [q1_law_11, q1_law_12, q1_law_13, q1_law_14, q1_law_15, sqf, tryE, setE, vThen, callE, consA, rd, rdw, ho, sIf, tThen, thn1, then1, negI, orT, andT, notT, bin2, asB, bList, sa, isiE, tyD, tru, tupA, ee, ap, sb, iCmp, h, lb, e3]
  · simp [q1_law_11, q1_law_12, q1_law_13, q1_law_14, q1_law_15, sqf, tryE, setE, vThen, callE, consA, rd, rdw, ho, sIf, tThen, thn1, then1, negI, orT, andT, notT, bin2, asB, bList, sa, isiE, tyD, tru, tupA, ee, ap, sb, iCmp, h]
structure Good (es : List Ent) : Prop where
  head : OkHead es
  days : ∀ e ∈ es, 0 ≤ e.day ∧ e.day ≤ 2000
  size : es ≠ [] → 2 ≤ lastSize 0 es ∧ lastSize 0 es ≤ 1000000000000
theorem hist_last {es : List Ent} {e : Ent} : qIx (hist (es ++ [e])) (.int (-1)) = .ok e.dat := last_at (by simp)
theorem loop_step (ns : List Int) (k : Nat) {es : List Ent} {x3 x4 x5 x6 x7 x8 x9 x10 x11 x12 x13 : Sl} (g : Good es) (hl : es.length ≤ 900) :
    ∃ fs y3 y4 y5 y6 y7 y8 y9 y10 y11 y12 y13, Good fs ∧ fs.length ≤ es.length + 1 ∧
      (lb_law_1 [.val (script ns), .val (hist es), .val (.int (k : Nat)), x3, x4, x5, x6, x7, x8, x9, x10, x11, x12, x13] = .nx [.val (script ns), .val (hist fs), .val (.int (k : Nat)), y3, y4, y5, y6, y7, y8, y9, y10, y11, y12, y13] ∨
       lb_law_1 [.val (script ns), .val (hist es), .val (.int (k : Nat)), x3, x4, x5, x6, x7, x8, x9, x10, x11, x12, x13] = .ct [.val (script ns), .val (hist fs), .val (.int (k : Nat)), y3, y4, y5, y6, y7, y8, y9, y10, y11, y12, y13]) := by
  have m1 : f__law_mixed [script ns, .int (40 + (k : Int))] = .rt (.int (mixed ns (40 + k))) := by simpa using mixed_run ns (40 + k)
  have m2 : f__law_mixed [script ns, .int (80 + (k : Int))] = .rt (.int (mixed ns (80 + k))) := by simpa using mixed_run ns (80 + k)
  have r2 := mixed_range ns (80 + k)
  have c0 : f__law_cell_at [script ns, .int 0] = .rt (.int (cell ns 0)) := cell_run ns 0
  generalize mixed ns (40 + k) = n at m1
  generalize mixed ns (80 + k) = m at m2 r2
  generalize cell ns 0 = c at c0
  have ob := size_run r2
  have og := size_range r2
  generalize sizeBy m = other at ob og
  have la := len_hist es
  obtain ⟨d, db, d0, d1⟩ := day_by_run (es := es) (n := n / 5)
  obtain ⟨kind, hk⟩ : ∃ kind : Int, (((es.length : Nat) : Int) = 0 ∧ 0 < c % 3 ∧ kind = 0) ∨ (¬ (((es.length : Nat) : Int) = 0 ∧ 0 < c % 3) ∧ kind = n % 5) := by
    by_cases h : ((es.length : Nat) : Int) = 0 ∧ 0 < c % 3
    · exact ⟨0, .inl ⟨h.1, h.2, rfl⟩⟩
    · exact ⟨n % 5, .inr ⟨h, rfl⟩⟩
  obtain ⟨z, hz, hz1, hz2⟩ : ∃ z : Int, ((0 < ((es.length : Nat) : Int) ∧ f__law_sizes [hist es] = .rt (.list ((sizesOf 0 es).map PyData.int)) ∧ qIx (.list ((sizesOf 0 es).map PyData.int)) (.int (-1)) = .ok (.int z)) ∨ (¬ 0 < ((es.length : Nat) : Int) ∧ z = 10)) ∧
      (es ≠ [] → lastSize 0 es = z) ∧ 2 ≤ z ∧ z ≤ 1000000000000 := by
    by_cases h : es = []
    · subst h
      exact ⟨10, .inr ⟨by simp, rfl⟩, fun q => absurd rfl q, by decide, by decide⟩
    · have gs := g.size h
      have lp := List.length_pos_iff.mpr h
      refine ⟨lastSize 0 es, .inl ⟨by omega, sizes_run g.head (by omega), qIx_at rfl ?_⟩, fun _ => rfl, gs.1, gs.2⟩
      rw [atI_m1, List.getLast?_map, sizesOf_last 0 _ h]
      rfl
  obtain ⟨v0, e0, a0, b0⟩ := value_of_run (n := m / 7) (s := z) (by omega)
  obtain ⟨v1, e1, a1, b1⟩ := value_of_run (n := n / 11) (s := other) (by omega)
  obtain ⟨u, du, cases_⟩ := both_run (kind := kind) (d := d) (v0 := v0) (v1 := v1) (other := other) g.head (by omega) (small_of (by omega)) (fun e he => small_of (by have := g.days e he; omega)) hz1 (small_of (by omega)) (small_of (by omega)) (small_of (by omega)) (small_of (by omega))
  rcases cases_ with ⟨rfl, hk0, ho⟩ | ⟨cl, ho, hc, hg⟩
  · have ee := entry_run (kind := kind) (d := d) (v0 := v0) (v1 := v1) (other := other)
    have sa := qNe_lay (lay_datL es) (lay_datL es)
    rw [(lay_datL es).self] at sa
    have sb := qNe_lay (lay_hist (es ++ [ent kind d v0 v1 other])) (lay_hist (es ++ [ent kind d v0 v1 other]))
    rw [(lay_hist (es ++ [ent kind d v0 v1 other])).self] at sb
    have ap := app_one (es := es) (e := ent kind d v0 v1 other) (by omega)
    have lb := hist_last (es := es) (e := ent kind d v0 v1 other)
    have hb : 1 < kind → ∃ b, qIx (ent kind d v0 v1 other).dat (.int 3) = .ok (.bool b) := fun h => by
      unfold ent
      rw [if_neg (by omega), if_neg (by omega)]
      exact ⟨false, by simp [Ent.dat, qIx, items]⟩
    have st := stage_ok (S := script ns) (As := datL es) (Bs := datL (es ++ [ent kind d v0 v1 other])) (k := k) (n := n) (m := m) (z := z) (x12 := x12) (x13 := x13) ho ee sa sb ap lb hb
    refine ⟨es ++ [ent kind d v0 v1 other], _, _, _, _, _, _, _, _, _, _, _, ?_, by rw [List.length_append]; simp, .inl (stage_a m1 m2 la c0 hk hz ob db e0 e1 du st)⟩
    refine ⟨g.head.app fun h => ?_, fun e he => ?_, fun _ => ?_⟩
    · have := hk0.mpr h
      subst this
      rfl
    · rcases List.mem_append.mp he with h | h
      · exact g.days e h
      · rw [List.mem_singleton] at h
        subst h
        unfold ent
        split
        · exact ⟨d0, d1⟩
        · split
          · exact ⟨d0, d1⟩
          · exact ⟨d0, d1⟩
    · rw [lastSize_app]
      unfold ent
      split
      · exact og
      · split
        · exact og
        · rename_i h0 h1
          have ne : es ≠ [] := fun q => h0 (hk0.mpr q)
          rw [show ∀ s, (Ent.read d v0 false).size s = s from fun _ => rfl]
          exact g.size ne
  · have st := stage_ex (S := script ns) (V := .list [.int v0, .int v1]) (As := datL es) (k := k) (n := n) (m := m) (z := z) (x12 := x12) (x13 := x13) ho hc hg
    exact ⟨es, _, _, _, _, _, _, _, _, _, _, _, g, by omega, .inr (stage_a m1 m2 la c0 hk hz ob db e0 e1 du st)⟩
theorem end_run {es : List Ent} {S : D} {x2 : Sl} (g : Good es) (hl : es.length ≤ 900) {x3 x4 x5 x6 x7 x8 x9 x10 x11 x12 x13 : Sl} :
    lcE (rg1 (then1 (rdw 1) bLen)) (aName 2) (fun _ => .ok true) (callE (consA (rd 1) (consA (rd 2) (fun _ => .ok []))) f_size_at) [2] [.val S, .val (hist es), x2, x3, x4, x5, x6, x7, x8, x9, x10, x11, x12, x13] = .ok (.list ((sizesOf 0 es).map PyData.int)) := by
  have la := len_hist es
  have rg : rg1 (then1 (rdw 1) bLen) [.val S, .val (hist es), x2, x3, x4, x5, x6, x7, x8, x9, x10, x11, x12, x13] = .ok (rngD 0 es.length) := by
    refine rg1_ok _ (by omega) _ ?_
    generalize hist es = A at la
    simp [then1, rdw, la]
  have w : wipeR [.val S, .val (hist es), x2, x3, x4, x5, x6, x7, x8, x9, x10, x11, x12, x13] [2] = [.val S, .val (hist es), .no, x3, x4, x5, x6, x7, x8, x9, x10, x11, x12, x13] := by simp [wipeR]
  have cm := compD_map (i := 2) (G := fun _ => .ok true) (F := callE (consA (rd 1) (consA (rd 2) (fun _ => .ok []))) f_size_at) (r := [.val S, .val (hist es), .no, x3, x4, x5, x6, x7, x8, x9, x10, x11, x12, x13])
    (fun i : Nat => PyData.int (0 + (i : Nat))) (fun i : Nat => PyData.int (lastSize 0 (es.take (i + 1)))) (fun _ => true) (List.range es.length) (fun _ _ => rfl) (fun i hi _ => by
      have s := size_at_run g.head (List.mem_range.mp hi) (by omega)
      rw [Int.zero_add]
      generalize hist es = A at s
      generalize ((i : Nat) : Int) = j at s
      simp [callE, consA, rd, s])
  have ls : (List.range es.length).filter (fun _ => true) = List.range es.length := List.filter_eq_self.mpr fun _ _ => rfl
  rw [ls] at cm
  have fin : (List.range es.length).map (fun i : Nat => PyData.int (lastSize 0 (es.take (i + 1)))) = (sizesOf 0 es).map PyData.int := by
    apply List.ext_getElem?
    intro i
    rw [List.getElem?_map, List.getElem?_map]
    by_cases h : i < es.length
    · rw [sizesOf_get 0 es i h, List.getElem?_range h]
      rfl
    · rw [List.getElem?_eq_none (by rw [List.length_range]; omega), List.getElem?_eq_none (by rw [sizesOf_length]; omega)]
      rfl
  rw [fin] at cm
  unfold lcE
  rw [rg, w, bind_ok, if_pos (by rw [rngD_length]; omega)]
  show (compD (aName 2) (fun _ => .ok true) (callE (consA (rd 1) (consA (rd 2) (fun _ => .ok []))) f_size_at) _ ((List.range es.length).map fun i : Nat => PyData.int (0 + (i : Nat)))).bind _ = _
  rw [cm, bind_ok]
theorem law_eval {S A L : D} {N : Nat} {x2 x3 x4 x5 x6 x7 x8 x9 x10 x11 x12 x13 : Sl}
    (rg : rg1 (then1 (cut3 (rdw 0) (optI (fun _ => .ok (.int 2))) (optI (fun _ => .ok (.int 32)))) bLen) [.val S, .val (.tuple []), .no, .no, .no, .no, .no, .no, .no, .no, .no, .no, .no, .no] = .ok (rngD 0 N))
    (e : forD (aName 2) lb_law_1 (rngD 0 N) [.val S, .val (.tuple []), .no, .no, .no, .no, .no, .no, .no, .no, .no, .no, .no, .no] = .nx [.val S, .val A, x2, x3, x4, x5, x6, x7, x8, x9, x10, x11, x12, x13])
    (lc : lcE (rg1 (then1 (rdw 1) bLen)) (aName 2) (fun _ => .ok true) (callE (consA (rd 1) (consA (rd 2) (fun _ => .ok []))) f_size_at) [2] [.val S, .val A, x2, x3, x4, x5, x6, x7, x8, x9, x10, x11, x12, x13] = .ok L) (sz : f__law_sizes [A] = .rt L) (q : qEq L L = .ok (.bool true)) :
    f_law [S] = .rt (.bool true) := by
  simp [f_law, b_law, fnD, sqf, setE, vThen, tupA, forE, lThen, rg, e, retE, bin2, lc, callE, consA, rd, sz, q]
theorem law_true (ns : List Int) (hn : ns.length ≤ 63) : outR (f_law [script ns]) = .ok (.bool true) := by
  have key : f_law [script ns] = .rt (.bool true) := by
    obtain ⟨N, hN, hl⟩ : ∃ N, (PD.cutD (ns.map PyData.int) (some 2) (some 32)).length = N ∧ N ≤ 63 := ⟨_, rfl, by
      unfold PD.cutD
      rw [List.length_take, List.length_drop, List.length_map]
      omega⟩
    have rg := rg1_ok (g := then1 (cut3 (rdw 0) (optI (fun _ => .ok (.int 2))) (optI (fun _ => .ok (.int 32)))) bLen) N (by omega) [.val (script ns), .val (.tuple []), .no, .no, .no, .no, .no, .no, .no, .no, .no, .no, .no, .no] (by
      simp [then1, cut3, rdw, optI, asI, qCut, bLen, hN])
    obtain ⟨r2, e2, es, x2, x3, x4, x5, x6, x7, x8, x9, x10, x11, x12, x13, g, ge, rfl⟩ := forD_rng (asg := aName 2) (f := lb_law_1) 0 N
      [.val (script ns), .val (hist []), .no, .no, .no, .no, .no, .no, .no, .no, .no, .no, .no, .no]
      (fun i r => ∃ es x2 x3 x4 x5 x6 x7 x8 x9 x10 x11 x12 x13, Good es ∧ es.length ≤ i ∧ r = [.val (script ns), .val (hist es), x2, x3, x4, x5, x6, x7, x8, x9, x10, x11, x12, x13])
      ⟨[], _, _, _, _, _, _, _, _, _, _, _, _, ⟨fun e h => (by cases h), fun e h => (by cases h), fun h => absurd rfl h⟩, Nat.le_refl _, rfl⟩ (by
        rintro i r hi ⟨es, x2, x3, x4, x5, x6, x7, x8, x9, x10, x11, x12, x13, g, ge, rfl⟩
        obtain ⟨fs, y3, y4, y5, y6, y7, y8, y9, y10, y11, y12, y13, gf, lf, st⟩ := loop_step ns i (x3 := x3) (x4 := x4) (x5 := x5) (x6 := x6) (x7 := x7) (x8 := x8) (x9 := x9) (x10 := x10) (x11 := x11) (x12 := x12) (x13 := x13) g (by omega)
        refine ⟨_, _, rfl, ?_, fs, .val (.int (i : Nat)), y3, y4, y5, y6, y7, y8, y9, y10, y11, y12, y13, gf, by omega, rfl⟩
        rw [Int.zero_add]
        exact st)
    have q := qEq_lay (d := .list ((sizesOf 0 es).map PyData.int)) (e := .list ((sizesOf 0 es).map PyData.int)) (lay_list (n := 0) fun d hd => by
      obtain ⟨i, _, rfl⟩ := List.mem_map.mp hd
      exact lay_int i) (lay_list (n := 0) fun d hd => by
      obtain ⟨i, _, rfl⟩ := List.mem_map.mp hd
      exact lay_int i)
    rw [Lay.self (n := 1) (lay_list fun d hd => by
      obtain ⟨i, _, rfl⟩ := List.mem_map.mp hd
      exact lay_int i)] at q
    exact law_eval rg e2 (end_run g (by omega)) (sizes_run g.head (by omega)) q
  rw [key]
  rfl
end K04

namespace K04
open PySem PySem.Spec PyProof.Rows L2 PD
theorem all_mk {w : World} {K : PySem.W.Frag} {h : Heap} {mg : Str → Option Value} {fa : Addr} {a__law_mixed a__law_size_by a__law_day_by a__law_due a__law_sizes a__law_value_of a_check_day a_check_value a_size_at a_size_now a_read_on a_begun a_changed_on a__law_done a__law_cell_at a__law_classes a__law_entry a_law : Addr}
    {oc__law_mixed kV__law_mixed dc__law_mixed pm__law_mixed cd__law_mixed ct__law_mixed oc__law_size_by kV__law_size_by dc__law_size_by pm__law_size_by cd__law_size_by ct__law_size_by oc__law_day_by kV__law_day_by dc__law_day_by pm__law_day_by cd__law_day_by ct__law_day_by oc__law_due kV__law_due dc__law_due pm__law_due cd__law_due ct__law_due oc__law_sizes kV__law_sizes dc__law_sizes pm__law_sizes cd__law_sizes ct__law_sizes oc__law_value_of kV__law_value_of dc__law_value_of pm__law_value_of cd__law_value_of ct__law_value_of oc_check_day kV_check_day dc_check_day pm_check_day cd_check_day ct_check_day oc_check_value kV_check_value dc_check_value pm_check_value cd_check_value ct_check_value oc_size_at kV_size_at dc_size_at pm_size_at cd_size_at ct_size_at oc_size_now kV_size_now dc_size_now pm_size_now cd_size_now ct_size_now oc_read_on kV_read_on dc_read_on pm_read_on cd_read_on ct_read_on oc_begun kV_begun dc_begun pm_begun cd_begun ct_begun oc_changed_on kV_changed_on dc_changed_on pm_changed_on cd_changed_on ct_changed_on oc__law_done kV__law_done dc__law_done pm__law_done cd__law_done ct__law_done oc__law_cell_at kV__law_cell_at dc__law_cell_at pm__law_cell_at cd__law_cell_at ct__law_cell_at oc__law_classes kV__law_classes dc__law_classes pm__law_classes cd__law_classes ct__law_classes oc__law_entry kV__law_entry dc__law_entry pm__law_entry cd__law_entry ct__law_entry oc_law kV_law dc_law pm_law cd_law ct_law : Value}
    {od__law_mixed an__law_mixed od__law_size_by an__law_size_by od__law_day_by an__law_day_by od__law_due an__law_due od__law_sizes an__law_sizes od__law_value_of an__law_value_of od_check_day an_check_day od_check_value an_check_value od_size_at an_size_at od_size_now an_size_now od_read_on an_read_on od_begun an_begun od_changed_on an_changed_on od__law_done an__law_done od__law_cell_at an__law_cell_at od__law_classes an__law_classes od__law_entry an__law_entry od_law an_law : Option Addr}
    {sl__law_mixed sl__law_size_by sl__law_day_by sl__law_due sl__law_sizes sl__law_value_of sl_check_day sl_check_value sl_size_at sl_size_now sl_read_on sl_begun sl_changed_on sl__law_done sl__law_cell_at sl__law_classes sl__law_entry sl_law : Array (Option Value)} {c_MeterError c_NoMeter c_StandsAlready c_NotLater c_NoValue c_NoReading : Addr}
    (X : K.In h) (G : h.Ns mainGlobals mg) (hfa : mg "law" = some (.ref fa))
    (i__law_mixed : PySem.W.nsIn K mainGlobals "_law_mixed" = some (some (.ref a__law_mixed))) (l__law_mixed : K.lookup a__law_mixed = some ⟨oc__law_mixed, od__law_mixed, .func (PySem.W.fnOf "_law_mixed" "_law_mixed" (defArgs s__law_mixed) (defBody s__law_mixed) (defScope s__law_mixed) .none kV__law_mixed dc__law_mixed pm__law_mixed an__law_mixed cd__law_mixed ct__law_mixed), sl__law_mixed⟩) (c__law_mixed : PySem.W.codeIn K cd__law_mixed "_law_mixed" = true) (k__law_mixed : PySem.W.keepIn K (.ref a__law_mixed) = true)
    (i__law_size_by : PySem.W.nsIn K mainGlobals "_law_size_by" = some (some (.ref a__law_size_by))) (l__law_size_by : K.lookup a__law_size_by = some ⟨oc__law_size_by, od__law_size_by, .func (PySem.W.fnOf "_law_size_by" "_law_size_by" (defArgs s__law_size_by) (defBody s__law_size_by) (defScope s__law_size_by) .none kV__law_size_by dc__law_size_by pm__law_size_by an__law_size_by cd__law_size_by ct__law_size_by), sl__law_size_by⟩) (c__law_size_by : PySem.W.codeIn K cd__law_size_by "_law_size_by" = true) (k__law_size_by : PySem.W.keepIn K (.ref a__law_size_by) = true)
    (i__law_day_by : PySem.W.nsIn K mainGlobals "_law_day_by" = some (some (.ref a__law_day_by))) (l__law_day_by : K.lookup a__law_day_by = some ⟨oc__law_day_by, od__law_day_by, .func (PySem.W.fnOf "_law_day_by" "_law_day_by" (defArgs s__law_day_by) (defBody s__law_day_by) (defScope s__law_day_by) .none kV__law_day_by dc__law_day_by pm__law_day_by an__law_day_by cd__law_day_by ct__law_day_by), sl__law_day_by⟩) (c__law_day_by : PySem.W.codeIn K cd__law_day_by "_law_day_by" = true) (k__law_day_by : PySem.W.keepIn K (.ref a__law_day_by) = true)
    (i__law_due : PySem.W.nsIn K mainGlobals "_law_due" = some (some (.ref a__law_due))) (l__law_due : K.lookup a__law_due = some ⟨oc__law_due, od__law_due, .func (PySem.W.fnOf "_law_due" "_law_due" (defArgs s__law_due) (defBody s__law_due) (defScope s__law_due) .none kV__law_due dc__law_due pm__law_due an__law_due cd__law_due ct__law_due), sl__law_due⟩) (c__law_due : PySem.W.codeIn K cd__law_due "_law_due" = true) (k__law_due : PySem.W.keepIn K (.ref a__law_due) = true)
    (i__law_sizes : PySem.W.nsIn K mainGlobals "_law_sizes" = some (some (.ref a__law_sizes))) (l__law_sizes : K.lookup a__law_sizes = some ⟨oc__law_sizes, od__law_sizes, .func (PySem.W.fnOf "_law_sizes" "_law_sizes" (defArgs s__law_sizes) (defBody s__law_sizes) (defScope s__law_sizes) .none kV__law_sizes dc__law_sizes pm__law_sizes an__law_sizes cd__law_sizes ct__law_sizes), sl__law_sizes⟩) (c__law_sizes : PySem.W.codeIn K cd__law_sizes "_law_sizes" = true) (k__law_sizes : PySem.W.keepIn K (.ref a__law_sizes) = true)
    (i__law_value_of : PySem.W.nsIn K mainGlobals "_law_value_of" = some (some (.ref a__law_value_of))) (l__law_value_of : K.lookup a__law_value_of = some ⟨oc__law_value_of, od__law_value_of, .func (PySem.W.fnOf "_law_value_of" "_law_value_of" (defArgs s__law_value_of) (defBody s__law_value_of) (defScope s__law_value_of) .none kV__law_value_of dc__law_value_of pm__law_value_of an__law_value_of cd__law_value_of ct__law_value_of), sl__law_value_of⟩) (c__law_value_of : PySem.W.codeIn K cd__law_value_of "_law_value_of" = true) (k__law_value_of : PySem.W.keepIn K (.ref a__law_value_of) = true)
    (i_check_day : PySem.W.nsIn K mainGlobals "check_day" = some (some (.ref a_check_day))) (l_check_day : K.lookup a_check_day = some ⟨oc_check_day, od_check_day, .func (PySem.W.fnOf "check_day" "check_day" (defArgs s_check_day) (defBody s_check_day) (defScope s_check_day) .none kV_check_day dc_check_day pm_check_day an_check_day cd_check_day ct_check_day), sl_check_day⟩) (c_check_day : PySem.W.codeIn K cd_check_day "check_day" = true) (k_check_day : PySem.W.keepIn K (.ref a_check_day) = true)
    (i_check_value : PySem.W.nsIn K mainGlobals "check_value" = some (some (.ref a_check_value))) (l_check_value : K.lookup a_check_value = some ⟨oc_check_value, od_check_value, .func (PySem.W.fnOf "check_value" "check_value" (defArgs s_check_value) (defBody s_check_value) (defScope s_check_value) .none kV_check_value dc_check_value pm_check_value an_check_value cd_check_value ct_check_value), sl_check_value⟩) (c_check_value : PySem.W.codeIn K cd_check_value "check_value" = true) (k_check_value : PySem.W.keepIn K (.ref a_check_value) = true)
    (i_size_at : PySem.W.nsIn K mainGlobals "size_at" = some (some (.ref a_size_at))) (l_size_at : K.lookup a_size_at = some ⟨oc_size_at, od_size_at, .func (PySem.W.fnOf "size_at" "size_at" (defArgs s_size_at) (defBody s_size_at) (defScope s_size_at) .none kV_size_at dc_size_at pm_size_at an_size_at cd_size_at ct_size_at), sl_size_at⟩) (c_size_at : PySem.W.codeIn K cd_size_at "size_at" = true) (k_size_at : PySem.W.keepIn K (.ref a_size_at) = true)
    (i_size_now : PySem.W.nsIn K mainGlobals "size_now" = some (some (.ref a_size_now))) (l_size_now : K.lookup a_size_now = some ⟨oc_size_now, od_size_now, .func (PySem.W.fnOf "size_now" "size_now" (defArgs s_size_now) (defBody s_size_now) (defScope s_size_now) .none kV_size_now dc_size_now pm_size_now an_size_now cd_size_now ct_size_now), sl_size_now⟩) (c_size_now : PySem.W.codeIn K cd_size_now "size_now" = true) (k_size_now : PySem.W.keepIn K (.ref a_size_now) = true)
    (i_read_on : PySem.W.nsIn K mainGlobals "read_on" = some (some (.ref a_read_on))) (l_read_on : K.lookup a_read_on = some ⟨oc_read_on, od_read_on, .func (PySem.W.fnOf "read_on" "read_on" (defArgs s_read_on) (defBody s_read_on) (defScope s_read_on) .none kV_read_on dc_read_on pm_read_on an_read_on cd_read_on ct_read_on), sl_read_on⟩) (c_read_on : PySem.W.codeIn K cd_read_on "read_on" = true) (k_read_on : PySem.W.keepIn K (.ref a_read_on) = true)
    (i_begun : PySem.W.nsIn K mainGlobals "begun" = some (some (.ref a_begun))) (l_begun : K.lookup a_begun = some ⟨oc_begun, od_begun, .func (PySem.W.fnOf "begun" "begun" (defArgs s_begun) (defBody s_begun) (defScope s_begun) .none kV_begun dc_begun pm_begun an_begun cd_begun ct_begun), sl_begun⟩) (c_begun : PySem.W.codeIn K cd_begun "begun" = true) (k_begun : PySem.W.keepIn K (.ref a_begun) = true)
    (i_changed_on : PySem.W.nsIn K mainGlobals "changed_on" = some (some (.ref a_changed_on))) (l_changed_on : K.lookup a_changed_on = some ⟨oc_changed_on, od_changed_on, .func (PySem.W.fnOf "changed_on" "changed_on" (defArgs s_changed_on) (defBody s_changed_on) (defScope s_changed_on) .none kV_changed_on dc_changed_on pm_changed_on an_changed_on cd_changed_on ct_changed_on), sl_changed_on⟩) (c_changed_on : PySem.W.codeIn K cd_changed_on "changed_on" = true) (k_changed_on : PySem.W.keepIn K (.ref a_changed_on) = true)
    (i__law_done : PySem.W.nsIn K mainGlobals "_law_done" = some (some (.ref a__law_done))) (l__law_done : K.lookup a__law_done = some ⟨oc__law_done, od__law_done, .func (PySem.W.fnOf "_law_done" "_law_done" (defArgs s__law_done) (defBody s__law_done) (defScope s__law_done) .none kV__law_done dc__law_done pm__law_done an__law_done cd__law_done ct__law_done), sl__law_done⟩) (c__law_done : PySem.W.codeIn K cd__law_done "_law_done" = true) (k__law_done : PySem.W.keepIn K (.ref a__law_done) = true)
    (i__law_cell_at : PySem.W.nsIn K mainGlobals "_law_cell_at" = some (some (.ref a__law_cell_at))) (l__law_cell_at : K.lookup a__law_cell_at = some ⟨oc__law_cell_at, od__law_cell_at, .func (PySem.W.fnOf "_law_cell_at" "_law_cell_at" (defArgs s__law_cell_at) (defBody s__law_cell_at) (defScope s__law_cell_at) .none kV__law_cell_at dc__law_cell_at pm__law_cell_at an__law_cell_at cd__law_cell_at ct__law_cell_at), sl__law_cell_at⟩) (c__law_cell_at : PySem.W.codeIn K cd__law_cell_at "_law_cell_at" = true) (k__law_cell_at : PySem.W.keepIn K (.ref a__law_cell_at) = true)
    (i__law_classes : PySem.W.nsIn K mainGlobals "_law_classes" = some (some (.ref a__law_classes))) (l__law_classes : K.lookup a__law_classes = some ⟨oc__law_classes, od__law_classes, .func (PySem.W.fnOf "_law_classes" "_law_classes" (defArgs s__law_classes) (defBody s__law_classes) (defScope s__law_classes) .none kV__law_classes dc__law_classes pm__law_classes an__law_classes cd__law_classes ct__law_classes), sl__law_classes⟩) (c__law_classes : PySem.W.codeIn K cd__law_classes "_law_classes" = true) (k__law_classes : PySem.W.keepIn K (.ref a__law_classes) = true)
    (i__law_entry : PySem.W.nsIn K mainGlobals "_law_entry" = some (some (.ref a__law_entry))) (l__law_entry : K.lookup a__law_entry = some ⟨oc__law_entry, od__law_entry, .func (PySem.W.fnOf "_law_entry" "_law_entry" (defArgs s__law_entry) (defBody s__law_entry) (defScope s__law_entry) .none kV__law_entry dc__law_entry pm__law_entry an__law_entry cd__law_entry ct__law_entry), sl__law_entry⟩) (c__law_entry : PySem.W.codeIn K cd__law_entry "_law_entry" = true) (k__law_entry : PySem.W.keepIn K (.ref a__law_entry) = true)
    (i_law : PySem.W.nsIn K mainGlobals "law" = some (some (.ref a_law))) (l_law : K.lookup a_law = some ⟨oc_law, od_law, .func (PySem.W.fnOf "law" "law" (defArgs s_law) (defBody s_law) (defScope s_law) .none kV_law dc_law pm_law an_law cd_law ct_law), sl_law⟩) (c_law : PySem.W.codeIn K cd_law "law" = true) (k_law : PySem.W.keepIn K (.ref a_law) = true)
    (z_len : PySem.W.nsIn K mainGlobals "len" = some none)
    (z_min : PySem.W.nsIn K mainGlobals "min" = some none)
    (z_max : PySem.W.nsIn K mainGlobals "max" = some none)
    (z_int : PySem.W.nsIn K mainGlobals "int" = some none)
    (z_isinstance : PySem.W.nsIn K mainGlobals "isinstance" = some none)
    (z_ValueError : PySem.W.nsIn K mainGlobals "ValueError" = some none)
    (z_range : PySem.W.nsIn K mainGlobals "range" = some none)
    (z_list : PySem.W.nsIn K mainGlobals "list" = some none)
    (z_tuple : PySem.W.nsIn K mainGlobals "tuple" = some none)
    (z_bool : PySem.W.nsIn K mainGlobals "bool" = some none)
    (y_hn : PySem.W.specialIn K (.builtin "object.__class__") "__get__" = some (some (.builtin "getset_descriptor.__get__")))
    (y_ht : PySem.W.takesIn K (.builtin "object.__class__") = some true)
    (y_MeterError_i : PySem.W.nsIn K mainGlobals "MeterError" = some (some (.ref c_MeterError)))
    (y_NoMeter_i : PySem.W.nsIn K mainGlobals "NoMeter" = some (some (.ref c_NoMeter)))
    (y_StandsAlready_i : PySem.W.nsIn K mainGlobals "StandsAlready" = some (some (.ref c_StandsAlready)))
    (y_NotLater_i : PySem.W.nsIn K mainGlobals "NotLater" = some (some (.ref c_NotLater)))
    (y_NoValue_i : PySem.W.nsIn K mainGlobals "NoValue" = some (some (.ref c_NoValue)))
    (y_NoReading_i : PySem.W.nsIn K mainGlobals "NoReading" = some (some (.ref c_NoReading)))
    (y_MeterError_k : PySem.W.keepIn K (.ref c_MeterError) = true)
    (y_MeterError_q : PySem.W.excIn K c_MeterError PySem.HandSPX.veTail "ValueError.__new__" = true)
    (y_MeterError_b : PySem.W.subIn K (.ref c_MeterError) (.type "BaseException") = some true)
    (y_MeterError_t : PySem.W.typeIn K (.ref c_MeterError) = some (.type "type"))
    (y_MeterError_hg : PySem.W.findIn K (.ref c_MeterError) "__getattribute__" = some (some (.builtin "BaseException.__getattribute__")))
    (y_MeterError_hk : PySem.W.findIn K (.ref c_MeterError) "__getattr__" = some none)
    (y_MeterError_hd : PySem.W.hasDictIn K c_MeterError = true)
    (y_MeterError_ha : PySem.W.findIn K (.ref c_MeterError) "__class__" = some (some (.builtin "object.__class__")))
    (y_MeterError_hm : PySem.W.mroIn K c_MeterError (.type "object") = some true)
    (y_MeterError_v : PySem.W.kitOne K (.ref c_MeterError) (.type "ValueError") = some true)
    (y_MeterError_kit_NoValue : PySem.W.kitOne K (.ref c_MeterError) (.ref c_NoValue) = some false)
    (y_MeterError_kit_NotLater : PySem.W.kitOne K (.ref c_MeterError) (.ref c_NotLater) = some false)
    (y_MeterError_kit_StandsAlready : PySem.W.kitOne K (.ref c_MeterError) (.ref c_StandsAlready) = some false)
    (y_MeterError_kit_NoMeter : PySem.W.kitOne K (.ref c_MeterError) (.ref c_NoMeter) = some false)
    (y_MeterError_kit_NoReading : PySem.W.kitOne K (.ref c_MeterError) (.ref c_NoReading) = some false)
    (y_MeterError_exm_MeterError : PySem.W.subIn K (.ref c_MeterError) (.ref c_MeterError) = some true)
    (y_NoMeter_k : PySem.W.keepIn K (.ref c_NoMeter) = true)
    (y_NoMeter_q : PySem.W.excIn K c_NoMeter PySem.HandSPX.veTail "ValueError.__new__" = true)
    (y_NoMeter_b : PySem.W.subIn K (.ref c_NoMeter) (.type "BaseException") = some true)
    (y_NoMeter_t : PySem.W.typeIn K (.ref c_NoMeter) = some (.type "type"))
    (y_NoMeter_hg : PySem.W.findIn K (.ref c_NoMeter) "__getattribute__" = some (some (.builtin "BaseException.__getattribute__")))
    (y_NoMeter_hk : PySem.W.findIn K (.ref c_NoMeter) "__getattr__" = some none)
    (y_NoMeter_hd : PySem.W.hasDictIn K c_NoMeter = true)
    (y_NoMeter_ha : PySem.W.findIn K (.ref c_NoMeter) "__class__" = some (some (.builtin "object.__class__")))
    (y_NoMeter_hm : PySem.W.mroIn K c_NoMeter (.type "object") = some true)
    (y_NoMeter_v : PySem.W.kitOne K (.ref c_NoMeter) (.type "ValueError") = some true)
    (y_NoMeter_kit_NoValue : PySem.W.kitOne K (.ref c_NoMeter) (.ref c_NoValue) = some false)
    (y_NoMeter_kit_NotLater : PySem.W.kitOne K (.ref c_NoMeter) (.ref c_NotLater) = some false)
    (y_NoMeter_kit_StandsAlready : PySem.W.kitOne K (.ref c_NoMeter) (.ref c_StandsAlready) = some false)
    (y_NoMeter_kit_NoMeter : PySem.W.kitOne K (.ref c_NoMeter) (.ref c_NoMeter) = some true)
    (y_NoMeter_kit_NoReading : PySem.W.kitOne K (.ref c_NoMeter) (.ref c_NoReading) = some false)
    (y_NoMeter_exm_MeterError : PySem.W.subIn K (.ref c_NoMeter) (.ref c_MeterError) = some true)
    (y_StandsAlready_k : PySem.W.keepIn K (.ref c_StandsAlready) = true)
    (y_StandsAlready_q : PySem.W.excIn K c_StandsAlready PySem.HandSPX.veTail "ValueError.__new__" = true)
    (y_StandsAlready_b : PySem.W.subIn K (.ref c_StandsAlready) (.type "BaseException") = some true)
    (y_StandsAlready_t : PySem.W.typeIn K (.ref c_StandsAlready) = some (.type "type"))
    (y_StandsAlready_hg : PySem.W.findIn K (.ref c_StandsAlready) "__getattribute__" = some (some (.builtin "BaseException.__getattribute__")))
    (y_StandsAlready_hk : PySem.W.findIn K (.ref c_StandsAlready) "__getattr__" = some none)
    (y_StandsAlready_hd : PySem.W.hasDictIn K c_StandsAlready = true)
    (y_StandsAlready_ha : PySem.W.findIn K (.ref c_StandsAlready) "__class__" = some (some (.builtin "object.__class__")))
    (y_StandsAlready_hm : PySem.W.mroIn K c_StandsAlready (.type "object") = some true)
    (y_StandsAlready_v : PySem.W.kitOne K (.ref c_StandsAlready) (.type "ValueError") = some true)
    (y_StandsAlready_kit_NoValue : PySem.W.kitOne K (.ref c_StandsAlready) (.ref c_NoValue) = some false)
    (y_StandsAlready_kit_NotLater : PySem.W.kitOne K (.ref c_StandsAlready) (.ref c_NotLater) = some false)
    (y_StandsAlready_kit_StandsAlready : PySem.W.kitOne K (.ref c_StandsAlready) (.ref c_StandsAlready) = some true)
    (y_StandsAlready_kit_NoMeter : PySem.W.kitOne K (.ref c_StandsAlready) (.ref c_NoMeter) = some false)
    (y_StandsAlready_kit_NoReading : PySem.W.kitOne K (.ref c_StandsAlready) (.ref c_NoReading) = some false)
    (y_StandsAlready_exm_MeterError : PySem.W.subIn K (.ref c_StandsAlready) (.ref c_MeterError) = some true)
    (y_NotLater_k : PySem.W.keepIn K (.ref c_NotLater) = true)
    (y_NotLater_q : PySem.W.excIn K c_NotLater PySem.HandSPX.veTail "ValueError.__new__" = true)
    (y_NotLater_b : PySem.W.subIn K (.ref c_NotLater) (.type "BaseException") = some true)
    (y_NotLater_t : PySem.W.typeIn K (.ref c_NotLater) = some (.type "type"))
    (y_NotLater_hg : PySem.W.findIn K (.ref c_NotLater) "__getattribute__" = some (some (.builtin "BaseException.__getattribute__")))
    (y_NotLater_hk : PySem.W.findIn K (.ref c_NotLater) "__getattr__" = some none)
    (y_NotLater_hd : PySem.W.hasDictIn K c_NotLater = true)
    (y_NotLater_ha : PySem.W.findIn K (.ref c_NotLater) "__class__" = some (some (.builtin "object.__class__")))
    (y_NotLater_hm : PySem.W.mroIn K c_NotLater (.type "object") = some true)
    (y_NotLater_v : PySem.W.kitOne K (.ref c_NotLater) (.type "ValueError") = some true)
    (y_NotLater_kit_NoValue : PySem.W.kitOne K (.ref c_NotLater) (.ref c_NoValue) = some false)
    (y_NotLater_kit_NotLater : PySem.W.kitOne K (.ref c_NotLater) (.ref c_NotLater) = some true)
    (y_NotLater_kit_StandsAlready : PySem.W.kitOne K (.ref c_NotLater) (.ref c_StandsAlready) = some false)
    (y_NotLater_kit_NoMeter : PySem.W.kitOne K (.ref c_NotLater) (.ref c_NoMeter) = some false)
    (y_NotLater_kit_NoReading : PySem.W.kitOne K (.ref c_NotLater) (.ref c_NoReading) = some false)
    (y_NotLater_exm_MeterError : PySem.W.subIn K (.ref c_NotLater) (.ref c_MeterError) = some true)
    (y_NoValue_k : PySem.W.keepIn K (.ref c_NoValue) = true)
    (y_NoValue_q : PySem.W.excIn K c_NoValue PySem.HandSPX.veTail "ValueError.__new__" = true)
    (y_NoValue_b : PySem.W.subIn K (.ref c_NoValue) (.type "BaseException") = some true)
    (y_NoValue_t : PySem.W.typeIn K (.ref c_NoValue) = some (.type "type"))
    (y_NoValue_hg : PySem.W.findIn K (.ref c_NoValue) "__getattribute__" = some (some (.builtin "BaseException.__getattribute__")))
    (y_NoValue_hk : PySem.W.findIn K (.ref c_NoValue) "__getattr__" = some none)
    (y_NoValue_hd : PySem.W.hasDictIn K c_NoValue = true)
    (y_NoValue_ha : PySem.W.findIn K (.ref c_NoValue) "__class__" = some (some (.builtin "object.__class__")))
    (y_NoValue_hm : PySem.W.mroIn K c_NoValue (.type "object") = some true)
    (y_NoValue_v : PySem.W.kitOne K (.ref c_NoValue) (.type "ValueError") = some true)
    (y_NoValue_kit_NoValue : PySem.W.kitOne K (.ref c_NoValue) (.ref c_NoValue) = some true)
    (y_NoValue_kit_NotLater : PySem.W.kitOne K (.ref c_NoValue) (.ref c_NotLater) = some false)
    (y_NoValue_kit_StandsAlready : PySem.W.kitOne K (.ref c_NoValue) (.ref c_StandsAlready) = some false)
    (y_NoValue_kit_NoMeter : PySem.W.kitOne K (.ref c_NoValue) (.ref c_NoMeter) = some false)
    (y_NoValue_kit_NoReading : PySem.W.kitOne K (.ref c_NoValue) (.ref c_NoReading) = some false)
    (y_NoValue_exm_MeterError : PySem.W.subIn K (.ref c_NoValue) (.ref c_MeterError) = some true)
    (y_NoReading_k : PySem.W.keepIn K (.ref c_NoReading) = true)
    (y_NoReading_q : PySem.W.excIn K c_NoReading PySem.HandSPX.veTail "ValueError.__new__" = true)
    (y_NoReading_b : PySem.W.subIn K (.ref c_NoReading) (.type "BaseException") = some true)
    (y_NoReading_t : PySem.W.typeIn K (.ref c_NoReading) = some (.type "type"))
    (y_NoReading_hg : PySem.W.findIn K (.ref c_NoReading) "__getattribute__" = some (some (.builtin "BaseException.__getattribute__")))
    (y_NoReading_hk : PySem.W.findIn K (.ref c_NoReading) "__getattr__" = some none)
    (y_NoReading_hd : PySem.W.hasDictIn K c_NoReading = true)
    (y_NoReading_ha : PySem.W.findIn K (.ref c_NoReading) "__class__" = some (some (.builtin "object.__class__")))
    (y_NoReading_hm : PySem.W.mroIn K c_NoReading (.type "object") = some true)
    (y_NoReading_v : PySem.W.kitOne K (.ref c_NoReading) (.type "ValueError") = some true)
    (y_NoReading_kit_NoValue : PySem.W.kitOne K (.ref c_NoReading) (.ref c_NoValue) = some false)
    (y_NoReading_kit_NotLater : PySem.W.kitOne K (.ref c_NoReading) (.ref c_NotLater) = some false)
    (y_NoReading_kit_StandsAlready : PySem.W.kitOne K (.ref c_NoReading) (.ref c_StandsAlready) = some false)
    (y_NoReading_kit_NoMeter : PySem.W.kitOne K (.ref c_NoReading) (.ref c_NoMeter) = some false)
    (y_NoReading_kit_NoReading : PySem.W.kitOne K (.ref c_NoReading) (.ref c_NoReading) = some true)
    (y_NoReading_exm_MeterError : PySem.W.subIn K (.ref c_NoReading) (.ref c_MeterError) = some true)
    : ∃ fd : FuncData, (∀ (s : Shared) (u : Value), BindsTo s fd ⟨[u], []⟩ [("_law_script", u)]) ∧ ∀ base : Heap, K.In base → base.Ns mainGlobals mg → FnOk PySem.Challenge.rw_metergap_k04_histories_grown.prog w K mg base (L2.CX PySem.Challenge.rw_metergap_k04_histories_grown.prog w) 5 fa fd ["_law_script"] (spT K) := by
  have e := hfa.symm.trans (PySem.W.mg_of X G i_law)
  cases e
  have B : Bi mg := ⟨PySem.W.mg_none_of X G z_len, PySem.W.mg_none_of X G z_min, PySem.W.mg_none_of X G z_max, PySem.W.mg_none_of X G z_int, PySem.W.mg_none_of X G z_isinstance, PySem.W.mg_none_of X G z_ValueError, PySem.W.mg_none_of X G z_range, PySem.W.mg_none_of X G z_list, PySem.W.mg_none_of X G z_tuple, PySem.W.mg_none_of X G z_bool⟩
  have T : Txt K mg (fun n => ([c_MeterError, c_NoMeter, c_StandsAlready, c_NotLater, c_NoValue, c_NoReading] : List Addr).getD n c_MeterError) := ⟨⟨PySem.W.mg_of X G y_MeterError_i, y_MeterError_k, y_MeterError_q, y_MeterError_b, y_MeterError_t⟩,
    ⟨PySem.W.mg_of X G y_NoMeter_i, y_NoMeter_k, y_NoMeter_q, y_NoMeter_b, y_NoMeter_t⟩,
    ⟨PySem.W.mg_of X G y_StandsAlready_i, y_StandsAlready_k, y_StandsAlready_q, y_StandsAlready_b, y_StandsAlready_t⟩,
    ⟨PySem.W.mg_of X G y_NotLater_i, y_NotLater_k, y_NotLater_q, y_NotLater_b, y_NotLater_t⟩,
    ⟨PySem.W.mg_of X G y_NoValue_i, y_NoValue_k, y_NoValue_q, y_NoValue_b, y_NoValue_t⟩,
    ⟨PySem.W.mg_of X G y_NoReading_i, y_NoReading_k, y_NoReading_q, y_NoReading_b, y_NoReading_t⟩,
    (fun c => match c with | 0 => ⟨y_MeterError_hg, y_MeterError_hk, y_MeterError_b, y_MeterError_hd, y_MeterError_ha, y_hn, y_ht, y_MeterError_hm⟩ | 1 => ⟨y_NoMeter_hg, y_NoMeter_hk, y_NoMeter_b, y_NoMeter_hd, y_NoMeter_ha, y_hn, y_ht, y_NoMeter_hm⟩ | 2 => ⟨y_StandsAlready_hg, y_StandsAlready_hk, y_StandsAlready_b, y_StandsAlready_hd, y_StandsAlready_ha, y_hn, y_ht, y_StandsAlready_hm⟩ | 3 => ⟨y_NotLater_hg, y_NotLater_hk, y_NotLater_b, y_NotLater_hd, y_NotLater_ha, y_hn, y_ht, y_NotLater_hm⟩ | 4 => ⟨y_NoValue_hg, y_NoValue_hk, y_NoValue_b, y_NoValue_hd, y_NoValue_ha, y_hn, y_ht, y_NoValue_hm⟩ | 5 => ⟨y_NoReading_hg, y_NoReading_hk, y_NoReading_b, y_NoReading_hd, y_NoReading_ha, y_hn, y_ht, y_NoReading_hm⟩ | _ + 6 => ⟨y_MeterError_hg, y_MeterError_hk, y_MeterError_b, y_MeterError_hd, y_MeterError_ha, y_hn, y_ht, y_MeterError_hm⟩),
    (fun c => match c with | 0 => y_MeterError_v | 1 => y_NoMeter_v | 2 => y_StandsAlready_v | 3 => y_NotLater_v | 4 => y_NoValue_v | 5 => y_NoReading_v | _ + 6 => y_MeterError_v),
    (fun c => match c with | 0 => y_MeterError_kit_NoValue | 1 => y_NoMeter_kit_NoValue | 2 => y_StandsAlready_kit_NoValue | 3 => y_NotLater_kit_NoValue | 4 => y_NoValue_kit_NoValue | 5 => y_NoReading_kit_NoValue | _ + 6 => y_MeterError_kit_NoValue),
    (fun c => match c with | 0 => y_MeterError_kit_NotLater | 1 => y_NoMeter_kit_NotLater | 2 => y_StandsAlready_kit_NotLater | 3 => y_NotLater_kit_NotLater | 4 => y_NoValue_kit_NotLater | 5 => y_NoReading_kit_NotLater | _ + 6 => y_MeterError_kit_NotLater),
    (fun c => match c with | 0 => y_MeterError_kit_StandsAlready | 1 => y_NoMeter_kit_StandsAlready | 2 => y_StandsAlready_kit_StandsAlready | 3 => y_NotLater_kit_StandsAlready | 4 => y_NoValue_kit_StandsAlready | 5 => y_NoReading_kit_StandsAlready | _ + 6 => y_MeterError_kit_StandsAlready),
    (fun c => match c with | 0 => y_MeterError_kit_NoMeter | 1 => y_NoMeter_kit_NoMeter | 2 => y_StandsAlready_kit_NoMeter | 3 => y_NotLater_kit_NoMeter | 4 => y_NoValue_kit_NoMeter | 5 => y_NoReading_kit_NoMeter | _ + 6 => y_MeterError_kit_NoMeter),
    (fun c => match c with | 0 => y_MeterError_kit_NoReading | 1 => y_NoMeter_kit_NoReading | 2 => y_StandsAlready_kit_NoReading | 3 => y_NotLater_kit_NoReading | 4 => y_NoValue_kit_NoReading | 5 => y_NoReading_kit_NoReading | _ + 6 => y_MeterError_kit_NoReading),
    (fun c => match c with | 0 => PySem.W.exm_ref y_MeterError_b y_MeterError_hd y_MeterError_t y_MeterError_exm_MeterError | 1 => PySem.W.exm_ref y_MeterError_b y_MeterError_hd y_MeterError_t y_NoMeter_exm_MeterError | 2 => PySem.W.exm_ref y_MeterError_b y_MeterError_hd y_MeterError_t y_StandsAlready_exm_MeterError | 3 => PySem.W.exm_ref y_MeterError_b y_MeterError_hd y_MeterError_t y_NotLater_exm_MeterError | 4 => PySem.W.exm_ref y_MeterError_b y_MeterError_hd y_MeterError_t y_NoValue_exm_MeterError | 5 => PySem.W.exm_ref y_MeterError_b y_MeterError_hd y_MeterError_t y_NoReading_exm_MeterError | _ + 6 => PySem.W.exm_ref y_MeterError_b y_MeterError_hd y_MeterError_t y_MeterError_exm_MeterError)⟩
  have F__law_mixed := fun_mk (st := s__law_mixed) l__law_mixed c__law_mixed k__law_mixed
  have b__law_mixed' := F__law_mixed.binds (ps := ["_law_script", "_law_k"]) fun _ _ _ _ _ _ us hl => match us, hl with | [_, _], _ => rfl
  have F__law_size_by := fun_mk (st := s__law_size_by) l__law_size_by c__law_size_by k__law_size_by
  have b__law_size_by' := F__law_size_by.binds (ps := ["_law_number"]) fun _ _ _ _ _ _ us hl => match us, hl with | [_], _ => rfl
  have F__law_day_by := fun_mk (st := s__law_day_by) l__law_day_by c__law_day_by k__law_day_by
  have b__law_day_by' := F__law_day_by.binds (ps := ["_law_history", "_law_number"]) fun _ _ _ _ _ _ us hl => match us, hl with | [_, _], _ => rfl
  have F__law_due := fun_mk (st := s__law_due) l__law_due c__law_due k__law_due
  have b__law_due' := F__law_due.binds (ps := ["_law_history", "_law_kind", "_law_day", "_law_values", "_law_size", "_law_other"]) fun _ _ _ _ _ _ us hl => match us, hl with | [_, _, _, _, _, _], _ => rfl
  have F__law_sizes := fun_mk (st := s__law_sizes) l__law_sizes c__law_sizes k__law_sizes
  have b__law_sizes' := F__law_sizes.binds (ps := ["_law_history"]) fun _ _ _ _ _ _ us hl => match us, hl with | [_], _ => rfl
  have F__law_value_of := fun_mk (st := s__law_value_of) l__law_value_of c__law_value_of k__law_value_of
  have b__law_value_of' := F__law_value_of.binds (ps := ["_law_number", "_law_size"]) fun _ _ _ _ _ _ us hl => match us, hl with | [_, _], _ => rfl
  have F_check_day := fun_mk (st := s_check_day) l_check_day c_check_day k_check_day
  have b_check_day' := F_check_day.binds (ps := ["history", "day"]) fun _ _ _ _ _ _ us hl => match us, hl with | [_, _], _ => rfl
  have F_check_value := fun_mk (st := s_check_value) l_check_value c_check_value k_check_value
  have b_check_value' := F_check_value.binds (ps := ["size", "value"]) fun _ _ _ _ _ _ us hl => match us, hl with | [_, _], _ => rfl
  have F_size_at := fun_mk (st := s_size_at) l_size_at c_size_at k_size_at
  have b_size_at' := F_size_at.binds (ps := ["history", "place"]) fun _ _ _ _ _ _ us hl => match us, hl with | [_, _], _ => rfl
  have F_size_now := fun_mk (st := s_size_now) l_size_now c_size_now k_size_now
  have b_size_now' := F_size_now.binds (ps := ["history"]) fun _ _ _ _ _ _ us hl => match us, hl with | [_], _ => rfl
  have F_read_on := fun_mk (st := s_read_on) l_read_on c_read_on k_read_on
  have b_read_on' := F_read_on.binds (ps := ["history", "day", "value"]) fun _ _ _ _ _ _ us hl => match us, hl with | [_, _, _], _ => rfl
  have F_begun := fun_mk (st := s_begun) l_begun c_begun k_begun
  have b_begun' := F_begun.binds (ps := ["history", "day", "size", "value"]) fun _ _ _ _ _ _ us hl => match us, hl with | [_, _, _, _], _ => rfl
  have F_changed_on := fun_mk (st := s_changed_on) l_changed_on c_changed_on k_changed_on
  have b_changed_on' := F_changed_on.binds (ps := ["history", "day", "last", "size", "first"]) fun _ _ _ _ _ _ us hl => match us, hl with | [_, _, _, _, _], _ => rfl
  have F__law_done := fun_mk (st := s__law_done) l__law_done c__law_done k__law_done
  have b__law_done' := F__law_done.binds (ps := ["_law_history", "_law_kind", "_law_day", "_law_values", "_law_other"]) fun _ _ _ _ _ _ us hl => match us, hl with | [_, _, _, _, _], _ => rfl
  have F__law_cell_at := fun_mk (st := s__law_cell_at) l__law_cell_at c__law_cell_at k__law_cell_at
  have b__law_cell_at' := F__law_cell_at.binds (ps := ["_law_script", "_law_k"]) fun _ _ _ _ _ _ us hl => match us, hl with | [_, _], _ => rfl
  have F__law_classes := fun_mk (st := s__law_classes) l__law_classes c__law_classes k__law_classes
  have b__law_classes' := F__law_classes.binds (ps := ["_law_e"]) fun _ _ _ _ _ _ us hl => match us, hl with | [_], _ => rfl
  have F__law_entry := fun_mk (st := s__law_entry) l__law_entry c__law_entry k__law_entry
  have b__law_entry' := F__law_entry.binds (ps := ["_law_kind", "_law_day", "_law_values", "_law_other"]) fun _ _ _ _ _ _ us hl => match us, hl with | [_, _, _, _], _ => rfl
  have F_law := fun_mk (st := s_law) l_law c_law k_law
  have b_law' := F_law.binds (ps := ["_law_script"]) fun _ _ _ _ _ _ us hl => match us, hl with | [_], _ => rfl
  refine ⟨PySem.W.fnOf "law" "law" (defArgs s_law) (defBody s_law) (defScope s_law) .none kV_law dc_law pm_law an_law cd_law ct_law, fun s u => .of_eq rfl, fun base _ _ => ?_⟩
  have G__law_mixed : Cal (fun n => ([c_MeterError, c_NoMeter, c_StandsAlready, c_NotLater, c_NoValue, c_NoReading] : List Addr).getD n c_MeterError) PySem.Challenge.rw_metergap_k04_histories_grown.prog w K mg base 1 2 "_law_mixed" f__law_mixed := ⟨_, _, _, fo__law_mixed F__law_mixed B, PySem.W.mg_of X G i__law_mixed, k__law_mixed, b__law_mixed'⟩
  have G__law_size_by : Cal (fun n => ([c_MeterError, c_NoMeter, c_StandsAlready, c_NotLater, c_NoValue, c_NoReading] : List Addr).getD n c_MeterError) PySem.Challenge.rw_metergap_k04_histories_grown.prog w K mg base 1 1 "_law_size_by" f__law_size_by := ⟨_, _, _, fo__law_size_by F__law_size_by B, PySem.W.mg_of X G i__law_size_by, k__law_size_by, b__law_size_by'⟩
  have G__law_day_by : Cal (fun n => ([c_MeterError, c_NoMeter, c_StandsAlready, c_NotLater, c_NoValue, c_NoReading] : List Addr).getD n c_MeterError) PySem.Challenge.rw_metergap_k04_histories_grown.prog w K mg base 1 2 "_law_day_by" f__law_day_by := ⟨_, _, _, fo__law_day_by F__law_day_by B, PySem.W.mg_of X G i__law_day_by, k__law_day_by, b__law_day_by'⟩
  have G__law_due : Cal (fun n => ([c_MeterError, c_NoMeter, c_StandsAlready, c_NotLater, c_NoValue, c_NoReading] : List Addr).getD n c_MeterError) PySem.Challenge.rw_metergap_k04_histories_grown.prog w K mg base 1 6 "_law_due" f__law_due := ⟨_, _, _, fo__law_due F__law_due B, PySem.W.mg_of X G i__law_due, k__law_due, b__law_due'⟩
  have G__law_sizes : Cal (fun n => ([c_MeterError, c_NoMeter, c_StandsAlready, c_NotLater, c_NoValue, c_NoReading] : List Addr).getD n c_MeterError) PySem.Challenge.rw_metergap_k04_histories_grown.prog w K mg base 1 1 "_law_sizes" f__law_sizes := ⟨_, _, _, fo__law_sizes F__law_sizes B, PySem.W.mg_of X G i__law_sizes, k__law_sizes, b__law_sizes'⟩
  have G__law_value_of : Cal (fun n => ([c_MeterError, c_NoMeter, c_StandsAlready, c_NotLater, c_NoValue, c_NoReading] : List Addr).getD n c_MeterError) PySem.Challenge.rw_metergap_k04_histories_grown.prog w K mg base 1 2 "_law_value_of" f__law_value_of := ⟨_, _, _, fo__law_value_of F__law_value_of B, PySem.W.mg_of X G i__law_value_of, k__law_value_of, b__law_value_of'⟩
  have G_check_day : Cal (fun n => ([c_MeterError, c_NoMeter, c_StandsAlready, c_NotLater, c_NoValue, c_NoReading] : List Addr).getD n c_MeterError) PySem.Challenge.rw_metergap_k04_histories_grown.prog w K mg base 1 2 "check_day" f_check_day := ⟨_, _, _, fo_check_day F_check_day B T, PySem.W.mg_of X G i_check_day, k_check_day, b_check_day'⟩
  have G_check_value : Cal (fun n => ([c_MeterError, c_NoMeter, c_StandsAlready, c_NotLater, c_NoValue, c_NoReading] : List Addr).getD n c_MeterError) PySem.Challenge.rw_metergap_k04_histories_grown.prog w K mg base 1 2 "check_value" f_check_value := ⟨_, _, _, fo_check_value F_check_value B T, PySem.W.mg_of X G i_check_value, k_check_value, b_check_value'⟩
  have G_size_at : Cal (fun n => ([c_MeterError, c_NoMeter, c_StandsAlready, c_NotLater, c_NoValue, c_NoReading] : List Addr).getD n c_MeterError) PySem.Challenge.rw_metergap_k04_histories_grown.prog w K mg base 1 2 "size_at" f_size_at := ⟨_, _, _, fo_size_at F_size_at B, PySem.W.mg_of X G i_size_at, k_size_at, b_size_at'⟩
  have G_size_now : Cal (fun n => ([c_MeterError, c_NoMeter, c_StandsAlready, c_NotLater, c_NoValue, c_NoReading] : List Addr).getD n c_MeterError) PySem.Challenge.rw_metergap_k04_histories_grown.prog w K mg base 2 1 "size_now" f_size_now := ⟨_, _, _, fo_size_now F_size_now B G_size_at, PySem.W.mg_of X G i_size_now, k_size_now, b_size_now'⟩
  have G_read_on : Cal (fun n => ([c_MeterError, c_NoMeter, c_StandsAlready, c_NotLater, c_NoValue, c_NoReading] : List Addr).getD n c_MeterError) PySem.Challenge.rw_metergap_k04_histories_grown.prog w K mg base 3 3 "read_on" f_read_on := ⟨_, _, _, fo_read_on F_read_on B T G_check_day G_check_value G_size_now, PySem.W.mg_of X G i_read_on, k_read_on, b_read_on'⟩
  have G_begun : Cal (fun n => ([c_MeterError, c_NoMeter, c_StandsAlready, c_NotLater, c_NoValue, c_NoReading] : List Addr).getD n c_MeterError) PySem.Challenge.rw_metergap_k04_histories_grown.prog w K mg base 2 4 "begun" f_begun := ⟨_, _, _, fo_begun F_begun B T G_check_value, PySem.W.mg_of X G i_begun, k_begun, b_begun'⟩
  have G_changed_on : Cal (fun n => ([c_MeterError, c_NoMeter, c_StandsAlready, c_NotLater, c_NoValue, c_NoReading] : List Addr).getD n c_MeterError) PySem.Challenge.rw_metergap_k04_histories_grown.prog w K mg base 3 5 "changed_on" f_changed_on := ⟨_, _, _, fo_changed_on F_changed_on B T G_check_day G_check_value G_size_now, PySem.W.mg_of X G i_changed_on, k_changed_on, b_changed_on'⟩
  have G__law_done : Cal (fun n => ([c_MeterError, c_NoMeter, c_StandsAlready, c_NotLater, c_NoValue, c_NoReading] : List Addr).getD n c_MeterError) PySem.Challenge.rw_metergap_k04_histories_grown.prog w K mg base 4 5 "_law_done" f__law_done := ⟨_, _, _, fo__law_done F__law_done B T G_read_on G_begun G_changed_on, PySem.W.mg_of X G i__law_done, k__law_done, b__law_done'⟩
  have G__law_cell_at : Cal (fun n => ([c_MeterError, c_NoMeter, c_StandsAlready, c_NotLater, c_NoValue, c_NoReading] : List Addr).getD n c_MeterError) PySem.Challenge.rw_metergap_k04_histories_grown.prog w K mg base 1 2 "_law_cell_at" f__law_cell_at := ⟨_, _, _, fo__law_cell_at F__law_cell_at B, PySem.W.mg_of X G i__law_cell_at, k__law_cell_at, b__law_cell_at'⟩
  have G__law_classes : CalE (fun n => ([c_MeterError, c_NoMeter, c_StandsAlready, c_NotLater, c_NoValue, c_NoReading] : List Addr).getD n c_MeterError) PySem.Challenge.rw_metergap_k04_histories_grown.prog w K mg base 1 "_law_classes" g__law_classes := ⟨_, _, _, fo__law_classes F__law_classes B T, PySem.W.mg_of X G i__law_classes, k__law_classes, b__law_classes'⟩
  have G__law_entry : Cal (fun n => ([c_MeterError, c_NoMeter, c_StandsAlready, c_NotLater, c_NoValue, c_NoReading] : List Addr).getD n c_MeterError) PySem.Challenge.rw_metergap_k04_histories_grown.prog w K mg base 1 4 "_law_entry" f__law_entry := ⟨_, _, _, fo__law_entry F__law_entry B, PySem.W.mg_of X G i__law_entry, k__law_entry, b__law_entry'⟩
  exact law_imp (cs := (fun n => ([c_MeterError, c_NoMeter, c_StandsAlready, c_NotLater, c_NoValue, c_NoReading] : List Addr).getD n c_MeterError)) (fo_law F_law B T G__law_mixed G__law_size_by G__law_day_by G__law_due G__law_sizes G__law_value_of G__law_done G_size_at G__law_cell_at G__law_classes G__law_entry) law_true
end K04
open PySem PySem.W PyProof.Rows
set_option maxRecDepth 100000 in
set_option maxHeartbeats 0 in
theorem PySem.Challenge.cw_metergap_k04_histories_grown_holds : PySem.Challenge.rw_metergap_k04_histories_grown.Holds := by
  w_on; o_law; k_head; (case hw => w_witness2)
  k_fill
  refine PD.walk_law (l := PySem.Challenge.rw_metergap_k04_histories_grown) (k := 5) (x := "_law_script") rfl (by decide) rfl ⟨rfl, by decide, by decide⟩ (fun w h Y => PySem.W.kIn_of Y) ?F
  case F =>
    intro w mg fa h KX G hmg
    refine' K04.all_mk KX G hmg ?i__law_mixed ?l__law_mixed ?c__law_mixed ?k__law_mixed ?i__law_size_by ?l__law_size_by ?c__law_size_by ?k__law_size_by ?i__law_day_by ?l__law_day_by ?c__law_day_by ?k__law_day_by ?i__law_due ?l__law_due ?c__law_due ?k__law_due ?i__law_sizes ?l__law_sizes ?c__law_sizes ?k__law_sizes ?i__law_value_of ?l__law_value_of ?c__law_value_of ?k__law_value_of ?i_check_day ?l_check_day ?c_check_day ?k_check_day ?i_check_value ?l_check_value ?c_check_value ?k_check_value ?i_size_at ?l_size_at ?c_size_at ?k_size_at ?i_size_now ?l_size_now ?c_size_now ?k_size_now ?i_read_on ?l_read_on ?c_read_on ?k_read_on ?i_begun ?l_begun ?c_begun ?k_begun ?i_changed_on ?l_changed_on ?c_changed_on ?k_changed_on ?i__law_done ?l__law_done ?c__law_done ?k__law_done ?i__law_cell_at ?l__law_cell_at ?c__law_cell_at ?k__law_cell_at ?i__law_classes ?l__law_classes ?c__law_classes ?k__law_classes ?i__law_entry ?l__law_entry ?c__law_entry ?k__law_entry ?i_law ?l_law ?c_law ?k_law ?z_len ?z_min ?z_max ?z_int ?z_isinstance ?z_ValueError ?z_range ?z_list ?z_tuple ?z_bool ?y_hn ?y_ht ?y_MeterError_i ?y_NoMeter_i ?y_StandsAlready_i ?y_NotLater_i ?y_NoValue_i ?y_NoReading_i ?y_MeterError_k ?y_MeterError_q ?y_MeterError_b ?y_MeterError_t ?y_MeterError_hg ?y_MeterError_hk ?y_MeterError_hd ?y_MeterError_ha ?y_MeterError_hm ?y_MeterError_v ?y_MeterError_kit_NoValue ?y_MeterError_kit_NotLater ?y_MeterError_kit_StandsAlready ?y_MeterError_kit_NoMeter ?y_MeterError_kit_NoReading ?y_MeterError_exm_MeterError ?y_NoMeter_k ?y_NoMeter_q ?y_NoMeter_b ?y_NoMeter_t ?y_NoMeter_hg ?y_NoMeter_hk ?y_NoMeter_hd ?y_NoMeter_ha ?y_NoMeter_hm ?y_NoMeter_v ?y_NoMeter_kit_NoValue ?y_NoMeter_kit_NotLater ?y_NoMeter_kit_StandsAlready ?y_NoMeter_kit_NoMeter ?y_NoMeter_kit_NoReading ?y_NoMeter_exm_MeterError ?y_StandsAlready_k ?y_StandsAlready_q ?y_StandsAlready_b ?y_StandsAlready_t ?y_StandsAlready_hg ?y_StandsAlready_hk ?y_StandsAlready_hd ?y_StandsAlready_ha ?y_StandsAlready_hm ?y_StandsAlready_v ?y_StandsAlready_kit_NoValue ?y_StandsAlready_kit_NotLater ?y_StandsAlready_kit_StandsAlready ?y_StandsAlready_kit_NoMeter ?y_StandsAlready_kit_NoReading ?y_StandsAlready_exm_MeterError ?y_NotLater_k ?y_NotLater_q ?y_NotLater_b ?y_NotLater_t ?y_NotLater_hg ?y_NotLater_hk ?y_NotLater_hd ?y_NotLater_ha ?y_NotLater_hm ?y_NotLater_v ?y_NotLater_kit_NoValue ?y_NotLater_kit_NotLater ?y_NotLater_kit_StandsAlready ?y_NotLater_kit_NoMeter ?y_NotLater_kit_NoReading ?y_NotLater_exm_MeterError ?y_NoValue_k ?y_NoValue_q ?y_NoValue_b ?y_NoValue_t ?y_NoValue_hg ?y_NoValue_hk ?y_NoValue_hd ?y_NoValue_ha ?y_NoValue_hm ?y_NoValue_v ?y_NoValue_kit_NoValue ?y_NoValue_kit_NotLater ?y_NoValue_kit_StandsAlready ?y_NoValue_kit_NoMeter ?y_NoValue_kit_NoReading ?y_NoValue_exm_MeterError ?y_NoReading_k ?y_NoReading_q ?y_NoReading_b ?y_NoReading_t ?y_NoReading_hg ?y_NoReading_hk ?y_NoReading_hd ?y_NoReading_ha ?y_NoReading_hm ?y_NoReading_v ?y_NoReading_kit_NoValue ?y_NoReading_kit_NotLater ?y_NoReading_kit_StandsAlready ?y_NoReading_kit_NoMeter ?y_NoReading_kit_NoReading ?y_NoReading_exm_MeterError
    (case i__law_mixed => k_is)
    (case l__law_mixed => k_is)
    (case c__law_mixed => k_is)
    (case k__law_mixed => k_is)
    (case i__law_size_by => k_is)
    (case l__law_size_by => k_is)
    (case c__law_size_by => k_is)
    (case k__law_size_by => k_is)
    (case i__law_day_by => k_is)
    (case l__law_day_by => k_is)
    (case c__law_day_by => k_is)
    (case k__law_day_by => k_is)
    (case i__law_due => k_is)
    (case l__law_due => k_is)
    (case c__law_due => k_is)
    (case k__law_due => k_is)
    (case i__law_sizes => k_is)
    (case l__law_sizes => k_is)
    (case c__law_sizes => k_is)
    (case k__law_sizes => k_is)
    (case i__law_value_of => k_is)
    (case l__law_value_of => k_is)
    (case c__law_value_of => k_is)
    (case k__law_value_of => k_is)
    (case i_check_day => k_is)
    (case l_check_day => k_is)
    (case c_check_day => k_is)
    (case k_check_day => k_is)
    (case i_check_value => k_is)
    (case l_check_value => k_is)
    (case c_check_value => k_is)
    (case k_check_value => k_is)
    (case i_size_at => k_is)
    (case l_size_at => k_is)
    (case c_size_at => k_is)
    (case k_size_at => k_is)
    (case i_size_now => k_is)
    (case l_size_now => k_is)
    (case c_size_now => k_is)
    (case k_size_now => k_is)
    (case i_read_on => k_is)
    (case l_read_on => k_is)
    (case c_read_on => k_is)
    (case k_read_on => k_is)
    (case i_begun => k_is)
    (case l_begun => k_is)
    (case c_begun => k_is)
    (case k_begun => k_is)
    (case i_changed_on => k_is)
    (case l_changed_on => k_is)
    (case c_changed_on => k_is)
    (case k_changed_on => k_is)
    (case i__law_done => k_is)
    (case l__law_done => k_is)
    (case c__law_done => k_is)
    (case k__law_done => k_is)
    (case i__law_cell_at => k_is)
    (case l__law_cell_at => k_is)
    (case c__law_cell_at => k_is)
    (case k__law_cell_at => k_is)
    (case i__law_classes => k_is)
    (case l__law_classes => k_is)
    (case c__law_classes => k_is)
    (case k__law_classes => k_is)
    (case i__law_entry => k_is)
    (case l__law_entry => k_is)
    (case c__law_entry => k_is)
    (case k__law_entry => k_is)
    (case i_law => k_is)
    (case l_law => k_is)
    (case c_law => k_is)
    (case k_law => k_is)
    (case z_len => k_is)
    (case z_min => k_is)
    (case z_max => k_is)
    (case z_int => k_is)
    (case z_isinstance => k_is)
    (case z_ValueError => k_is)
    (case z_range => k_is)
    (case z_list => k_is)
    (case z_tuple => k_is)
    (case z_bool => k_is)
    (case y_hn => k_is)
    (case y_ht => k_is)
    (case y_MeterError_i => k_is)
    (case y_NoMeter_i => k_is)
    (case y_StandsAlready_i => k_is)
    (case y_NotLater_i => k_is)
    (case y_NoValue_i => k_is)
    (case y_NoReading_i => k_is)
    (case y_MeterError_k => k_is)
    (case y_MeterError_q => k_exc)
    (case y_MeterError_b => k_is)
    (case y_MeterError_t => k_is)
    (case y_MeterError_hg => k_is)
    (case y_MeterError_hk => k_is)
    (case y_MeterError_hd => k_is)
    (case y_MeterError_ha => k_is)
    (case y_MeterError_hm => k_is)
    (case y_MeterError_v => kit_is)
    (case y_MeterError_kit_NoValue => kit_is)
    (case y_MeterError_kit_NotLater => kit_is)
    (case y_MeterError_kit_StandsAlready => kit_is)
    (case y_MeterError_kit_NoMeter => kit_is)
    (case y_MeterError_kit_NoReading => kit_is)
    (case y_MeterError_exm_MeterError => k_is)
    (case y_NoMeter_k => k_is)
    (case y_NoMeter_q => k_exc)
    (case y_NoMeter_b => k_is)
    (case y_NoMeter_t => k_is)
    (case y_NoMeter_hg => k_is)
    (case y_NoMeter_hk => k_is)
    (case y_NoMeter_hd => k_is)
    (case y_NoMeter_ha => k_is)
    (case y_NoMeter_hm => k_is)
    (case y_NoMeter_v => kit_is)
    (case y_NoMeter_kit_NoValue => kit_is)
    (case y_NoMeter_kit_NotLater => kit_is)
    (case y_NoMeter_kit_StandsAlready => kit_is)
    (case y_NoMeter_kit_NoMeter => kit_is)
    (case y_NoMeter_kit_NoReading => kit_is)
    (case y_NoMeter_exm_MeterError => k_is)
    (case y_StandsAlready_k => k_is)
    (case y_StandsAlready_q => k_exc)
    (case y_StandsAlready_b => k_is)
    (case y_StandsAlready_t => k_is)
    (case y_StandsAlready_hg => k_is)
    (case y_StandsAlready_hk => k_is)
    (case y_StandsAlready_hd => k_is)
    (case y_StandsAlready_ha => k_is)
    (case y_StandsAlready_hm => k_is)
    (case y_StandsAlready_v => kit_is)
    (case y_StandsAlready_kit_NoValue => kit_is)
    (case y_StandsAlready_kit_NotLater => kit_is)
    (case y_StandsAlready_kit_StandsAlready => kit_is)
    (case y_StandsAlready_kit_NoMeter => kit_is)
    (case y_StandsAlready_kit_NoReading => kit_is)
    (case y_StandsAlready_exm_MeterError => k_is)
    (case y_NotLater_k => k_is)
    (case y_NotLater_q => k_exc)
    (case y_NotLater_b => k_is)
    (case y_NotLater_t => k_is)
    (case y_NotLater_hg => k_is)
    (case y_NotLater_hk => k_is)
    (case y_NotLater_hd => k_is)
    (case y_NotLater_ha => k_is)
    (case y_NotLater_hm => k_is)
    (case y_NotLater_v => kit_is)
    (case y_NotLater_kit_NoValue => kit_is)
    (case y_NotLater_kit_NotLater => kit_is)
    (case y_NotLater_kit_StandsAlready => kit_is)
    (case y_NotLater_kit_NoMeter => kit_is)
    (case y_NotLater_kit_NoReading => kit_is)
    (case y_NotLater_exm_MeterError => k_is)
    (case y_NoValue_k => k_is)
    (case y_NoValue_q => k_exc)
    (case y_NoValue_b => k_is)
    (case y_NoValue_t => k_is)
    (case y_NoValue_hg => k_is)
    (case y_NoValue_hk => k_is)
    (case y_NoValue_hd => k_is)
    (case y_NoValue_ha => k_is)
    (case y_NoValue_hm => k_is)
    (case y_NoValue_v => kit_is)
    (case y_NoValue_kit_NoValue => kit_is)
    (case y_NoValue_kit_NotLater => kit_is)
    (case y_NoValue_kit_StandsAlready => kit_is)
    (case y_NoValue_kit_NoMeter => kit_is)
    (case y_NoValue_kit_NoReading => kit_is)
    (case y_NoValue_exm_MeterError => k_is)
    (case y_NoReading_k => k_is)
    (case y_NoReading_q => k_exc)
    (case y_NoReading_b => k_is)
    (case y_NoReading_t => k_is)
    (case y_NoReading_hg => k_is)
    (case y_NoReading_hk => k_is)
    (case y_NoReading_hd => k_is)
    (case y_NoReading_ha => k_is)
    (case y_NoReading_hm => k_is)
    (case y_NoReading_v => kit_is)
    (case y_NoReading_kit_NoValue => kit_is)
    (case y_NoReading_kit_NotLater => kit_is)
    (case y_NoReading_kit_StandsAlready => kit_is)
    (case y_NoReading_kit_NoMeter => kit_is)
    (case y_NoReading_kit_NoReading => kit_is)
    (case y_NoReading_exm_MeterError => k_is)


import PyProof.Rows.All
import Wide.All
import OpenK.AllK
import Wide.FinOn
import HandS.ForMost
import HandS.ForExc
import HandS.Wide
import HandS.IsInst
import HandS.CallSlots
import HandS.TupAny
import HandS.RaiseMore
import HandS.FStr
import PySem.Challenge.RW_metergap_k02_days_share
set_option Elab.async false
set_option linter.all false
set_option maxRecDepth 100000
set_option maxHeartbeats 4000000
namespace PD
open PySem PySem.Spec PyProof.Rows L2
variable {K : PySem.W.Frag}

/-! ### plain data, and a value of the heap that stands for it; M: the lists that may still change -/
abbrev D := PyData
abbrev MS := Addr → Prop
/-- a list that the module's top left -/
def KLs (K : PySem.W.Frag) (a : Addr) (xs : List V) : Prop :=
  ∃ (o : Obj) (its : Array Value) (n : Nat), K.lookup a = some o ∧ o.cls = .type "list" ∧ o.dict = none ∧ o.data = .seq its n ∧ its.size ≤ sizeLine ∧ Vals xs its.toList
abbrev Sg := L2.St
mutual
inductive Rp (K : PySem.W.Frag) (M : MS) (H : Hp) : V → D → Prop
  | non : Rp K M H .non .none
  | bl (b : Bool) : Rp K M H (.bl b) (.bool b)
  | int (i : Int) : Rp K M H (.int i) (.int i)
  | str (x : Str) : Rp K M H (.str x) (.str x)
  | lst {a : Addr} {xs : List V} {ds : List D} : ¬ M a → Rd H a (.lst xs) → RpL K M H xs ds → Rp K M H (.ref a) (.list ds)
  | kls {a : Addr} {xs : List V} {ds : List D} : KLs K a xs → RpL K M H xs ds → Rp K M H (.ref a) (.list ds)
  | tup {a : Addr} {xs : List V} {ds : List D} : ¬ M a → Rd H a (.tup xs) → RpL K M H xs ds → Rp K M H (.ref a) (.tuple ds)
inductive RpL (K : PySem.W.Frag) (M : MS) (H : Hp) : List V → List D → Prop
  | nil : RpL K M H [] []
  | cons {v : V} {vs : List V} {d : D} {ds : List D} : Rp K M H v d → RpL K M H vs ds → RpL K M H (v :: vs) (d :: ds)
end
theorem rd_some {H : Hp} {a : Addr} {u : HO} (r : Rd H a u) : ∃ o, H a = some o := by
  rcases r with r | ⟨o, r⟩
  · exact ⟨_, r⟩
  · exact ⟨_, r⟩
theorem rd_to {H H' : Hp} {a : Addr} {u : HO} (r : Rd H a u) (h : ∀ o, H a = some o → H' a = some o) : Rd H' a u := by
  rcases r with r | ⟨o, r⟩
  · exact .inl (h _ r)
  · exact .inr ⟨o, h _ r⟩
section
variable {M M' : MS} {H H' : Hp}
mutual
theorem Rp.to (hM : ∀ a, ¬ M a → (∃ o, H a = some o) → ¬ M' a) (hH : ∀ a o, ¬ M a → H a = some o → H' a = some o) : ∀ (d : D) (v : V), Rp K M H v d → Rp K M' H' v d
  | .none, _, h => by cases h; exact .non
  | .bool _, _, h => by cases h; exact .bl _
  | .int _, _, h => by cases h; exact .int _
  | .str _, _, h => by cases h; exact .str _
  | .list ds, _, h => by
    cases h with
    | lst n r l => exact .lst (hM _ n (rd_some r)) (rd_to r fun o => hH _ o n) (RpL.to hM hH ds _ l)
    | kls r l => exact .kls r (RpL.to hM hH ds _ l)
  | .tuple ds, _, h => by
    cases h with
    | tup n r l => exact .tup (hM _ n (rd_some r)) (rd_to r fun o => hH _ o n) (RpL.to hM hH ds _ l)
  | .dict _, _, h => by cases h
theorem RpL.to (hM : ∀ a, ¬ M a → (∃ o, H a = some o) → ¬ M' a) (hH : ∀ a o, ¬ M a → H a = some o → H' a = some o) : ∀ (ds : List D) (vs : List V), RpL K M H vs ds → RpL K M' H' vs ds
  | [], _, h => by cases h; exact .nil
  | d :: ds, _, h => by
    cases h with
    | cons a b => exact .cons (Rp.to hM hH d _ a) (RpL.to hM hH ds _ b)
end
theorem Rp.same {v : V} {d : D} (h : Rp K M H v d) (s : Same H H') : Rp K M H' v d := Rp.to (fun _ n _ => n) (fun a o _ e => s a o e) d v h
theorem RpL.same {v : List V} {d : List D} (h : RpL K M H v d) (s : Same H H') : RpL K M H' v d := RpL.to (fun _ n _ => n) (fun a o _ e => s a o e) d v h
theorem Rp.anti {v : V} {d : D} (h : Rp K M H v d) (s : ∀ l, M' l → M l) : Rp K M' H v d := Rp.to (fun _ n _ m => n (s _ m)) (fun a o _ e => e) d v h
theorem RpL.anti {v : List V} {d : List D} (h : RpL K M H v d) (s : ∀ l, M' l → M l) : RpL K M' H v d := RpL.to (fun _ n _ m => n (s _ m)) (fun a o _ e => e) d v h
theorem RpL.length : ∀ {vs : List V} {ds : List D}, RpL K M H vs ds → vs.length = ds.length
  | _, _, .nil => rfl
  | _, _, .cons _ t => by simp [RpL.length t]
theorem RpL.get : ∀ {vs : List V} {ds : List D} {i : Nat} {d : D}, RpL K M H vs ds → ds[i]? = some d → ∃ v, vs[i]? = some v ∧ Rp K M H v d
  | _, _, _, _, .nil, e => by simp at e
  | _, _, 0, _, .cons a t, e => by
    have e' := Option.some.inj e
    subst e'
    exact ⟨_, rfl, a⟩
  | _, _, i + 1, _, .cons a t, e => by
    obtain ⟨v, h1, h2⟩ := RpL.get (i := i) t (by simpa using e)
    exact ⟨v, by simpa using h1, h2⟩
theorem RpL.getV : ∀ {vs : List V} {ds : List D} {i : Nat} {v : V}, RpL K M H vs ds → vs[i]? = some v → ∃ d, ds[i]? = some d ∧ Rp K M H v d
  | _, _, _, _, .nil, e => by simp at e
  | _, _, 0, _, .cons a t, e => by
    have e' := Option.some.inj e
    subst e'
    exact ⟨_, rfl, a⟩
  | _, _, i + 1, _, .cons a t, e => by
    obtain ⟨v, h1, h2⟩ := RpL.getV (i := i) t (by simpa using e)
    exact ⟨v, by simpa using h1, h2⟩
theorem RpL.app : ∀ {vs ws : List V} {ds es : List D}, RpL K M H vs ds → RpL K M H ws es → RpL K M H (vs ++ ws) (ds ++ es)
  | _, _, _, _, .nil, s => s
  | _, _, _, _, .cons a t, s => .cons a (RpL.app t s)
theorem RpL.take : ∀ {vs : List V} {ds : List D} (n : Nat), RpL K M H vs ds → RpL K M H (vs.take n) (ds.take n)
  | _, _, 0, _ => .nil
  | _, _, _ + 1, .nil => .nil
  | _, _, n + 1, .cons a t => .cons a (RpL.take n t)
theorem RpL.drop : ∀ {vs : List V} {ds : List D} (n : Nat), RpL K M H vs ds → RpL K M H (vs.drop n) (ds.drop n)
  | _, _, 0, r => r
  | _, _, _ + 1, .nil => .nil
  | _, _, n + 1, .cons _ t => RpL.drop n t
theorem RpL.nil_iff {vs : List V} {ds : List D} (r : RpL K M H vs ds) : vs.isEmpty = ds.isEmpty := by cases r <;> rfl
theorem RpL.one {v : V} {d : D} (r : Rp K M H v d) : RpL K M H [v] [d] := .cons r .nil
mutual
theorem Rp.dp : ∀ (d : D) (v : V), Rp K M H v d → Dp K H v d
  | .none, _, h => by cases h; exact .non
  | .bool _, _, h => by cases h; exact .bl _
  | .int _, _, h => by cases h; exact .int _
  | .str _, _, h => by cases h; exact .str _
  | .list ds, _, h => by
    cases h with
    | lst n r l => exact .lst (.inl r) (RpL.dp ds _ l)
    | kls r l => exact .lst (.inr r) (RpL.dp ds _ l)
  | .tuple ds, _, h => by
    cases h with
    | tup n r l => exact .tup (.inl r) (RpL.dp ds _ l)
  | .dict _, _, h => by cases h
theorem RpL.dp : ∀ (ds : List D) (vs : List V), RpL K M H vs ds → DpAll K H vs ds
  | [], _, h => by cases h; exact .nil
  | d :: ds, _, h => by
    cases h with
    | cons a b => exact .cons (Rp.dp d _ a) (RpL.dp ds _ b)
end
end
/-- the same, but a list at the top may be one that still changes -/
def Rw (K : PySem.W.Frag) (M : MS) (H : Hp) (v : V) : D → Prop
  | .list ds => ∃ a xs, v = .ref a ∧ SqL K H a xs ∧ RpL K M H xs ds
  | d => Rp K M H v d
section
variable {M M' : MS} {H H' : Hp} {v : V} {d : D}
theorem Rp.weak (h : Rp K M H v d) : Rw K M H v d := by
  cases h with
  | lst n r l => exact ⟨_, _, rfl, .inl r, l⟩
  | kls r l => exact ⟨_, _, rfl, .inr r, l⟩
  | non => exact .non
  | bl => exact .bl _
  | int => exact .int _
  | str => exact .str _
  | tup n r l => exact .tup n r l
theorem Rw.same (h : Rw K M H v d) (s : Same H H') : Rw K M H' v d := by
  cases d with
  | list ds =>
    obtain ⟨a, xs, e, r, l⟩ := h
    exact ⟨a, xs, e, s.seq r, l.same s⟩
  | none => exact Rp.same h s
  | bool => exact Rp.same h s
  | int => exact Rp.same h s
  | str => exact Rp.same h s
  | tuple => exact Rp.same h s
  | dict => exact Rp.same h s
theorem Rw.dp (h : Rw K M H v d) : Dp K H v d := by
  cases d with
  | list ds =>
    obtain ⟨a, xs, e, r, l⟩ := h
    subst e
    exact .lst r (RpL.dp ds _ l)
  | none => exact Rp.dp _ _ h
  | bool => exact Rp.dp _ _ h
  | int => exact Rp.dp _ _ h
  | str => exact Rp.dp _ _ h
  | tuple => exact Rp.dp _ _ h
  | dict => exact Rp.dp _ _ h
theorem Rw.int_ {i : Int} (h : Rw K M H v (.int i)) : v = .int i := by cases (show Rp K M H v (.int i) from h); rfl
theorem Rw.bool_ {i : Bool} (h : Rw K M H v (.bool i)) : v = .bl i := by cases (show Rp K M H v (.bool i) from h); rfl
theorem Rw.str_ {i : Str} (h : Rw K M H v (.str i)) : v = .str i := by cases (show Rp K M H v (.str i) from h); rfl
theorem Rw.none_ (h : Rw K M H v .none) : v = .non := by cases (show Rp K M H v .none from h); rfl
theorem Rw.tup_ {ds : List D} (h : Rw K M H v (.tuple ds)) : ∃ a xs, v = .ref a ∧ Rd H a (.tup xs) ∧ RpL K M H xs ds ∧ ¬ M a := by
  cases (show Rp K M H v (.tuple ds) from h) with
  | tup n r l => exact ⟨_, _, rfl, r, l, n⟩
theorem Rw.lst_ {ds : List D} (h : Rw K M H v (.list ds)) : ∃ a xs, v = .ref a ∧ SqL K H a xs ∧ RpL K M H xs ds := h
end
theorem same_upd {H : Hp} {p : Addr} {o : HO} (h : H p = none) : Same H (upd H p o) := fun b u e => by
  rw [upd_ne (ne_of_none e h)]
  exact e

/-! ### slots -/
inductive Sl where
  | no | val (d : D) | own (ds : List D)
abbrev Rho := List Sl
def SlR (K : PySem.W.Frag) (M : MS) (H : Hp) (o : Option (Option V)) : Sl → Prop
  | .no => True
  | .val d => ∃ v, o = some (some v) ∧ Rp K M H v d
  | .own ds => ∃ l vs, o = some (some (.ref l)) ∧ M l ∧ H l = some (.lst vs) ∧ RpL K M H vs ds
structure En (K : PySem.W.Frag) (M : MS) (H : Hp) (st : Sg) (r : Rho) : Prop where
  live : ∀ l, M l → ∃ o, H l = some o
  slot : ∀ (i : Nat) (s : Sl), r[i]? = some s → SlR K M H st[i]? s
  len : st.length = r.length
theorem SlR.same {M : MS} {H H' : Hp} {o : Option (Option V)} {s : Sl} (h : SlR K M H o s) (q : Same H H') : SlR K M H' o s := by
  cases s with
  | no => exact trivial
  | val d =>
    obtain ⟨v, e, r⟩ := h
    exact ⟨v, e, r.same q⟩
  | own ds =>
    obtain ⟨l, vs, e, m, hl, r⟩ := h
    exact ⟨l, vs, e, m, q _ _ hl, r.same q⟩
theorem En.same {M : MS} {H H' : Hp} {st : Sg} {r : Rho} (h : En K M H st r) (q : Same H H') : En K M H' st r :=
  ⟨fun l m => (h.live l m).elim fun o e => ⟨o, q _ _ e⟩, fun i s e => (h.slot i s e).same q, h.len⟩
theorem En.fresh {M : MS} {H : Hp} {st : Sg} {r : Rho} (h : En K M H st r) {p : Addr} (e : H p = none) : ¬ M p := fun m => by
  obtain ⟨o, q⟩ := h.live p m
  rw [e] at q
  cases q

/-! ### results -/
inductive Res (α : Type) where
  | ok (a : α) | ex (c : Addr) | no
def Res.bind {α β : Type} : Res α → (α → Res β) → Res β
  | .ok a, k => k a
  | .ex c, _ => .ex c
  | .no, _ => .no
@[simp] theorem bind_ok {α β : Type} (a : α) (k : α → Res β) : (Res.ok a).bind k = k a := rfl
@[simp] theorem bind_ex {α β : Type} (c : Addr) (k : α → Res β) : (Res.ex c).bind k = .ex c := rfl
@[simp] theorem bind_no {α β : Type} (k : α → Res β) : (Res.no : Res α).bind k = .no := rfl

abbrev RR := PySem.W.Frag → MS → Hp → V → D → Prop
def Dem (K : PySem.W.Frag) (R : RR) (W : WX) (M : MS) (st : Sg) (H : Hp) (r : Res D) (Q : VK) : Prop :=
  match r with
  | .ok d => ∀ v H', Same H H' → R K M H' v d → Q v H'
  | .ex c => ∀ H', Same H H' → W (.ref c) none st H'
  | .no => False
def DemA (K : PySem.W.Frag) (W : WX) (M : MS) (st : Sg) (H : Hp) (r : Res (List D)) (Q : List V → Hp → Prop) : Prop :=
  match r with
  | .ok d => ∀ v H', Same H H' → RpL K M H' v d → Q v H'
  | .ex c => ∀ H', Same H H' → W (.ref c) none st H'
  | .no => False
def DemT (W : WX) (st : Sg) (H : Hp) (r : Res Bool) (Q : Bool → Hp → Prop) : Prop :=
  match r with
  | .ok d => ∀ H', Same H H' → Q d H'
  | .ex c => ∀ H', Same H H' → W (.ref c) none st H'
  | .no => False
theorem Dem.ext {R : RR} {W : WX} {M : MS} {st : Sg} {H H' : Hp} {r : Res D} {Q : VK} (h : Dem K R W M st H r Q) (q : Same H H') : Dem K R W M st H' r Q := by
  cases r with
  | ok d => exact fun v H2 q2 => h v H2 (q.trans q2)
  | ex c => exact fun H2 q2 => h H2 (q.trans q2)
  | no => exact h
theorem DemA.ext {W : WX} {M : MS} {st : Sg} {H H' : Hp} {r : Res (List D)} {Q : List V → Hp → Prop} (h : DemA K W M st H r Q) (q : Same H H') : DemA K W M st H' r Q := by
  cases r with
  | ok d => exact fun v H2 q2 => h v H2 (q.trans q2)
  | ex c => exact fun H2 q2 => h H2 (q.trans q2)
  | no => exact h
theorem DemT.ext {W : WX} {st : Sg} {H H' : Hp} {r : Res Bool} {Q : Bool → Hp → Prop} (h : DemT W st H r Q) (q : Same H H') : DemT W st H' r Q := by
  cases r with
  | ok d => exact fun H2 q2 => h H2 (q.trans q2)
  | ex c => exact fun H2 q2 => h H2 (q.trans q2)
  | no => exact h
def tE (K : PySem.W.Frag) (R : RR) (W : WX) (g : Rho → Res D) : TE := fun st H Q => ∃ r M, En K M H st r ∧ Dem K R W M st H (g r) Q
def tA (K : PySem.W.Frag) (W : WX) (g : Rho → Res (List D)) : TA := fun st H Q => ∃ r M, En K M H st r ∧ DemA K W M st H (g r) Q
def tT (K : PySem.W.Frag) (W : WX) (g : Rho → Res Bool) : TT := fun st H Q => ∃ r M, En K M H st r ∧ DemT W st H (g r) Q
structure DE (X : Cx) (W : WX) (e : Expr) (g : Rho → Res D) : Prop where
  run : PE X e (tE X.K Rp W g)
structure DW (X : Cx) (W : WX) (e : Expr) (g : Rho → Res D) : Prop where
  run : PE X e (tE X.K Rw W g)
structure DA (X : Cx) (W : WX) (es : List Expr) (g : Rho → Res (List D)) : Prop where
  run : PA X es (tA X.K W g)
structure DT (X : Cx) (W : WX) (e : Expr) (g : Rho → Res Bool) : Prop where
  run : PT X e (tT X.K W g)
theorem _root_.L2.PE.imp {X : Cx} {e : Expr} {t t' : TE} (h : PE X e t) (k : ∀ st H Q, t' st H Q → t st H Q) : PE X e t' := ⟨fun pins s st H Q I q => h.run pins s st H Q I (k _ _ _ q)⟩
theorem _root_.L2.PT.imp {X : Cx} {e : Expr} {t t' : TT} (h : PT X e t) (k : ∀ st H Q, t' st H Q → t st H Q) : PT X e t' := ⟨fun pins s st H Q I q => h.run pins s st H Q I (k _ _ _ q)⟩
theorem _root_.L2.PW.imp {X : Cx} {e : Expr} {t t' : TT} (h : PW X e t) (k : ∀ st H Q, t' st H Q → t st H Q) : PW X e t' := ⟨fun wh pins s st H Q I q => h.run wh pins s st H Q I (k _ _ _ q)⟩
theorem _root_.L2.PA.imp {X : Cx} {e : List Expr} {t t' : TA} (h : PA X e t) (k : ∀ st H Q, t' st H Q → t st H Q) : PA X e t' := ⟨fun pos pins s st H Q I q => h.run pos pins s st H Q I (k _ _ _ q)⟩
theorem _root_.L2.PS.imp {X : Cx} {e : Stmt} {t t' : TS} (h : PS X e t) (k : ∀ D st H, t' D st H → t D st H) : PS X e t' := ⟨fun pins s st H Q I q => h.run pins s st H Q I (k _ _ _ q)⟩
theorem _root_.L2.PSs.imp {X : Cx} {e : List Stmt} {t t' : TS} (h : PSs X e t) (k : ∀ D st H, t' D st H → t D st H) : PSs X e t' := ⟨fun pins s st H Q I q => h.run pins s st H Q I (k _ _ _ q)⟩

section
variable {R Ra Rb : RR} {W : WX} {M : MS} {st : Sg} {H : Hp} {r : Rho} {ga gb : Rho → Res D}
/-- one value, then what hangs on it -/
theorem Dem.then {x : Res D} {k : D → Res D} {Q : VK} {P : V → Hp → Prop} (en : En K M H st r) (h : Dem K R W M st H (x.bind k) Q)
    (hk : ∀ d v H1, x = .ok d → Same H H1 → En K M H1 st r → Ra K M H1 v d → Dem K R W M st H1 (k d) Q → P v H1) : Dem K Ra W M st H x P := by
  cases x with
  | ok d => exact fun v H1 q rv => hk d v H1 rfl q (en.same q) rv (Dem.ext h q)
  | ex c => exact h
  | no => exact h
theorem Dem.thenA {x : Res D} {k : D → Res (List D)} {Q : List V → Hp → Prop} {P : V → Hp → Prop} (en : En K M H st r) (h : DemA K W M st H (x.bind k) Q)
    (hk : ∀ d v H1, x = .ok d → Same H H1 → En K M H1 st r → Ra K M H1 v d → DemA K W M st H1 (k d) Q → P v H1) : Dem K Ra W M st H x P := by
  cases x with
  | ok d => exact fun v H1 q rv => hk d v H1 rfl q (en.same q) rv (DemA.ext h q)
  | ex c => exact h
  | no => exact h
theorem DemA.then {x : Res (List D)} {k : List D → Res D} {Q : VK} {P : List V → Hp → Prop} (en : En K M H st r) (h : Dem K R W M st H (x.bind k) Q)
    (hk : ∀ d v H1, x = .ok d → Same H H1 → En K M H1 st r → RpL K M H1 v d → Dem K R W M st H1 (k d) Q → P v H1) : DemA K W M st H x P := by
  cases x with
  | ok d => exact fun v H1 q rv => hk d v H1 rfl q (en.same q) rv (Dem.ext h q)
  | ex c => exact h
  | no => exact h
theorem DemA.thenA {x : Res (List D)} {k : List D → Res (List D)} {Q : List V → Hp → Prop} {P : List V → Hp → Prop} (en : En K M H st r) (h : DemA K W M st H (x.bind k) Q)
    (hk : ∀ d v H1, x = .ok d → Same H H1 → En K M H1 st r → RpL K M H1 v d → DemA K W M st H1 (k d) Q → P v H1) : DemA K W M st H x P := by
  cases x with
  | ok d => exact fun v H1 q rv => hk d v H1 rfl q (en.same q) rv (DemA.ext h q)
  | ex c => exact h
  | no => exact h
theorem Dem.thenT {x : Res D} {k : D → Res Bool} {Q : Bool → Hp → Prop} {P : V → Hp → Prop} (en : En K M H st r) (h : DemT W st H (x.bind k) Q)
    (hk : ∀ d v H1, x = .ok d → Same H H1 → En K M H1 st r → Ra K M H1 v d → DemT W st H1 (k d) Q → P v H1) : Dem K Ra W M st H x P := by
  cases x with
  | ok d => exact fun v H1 q rv => hk d v H1 rfl q (en.same q) rv (DemT.ext h q)
  | ex c => exact h
  | no => exact h
theorem DemT.thenT {x : Res Bool} {k : Bool → Res Bool} {Q : Bool → Hp → Prop} {P : Bool → Hp → Prop} (en : En K M H st r) (h : DemT W st H (x.bind k) Q)
    (hk : ∀ d H1, x = .ok d → Same H H1 → En K M H1 st r → DemT W st H1 (k d) Q → P d H1) : DemT W st H x P := by
  cases x with
  | ok d => exact fun H1 q => hk d H1 rfl q (en.same q) (DemT.ext h q)
  | ex c => exact h
  | no => exact h
theorem DemT.then {x : Res Bool} {k : Bool → Res D} {Q : VK} {P : Bool → Hp → Prop} (en : En K M H st r) (h : Dem K R W M st H (x.bind k) Q)
    (hk : ∀ d H1, x = .ok d → Same H H1 → En K M H1 st r → Dem K R W M st H1 (k d) Q → P d H1) : DemT W st H x P := by
  cases x with
  | ok d => exact fun H1 q => hk d H1 rfl q (en.same q) (Dem.ext h q)
  | ex c => exact h
  | no => exact h
end

/-! ### expressions -/
section
variable {X : Cx} {W : WX} {e a b c : Expr} {es : List Expr} {g ga gb gc : Rho → Res D} {gl : Rho → Res (List D)} {gt gu : Rho → Res Bool} {pos p : Pos}
theorem DE.weak (h : DE X W e g) : DW X W e g := ⟨h.run.imp fun st H Q ⟨r, M, en, q⟩ => ⟨r, M, en, by
  revert q
  cases g r with
  | ok d => exact fun q v H' s rw => q v H' s rw.weak
  | ex c => exact fun q => q
  | no => exact fun q => q⟩⟩
/-- reading a slot -/
def rd (i : Nat) (r : Rho) : Res D := match r[i]? with
  | some (.val d) => .ok d
  | _ => .no
def rdw (i : Nat) (r : Rho) : Res D := match r[i]? with
  | some (.val d) => .ok d
  | some (.own ds) => .ok (.list ds)
  | _ => .no
theorem de_var {i : Nat} {x : Str} (h : PE X (.Name x pos) (tVar i)) : DE X W (.Name x pos) (rd i) := ⟨h.imp fun st H Q ⟨r, M, en, q⟩ => by
  unfold rd at q
  cases e : r[i]? with
  | none => rw [e] at q; exact q.elim
  | some s =>
    rw [e] at q
    cases s with
    | no => exact q.elim
    | own _ => exact q.elim
    | val d =>
      obtain ⟨v, e2, rv⟩ := en.slot i _ e
      exact ⟨v, e2, q v H (Same.refl _) rv⟩⟩
theorem dw_var {i : Nat} {x : Str} (h : PE X (.Name x pos) (tVar i)) : DW X W (.Name x pos) (rdw i) := ⟨h.imp fun st H Q ⟨r, M, en, q⟩ => by
  unfold rdw at q
  cases e : r[i]? with
  | none => rw [e] at q; exact q.elim
  | some s =>
    rw [e] at q
    cases s with
    | no => exact q.elim
    | own ds =>
      obtain ⟨l, vs, e2, m, hl, rv⟩ := en.slot i _ e
      exact ⟨_, e2, q _ H (Same.refl _) ⟨l, vs, rfl, SqL.of hl, rv⟩⟩
    | val d =>
      obtain ⟨v, e2, rv⟩ := en.slot i _ e
      exact ⟨v, e2, q v H (Same.refl _) rv.weak⟩⟩
theorem de_const {v : V} {d : D} (h : PE X e (tC v)) (k : ∀ M H, Rp X.K M H v d) : DE X W e (fun _ => .ok d) := ⟨h.imp fun st H Q ⟨r, M, en, q⟩ => q v H (Same.refl _) (k M H)⟩
theorem de_int {i j} : DE X W (.Constant (.int i) j pos) (fun _ => .ok (.int i)) := de_const pe_int fun _ _ => .int _
theorem de_bl {i j} : DE X W (.Constant (.bool i) j pos) (fun _ => .ok (.bool i)) := de_const pe_bl fun _ _ => .bl _
theorem de_non {j} : DE X W (.Constant .none j pos) (fun _ => .ok .none) := de_const pe_non fun _ _ => .non
theorem de_str {i j} : DE X W (.Constant (.str i) j pos) (fun _ => .ok (.str i)) := de_const pe_str fun _ _ => .str _

/-- a two-place rule of the layer, by data -/
def OpD (K : PySem.W.Frag) (W : WX) (r : R2) (f : D → D → Res D) : Prop :=
  ∀ (M : MS) (st : Sg) (rh : Rho) (H : Hp) (x y : V) (d e : D) (Q : VK), En K M H st rh → Rw K M H x d → Rw K M H y e → Dem K Rp W M st H (f d e) Q → r x y H Q
def bin2 (f : D → D → Res D) (ga gb : Rho → Res D) (r : Rho) : Res D := (ga r).bind fun d => (gb r).bind fun e => f d e
theorem tOp_of {r2 : R2} {f : D → D → Res D} (o : OpD K W r2 f) {st : Sg} {H : Hp} {Q : VK} (h : tE K Rp W (bin2 f ga gb) st H Q) : tOp r2 (tE K Rw W ga) (tE K Rw W gb) st H Q := by
  obtain ⟨r, M, en, q⟩ := h
  refine ⟨r, M, en, Dem.then (R := Rp) (Ra := Rw) en q fun d v H1 _ s1 en1 r1 q1 => ?_⟩
  refine ⟨r, M, en1, Dem.then (R := Rp) (Ra := Rw) en1 q1 fun d2 v2 H2 _ s2 en2 r2' q2 => ?_⟩
  exact o M st r H2 v v2 d d2 Q en2 (r1.same s2) r2' q2
theorem de_op {op : Operator} {r2 : R2} {f : D → D → Res D} (ho : OpR X (binaryOp op) r2) (o : OpD X.K W r2 f) (ha : DW X W a ga) (hb : DW X W b gb) : DE X W (.BinOp a op b pos) (bin2 f ga gb) :=
  ⟨(pe_op ho ha.run hb.run).imp fun _ _ _ h => tOp_of o h⟩
theorem de_cmp {op : CmpOp} {r2 : R2} {f : D → D → Res D} (ho : OpR X (compareOp op) r2) (o : OpD X.K W r2 f) (ha : DW X W a ga) (hb : DW X W b gb) (hm : behindInMarks op b = false) : DE X W (.Compare a [op] [b] pos) (bin2 f ga gb) :=
  ⟨(pe_cmpR ho ha.run hb.run hm).imp fun _ _ _ h => tOp_of o h⟩
theorem de_ix {r2 : R2} {f : D → D → Res D} (ho : IxR X r2) (o : OpD X.K W r2 f) (ha : DW X W a ga) (hb : DW X W b gb) (hs : PlainIx b) : DE X W (.Subscript a b pos) (bin2 f ga gb) :=
  ⟨(pe_ix ho ha.run hb.run hs).imp fun _ _ _ h => tOp_of o h⟩

/-! ints -/
def iAdd : D → D → Res D
  | .int i, .int j => .ok (.int (i + j))
  | _, _ => .no
def iSub : D → D → Res D
  | .int i, .int j => .ok (.int (i - j))
  | _, _ => .no
def MulOk (i j : Int) : Prop := CMul i j ∨ CMulW i j
open Classical in
noncomputable def iMul : D → D → Res D
  | .int i, .int j => if MulOk i j then .ok (.int (i * j)) else .no
  | _, _ => .no
open Classical in
noncomputable def iDiv : D → D → Res D
  | .int i, .int j => if CDivW i j then .ok (.int (i / j)) else .no
  | _, _ => .no
def iMod : D → D → Res D
  | .int i, .int j => if 0 < j then .ok (.int (i % j)) else .no
  | _, _ => .no
def iCmp (p : Int → Int → Bool) : D → D → Res D
  | .int i, .int j => .ok (.bool (p i j))
  | _, _ => .no
theorem opd_int0 {h : Int → Int → Int} {f : D → D → Res D} (hf : ∀ i j, f (.int i) (.int j) = .ok (.int (h i j))) (hn : ∀ d e, (∀ i j, ¬ (d = .int i ∧ e = .int j)) → f d e = .no) : OpD K W (rI0 fun i j => .int (h i j)) f := by
  intro M st r H x y d e Q en rx ry q
  by_cases hc : ∃ i j, d = .int i ∧ e = .int j
  · obtain ⟨i, j, rfl, rfl⟩ := hc
    rw [hf] at q
    exact ⟨i, j, rx.int_, ry.int_, q _ H (Same.refl _) (.int _)⟩
  · rw [hn d e fun i j z => hc ⟨i, j, z⟩] at q
    exact q.elim
theorem opd_add : OpD K W (rI0 fun i j => .int (i + j)) iAdd := opd_int0 (fun _ _ => rfl) fun d e h => by
  cases d <;> cases e <;> first | rfl | exact absurd ⟨rfl, rfl⟩ (h _ _)
theorem opd_sub : OpD K W (rI0 fun i j => .int (i - j)) iSub := opd_int0 (fun _ _ => rfl) fun d e h => by
  cases d <;> cases e <;> first | rfl | exact absurd ⟨rfl, rfl⟩ (h _ _)
theorem opd_cmp (p : Int → Int → Bool) : OpD K W (rI0 fun i j => .bl (p i j)) (iCmp p) := by
  intro M st r H x y d e Q en rx ry q
  cases d <;> cases e <;> first | exact q.elim | exact ⟨_, _, rx.int_, ry.int_, q _ H (Same.refl _) (.bl _)⟩
theorem op_mul2 : OpR X (binaryOp .Mult) (fun x y H Q => rI CMul (fun i j => .int (i * j)) x y H Q ∨ rI CMulW (fun i j => .int (i * j)) x y H Q) := op_mul.or op_mulW
open Classical in
theorem opd_mul : OpD K W (fun x y H Q => rI CMul (fun i j => .int (i * j)) x y H Q ∨ rI CMulW (fun i j => .int (i * j)) x y H Q) iMul := by
  intro M st r H x y d e Q en rx ry q
  cases d <;> cases e <;> first
    | exact q.elim
    | (rename_i i j
       simp only [iMul] at q
       by_cases hc : MulOk i j
       · rw [if_pos hc] at q
         rcases hc with hc | hc
         · exact .inl ⟨_, _, rx.int_, ry.int_, hc, q _ H (Same.refl _) (.int _)⟩
         · exact .inr ⟨_, _, rx.int_, ry.int_, hc, q _ H (Same.refl _) (.int _)⟩
       · rw [if_neg hc] at q
         exact q.elim)
open Classical in
theorem opd_div : OpD K W (rI CDivW fun i j => .int (i / j)) iDiv := by
  intro M st r H x y d e Q en rx ry q
  cases d <;> cases e <;> first
    | exact q.elim
    | (rename_i i j
       simp only [iDiv] at q
       by_cases hc : CDivW i j
       · rw [if_pos hc] at q
         exact ⟨_, _, rx.int_, ry.int_, hc, q _ H (Same.refl _) (.int _)⟩
       · rw [if_neg hc] at q
         exact q.elim)
theorem opd_mod : OpD K W (rI (fun _ j => 0 < j) fun i j => .int (i % j)) iMod := by
  intro M st r H x y d e Q en rx ry q
  cases d <;> cases e <;> first
    | exact q.elim
    | (rename_i i j
       simp only [iMod] at q
       by_cases hc : 0 < j
       · rw [if_pos hc] at q
         exact ⟨_, _, rx.int_, ry.int_, hc, q _ H (Same.refl _) (.int _)⟩
       · rw [if_neg hc] at q
         exact q.elim)
theorem de_sub (ha : DW X W a ga) (hb : DW X W b gb) : DE X W (.BinOp a .Sub b pos) (bin2 iSub ga gb) := de_op op_sub opd_sub ha hb
theorem de_mul (ha : DW X W a ga) (hb : DW X W b gb) : DE X W (.BinOp a .Mult b pos) (bin2 iMul ga gb) := de_op op_mul2 opd_mul ha hb
theorem de_div (ha : DW X W a ga) (hb : DW X W b gb) : DE X W (.BinOp a .FloorDiv b pos) (bin2 iDiv ga gb) := de_op op_fdivW opd_div ha hb
theorem de_mod (ha : DW X W a ga) (hb : DW X W b gb) : DE X W (.BinOp a .Mod b pos) (bin2 iMod ga gb) := de_op op_mod opd_mod ha hb
theorem de_addI (ha : DW X W a ga) (hb : DW X W b gb) : DE X W (.BinOp a .Add b pos) (bin2 iAdd ga gb) := de_op op_add opd_add ha hb
theorem de_lt (ha : DW X W a ga) (hb : DW X W b gb) : DE X W (.Compare a [.Lt] [b] pos) (bin2 (iCmp fun i j => decide (i < j)) ga gb) := de_cmp op_lt (opd_cmp _) ha hb (nomark _)
theorem de_le (ha : DW X W a ga) (hb : DW X W b gb) : DE X W (.Compare a [.LtE] [b] pos) (bin2 (iCmp fun i j => decide (i ≤ j)) ga gb) := de_cmp op_le (opd_cmp _) ha hb (nomark _)
theorem de_gt (ha : DW X W a ga) (hb : DW X W b gb) : DE X W (.Compare a [.Gt] [b] pos) (bin2 (iCmp fun i j => decide (j < i)) ga gb) := de_cmp op_gt (opd_cmp _) ha hb (nomark _)
theorem de_ge (ha : DW X W a ga) (hb : DW X W b gb) : DE X W (.Compare a [.GtE] [b] pos) (bin2 (iCmp fun i j => decide (j ≤ i)) ga gb) := de_cmp op_ge (opd_cmp _) ha hb (nomark _)
end
end PD

namespace PD
open PySem PySem.Spec PyProof.Rows L2
variable {K : PySem.W.Frag}
section
variable {X : Cx} {W : WX} {e a b c : Expr} {es : List Expr} {g ga gb gc : Rho → Res D} {gl : Rho → Res (List D)} {gt gu : Rho → Res Bool} {pos p : Pos}

/-! ### tests -/
def asB : D → Res Bool
  | .bool b => .ok b
  | _ => .no
def tru : D → Res Bool
  | .none => .ok false
  | .bool b => .ok b
  | .int i => .ok (i != 0)
  | .list ds => .ok (!ds.isEmpty)
  | .tuple ds => .ok (!ds.isEmpty)
  | _ => .no
def thn1 (g : Rho → Res D) (k : D → Res Bool) (r : Rho) : Res Bool := (g r).bind k
theorem dt_tb {R : RR} (hR : ∀ {M H v b}, R X.K M H v (.bool b) → v = .bl b) (h : PT X e (tB (tE X.K R W g))) : DT X W e (thn1 g asB) := ⟨h.imp fun st H Q ⟨r, M, en, q⟩ =>
  ⟨r, M, en, Dem.thenT en q fun d v H1 _ s1 en1 r1 q1 => by
    cases d <;> first
      | exact q1.elim
      | exact ⟨_, hR r1, q1 H1 (Same.refl _)⟩⟩⟩
theorem dt_cmp {op : CmpOp} {r2 : R2} {f : D → D → Res D} (ho : OpR X (compareOp op) r2) (o : OpD X.K W r2 f) (ha : DW X W a ga) (hb : DW X W b gb) (hm : behindInMarks op b = false) : DT X W (.Compare a [op] [b] pos) (thn1 (bin2 f ga gb) asB) :=
  dt_tb (R := Rp) (fun h => h.weak.bool_) ((pt_cmpR ho ha.run hb.run hm).imp fun _ _ _ h => tOp_of o h)
/-- an expression whose value is a bool -/
theorem dt_val (h : DE X W e g) (he : ∀ whole, isTrue e X.env whole = (do let v ← whole; standAt e.pos; holding [v] (truthy v)) := by intro _; rfl) : DT X W e (thn1 g asB) :=
  dt_tb (R := Rp) (fun h => h.weak.bool_) (pt_val h.run he)
theorem tru_ok' {M : MS} {H : Hp} {v : V} {d : D} {k : Bool} (h : Rw K M H v d) (e : tru d = .ok k) : TruV K v H k := by
  cases d with
  | none => rw [h.none_]; cases e; exact rfl
  | bool b => rw [h.bool_]; cases e; exact rfl
  | int i => rw [h.int_]; cases e; exact rfl
  | str x => cases e
  | list ds =>
    obtain ⟨a, xs, rfl, r, l⟩ := h.lst_
    cases e
    exact .inl ⟨xs, r, by rw [l.nil_iff]⟩
  | tuple ds =>
    obtain ⟨a, xs, rfl, r, l, _⟩ := h.tup_
    cases e
    exact .inr (.inl ⟨xs, .inl r, by rw [l.nil_iff]⟩)
  | dict ds => cases e
theorem dt_tru (h : DW X W e g) (he : ∀ whole, isTrue e X.env whole = (do let v ← whole; standAt e.pos; holding [v] (truthy v)) := by intro _; rfl) : DT X W e (thn1 g tru) :=
  ⟨(pt_truth h.run he).imp fun st H Q ⟨r, M, en, q⟩ => ⟨r, M, en, Dem.thenT en q fun d v H1 _ s1 en1 r1 q1 => by
    cases e : tru d with
    | ok k => rw [e] at q1; exact ⟨k, tru_ok' r1 e, q1 H1 (Same.refl _)⟩
    | ex c => cases d <;> cases e
    | no => rw [e] at q1; exact q1.elim⟩⟩
def notT (gt : Rho → Res Bool) (r : Rho) : Res Bool := (gt r).bind fun c => .ok (!c)
def andT (gt gu : Rho → Res Bool) (r : Rho) : Res Bool := (gt r).bind fun c => if c then gu r else .ok false
def orT (gt gu : Rho → Res Bool) (r : Rho) : Res Bool := (gt r).bind fun c => if c then .ok true else gu r
theorem dt_not (h : DT X W a gt) : DT X W (.UnaryOp .Not a pos) (notT gt) :=
  ⟨(pt_not h.run).imp fun st H Q ⟨r, M, en, q⟩ => ⟨r, M, en, DemT.thenT en q fun d H1 _ s1 en1 q1 => q1 H1 (Same.refl _)⟩⟩
structure DP (X : Cx) (W : WX) (e : Expr) (g : Rho → Res Bool) : Prop where
  run : PW X e (tT X.K W g)
theorem DP.dt (h : DP X W e gt) : DT X W e gt := ⟨h.run.pt⟩
theorem dp_and1 (h : DT X W a gt) : DP X W (.BoolOp .And [a] pos) gt := ⟨pw_and1 h.run⟩
theorem dp_or1 (h : DT X W a gt) : DP X W (.BoolOp .Or [a] pos) gt := ⟨pw_or1 h.run⟩
theorem dp_and {rest : List Expr} (ha : DT X W a gt) (hb : DP X W (.BoolOp .And (b :: rest) pos) gu) : DP X W (.BoolOp .And (a :: b :: rest) pos) (andT gt gu) :=
  ⟨(pw_and ha.run hb.run).imp fun st H Q ⟨r, M, en, q⟩ => ⟨r, M, en, DemT.thenT en q fun d H1 _ s1 en1 q1 => by
    cases d with
    | true => exact ⟨r, M, en1, q1⟩
    | false => exact q1 H1 (Same.refl _)⟩⟩
theorem dp_or {rest : List Expr} (ha : DT X W a gt) (hb : DP X W (.BoolOp .Or (b :: rest) pos) gu) : DP X W (.BoolOp .Or (a :: b :: rest) pos) (orT gt gu) :=
  ⟨(pw_or ha.run hb.run).imp fun st H Q ⟨r, M, en, q⟩ => ⟨r, M, en, DemT.thenT en q fun d H1 _ s1 en1 q1 => by
    cases d with
    | true => exact q1 H1 (Same.refl _)
    | false => exact ⟨r, M, en1, q1⟩⟩⟩
/-! as values -/
def andV (ga gb : Rho → Res D) (r : Rho) : Res D := (ga r).bind fun d => (asB d).bind fun c => if c then gb r else .ok (.bool false)
def orV (ga gb : Rho → Res D) (r : Rho) : Res D := (ga r).bind fun d => (asB d).bind fun c => if c then .ok (.bool true) else gb r
def notV (ga : Rho → Res D) (r : Rho) : Res D := (ga r).bind fun d => (asB d).bind fun c => .ok (.bool (!c))
theorem de_one {op} (h : DE X W a ga) : DE X W (.BoolOp op [a] pos) ga := ⟨pe_one h.run⟩
theorem de_and {rest : List Expr} (ha : DE X W a ga) (hb : DE X W (.BoolOp .And (b :: rest) pos) gb) : DE X W (.BoolOp .And (a :: b :: rest) pos) (andV ga gb) :=
  ⟨(pe_and ha.run hb.run).imp fun st H Q ⟨r, M, en, q⟩ => ⟨r, M, en, Dem.then en q fun d v H1 hg s1 en1 r1 q1 => by
    clear hg
    cases d <;> first
      | exact q1.elim
      | (rename_i k
         refine ⟨k, r1.weak.bool_, ?_⟩
         cases k with
         | true => exact ⟨r, M, en1, q1⟩
         | false => exact q1 _ H1 (Same.refl _) (.bl _))⟩⟩
theorem de_or {rest : List Expr} (ha : DE X W a ga) (hb : DE X W (.BoolOp .Or (b :: rest) pos) gb) : DE X W (.BoolOp .Or (a :: b :: rest) pos) (orV ga gb) :=
  ⟨(pe_or ha.run hb.run).imp fun st H Q ⟨r, M, en, q⟩ => ⟨r, M, en, Dem.then en q fun d v H1 hg s1 en1 r1 q1 => by
    clear hg
    cases d <;> first
      | exact q1.elim
      | (rename_i k
         refine ⟨k, r1.weak.bool_, ?_⟩
         cases k with
         | false => exact ⟨r, M, en1, q1⟩
         | true => exact q1 _ H1 (Same.refl _) (.bl _))⟩⟩
theorem de_not (ha : DE X W a ga) : DE X W (.UnaryOp .Not a pos) (notV ga) :=
  ⟨(pe_not ha.run).imp fun st H Q ⟨r, M, en, q⟩ => ⟨r, M, en, Dem.then en q fun d v H1 _ s1 en1 r1 q1 => by
    cases d <;> first
      | exact q1.elim
      | exact ⟨_, r1.weak.bool_, q1 _ H1 (Same.refl _) (.bl _)⟩⟩⟩
def ifV (gt : Rho → Res Bool) (ga gb : Rho → Res D) (r : Rho) : Res D := (gt r).bind fun c => if c then ga r else gb r
theorem de_if (hc : DT X W c gt) (ha : DE X W a ga) (hb : DE X W b gb) : DE X W (.IfExp c a b pos) (ifV gt ga gb) :=
  ⟨(pe_ifExp hc.run ha.run hb.run).imp fun st H Q ⟨r, M, en, q⟩ => ⟨r, M, en, DemT.then en q fun d H1 _ s1 en1 q1 => by
    cases d with
    | true => exact ⟨r, M, en1, q1⟩
    | false => exact ⟨r, M, en1, q1⟩⟩⟩
def negI : D → Res D
  | .int i => .ok (.int (-i))
  | _ => .no
def then1 (g : Rho → Res D) (k : D → Res D) (r : Rho) : Res D := (g r).bind k
theorem de_neg (ha : DW X W a ga) : DE X W (.UnaryOp .USub a pos) (then1 ga negI) :=
  ⟨(pe_un un_neg ha.run).imp fun st H Q ⟨r, M, en, q⟩ => ⟨r, M, en, Dem.then en q fun d v H1 _ s1 en1 r1 q1 => by
    cases d <;> first
      | exact q1.elim
      | exact ⟨_, r1.int_, q1 _ H1 (Same.refl _) (.int _)⟩⟩⟩
/-- is None, is not None -/
def isN : D → Bool
  | .none => true
  | _ => false
theorem isN_ok {M : MS} {H : Hp} {v : V} {d : D} (h : Rw K M H v d) : decide (v = .non) = isN d := by
  cases d with
  | none => rw [h.none_]; rfl
  | bool b => rw [h.bool_]; rfl
  | int i => rw [h.int_]; rfl
  | str x => rw [h.str_]; rfl
  | list ds => obtain ⟨a, xs, rfl, _⟩ := h.lst_; rfl
  | tuple ds => obtain ⟨a, xs, rfl, _⟩ := h.tup_; rfl
  | dict ds => cases (show Rp K M H v (.dict ds) from h)
theorem de_isN {j pos'} (ha : DW X W a ga) : DE X W (.Compare a [.Is] [.Constant .none j pos'] pos) (then1 ga fun d => .ok (.bool (isN d))) :=
  ⟨(pe_cmp (pc_isN ha.run)).imp fun st H Q ⟨r, M, en, q⟩ => ⟨r, M, en, Dem.then en q fun d v H1 _ s1 en1 r1 q1 => q1 _ H1 (Same.refl _) (by rw [isN_ok r1]; exact .bl _)⟩⟩
theorem de_notN {j pos'} (ha : DW X W a ga) : DE X W (.Compare a [.IsNot] [.Constant .none j pos'] pos) (then1 ga fun d => .ok (.bool (!isN d))) :=
  ⟨(pe_cmp (pc_notN ha.run)).imp fun st H Q ⟨r, M, en, q⟩ => ⟨r, M, en, Dem.then en q fun d v H1 _ s1 en1 r1 q1 => q1 _ H1 (Same.refl _) (by rw [isN_ok r1]; exact .bl _)⟩⟩
theorem dt_isN {j pos'} (ha : DW X W a ga) : DT X W (.Compare a [.Is] [.Constant .none j pos'] pos) (thn1 (then1 ga fun d => .ok (.bool (isN d))) asB) :=
  dt_tb (R := Rp) (fun h => h.weak.bool_) ((pt_cmp (pc_isN ha.run)).imp fun st H Q ⟨r, M, en, q⟩ => ⟨r, M, en, Dem.then en q fun d v H1 _ s1 en1 r1 q1 => q1 _ H1 (Same.refl _) (by rw [isN_ok r1]; exact .bl _)⟩)
theorem dt_notN {j pos'} (ha : DW X W a ga) : DT X W (.Compare a [.IsNot] [.Constant .none j pos'] pos) (thn1 (then1 ga fun d => .ok (.bool (!isN d))) asB) :=
  dt_tb (R := Rp) (fun h => h.weak.bool_) ((pt_cmp (pc_notN ha.run)).imp fun st H Q ⟨r, M, en, q⟩ => ⟨r, M, en, Dem.then en q fun d v H1 _ s1 en1 r1 q1 => q1 _ H1 (Same.refl _) (by rw [isN_ok r1]; exact .bl _)⟩)

/-! ### comparisons as tests -/
theorem dt_lt (ha : DW X W a ga) (hb : DW X W b gb) : DT X W (.Compare a [.Lt] [b] pos) (thn1 (bin2 (iCmp fun i j => decide (i < j)) ga gb) asB) := dt_cmp op_lt (opd_cmp _) ha hb (nomark _)
theorem dt_le (ha : DW X W a ga) (hb : DW X W b gb) : DT X W (.Compare a [.LtE] [b] pos) (thn1 (bin2 (iCmp fun i j => decide (i ≤ j)) ga gb) asB) := dt_cmp op_le (opd_cmp _) ha hb (nomark _)
theorem dt_gt (ha : DW X W a ga) (hb : DW X W b gb) : DT X W (.Compare a [.Gt] [b] pos) (thn1 (bin2 (iCmp fun i j => decide (j < i)) ga gb) asB) := dt_cmp op_gt (opd_cmp _) ha hb (nomark _)
theorem dt_ge (ha : DW X W a ga) (hb : DW X W b gb) : DT X W (.Compare a [.GtE] [b] pos) (thn1 (bin2 (iCmp fun i j => decide (j ≤ i)) ga gb) asB) := dt_cmp op_ge (opd_cmp _) ha hb (nomark _)
def qEq (d e : D) : Res D := if SeqAt.shaped d = true ∧ SeqAt.shaped e = true then .ok (.bool (PyData.eqv d e)) else .no
def qNe (d e : D) : Res D := if SeqAt.shaped d = true ∧ SeqAt.shaped e = true then .ok (.bool (!PyData.eqv d e)) else .no
theorem opd_eq : OpD K W (rEqD K) qEq := by
  intro M st r H x y d e Q en rx ry q
  unfold qEq at q
  by_cases hc : SeqAt.shaped d = true ∧ SeqAt.shaped e = true
  · rw [if_pos hc] at q
    exact ⟨d, e, rx.dp, ry.dp, hc.1, hc.2, q _ H (Same.refl _) (.bl _)⟩
  · rw [if_neg hc] at q
    exact q.elim
theorem opd_ne : OpD K W (rNeD K) qNe := by
  intro M st r H x y d e Q en rx ry q
  unfold qNe at q
  by_cases hc : SeqAt.shaped d = true ∧ SeqAt.shaped e = true
  · rw [if_pos hc] at q
    exact ⟨d, e, rx.dp, ry.dp, hc.1, hc.2, q _ H (Same.refl _) (.bl _)⟩
  · rw [if_neg hc] at q
    exact q.elim
theorem de_eq (hu : X.A.units + 64 < cLine) (ha : DW X W a ga) (hb : DW X W b gb) : DE X W (.Compare a [.Eq] [b] pos) (bin2 qEq ga gb) := de_cmp (op_eqD hu) opd_eq ha hb (nomark _)
theorem de_ne (hu : X.A.units + 64 < cLine) (ha : DW X W a ga) (hb : DW X W b gb) : DE X W (.Compare a [.NotEq] [b] pos) (bin2 qNe ga gb) := de_cmp (op_neD hu) opd_ne ha hb (nomark _)
theorem dt_eq (hu : X.A.units + 64 < cLine) (ha : DW X W a ga) (hb : DW X W b gb) : DT X W (.Compare a [.Eq] [b] pos) (thn1 (bin2 qEq ga gb) asB) := dt_cmp (op_eqD hu) opd_eq ha hb (nomark _)
theorem dt_ne (hu : X.A.units + 64 < cLine) (ha : DW X W a ga) (hb : DW X W b gb) : DT X W (.Compare a [.NotEq] [b] pos) (thn1 (bin2 qNe ga gb) asB) := dt_cmp (op_neD hu) opd_ne ha hb (nomark _)

/-! ### in, not in, over flat items -/
def flatD : D → Bool
  | .none => true
  | .bool _ => true
  | .int _ => true
  | .str _ => true
  | _ => false
theorem flat_ok {M : MS} {H : Hp} {v : V} {d : D} (h : Rw K M H v d) (f : flatD d = true) : flatV v = true := by
  cases d with
  | none => rw [h.none_]; rfl
  | bool b => rw [h.bool_]; rfl
  | int i => rw [h.int_]; rfl
  | str x => rw [h.str_]; rfl
  | list ds => cases f
  | tuple ds => cases f
  | dict ds => cases f
theorem eqV_ok {M : MS} {H : Hp} {v w : V} {d e : D} (h : Rw K M H v d) (h' : Rw K M H w e) (f : flatD d = true) (f' : flatD e = true) : eqV v w = PyData.eqv d e := by
  cases d with
  | none => rw [h.none_]; cases e <;> first | (rw [h'.none_]; simp only [eqV, PyData.eqv]) | (rw [h'.bool_]; simp only [eqV, PyData.eqv]) | (rw [h'.int_]; simp only [eqV, PyData.eqv]) | (rw [h'.str_]; simp only [eqV, PyData.eqv]) | cases f'
  | bool b => rw [h.bool_]; cases e <;> first | (rw [h'.none_]; simp only [eqV, PyData.eqv]) | (rw [h'.bool_]; simp only [eqV, PyData.eqv]) | (rw [h'.int_]; simp only [eqV, PyData.eqv]) | (rw [h'.str_]; simp only [eqV, PyData.eqv]) | cases f'
  | int i => rw [h.int_]; cases e <;> first | (rw [h'.none_]; simp only [eqV, PyData.eqv]) | (rw [h'.bool_]; simp only [eqV, PyData.eqv]) | (rw [h'.int_]; simp only [eqV, PyData.eqv]) | (rw [h'.str_]; simp only [eqV, PyData.eqv]) | cases f'
  | str x => rw [h.str_]; cases e <;> first | (rw [h'.none_]; simp only [eqV, PyData.eqv]) | (rw [h'.bool_]; simp only [eqV, PyData.eqv]) | (rw [h'.int_]; simp only [eqV, PyData.eqv]) | (rw [h'.str_]; simp only [eqV, PyData.eqv]) | cases f'
  | list ds => cases f
  | tuple ds => cases f
  | dict ds => cases f
theorem flatL_ok {M : MS} {H : Hp} : ∀ {vs : List V} {ds : List D}, RpL K M H vs ds → ds.all flatD = true → vs.all flatV = true
  | _, _, .nil, _ => rfl
  | _, _, .cons a t, f => by
    rw [List.all_cons, Bool.and_eq_true] at f ⊢
    exact ⟨flat_ok a.weak f.1, flatL_ok t f.2⟩
theorem inV_ok {M : MS} {H : Hp} {v : V} {d : D} (h : Rw K M H v d) (f : flatD d = true) : ∀ {vs : List V} {ds : List D}, RpL K M H vs ds → ds.all flatD = true → inV v vs = ds.any fun y => PyData.eqv y d
  | _, _, .nil, _ => rfl
  | _, _, .cons a t, fs => by
    rw [List.all_cons, Bool.and_eq_true] at fs
    have ih := inV_ok h f t fs.2
    unfold inV at ih ⊢
    rw [List.any_cons, List.any_cons, ih, eqV_ok a.weak h fs.1 f]
def items : D → Option (List D)
  | .list ds => some ds
  | .tuple ds => some ds
  | _ => none
def qIn (neg : Bool) (d e : D) : Res D := match items e with
  | some ds => if flatD d = true ∧ ds.all flatD = true then .ok (.bool (if neg then !(ds.any fun y => PyData.eqv y d) else ds.any fun y => PyData.eqv y d)) else .no
  | none => .no
theorem opd_in {neg : Bool} : OpD K W (rIn K neg) (qIn neg) := by
  intro M st r H x y d e Q en rx ry q
  unfold qIn at q
  cases e with
  | list ds =>
    obtain ⟨a, xs, rfl, rr, l⟩ := ry.lst_
    simp only [items] at q
    by_cases hc : flatD d = true ∧ ds.all flatD = true
    · rw [if_pos hc] at q
      exact ⟨a, xs, rfl, .inl rr, flat_ok rx hc.1, flatL_ok l hc.2, q _ H (Same.refl _) (by rw [inV_ok rx hc.1 l hc.2]; exact .bl _)⟩
    · rw [if_neg hc] at q
      exact q.elim
  | tuple ds =>
    obtain ⟨a, xs, rfl, rr, l, _⟩ := ry.tup_
    simp only [items] at q
    by_cases hc : flatD d = true ∧ ds.all flatD = true
    · rw [if_pos hc] at q
      exact ⟨a, xs, rfl, .inr (.inl rr), flat_ok rx hc.1, flatL_ok l hc.2, q _ H (Same.refl _) (by rw [inV_ok rx hc.1 l hc.2]; exact .bl _)⟩
    · rw [if_neg hc] at q
      exact q.elim
  | none => exact q.elim
  | bool => exact q.elim
  | int => exact q.elim
  | str => exact q.elim
  | dict => exact q.elim
theorem de_in (ha : DW X W a ga) (hb : DW X W b gb) (hm : behindInMarks .In b = false := by rfl) : DE X W (.Compare a [.In] [b] pos) (bin2 (qIn false) ga gb) := de_cmp op_in_seq opd_in ha hb hm
theorem dt_in (ha : DW X W a ga) (hb : DW X W b gb) (hm : behindInMarks .In b = false := by rfl) : DT X W (.Compare a [.In] [b] pos) (thn1 (bin2 (qIn false) ga gb) asB) := dt_cmp op_in_seq opd_in ha hb hm
theorem de_notin (ha : DW X W a ga) (hb : DW X W b gb) (hm : behindInMarks .NotIn b = false := by rfl) : DE X W (.Compare a [.NotIn] [b] pos) (bin2 (qIn true) ga gb) := de_cmp op_notIn_seq opd_in ha hb hm
theorem dt_notin (ha : DW X W a ga) (hb : DW X W b gb) (hm : behindInMarks .NotIn b = false := by rfl) : DT X W (.Compare a [.NotIn] [b] pos) (thn1 (bin2 (qIn true) ga gb) asB) := dt_cmp op_notIn_seq opd_in ha hb hm

/-! ### items -/
def qIx (d e : D) : Res D := match items d, e with
  | some ds, .int i => match atI ds i with
    | some z => .ok z
    | none => .no
  | _, _ => .no
theorem atI_ok {M : MS} {H : Hp} {vs : List V} {ds : List D} {i : Int} {d : D} (l : RpL K M H vs ds) (h : atI ds i = some d) : ∃ v, atI vs i = some v ∧ Rp K M H v d := by
  unfold atI at h ⊢
  rw [← l.length] at h
  cases e : ixN vs.length i with
  | none => rw [e] at h; cases h
  | some j =>
    rw [e] at h
    obtain ⟨v, h1, h2⟩ := l.get (show ds[j]? = some d from h)
    exact ⟨v, h1, h2⟩
theorem ix_lt : IxR X (fun x y H Q => rIxL X.K x y H Q ∨ rIxT X.K x y H Q) := ix_list.or ix_tup
theorem opd_ix : OpD K W (fun x y H Q => rIxL K x y H Q ∨ rIxT K x y H Q) qIx := by
  intro M st r H x y d e Q en rx ry q
  cases d with
  | list ds =>
    obtain ⟨a, xs, rfl, rr, l⟩ := rx.lst_
    cases e <;> first
      | exact q.elim
      | (rename_i i
         simp only [qIx, items] at q
         cases h : atI ds i with
         | none => rw [h] at q; exact q.elim
         | some z =>
           rw [h] at q
           obtain ⟨v, h1, h2⟩ := atI_ok l h
           exact .inl ⟨a, xs, i, v, rfl, ry.int_, rr, h1, q v H (Same.refl _) h2⟩)
  | tuple ds =>
    obtain ⟨a, xs, rfl, rr, l, _⟩ := rx.tup_
    cases e <;> first
      | exact q.elim
      | (rename_i i
         simp only [qIx, items] at q
         cases h : atI ds i with
         | none => rw [h] at q; exact q.elim
         | some z =>
           rw [h] at q
           obtain ⟨v, h1, h2⟩ := atI_ok l h
           exact .inr ⟨a, xs, i, v, rfl, ry.int_, .inl rr, h1, q v H (Same.refl _) h2⟩)
  | none => exact q.elim
  | bool => exact q.elim
  | int => exact q.elim
  | str => exact q.elim
  | dict => exact q.elim
theorem de_at (ha : DW X W a ga) (hb : DW X W b gb) (hs : PlainIx b := by exact fun _ _ => rfl) : DE X W (.Subscript a b pos) (bin2 qIx ga gb) := de_ix ix_lt opd_ix ha hb hs

/-! ### slices -/
def cutD {α : Type} (xs : List α) (lo hi : Option Int) : List α := (xs.drop (HT.sIx xs.length 0 lo)).take (HT.sIx xs.length xs.length hi - HT.sIx xs.length 0 lo)
def DemO (W : WX) (st : Sg) (H : Hp) (r : Res (Option Int)) (Q : Option Int → Hp → Prop) : Prop :=
  match r with
  | .ok d => ∀ H', Same H H' → Q d H'
  | .ex c => ∀ H', Same H H' → W (.ref c) none st H'
  | .no => False
def tO (K : PySem.W.Frag) (W : WX) (g : Rho → Res (Option Int)) : TO := fun st H Q => ∃ r M, En K M H st r ∧ DemO W st H (g r) Q
structure DO (X : Cx) (W : WX) (e : Option Expr) (g : Rho → Res (Option Int)) : Prop where
  run : PO X e (tO X.K W g)
theorem do_none : DO X W none (fun _ => .ok none) := ⟨⟨fun pins s st H Q I ⟨r, M, en, q⟩ => po_none.run pins s st H Q I (q H (Same.refl _))⟩⟩
def asI : D → Res (Option Int)
  | .int i => .ok (some i)
  | _ => .no
def optI (g : Rho → Res D) (r : Rho) : Res (Option Int) := (g r).bind asI
theorem do_some (h : DW X W e g) : DO X W (some e) (optI g) := ⟨⟨fun pins s st H Q I ⟨r, M, en, q⟩ => (po_some h.run).run pins s st H Q I (by
  refine ⟨r, M, en, ?_⟩
  unfold optI at q
  cases hg : g r with
  | ok d =>
    rw [hg] at q
    clear hg
    cases d <;> first
      | exact q.elim
      | exact fun v H1 s1 r1 => ⟨_, r1.int_, q H1 s1⟩
  | ex c => rw [hg] at q; exact q
  | no => rw [hg] at q; exact q)⟩⟩
def qCut (d : D) (lo hi : Option Int) : Res D := match d with
  | .list ds => .ok (.list (cutD ds lo hi))
  | .tuple ds => .ok (.tuple (cutD ds lo hi))
  | _ => .no
def cut3 (g : Rho → Res D) (gl gh : Rho → Res (Option Int)) (r : Rho) : Res D := (g r).bind fun d => (gl r).bind fun lo => (gh r).bind fun hi => qCut d lo hi
theorem sl_both : L2.SlR X (fun x lo hi H Q => rSlL X.K x lo hi H Q ∨ rSlA X.K x lo hi H Q) := sl_list.or sl_tupA
theorem RpL.cut {M : MS} {H : Hp} {vs : List V} {ds : List D} (l : RpL K M H vs ds) (lo hi : Option Int) : RpL K M H (cutV vs lo hi) (cutD ds lo hi) := by
  unfold cutV cutD
  rw [l.length]
  exact (l.drop _).take _
theorem cutV_all (xs : List V) (lo hi : Option Int) (h : HT.sIx xs.length 0 lo = 0 ∧ HT.sIx xs.length xs.length hi = xs.length) : cutV xs lo hi = xs := by
  unfold cutV
  rw [h.1, h.2]
  simp
theorem de_slice {p2 : Pos} {lo hi : Option Expr} {gl gh : Rho → Res (Option Int)} (he : DW X W e g) (hl : DO X W lo gl) (hh : DO X W hi gh) : DE X W (.Subscript e (.Slice lo hi none p2) pos) (cut3 g gl gh) := by
  refine ⟨(pe_slice sl_both he.run hl.run hh.run).imp fun st H Q ⟨r, M, en, q⟩ => ⟨r, M, en, Dem.then en q fun d v H1 _ s1 en1 r1 q1 => ?_⟩⟩
  refine ⟨r, M, en1, ?_⟩
  cases hg : gl r with
  | ex c => rw [hg] at q1; exact q1
  | no => rw [hg] at q1; exact q1
  | ok o =>
    rw [hg] at q1
    refine fun H2 s2 => ⟨r, M, en1.same s2, ?_⟩
    have q2 : Dem X.K Rp W M st H2 ((gh r).bind fun hi => qCut d o hi) Q := Dem.ext q1 s2
    cases hg2 : gh r with
    | ex c => rw [hg2] at q2; exact q2
    | no => rw [hg2] at q2; exact q2
    | ok o2 =>
      rw [hg2] at q2
      intro H3 s3
      have q3 : Dem X.K Rp W M st H3 (qCut d o o2) Q := Dem.ext q2 s3
      have r3 := (r1.same s2).same s3
      have en3 := (en1.same s2).same s3
      cases d with
      | list ds =>
        obtain ⟨a, xs, rfl, rr, l⟩ := r3.lst_
        exact .inl ⟨a, xs, rfl, rr, fun p hp => q3 _ _ (same_upd hp) (.lst (en3.fresh hp) (.inl upd_same) ((l.cut o o2).same (same_upd hp)))⟩
      | tuple ds =>
        obtain ⟨a, xs, rfl, rr, l, nm⟩ := r3.tup_
        refine .inr ⟨a, xs, rfl, .inl rr, fun hw => ?_, fun hw p hp => q3 _ _ (same_upd hp) (.tup (en3.fresh hp) (.inl upd_same) ((l.cut o o2).same (same_upd hp)))⟩
        have l' := l.cut o o2
        rw [cutV_all xs o o2 hw] at l'
        exact q3 _ _ (Same.refl _) (.tup nm rr l')
      | none => exact q3.elim
      | bool => exact q3.elim
      | int => exact q3.elim
      | str => exact q3.elim
      | dict => exact q3.elim

/-! ### + of ints, tuples, lists -/
def rCatL (K : PySem.W.Frag) : R2 := fun x y H Q => ∃ l b xs zs, x = .ref l ∧ y = .ref b ∧ SqL K H l xs ∧ SqL K H b zs ∧ xs.length + zs.length ≤ sizeLine ∧ ∀ p, H p = none → Q (.ref p) (upd H p (.lst (xs ++ zs)))
theorem op_catL : OpR X (binaryOp .Add) (rCatL X.K) := by
  intro pins s st H x y v u Q I rx ry h
  obtain ⟨l, b, xs, zs, rfl, rfl, hH, hB, hz, q⟩ := h
  cases rx
  cases ry
  obtain ⟨its, r, ⟨o, n, eo, hc, hd, hs⟩, _⟩ := I.list hH
  obtain ⟨its2, r2, ⟨o2, n2, eo2, hc2, hd2, hs2⟩, _⟩ := I.list hB
  obtain ⟨oc, od, ot, osl⟩ := o
  obtain ⟨oc2, od2, ot2, osl2⟩ := o2
  simp only at hc hd hs hc2 hd2 hs2
  subst hc hd hs hc2 hd2 hs2
  have e : its.toArray ++ its2.toArray = (its ++ its2).toArray := by simp
  refine concat_meets ⟨_, eo, rfl⟩ ⟨_, eo2, rfl⟩ noFill_list_add seq_list_add PySem.F.slot_list_add PySem.F.entry_list_add (PySem.F.args_list_add_2 _ _) (PyProof.Rows.list_addW l b its.toArray its2.toArray n n2 none none osl osl2 (by have h1 := r.length; have h2 := r2.length; simp only [List.size_toArray]; omega)) ⟨eo, eo2, ?_⟩
  rw [e]
  exact ⟨.ref _, _, I.lnew (t' := s.toks) (r.append r2) (by rw [List.length_append]; omega), rfl, q _ I.fresh⟩
def pAdd : D → D → Res D
  | .int i, .int j => .ok (.int (i + j))
  | .tuple a, .tuple b => if a.length + b.length ≤ 16777216 then .ok (.tuple (a ++ b)) else .no
  | .list a, .list b => if a.length + b.length ≤ 16777216 then .ok (.list (a ++ b)) else .no
  | _, _ => .no
def rPlus (K : PySem.W.Frag) : R2 := fun x y H Q => rI0 (fun i j => .int (i + j)) x y H Q ∨ (rCatA K x y H Q ∨ rCatL K x y H Q)
theorem op_plus : OpR X (binaryOp .Add) (rPlus X.K) := op_add.or (op_catA.or op_catL)
theorem RpL.isnil {M : MS} {H : Hp} {vs : List V} {ds : List D} (l : RpL K M H vs ds) : vs = [] ↔ ds = [] := by
  cases l with
  | nil => simp
  | cons a b => simp
theorem opd_plus : OpD K W (rPlus K) pAdd := by
  intro M st r H x y d e Q en rx ry q
  have sz : sizeLine = 16777216 := sizeLine_eq
  cases d with
  | int i =>
    cases e <;> first
      | exact q.elim
      | exact .inl ⟨_, _, rx.int_, ry.int_, q _ H (Same.refl _) (.int _)⟩
  | tuple ds =>
    cases e <;> first
      | exact q.elim
      | (rename_i es
         obtain ⟨a, xs, rfl, rr, l, nm⟩ := rx.tup_
         obtain ⟨b, ys, rfl, rr2, l2, nm2⟩ := ry.tup_
         simp only [pAdd] at q
         by_cases hc : ds.length + es.length ≤ 16777216
         · rw [if_pos hc] at q
           refine .inr (.inl ⟨a, b, xs, ys, rfl, rfl, .inl rr, .inl rr2, by rw [l.length, l2.length, sz]; exact hc, fun h0 => ?_, fun h0 h1 => ?_, fun h0 h1 p hp => ?_⟩)
           · have z := l.isnil.mp h0
             subst z
             exact q _ H (Same.refl _) (.tup nm2 rr2 l2)
           · have z := l2.isnil.mp h1
             subst z
             rw [List.append_nil] at q
             exact q _ H (Same.refl _) (.tup nm rr l)
           · exact q _ _ (same_upd hp) (.tup (en.fresh hp) (.inl upd_same) ((l.app l2).same (same_upd hp)))
         · rw [if_neg hc] at q
           exact q.elim)
  | list ds =>
    cases e <;> first
      | exact q.elim
      | (rename_i es
         obtain ⟨a, xs, rfl, rr, l⟩ := rx.lst_
         obtain ⟨b, ys, rfl, rr2, l2⟩ := ry.lst_
         simp only [pAdd] at q
         by_cases hc : ds.length + es.length ≤ 16777216
         · rw [if_pos hc] at q
           refine .inr (.inr ⟨a, b, xs, ys, rfl, rfl, rr, rr2, by rw [l.length, l2.length, sz]; exact hc, fun p hp => ?_⟩)
           exact q _ _ (same_upd hp) (.lst (en.fresh hp) (.inl upd_same) ((l.app l2).same (same_upd hp)))
         · rw [if_neg hc] at q
           exact q.elim)
  | none => exact q.elim
  | bool => exact q.elim
  | str => exact q.elim
  | dict => exact q.elim
theorem de_add (ha : DW X W a ga) (hb : DW X W b gb) : DE X W (.BinOp a .Add b pos) (bin2 pAdd ga gb) := de_op op_plus opd_plus ha hb

/-! ### displays, arguments -/
def consA (g : Rho → Res D) (gl : Rho → Res (List D)) (r : Rho) : Res (List D) := (g r).bind fun d => (gl r).bind fun ds => .ok (d :: ds)
structure DL (X : Cx) (W : WX) (es : List Expr) (g : Rho → Res (List D)) : Prop where
  run : PA X es (tA X.K W g)
  len : ∀ r ds, g r = .ok ds → ds.length = es.length
theorem dl_nil : DL X W [] (fun _ => .ok []) := ⟨pa_nil.imp fun st H Q ⟨r, M, en, q⟩ => q [] H (Same.refl _) .nil, fun r ds e => by cases e; rfl⟩
theorem dl_cons (h : DE X W e g) (hr : DL X W es gl) (hs : starEach (e :: es) X.env = (false, eval e X.env) :: starEach es X.env := by rfl) : DL X W (e :: es) (consA g gl) := by
  refine ⟨(pa_cons h.run hr.run hs).imp fun st H Q ⟨r, M, en, q⟩ => ⟨r, M, en, Dem.thenA en q fun d v H1 _ s1 en1 r1 q1 => ?_⟩, fun r ds e => ?_⟩
  · exact ⟨r, M, en1, DemA.thenA en1 q1 fun d2 v2 H2 _ s2 en2 r2 q2 => q2 _ H2 (Same.refl _) (.cons (r1.same s2) r2)⟩
  · unfold consA at e
    cases hg : g r with
    | ex c => rw [hg] at e; cases e
    | no => rw [hg] at e; cases e
    | ok d =>
      rw [hg] at e
      simp only [bind_ok] at e
      cases hl : gl r with
      | ex c => rw [hl] at e; cases e
      | no => rw [hl] at e; cases e
      | ok d2 =>
        rw [hl] at e
        cases e
        simp [hr.len r d2 hl]
def tupA (gl : Rho → Res (List D)) (r : Rho) : Res D := (gl r).bind fun ds => .ok (.tuple ds)
def lstA (gl : Rho → Res (List D)) (r : Rho) : Res D := (gl r).bind fun ds => .ok (.list ds)
theorem de_tup {x1} (h : DL X W es gl) (hl : es.length ≤ 1000 := by decide) : DE X W (.Tuple es x1 pos) (tupA gl) :=
  ⟨(pe_tup h.run).imp fun st H Q ⟨r, M, en, q⟩ => ⟨r, M, en, DemA.then en q fun d v H1 hg s1 en1 r1 q1 => ⟨by rw [r1.length, h.len r d hg, sizeLine_eq]; omega, fun p hp =>
    q1 _ _ (same_upd hp) (.tup (en1.fresh hp) (.inl upd_same) (r1.same (same_upd hp)))⟩⟩⟩
theorem de_lst (h : DL X W es gl) (hl : es.length ≤ 1000 := by decide) : DE X W (.List es pos) (lstA gl) :=
  ⟨(pe_lst h.run).imp fun st H Q ⟨r, M, en, q⟩ => ⟨r, M, en, DemA.then en q fun d v H1 hg s1 en1 r1 q1 => ⟨by rw [r1.length, h.len r d hg, sizeLine_eq]; omega, fun p hp =>
    q1 _ _ (same_upd hp) (.lst (en1.fresh hp) (.inl upd_same) (r1.same (same_upd hp)))⟩⟩⟩
end
end PD

namespace PD
open PySem PySem.Spec PyProof.Rows L2
variable {K : PySem.W.Frag}

/-! ### the state of a running def -/
structure Sts (K : PySem.W.Frag) (M0 : MS) (H0 : Hp) (M : MS) (H : Hp) (st : Sg) (r : Rho) : Prop where
  en : En K M H st r
  keep : Same H0 H
  sub : ∀ l, M0 l → M l
  new : ∀ l, M l → M0 l ∨ H0 l = none
  len : st.length = r.length
  dis : ∀ (i j : Nat) (l : Addr) (xs ys : List D), r[i]? = some (.own xs) → r[j]? = some (.own ys) → st[i]? = some (some (.ref l)) → st[j]? = some (some (.ref l)) → i = j
  own0 : ∀ (i : Nat) (l : Addr) (xs : List D), r[i]? = some (.own xs) → st[i]? = some (some (.ref l)) → ¬ M0 l
section
variable {M0 M : MS} {H0 H H' : Hp} {st : Sg} {r : Rho}
theorem Sts.same (s : Sts K M0 H0 M H st r) (q : Same H H') : Sts K M0 H0 M H' st r := ⟨s.en.same q, s.keep.trans q, s.sub, s.new, s.len, s.dis, s.own0⟩
theorem set_get {α : Type} {l : List α} {i j : Nat} {x y : α} (h : (l.set i x)[j]? = some y) : (j = i ∧ y = x ∧ i < l.length) ∨ (j ≠ i ∧ l[j]? = some y) := by
  by_cases e : j = i
  · subst e
    by_cases hl : j < l.length
    · rw [List.getElem?_set_self hl] at h
      exact .inl ⟨rfl, (Option.some.inj h).symm, hl⟩
    · rw [List.getElem?_eq_none (by rw [List.length_set]; omega)] at h
      cases h
  · rw [List.getElem?_set_ne (Ne.symm e)] at h
    exact .inr ⟨e, h⟩
theorem En.set (s : En K M H st r) {i : Nat} {v : V} {d : D} (h : Rp K M H v d) : En K M H (st.set i (some v)) (r.set i (.val d)) := by
  have hl := s.len
  refine ⟨s.live, fun j z e => ?_, by rw [List.length_set, List.length_set]; exact hl⟩
  rcases set_get e with ⟨rfl, rfl, hj⟩ | ⟨hj, e⟩
  · exact ⟨v, by rw [List.getElem?_set_self (by omega)], h⟩
  · have q := s.slot j z e
    rw [List.getElem?_set_ne (Ne.symm hj)]
    exact q
theorem Sts.set (s : Sts K M0 H0 M H st r) {i : Nat} {v : V} {d : D} (h : Rp K M H v d) : Sts K M0 H0 M H (st.set i (some v)) (r.set i (.val d)) := by
  have own : ∀ {j : Nat} {xs : List D}, (r.set i (.val d))[j]? = some (.own xs) → j ≠ i ∧ r[j]? = some (.own xs) := fun {j xs} e => by
    rcases set_get e with ⟨_, q, _⟩ | q
    · cases q
    · exact q
  have un : ∀ {j : Nat} {z : Option V}, j ≠ i → (st.set i (some v))[j]? = some z → st[j]? = some z := fun {j z} n e => by
    rw [List.getElem?_set_ne (Ne.symm n)] at e
    exact e
  refine ⟨s.en.set h, s.keep, s.sub, s.new, by rw [List.length_set, List.length_set]; exact s.len, fun a b l xs ys h1 h2 h3 h4 => ?_, fun a l xs h1 h2 => ?_⟩
  · obtain ⟨n1, e1⟩ := own h1
    obtain ⟨n2, e2⟩ := own h2
    exact s.dis a b l xs ys e1 e2 (un n1 h3) (un n2 h4)
  · obtain ⟨n1, e1⟩ := own h1
    exact s.own0 a l xs e1 (un n1 h2)
/-- a slot's value is forgotten -/
theorem Sts.gone (s : Sts K M0 H0 M H st r) (i : Nat) : Sts K M0 H0 M H (st.set i none) (r.set i .no) := by
  have own : ∀ {j : Nat} {xs : List D}, (r.set i .no)[j]? = some (.own xs) → j ≠ i ∧ r[j]? = some (.own xs) := fun {j xs} e => by
    rcases set_get e with ⟨_, q, _⟩ | q
    · cases q
    · exact q
  have un : ∀ {j : Nat} {z : Option V}, j ≠ i → (st.set i none)[j]? = some z → st[j]? = some z := fun {j z} n e => by
    rw [List.getElem?_set_ne (Ne.symm n)] at e
    exact e
  refine ⟨⟨s.en.live, fun j z e => ?_, by rw [List.length_set, List.length_set]; exact s.len⟩, s.keep, s.sub, s.new, by rw [List.length_set, List.length_set]; exact s.len, fun a b l xs ys h1 h2 h3 h4 => ?_, fun a l xs h1 h2 => ?_⟩
  · rcases set_get e with ⟨rfl, rfl, hj⟩ | ⟨hj, e⟩
    · exact trivial
    · have q := s.en.slot j z e
      rw [List.getElem?_set_ne (Ne.symm hj)]
      exact q
  · obtain ⟨n1, e1⟩ := own h1
    obtain ⟨n2, e2⟩ := own h2
    exact s.dis a b l xs ys e1 e2 (un n1 h3) (un n2 h4)
  · obtain ⟨n1, e1⟩ := own h1
    exact s.own0 a l xs e1 (un n1 h2)
/-- a slot holds anything -/
theorem Sts.any (s : Sts K M0 H0 M H st r) (i : Nat) (o : Option V) : Sts K M0 H0 M H (st.set i o) (r.set i .no) := by
  have own : ∀ {j : Nat} {xs : List D}, (r.set i .no)[j]? = some (.own xs) → j ≠ i ∧ r[j]? = some (.own xs) := fun {j xs} e => by
    rcases set_get e with ⟨_, q, _⟩ | q
    · cases q
    · exact q
  have un : ∀ {j : Nat} {z : Option V}, j ≠ i → (st.set i o)[j]? = some z → st[j]? = some z := fun {j z} n e => by
    rw [List.getElem?_set_ne (Ne.symm n)] at e
    exact e
  refine ⟨⟨s.en.live, fun j z e => ?_, by rw [List.length_set, List.length_set]; exact s.len⟩, s.keep, s.sub, s.new, by rw [List.length_set, List.length_set]; exact s.len, fun a b l xs ys h1 h2 h3 h4 => ?_, fun a l xs h1 h2 => ?_⟩
  · rcases set_get e with ⟨rfl, rfl, hj⟩ | ⟨hj, e⟩
    · exact trivial
    · have q := s.en.slot j z e
      rw [List.getElem?_set_ne (Ne.symm hj)]
      exact q
  · obtain ⟨n1, e1⟩ := own h1
    obtain ⟨n2, e2⟩ := own h2
    exact s.dis a b l xs ys e1 e2 (un n1 h3) (un n2 h4)
  · obtain ⟨n1, e1⟩ := own h1
    exact s.own0 a l xs e1 (un n1 h2)
/-- a new list of one's own, at p -/
theorem Sts.setOwn (s : Sts K M0 H0 M H st r) {i : Nat} {p : Addr} {vs : List V} {ds : List D} (hp : H p = none) (h : RpL K M H vs ds) :
    Sts K M0 H0 (fun l => M l ∨ l = p) (upd H p (.lst vs)) (st.set i (some (.ref p))) (r.set i (.own ds)) := by
  have fr : ¬ M p := s.en.fresh hp
  have grow : ∀ {a : Addr}, ¬ M a → (∃ o, H a = some o) → ¬ (M a ∨ a = p) := fun {a} n ⟨o, e⟩ z => z.elim n fun q => by rw [q, hp] at e; cases e
  have up : ∀ {v : V} {d : D}, Rp K M H v d → Rp K (fun l => M l ∨ l = p) (upd H p (.lst vs)) v d := fun {v d} q =>
    Rp.to (fun a n e => grow n e) (fun a o _ e => same_upd hp a o e) d v q
  have upL : ∀ {v : List V} {d : List D}, RpL K M H v d → RpL K (fun l => M l ∨ l = p) (upd H p (.lst vs)) v d := fun {v d} q =>
    RpL.to (fun a n e => grow n e) (fun a o _ e => same_upd hp a o e) d v q
  have un : ∀ {j : Nat} {z : Option V}, j ≠ i → (st.set i (some (.ref p)))[j]? = some z → st[j]? = some z := fun {j z} n e => by
    rw [List.getElem?_set_ne (Ne.symm n)] at e
    exact e
  have at_i : ∀ {l : Addr}, i < st.length → (st.set i (some (.ref p)))[i]? = some (some (.ref l)) → l = p := fun {l} hi e => by
    rw [List.getElem?_set_self hi] at e
    cases e
    rfl
  -- an own slot elsewhere does not hold p
  have ne : ∀ {j : Nat} {xs : List D} {l : Addr}, r[j]? = some (.own xs) → st[j]? = some (some (.ref l)) → l ≠ p := fun {j xs l} e1 e2 z => by
    obtain ⟨l', vs', e3, m, hl, _⟩ := s.en.slot j _ e1
    rw [e2] at e3
    cases e3
    exact fr (z ▸ m)
  refine ⟨⟨fun l z => ?_, fun j z e => ?_, by rw [List.length_set, List.length_set]; exact s.len⟩, s.keep.trans (same_upd hp), fun l z => .inl (s.sub l z), fun l z => ?_, by rw [List.length_set, List.length_set]; exact s.len, fun a b l xs ys h1 h2 h3 h4 => ?_, fun a l xs h1 h2 => ?_⟩
  · rcases z with z | z
    · obtain ⟨o, e⟩ := s.en.live l z
      exact ⟨o, same_upd hp _ _ e⟩
    · subst z
      exact ⟨_, upd_same⟩
  · rcases set_get e with ⟨rfl, rfl, hj⟩ | ⟨hj, e⟩
    · have hj' : j < st.length := by rw [s.len]; exact hj
      exact ⟨p, vs, by rw [List.getElem?_set_self hj'], .inr rfl, upd_same, upL h⟩
    · have q := s.en.slot j z e
      rw [List.getElem?_set_ne (Ne.symm hj)]
      cases z with
      | no => exact trivial
      | val d =>
        obtain ⟨v, e1, q1⟩ := q
        exact ⟨v, e1, up q1⟩
      | own xs =>
        obtain ⟨l, ws, e1, m, hl, q1⟩ := q
        exact ⟨l, ws, e1, .inl m, same_upd hp _ _ hl, upL q1⟩
  · rcases z with z | z
    · exact s.new l z
    · subst z
      refine .inr ?_
      cases q : H0 l with
      | none => rfl
      | some o => rw [s.keep _ _ q] at hp; cases hp
  · rcases set_get h1 with ⟨rfl, q1, hi⟩ | ⟨n1, e1⟩
    · have hi' : a < st.length := by rw [s.len]; exact hi
      have z := at_i hi' h3
      rcases set_get h2 with ⟨rfl, q2, _⟩ | ⟨n2, e2⟩
      · rfl
      · exact absurd z (ne e2 (un n2 h4))
    · rcases set_get h2 with ⟨rfl, q2, hi⟩ | ⟨n2, e2⟩
      · have hi' : b < st.length := by rw [s.len]; exact hi
        exact absurd (at_i hi' h4) (ne e1 (un n1 h3))
      · exact s.dis a b l xs ys e1 e2 (un n1 h3) (un n2 h4)
  · rcases set_get h1 with ⟨rfl, q1, hi⟩ | ⟨n1, e1⟩
    · have hi' : a < st.length := by rw [s.len]; exact hi
      have z := at_i hi' h2
      subst z
      exact fun m => fr (s.sub _ m)
    · exact s.own0 a l xs e1 (un n1 h2)
/-- the list of a slot of one's own has other items now -/
theorem Sts.write (s : Sts K M0 H0 M H st r) {i : Nat} {l : Addr} {xs es : List D} {ws : List V} (hi : r[i]? = some (.own xs)) (hl : st[i]? = some (some (.ref l))) (h : RpL K M H ws es) :
    Sts K M0 H0 M (upd H l (.lst ws)) st (r.set i (.own es)) := by
  obtain ⟨l', vs, e, m, hH, rv⟩ := s.en.slot i _ hi
  rw [hl] at e
  cases e
  have kp : ∀ {b : Addr} {o : HO}, ¬ M b → H b = some o → upd H l (.lst ws) b = some o := fun {b o} n e => by
    have nb : b ≠ l := by
      rintro rfl
      exact n m
    rw [upd_ne nb]
    exact e
  have up : ∀ {v : V} {d : D}, Rp K M H v d → Rp K M (upd H l (.lst ws)) v d := fun {v d} q => Rp.to (fun a n _ => n) (fun a o n e => kp n e) d v q
  have upL : ∀ {v : List V} {d : List D}, RpL K M H v d → RpL K M (upd H l (.lst ws)) v d := fun {v d} q => RpL.to (fun a n _ => n) (fun a o n e => kp n e) d v q
  have hi' : i < r.length := (List.getElem?_eq_some_iff.mp hi).1
  have h0 : H0 l = none := by
    rcases s.new l m with z | z
    · exact absurd z (s.own0 i l xs hi hl)
    · exact z
  have own : ∀ {j : Nat} {ys : List D}, (r.set i (.own es))[j]? = some (.own ys) → ∃ zs, r[j]? = some (.own zs) := fun {j ys} e => by
    rcases set_get e with ⟨rfl, _, _⟩ | ⟨_, q⟩
    · exact ⟨_, hi⟩
    · exact ⟨_, q⟩
  refine ⟨⟨fun b z => ?_, fun j z e => ?_, by rw [List.length_set]; exact s.len⟩, fun b o e => ?_, s.sub, s.new, by rw [List.length_set]; exact s.len, fun a b k ys zs h1 h2 h3 h4 => ?_, fun a k ys h1 h2 => ?_⟩
  · by_cases hb : b = l
    · subst hb
      exact ⟨_, upd_same⟩
    · rw [upd_ne hb]
      exact s.en.live b z
  · rcases set_get e with ⟨rfl, rfl, hj⟩ | ⟨hj, e⟩
    · exact ⟨l, ws, hl, m, upd_same, upL h⟩
    · have q := s.en.slot j z e
      cases z with
      | no => exact trivial
      | val d =>
        obtain ⟨v, e1, q1⟩ := q
        exact ⟨v, e1, up q1⟩
      | own ys =>
        obtain ⟨k, us, e1, mk, hk, q1⟩ := q
        have ne : k ≠ l := fun z => hj (s.dis j i l ys xs e hi (z ▸ e1) hl)
        exact ⟨k, us, e1, mk, by rw [upd_ne ne]; exact hk, upL q1⟩
  · have ne : b ≠ l := fun z => by rw [z, h0] at e; cases e
    rw [upd_ne ne]
    exact s.keep b o e
  · obtain ⟨_, q1⟩ := own h1
    obtain ⟨_, q2⟩ := own h2
    exact s.dis a b k _ _ q1 q2 h3 h4
  · obtain ⟨_, q1⟩ := own h1
    exact s.own0 a k _ q1 h2
/-- from here on the list of the slot is plain data -/
theorem Sts.freeze (s : Sts K M0 H0 M H st r) {i : Nat} {xs : List D} (hi : r[i]? = some (.own xs)) : ∃ M', Sts K M0 H0 M' H st (r.set i (.val (.list xs))) := by
  obtain ⟨l, vs, hl, m, hH, rv⟩ := s.en.slot i _ hi
  have dn : ∀ {v : V} {d : D}, Rp K M H v d → Rp K (fun b => M b ∧ b ≠ l) H v d := fun {v d} q => q.anti fun b z => z.1
  have dnL : ∀ {v : List V} {d : List D}, RpL K M H v d → RpL K (fun b => M b ∧ b ≠ l) H v d := fun {v d} q => q.anti fun b z => z.1
  have own : ∀ {j : Nat} {ys : List D}, (r.set i (.val (.list xs)))[j]? = some (.own ys) → j ≠ i ∧ r[j]? = some (.own ys) := fun {j ys} e => by
    rcases set_get e with ⟨_, q, _⟩ | q
    · cases q
    · exact q
  refine ⟨fun b => M b ∧ b ≠ l, ⟨fun b z => s.en.live b z.1, fun j z e => ?_, by rw [List.length_set]; exact s.len⟩, s.keep, fun b z => ⟨s.sub b z, fun q => s.own0 i l xs hi hl (q ▸ z)⟩, fun b z => s.new b z.1, by rw [List.length_set]; exact s.len,
    fun a b k ys zs h1 h2 h3 h4 => s.dis a b k ys zs (own h1).2 (own h2).2 h3 h4, fun a k ys h1 h2 => s.own0 a k ys (own h1).2 h2⟩
  rcases set_get e with ⟨rfl, rfl, hj⟩ | ⟨hj, e⟩
  · exact ⟨_, hl, .lst (fun z => z.2 rfl) (.inl hH) (dnL rv)⟩
  · have q := s.en.slot j z e
    cases z with
    | no => exact trivial
    | val d =>
      obtain ⟨v, e1, q1⟩ := q
      exact ⟨v, e1, dn q1⟩
    | own ys =>
      obtain ⟨k, us, e1, mk, hk, q1⟩ := q
      exact ⟨k, us, e1, ⟨mk, fun z => hj (s.dis j i l ys xs e hi (z ▸ e1) hl)⟩, hk, dnL q1⟩
end
open Classical in
/-- the part of H that no list of one's own stands in -/
noncomputable def still (M0 M : MS) (H : Hp) : Hp := fun b => if M b ∧ ¬ M0 b then none else H b
section
variable {M0 M : MS} {H0 H : Hp} {st : Sg} {r : Rho}
theorem still_of {b : Addr} {o : HO} (n : ¬ M b) (e : H b = some o) : still M0 M H b = some o := by
  unfold still
  rw [if_neg fun z => n z.1]
  exact e
theorem still_same : Same (still M0 M H) H := fun b o e => by
  unfold still at e
  split at e
  · cases e
  · exact e
theorem Sts.base (s : Sts K M0 H0 M H st r) : Same H0 (still M0 M H) := fun b o e => by
  unfold still
  rw [if_neg]
  · exact s.keep b o e
  · rintro ⟨z, n⟩
    rcases s.new b z with q | q
    · exact n q
    · rw [e] at q; cases q
theorem Sts.rebase (s : Sts K M0 H0 M H st r) : Sts K M0 (still M0 M H) M H st r := by
  refine ⟨s.en, still_same, s.sub, fun l z => ?_, s.len, s.dis, s.own0⟩
  by_cases h : M0 l
  · exact .inl h
  · refine .inr ?_
    unfold still
    rw [if_pos ⟨z, h⟩]
theorem Sts.unbase {H1 : Hp} (s : Sts K M0 H1 M H st r) (q : Same H0 H1) : Sts K M0 H0 M H st r := by
  refine ⟨s.en, q.trans s.keep, s.sub, fun l z => ?_, s.len, s.dis, s.own0⟩
  rcases s.new l z with h | h
  · exact .inl h
  · refine .inr ?_
    cases e : H0 l with
    | none => rfl
    | some o => rw [q _ _ e] at h; cases h
end

/-! ### what a statement does -/
inductive Out where
  | nx (r : Rho) | rt (d : D) | bk (r : Rho) | ct (r : Rho) | ex (c : Addr) (r : Rho) | no
def DemS (K : PySem.W.Frag) (W : WX) (M0 : MS) (H0 : Hp) (E : Ends) : Out → Prop
  | .nx r => ∀ M st H, Sts K M0 H0 M H st r → E.nx st H
  | .bk r => ∀ M st H, Sts K M0 H0 M H st r → E.bk st H
  | .ct r => ∀ M st H, Sts K M0 H0 M H st r → E.ct st H
  | .rt d => ∀ v H, Same H0 H → Rp K M0 H v d → E.rt v H
  | .ex c r => ∀ M st H, Sts K M0 H0 M H st r → W (.ref c) none st H
  | .no => False
def tS (K : PySem.W.Frag) (W : WX) (M0 : MS) (H0 : Hp) (f : Rho → Out) : TS := fun E st H => ∃ r M, Sts K M0 H0 M H st r ∧ DemS K W M0 H0 E (f r)
structure DS (X : Cx) (W : WX) (st : Stmt) (f : Rho → Out) : Prop where
  run : ∀ M0 H0, PS X st (tS X.K W M0 H0 f)
structure DSs (X : Cx) (W : WX) (st : List Stmt) (f : Rho → Out) : Prop where
  run : ∀ M0 H0, PSs X st (tS X.K W M0 H0 f)
def Out.seq : Out → (Rho → Out) → Out
  | .nx r, k => k r
  | o, _ => o
@[simp] theorem seq_nx (r : Rho) (k : Rho → Out) : (Out.nx r).seq k = k r := rfl
@[simp] theorem seq_rt (r : D) (k : Rho → Out) : (Out.rt r).seq k = .rt r := rfl
@[simp] theorem seq_bk (r : Rho) (k : Rho → Out) : (Out.bk r).seq k = .bk r := rfl
@[simp] theorem seq_ct (r : Rho) (k : Rho → Out) : (Out.ct r).seq k = .ct r := rfl
@[simp] theorem seq_ex (c : Addr) (r : Rho) (k : Rho → Out) : (Out.ex c r).seq k = .ex c r := rfl
@[simp] theorem seq_no (k : Rho → Out) : Out.no.seq k = .no := rfl
def sqf (f g : Rho → Out) (r : Rho) : Out := (f r).seq g
theorem DemS.imp {W : WX} {M0 : MS} {H0 H1 : Hp} {E : Ends} {o : Out} (h : DemS K W M0 H0 E o) (q : Same H0 H1) : DemS K W M0 H1 E o := by
  cases o with
  | nx r => exact fun M st H s => h M st H (s.unbase q)
  | bk r => exact fun M st H s => h M st H (s.unbase q)
  | ct r => exact fun M st H s => h M st H (s.unbase q)
  | rt d => exact fun v H s => h v H (q.trans s)
  | ex c r => exact fun M st H s => h M st H (s.unbase q)
  | no => exact h
section
variable {X : Cx} {W : WX} {e a b c : Expr} {s : Stmt} {ss : List Stmt} {f f2 : Rho → Out} {g : Rho → Res D} {gl : Rho → Res (List D)} {gt : Rho → Res Bool} {pos p : Pos}
theorem ds_nil : DSs X W [] .nx := ⟨fun M0 H0 => pss_nil.imp fun E st H ⟨r, M, t, q⟩ => q M st H t⟩
theorem ds_cons (h1 : DS X W s f) (h2 : DSs X W ss f2) : DSs X W (s :: ss) (sqf f f2) := ⟨fun M0 H0 => (pss_cons (h1.run M0 H0) (h2.run M0 H0)).imp fun E st H ⟨r, M, t, q⟩ => ⟨r, M, t, by
  unfold sqf at q
  revert q
  cases f r with
  | nx r2 => exact fun q M2 st2 H2 t2 => ⟨r2, M2, t2, q⟩
  | rt d => exact fun q => q
  | bk r2 => exact fun q => q
  | ct r2 => exact fun q => q
  | ex c r2 => exact fun q => q
  | no => exact fun q => q⟩⟩
/-- from a value on -/
def vThen (g : Rho → Res D) (k : D → Rho → Out) (r : Rho) : Out := match g r with
  | .ok d => k d r
  | .ex c => .ex c r
  | .no => .no
theorem vthen_ok {M0 M : MS} {H0 H : Hp} {st : Sg} {r : Rho} {k : D → Rho → Out} {E : Ends} {P : VK} {R : RR} (t : Sts K M0 H0 M H st r) (q : DemS K W M0 H0 E (vThen g k r))
    (h : ∀ d v H1, Same H H1 → Sts K M0 H0 M H1 st r → R K M H1 v d → DemS K W M0 H0 E (k d r) → P v H1) : tE K R W g st H P := by
  refine ⟨r, M, t.en, ?_⟩
  unfold vThen at q
  cases hg : g r with
  | ok d => rw [hg] at q; exact fun v H1 s1 rv => h d v H1 s1 (t.same s1) rv q
  | ex c => rw [hg] at q; exact fun H1 s1 => q M st H1 (t.same s1)
  | no => rw [hg] at q; exact q
def setE (i : Nat) (g : Rho → Res D) : Rho → Out := vThen g fun d r => .nx (r.set i (.val d))
def retE (g : Rho → Res D) : Rho → Out := vThen g fun d _ => .rt d
def drpE (g : Rho → Res D) : Rho → Out := vThen g fun _ r => .nx r
theorem ds_set {i : Nat} {x : Str} {pos' : Pos} (hN : X.N.Nodup) (hi : X.N[i]? = some x) (hx : Loc X.env.scope x) (he : DE X W e g) (hs : swapsWith e (some (.Name x pos')) pos.line X.env = pure false := by rfl) (hf : X.fn x = true ∨ X.env.scope.names.lookup x = some .local := by first | exact .inl rfl | exact .inr rfl | assumption) :
    DS X W (.Assign [.Name x pos'] e pos) (setE i g) :=
  ⟨fun M0 H0 => (ps_set hN hi hx he.run hs hf).imp fun E st H ⟨r, M, t, q⟩ => vthen_ok t q fun d v H1 s1 t1 rv q1 => q1 M _ H1 (t1.set rv)⟩
def lThen (g : Rho → Res (List D)) (k : List D → Rho → Out) (r : Rho) : Out := match g r with
  | .ok d => k d r
  | .ex c => .ex c r
  | .no => .no
def ownE (i : Nat) (gl : Rho → Res (List D)) : Rho → Out := lThen gl fun ds r => .nx (r.set i (.own ds))
/-- x = [..], a list of one's own -/
theorem ds_own {i : Nat} {x : Str} {pos' lpos : Pos} {es : List Expr} (hN : X.N.Nodup) (hi : X.N[i]? = some x) (hx : Loc X.env.scope x) (he : DL X W es gl) (hl : es.length ≤ 1000 := by decide) (hs : swapsWith (.List es lpos) (some (.Name x pos')) pos.line X.env = pure false := by rfl) (hf : X.fn x = true ∨ X.env.scope.names.lookup x = some .local := by first | exact .inl rfl | exact .inr rfl | assumption) :
    DS X W (.Assign [.Name x pos'] (.List es lpos) pos) (ownE i gl) :=
  ⟨fun M0 H0 => (ps_set hN hi hx (pe_lst he.run) hs hf).imp fun E st H ⟨r, M, t, q⟩ => by
    refine ⟨r, M, t.en, ?_⟩
    unfold ownE lThen at q
    cases hg : gl r with
    | ok d =>
      rw [hg] at q
      intro vs H1 s1 rv
      refine ⟨by rw [rv.length, he.len r d hg, sizeLine_eq]; omega, fun p hp => ?_⟩
      exact q _ _ _ ((t.same s1).setOwn hp rv)
    | ex c => rw [hg] at q; exact fun H1 s1 => q M st H1 (t.same s1)
    | no => rw [hg] at q; exact q⟩
/-- x.append(e) -/
def apnd (i : Nat) (d : D) (r : Rho) : Out := match r[i]? with
  | some (.own xs) => if xs.length < 16777216 then .nx (r.set i (.own (xs ++ [d]))) else .no
  | _ => .no
def apndE (i : Nat) (g : Rho → Res D) (r : Rho) : Out := match r[i]? with
  | some (.own _) => vThen g (apnd i) r
  | _ => .no
theorem mtr_append : MtR X "list.append" rAppend := fun pins s σ H x xs v us Q I rx rv h => mt_append pins s σ H x xs v us Q I rx rv h
theorem ds_append {i : Nat} {x : Str} {np apos cpos : Pos} (hv : PE X (.Name x np) (tVar i)) (he : DE X W e g)
    (hfew : ((backTo cpos (starEach (e :: []) X.env)).all (fun x => !x.1) && (backToKw cpos (keywordEach [] X.env)).all (fun x => x.1.isSome)
      && decide ((e :: []).length + ([] : List Keyword).length + (if ([] : List Keyword).isEmpty then 0 else 1) < 30)) = true := by rfl)
    (hbase : attributeBase (.Name x np) "append" X.env (eval (.Name x np) X.env) = eval (.Name x np) X.env := by rfl)
    (hline : (apos.endLine == cpos.line) = true := by rfl) (hs : starEach (e :: []) X.env = (false, eval e X.env) :: starEach [] X.env := by rfl) (hplain : (backTo cpos (starEach [] X.env)).any (·.1) = false := by rfl)
    (hsw : swapsWith (.Call (.Attribute (.Name x np) "append" apos) [e] [] cpos) none pos.line X.env = pure false := by rfl) :
    DS X W (.Expr (.Call (.Attribute (.Name x np) "append" apos) [e] [] cpos) pos) (apndE i g) :=
  ⟨fun M0 H0 => (ps_expr (pe_bm PySem.F.plainAttrs_list PySem.F.slot_list_append PySem.F.type_list_append mtr_append hv (pa_cons he.run pa_nil hs) hbase hfew hline hs hplain) hsw).imp fun E st H ⟨r, M, t, q⟩ => by
    unfold apndE at q
    cases hi : r[i]? with
    | none => rw [hi] at q; exact q.elim
    | some z =>
      rw [hi] at q
      cases z with
      | no => exact q.elim
      | val d => exact q.elim
      | own xs =>
        obtain ⟨l, vs, e1, m, hH, rv⟩ := t.en.slot i _ hi
        refine ⟨_, e1, ⟨.inl ⟨rfl, vs, SqL.of hH⟩, ?_⟩⟩
        refine vthen_ok (R := Rp) t q fun d v H1 s1 t1 rd q1 => ?_
        unfold apnd at q1
        rw [hi] at q1
        simp only at q1
        by_cases hc : xs.length < 16777216
        · rw [if_pos hc] at q1
          refine ⟨l, vs, v, rfl, rfl, s1 _ _ hH, by rw [rv.length, sizeLine_eq]; exact hc, ?_⟩
          exact q1 M st _ (t1.write hi e1 ((rv.same s1).app (.one rd)))
        · rw [if_neg hc] at q1
          exact q1.elim⟩
theorem ds_ret (he : DE X W e g) : DS X W (.Return (some e) pos) (retE g) :=
  ⟨fun M0 H0 => (ps_ret he.run).imp fun E st H ⟨r, M, t, q⟩ => vthen_ok t q fun d v H1 s1 t1 rv q1 => q1 v H1 t1.keep (rv.anti t1.sub)⟩
theorem ds_expr (he : DE X W e g) (hs : swapsWith e none pos.line X.env = pure false := by rfl) : DS X W (.Expr e pos) (drpE g) :=
  ⟨fun M0 H0 => (ps_expr he.run hs).imp fun E st H ⟨r, M, t, q⟩ => vthen_ok t q fun d v H1 s1 t1 rv q1 => q1 M st H1 t1⟩
theorem ds_pass : DS X W (.Pass pos) .nx := ⟨fun M0 H0 => ps_pass.imp fun E st H ⟨r, M, t, q⟩ => q M st H t⟩
theorem ds_break : DS X W (.Break pos) .bk := ⟨fun M0 H0 => ps_break.imp fun E st H ⟨r, M, t, q⟩ => q M st H t⟩
theorem ds_cont : DS X W (.Continue pos) .ct := ⟨fun M0 H0 => ps_continue.imp fun E st H ⟨r, M, t, q⟩ => q M st H t⟩
def tThen (g : Rho → Res Bool) (k : Bool → Rho → Out) (r : Rho) : Out := match g r with
  | .ok d => k d r
  | .ex c => .ex c r
  | .no => .no
def sIf (gt : Rho → Res Bool) (f f2 : Rho → Out) : Rho → Out := tThen gt fun c r => if c then f r else f2 r
theorem tthen_ok {M0 M : MS} {H0 H : Hp} {st : Sg} {r : Rho} {k : Bool → Rho → Out} {E : Ends} {P : Bool → Hp → Prop} (t : Sts K M0 H0 M H st r) (q : DemS K W M0 H0 E (tThen gt k r))
    (h : ∀ d H1, Same H H1 → Sts K M0 H0 M H1 st r → gt r = .ok d → DemS K W M0 H0 E (k d r) → P d H1) : tT K W gt st H P := by
  refine ⟨r, M, t.en, ?_⟩
  unfold tThen at q
  cases hg : gt r with
  | ok d => rw [hg] at q; exact fun H1 s1 => h d H1 s1 (t.same s1) hg q
  | ex c => rw [hg] at q; exact fun H1 s1 => q M st H1 (t.same s1)
  | no => rw [hg] at q; exact q
theorem ds_if {ss2 : List Stmt} (hc : DT X W c gt) (ha : DSs X W ss f) (hb : DSs X W ss2 f2) : DS X W (.If c ss ss2 pos) (sIf gt f f2) :=
  ⟨fun M0 H0 => (ps_if hc.run (ha.run M0 H0) (hb.run M0 H0)).imp fun E st H ⟨r, M, t, q⟩ => tthen_ok t q fun d H1 s1 t1 _ q1 => by
    cases d with
    | true => exact ⟨r, M, t1, q1⟩
    | false => exact ⟨r, M, t1, q1⟩⟩
/-- ahead of the rest the list of a slot turns into plain data -/
def frz (i : Nat) (f : Rho → Out) (r : Rho) : Out := match r[i]? with
  | some (.own xs) => f (r.set i (.val (.list xs)))
  | _ => .no
theorem ds_frz (i : Nat) (h : DSs X W ss f) : DSs X W ss (frz i f) := ⟨fun M0 H0 => (h.run M0 H0).imp fun E st H ⟨r, M, t, q⟩ => by
  unfold frz at q
  cases hi : r[i]? with
  | none => rw [hi] at q; exact q.elim
  | some z =>
    rw [hi] at q
    cases z with
    | no => exact q.elim
    | val d => exact q.elim
    | own xs =>
      obtain ⟨M', t'⟩ := t.freeze hi
      exact ⟨_, M', t', q⟩⟩
/-! while: fuel n -/
def whileD (gt : Rho → Res Bool) (f : Rho → Out) : Nat → Rho → Out
  | 0, _ => .no
  | n + 1, r => tThen gt (fun c r => if c then (match f r with
      | .nx r2 => whileD gt f n r2
      | .ct r2 => whileD gt f n r2
      | .bk r2 => .nx r2
      | o => o) else .nx r) r
theorem ds_while (n : Nat) (hp : PassesOwn (model X.prog X.w) X.A X.env X.xe) (hc : DT X W c gt) (hb : DSs X W ss f) : DS X W (.While c ss [] pos) (whileD gt f n) :=
  ⟨fun M0 H0 => (ps_while hp hc.run (hb.run M0 H0)).imp fun E st H ⟨r, M, t, q⟩ => by
    refine ⟨fun m st H => ∃ r M, Sts X.K M0 H0 M H st r ∧ DemS X.K W M0 H0 E (whileD gt f m r), ⟨n, r, M, t, q⟩, ?_⟩
    rintro m st H ⟨r, M, t, q⟩
    cases m with
    | zero => exact q.elim
    | succ m =>
      unfold whileD at q
      refine tthen_ok t q fun d H1 s1 t1 _ q1 => ?_
      cases d with
      | false => exact q1 M st H1 t1
      | true =>
        refine ⟨fun st H => ∃ r M, Sts X.K M0 H0 M H st r ∧ DemS X.K W M0 H0 E (whileD gt f m r), fun st2 H2 z => ⟨m, Nat.lt_succ_self m, z⟩, ?_⟩
        refine ⟨r, M, t1, ?_⟩
        simp only [if_true] at q1
        revert q1
        cases f r with
        | nx r2 => exact fun q1 M2 st2 H2 t2 => ⟨r2, M2, t2, q1⟩
        | ct r2 => exact fun q1 M2 st2 H2 t2 => ⟨r2, M2, t2, q1⟩
        | bk r2 => exact fun q1 => q1
        | rt d => exact fun q1 => q1
        | ex c r2 => exact fun q1 => q1
        | no => exact fun q1 => q1⟩
end
end PD

namespace PD
open PySem PySem.Spec PyProof.Rows L2
variable {K : PySem.W.Frag}

/-! ### what a loop walks -/
/-- J gives the items ds, whatever happens outside of Hb -/
def Serves (K : PySem.W.Frag) (M0 : MS) (Hb : Hp) (J : It) (ds : List D) : Prop :=
  ∀ (i : Nat) (M : MS) (H : Hp), Same Hb H → (∀ l, M l → M0 l ∨ Hb l = none) → (∀ l, M l → ∃ o, H l = some o) →
    (∀ d, ds[i]? = some d → J.go i H ∧ ∀ x H', J.yld i H x H' → Same H H' ∧ Rp K M H' x d) ∧ (ds.length ≤ i → J.stop i H)
def DemI (K : PySem.W.Frag) (W : WX) (M : MS) (st : Sg) (H : Hp) (r : Res (List D)) (R : It → Hp → Prop) : Prop :=
  match r with
  | .ok ds => ∀ J H1, Same H H1 → (∀ (M0 : MS) (Hb : Hp), (∀ l, M0 l → M l) → (∀ b o, ¬ M b → H1 b = some o → Hb b = some o) → Serves K M0 Hb J ds) → R J H1
  | .ex c => ∀ H', Same H H' → W (.ref c) none st H'
  | .no => False
def tI (K : PySem.W.Frag) (W : WX) (g : Rho → Res (List D)) : TI := fun st H R => ∃ r M, En K M H st r ∧ DemI K W M st H (g r) R
structure DI (X : Cx) (W : WX) (tg iter : Expr) (g : Rho → Res (List D)) : Prop where
  run : PI X tg iter (tI X.K W g)
theorem _root_.L2.PI.imp {X : Cx} {tg e : Expr} {t t' : TI} (h : PI X tg e t) (k : ∀ st H Q, t' st H Q → t st H Q) : PI X tg e t' := ⟨fun pins s st H Q I q => h.run pins s st H Q I (k _ _ _ q)⟩
section
variable {X : Cx} {W : WX} {e a b c tg : Expr} {s : Stmt} {ss : List Stmt} {f f2 : Rho → Out} {g ga gb : Rho → Res D} {gl : Rho → Res (List D)} {gt : Rho → Res Bool} {pos p : Pos}
def asL (g : Rho → Res D) (r : Rho) : Res (List D) := (g r).bind fun d => match d with
  | .list ds => .ok ds
  | _ => .no
def asT (g : Rho → Res D) (r : Rho) : Res (List D) := (g r).bind fun d => match d with
  | .tuple ds => .ok ds
  | _ => .no
theorem serves_list {M M0 : MS} {H1 Hb : Hp} {a : Addr} {xs : List V} {ds : List D} (hS : ∀ H2, Same Hb H2 → SqL K H2 a xs) (hl : RpL K M H1 xs ds) (h0 : ∀ l, M0 l → M l) (hb : ∀ b o, ¬ M b → H1 b = some o → Hb b = some o) :
    Serves K M0 Hb (Itl K a) ds := by
  intro i M2 H2 s2 n2 l2
  have r2 := hS H2 s2
  have lb : RpL K M0 Hb xs ds := RpL.to (fun b n _ z => n (h0 b z)) (fun b o n e => hb b o n e) ds xs hl
  have l2' : RpL K M2 H2 xs ds := RpL.to (fun b n ⟨o, e⟩ z => by
    rcases n2 b z with q | q
    · exact n q
    · rw [e] at q; cases q) (fun b o _ e => s2 b o e) ds xs lb
  refine ⟨fun d hd => ?_, fun hi => ⟨xs, r2, by rw [l2'.length]; exact hi⟩⟩
  obtain ⟨v, hv, rv⟩ := l2'.get hd
  refine ⟨⟨xs, v, r2, hv⟩, fun x H' ⟨e, q⟩ => ?_⟩
  subst e
  have z := q xs r2
  rw [hv] at z
  cases z
  exact ⟨Same.refl _, rv⟩
theorem serves_tup {M M0 : MS} {H1 Hb : Hp} {a : Addr} {xs : List V} {ds : List D} (hm : ¬ M a) (hr : Rd H1 a (.tup xs)) (hl : RpL K M H1 xs ds) (h0 : ∀ l, M0 l → M l) (hb : ∀ b o, ¬ M b → H1 b = some o → Hb b = some o) :
    Serves K M0 Hb (Itt K a) ds := by
  intro i M2 H2 s2 n2 l2
  have rb : Rd Hb a (.tup xs) := rd_to hr fun o e => hb a o hm e
  have r2 : Rd H2 a (.tup xs) := rd_to rb fun o e => s2 a o e
  have lb : RpL K M0 Hb xs ds := RpL.to (fun b n _ z => n (h0 b z)) (fun b o n e => hb b o n e) ds xs hl
  have l2' : RpL K M2 H2 xs ds := RpL.to (fun b n ⟨o, e⟩ z => by
    rcases n2 b z with q | q
    · exact n q
    · rw [e] at q; cases q) (fun b o _ e => s2 b o e) ds xs lb
  refine ⟨fun d hd => ?_, fun hi => ⟨xs, .inl r2, by rw [l2'.length]; exact hi⟩⟩
  obtain ⟨v, hv, rv⟩ := l2'.get hd
  refine ⟨⟨xs, v, .inl r2, hv⟩, fun x H' ⟨e, q⟩ => ?_⟩
  subst e
  have z := q xs (.inl r2)
  rw [hv] at z
  cases z
  exact ⟨Same.refl _, rv⟩
theorem di_list (h : DE X W e g) : DI X W tg e (asL g) := ⟨(pi_list h.run).imp fun st H R ⟨r, M, en, q⟩ => by
  refine ⟨r, M, en, ?_⟩
  unfold asL at q
  cases hg : g r with
  | ex c => rw [hg] at q; exact q
  | no => rw [hg] at q; exact q
  | ok d =>
    rw [hg] at q
    cases d with
    | list ds =>
      intro v H1 s1 rv
      cases rv with
      | lst n r1 l1 => exact ⟨_, rfl, ⟨_, .inl r1⟩, q _ H1 s1 fun M0 Hb h0 hb => serves_list (fun H2 s2 => .inl (rd_to (rd_to r1 fun o e => hb _ o n e) fun o e => s2 _ o e)) l1 h0 hb⟩
      | kls r1 l1 => exact ⟨_, rfl, ⟨_, .inr r1⟩, q _ H1 s1 fun M0 Hb h0 hb => serves_list (fun H2 s2 => .inr r1) l1 h0 hb⟩
    | none => exact q.elim
    | bool => exact q.elim
    | int => exact q.elim
    | str => exact q.elim
    | tuple => exact q.elim
    | dict => exact q.elim⟩
theorem di_tup (h : DE X W e g) : DI X W tg e (asT g) := ⟨(pi_tup h.run).imp fun st H R ⟨r, M, en, q⟩ => by
  refine ⟨r, M, en, ?_⟩
  unfold asT at q
  cases hg : g r with
  | ex c => rw [hg] at q; exact q
  | no => rw [hg] at q; exact q
  | ok d =>
    rw [hg] at q
    cases d with
    | tuple ds =>
      intro v H1 s1 rv
      cases rv with
      | tup n r1 l1 => exact ⟨_, rfl, ⟨_, .inl r1⟩, q _ H1 s1 fun M0 Hb h0 hb => serves_tup n r1 l1 h0 hb⟩
    | none => exact q.elim
    | bool => exact q.elim
    | int => exact q.elim
    | str => exact q.elim
    | list => exact q.elim
    | dict => exact q.elim⟩
/-- a list or a tuple -/
theorem pi_either {l : Expr} {tl : TE} (hl : PE X l tl) : PI X tg l (fun st H R => tl st H fun x H1 => ∃ a, x = .ref a ∧ ((∃ xs, SqL X.K H1 a xs ∧ R (Itl X.K a) H1) ∨ ∃ xs, SqT X.K H1 a xs ∧ R (Itt X.K a) H1)) where
  run := fun pins s st H R I h => thn (hl.run pins s st H _ I h) fun v s1 hv => by
    rcases hv with ⟨x, H1, I1, r1, a, rfl, q⟩
    cases r1
    have nf : H1 s1.heap.objs.size = none := I1.hok.fresh (Nat.le_refl _)
    have fp : ∀ b ∈ [s1.heap.objs.size], FpOk X pins H1 b := fun b hb => by
      rw [List.mem_singleton] at hb
      rw [hb]
      exact I1.fpOk (Nat.le_refl _) nf
    rcases q with ⟨xs, hq, q⟩ | ⟨xs, hq, q⟩
    · obtain ⟨its, -, p, -⟩ := I1.list hq
      refine wpAny_pyIter_list p.isList ⟨_, _, _, _, H1, rfl, ?_, turn_list a _, ⟨_, Heap.get?_push_size _ rfl, rfl, rfl⟩, fp, q⟩
      exact I1.kept (t' := s1.toks) fun b o e => Heap.get?_push_of_some _ e
    · obtain ⟨its, -, p, -⟩ := I1.tuple hq
      refine wpAny_pyIter_tuple p ⟨_, _, _, _, H1, rfl, ?_, turn_tuple a _, ⟨_, Heap.get?_push_size _ rfl, rfl, rfl⟩, fp, q⟩
      exact I1.kept (t' := s1.toks) fun b o e => Heap.get?_push_of_some _ e
def asS (g : Rho → Res D) (r : Rho) : Res (List D) := (g r).bind fun d => match items d with
  | some ds => .ok ds
  | none => .no
theorem di_seq (h : DE X W e g) : DI X W tg e (asS g) := ⟨(pi_either h.run).imp fun st H R ⟨r, M, en, q⟩ => by
  refine ⟨r, M, en, ?_⟩
  unfold asS at q
  cases hg : g r with
  | ex c => rw [hg] at q; exact q
  | no => rw [hg] at q; exact q
  | ok d =>
    rw [hg] at q
    cases d with
    | list ds =>
      intro v H1 s1 rv
      cases rv with
      | lst n r1 l1 => exact ⟨_, rfl, .inl ⟨_, .inl r1, q _ H1 s1 fun M0 Hb h0 hb => serves_list (fun H2 s2 => .inl (rd_to (rd_to r1 fun o e => hb _ o n e) fun o e => s2 _ o e)) l1 h0 hb⟩⟩
      | kls r1 l1 => exact ⟨_, rfl, .inl ⟨_, .inr r1, q _ H1 s1 fun M0 Hb h0 hb => serves_list (fun H2 s2 => .inr r1) l1 h0 hb⟩⟩
    | tuple ds =>
      intro v H1 s1 rv
      cases rv with
      | tup n r1 l1 => exact ⟨_, rfl, .inr ⟨_, .inl r1, q _ H1 s1 fun M0 Hb h0 hb => serves_tup n r1 l1 h0 hb⟩⟩
    | none => exact q.elim
    | bool => exact q.elim
    | int => exact q.elim
    | str => exact q.elim
    | dict => exact q.elim⟩
/-- lo, lo + 1, .. -/
def rngD (lo : Int) (n : Nat) : List D := (List.range n).map fun i => .int (lo + (i : Nat))
theorem serves_rng {M0 : MS} {Hb : Hp} {lo : Int} {n : Nat} : Serves K M0 Hb (Itr lo n) (rngD lo n) := by
  intro i M2 H2 s2 n2 l2
  refine ⟨fun d hd => ?_, fun hi => (by simpa [rngD] using hi : n ≤ i)⟩
  unfold rngD at hd
  rw [List.getElem?_map] at hd
  cases e : (List.range n)[i]? with
  | none => rw [e] at hd; cases hd
  | some j =>
    rw [e] at hd
    obtain ⟨hj, ej⟩ := List.getElem?_eq_some_iff.mp e
    rw [List.getElem_range] at ej
    subst ej
    rw [List.length_range] at hj
    cases hd
    refine ⟨hj, fun x H' ⟨e1, e2⟩ => ?_⟩
    subst e1 e2
    exact ⟨Same.refl _, .int _⟩
def rg1 (g : Rho → Res D) (r : Rho) : Res (List D) := (g r).bind fun d => match d with
  | .int j => if j < 2 ^ 62 ∧ -(2 ^ 62) ≤ j then .ok (rngD 0 j.toNat) else .no
  | _ => .no
def rg2 (ga gb : Rho → Res D) (r : Rho) : Res (List D) := (ga r).bind fun d => (gb r).bind fun e => match d, e with
  | .int i, .int j => if -(2 ^ 62) ≤ i ∧ i < 2 ^ 62 ∧ -(2 ^ 62) ≤ j ∧ j < 2 ^ 62 then .ok (rngD i (j - i).toNat) else .no
  | _, _ => .no
theorem di_rg1 (hm : X.mg "range" = none) (h : DW X W a g) (hg : Gl X "range" := by rfl) (hs1 : starEach (a :: []) X.env = (false, eval a X.env) :: starEach [] X.env := by rfl) : DI X W tg (.Call (.Name "range" p) [a] [] pos) (rg1 g) :=
  ⟨(pi_range1 hg hm (pa_cons h.run pa_nil hs1) (hs1.trans (by rfl))).imp fun st H R ⟨r, M, en, q⟩ => by
    refine ⟨r, M, en, ?_⟩
    unfold rg1 at q
    cases hg : g r with
    | ex c => rw [hg] at q; exact q
    | no => rw [hg] at q; exact q
    | ok d =>
      rw [hg] at q
      cases d with
      | int j =>
        simp only [bind_ok] at q
        by_cases hc : j < 2 ^ 62 ∧ -(2 ^ 62) ≤ j
        · rw [if_pos hc] at q
          intro v H1 s1 rv
          rw [rv.int_]
          exact ⟨j, rfl, hc.2, hc.1, q _ H1 s1 fun M0 Hb h0 hb => serves_rng⟩
        · rw [if_neg hc] at q
          exact q.elim
      | none => exact q.elim
      | bool => exact q.elim
      | list => exact q.elim
      | str => exact q.elim
      | tuple => exact q.elim
      | dict => exact q.elim⟩
theorem di_rg2 (hm : X.mg "range" = none) (ha : DW X W a ga) (hb : DW X W b gb) (hg : Gl X "range" := by rfl) (hs1 : starEach (a :: [b]) X.env = (false, eval a X.env) :: starEach [b] X.env := by rfl) (hs2 : starEach (b :: []) X.env = (false, eval b X.env) :: starEach [] X.env := by rfl) :
    DI X W tg (.Call (.Name "range" p) [a, b] [] pos) (rg2 ga gb) :=
  ⟨(pi_range2 hg hm (pa_cons ha.run (pa_cons hb.run pa_nil hs2) hs1) (by rw [hs1, hs2]; rfl) (by rw [hs2]; rfl)).imp fun st H R ⟨r, M, en, q⟩ => by
    refine ⟨r, M, en, ?_⟩
    unfold rg2 at q
    cases hga : ga r with
    | ex c => rw [hga] at q; exact q
    | no => rw [hga] at q; exact q
    | ok d =>
      rw [hga] at q
      simp only [bind_ok] at q
      intro v H1 s1 rv
      refine ⟨r, M, en.same s1, ?_⟩
      cases hgb : gb r with
      | ex c => rw [hgb] at q; exact fun H2 s2 => q H2 (s1.trans s2)
      | no => rw [hgb] at q; exact q
      | ok d2 =>
        rw [hgb] at q
        simp only [bind_ok] at q
        intro v2 H2 s2 rv2
        cases d <;> first
          | exact q.elim
          | skip
        cases d2 <;> first
          | exact q.elim
          | skip
        rename_i i j
        simp only at q
        by_cases hc : -(2 ^ 62) ≤ i ∧ i < 2 ^ 62 ∧ -(2 ^ 62) ≤ j ∧ j < 2 ^ 62
        · rw [if_pos hc] at q
          rw [rv.int_, rv2.int_]
          exact ⟨i, j, rfl, hc, q _ H2 (s1.trans s2) fun M0 Hb h0 hb => serves_rng⟩
        · rw [if_neg hc] at q
          exact q.elim⟩

/-! ### targets -/
abbrev Asg := D → Option (List (Nat × D))
def setsV (st : Sg) : List Nat → List V → Sg
  | i :: is, v :: vs => setsV (st.set i (some v)) is vs
  | _, _ => st
def setsD (r : Rho) : List (Nat × D) → Rho
  | [] => r
  | (i, d) :: ps => setsD (r.set i (.val d)) ps
theorem Sts.sets {M0 M : MS} {H0 H : Hp} : ∀ (ps : List (Nat × D)) (vs : List V) (st : Sg) (r : Rho), Sts K M0 H0 M H st r → RpL K M H vs (ps.map (·.2)) → Sts K M0 H0 M H (setsV st (ps.map (·.1)) vs) (setsD r ps)
  | [], _, _, _, s, h => by cases h; exact s
  | (i, d) :: ps, v :: vs, st, r, s, h => by
    cases h with
    | cons a t => exact Sts.sets ps vs _ _ (s.set a) t
theorem En.sets {M : MS} {H : Hp} : ∀ (ps : List (Nat × D)) (vs : List V) (st : Sg) (r : Rho), En K M H st r → RpL K M H vs (ps.map (·.2)) → En K M H (setsV st (ps.map (·.1)) vs) (setsD r ps)
  | [], _, _, _, s, h => by cases h; exact s
  | (i, d) :: ps, v :: vs, st, r, s, h => by
    cases h with
    | cons a t => exact En.sets ps vs _ _ (s.set a) t
/-- what a target asks of the value, and the stores -/
def tG (K : PySem.W.Frag) (asg : Asg) : TG := fun v st H Q => ∃ d M ps, Rp K M H v d ∧ asg d = some ps ∧ ∀ vs, RpL K M H vs (ps.map (·.2)) → Q (setsV st (ps.map (·.1)) vs) H
structure DG (X : Cx) (tg : Expr) (asg : Asg) : Prop where
  run : PG X tg (tG X.K asg)
theorem _root_.L2.PG.imp {X : Cx} {e : Expr} {t t' : TG} (h : PG X e t) (k : ∀ v st H Q, t' v st H Q → t v st H Q) : PG X e t' := ⟨fun pins s st H v u Q I r q => h.run pins s st H v u Q I r (k _ _ _ _ q)⟩
def aName (i : Nat) : Asg := fun d => some [(i, d)]
theorem dg_name {i : Nat} {x : Str} (hN : X.N.Nodup) (hi : X.N[i]? = some x) (hx : Loc X.env.scope x) (hf : X.fn x = true ∨ X.env.scope.names.lookup x = some .local := by first | exact .inl rfl | exact .inr rfl | assumption) : DG X (.Name x pos) (aName i) :=
  ⟨(pg_name hN hi hx hf).imp fun v st H Q ⟨d, M, ps, rv, e, q⟩ => by
    cases e
    exact q [v] (.one rv)⟩
/-- several plain names -/
def aTup (is : List Nat) : Asg := fun d => match d with
  | .tuple ds => if ds.length = is.length then some (is.zip ds) else none
  | _ => none
/-- the targets of a tuple are plain names at the slots is -/
inductive Names (X : Cx) : List Expr → List Nat → Prop where
  | nil : Names X [] []
  | cons {e : Expr} {es : List Expr} {i : Nat} {is : List Nat} (h : PG X e (gName i)) (hs : (assignEach (e :: es) X.env).map (·.2) = assign e X.env :: (assignEach es X.env).map (·.2)) (t : Names X es is) : Names X (e :: es) (i :: is)
def gNames : List Nat → TGs
  | [] => gNil
  | i :: is => gCons (gName i) (gNames is)
theorem Names.pgs : ∀ {es : List Expr} {is : List Nat}, Names X es is → PGs X es (gNames is)
  | _, _, .nil => pgs_nil
  | _, _, .cons h hs t => pgs_cons h t.pgs hs
theorem gNames_of : ∀ {is : List Nat} {vs : List V} {st : Sg} {H : Hp} {Q : Sg → Hp → Prop}, vs.length = is.length → Q (setsV st is vs) H → gNames is vs st H Q
  | [], [], _, _, _, _, q => ⟨rfl, q⟩
  | [], _ :: _, _, _, _, h, _ => by simp at h
  | _ :: _, [], _, _, _, h, _ => by simp at h
  | i :: is, v :: vs, st, H, Q, h, q => ⟨v, vs, rfl, gNames_of (is := is) (vs := vs) (by simpa using h) q⟩
theorem dg_tup {es : List Expr} {k : Nat} {is : List Nat} (hc : X.calm = true) (h : Names X es is)
    (hn : (assignEach es X.env).length = is.length := by rfl) (hst : (assignEach es X.env).findIdx? (·.1) = none := by rfl) : DG X (.Tuple es k pos) (aTup is) :=
  ⟨(pg_tup hc h.pgs hn hst).imp fun v st H Q ⟨d, M, ps, rv, e, q⟩ => by
    cases d with
    | tuple ds =>
      unfold aTup at e
      simp only at e
      by_cases hl : ds.length = is.length
      · rw [if_pos hl] at e
        cases e
        obtain ⟨a, xs, rfl, rr, l, _⟩ := rv.weak.tup_
        have l' := l.length
        have m1 : (is.zip ds).map (·.1) = is := by
          rw [List.map_fst_zip]
          omega
        have m2 : (is.zip ds).map (·.2) = ds := by
          rw [List.map_snd_zip]
          omega
        rw [m1, m2] at q
        exact ⟨a, xs, rfl, .inl rr, by omega, gNames_of (by omega) (q xs l)⟩
      · rw [if_neg hl] at e
        cases e
    | none => cases e
    | bool => cases e
    | int => cases e
    | str => cases e
    | list => cases e
    | dict => cases e⟩
/-- target = value -/
def sAsg (g : Rho → Res D) (asg : Asg) : Rho → Out := vThen g fun d r => match asg d with
  | some ps => .nx (setsD r ps)
  | none => .no
theorem ds_asg {asg : Asg} (he : DE X W e g) (hg : DG X tg asg) (hs : swapsWithSole [tg] e pos.line X.env = pure false := by rfl) (hw : swappedStores [tg] e X.env = pure none := by rfl)
    (h1 : (assignEach [tg] X.env).map (·.2) = [assign tg X.env] := by rfl) : DS X W (.Assign [tg] e pos) (sAsg g asg) :=
  ⟨fun M0 H0 => (ps_asg he.run hg.run hs hw h1).imp fun E st H ⟨r, M, t, q⟩ => vthen_ok t q fun d v H1 s1 t1 rv q1 => by
    cases e : asg d with
    | none => rw [e] at q1; exact q1.elim
    | some ps =>
      rw [e] at q1
      exact ⟨d, M, ps, rv, e, fun vs l => q1 M _ H1 (t1.sets ps vs _ _ l)⟩⟩

/-! ### for -/
def forD (asg : Asg) (f : Rho → Out) : List D → Rho → Out
  | [], r => .nx r
  | d :: ds, r => match asg d with
    | none => .no
    | some ps => match f (setsD r ps) with
      | .nx r2 => forD asg f ds r2
      | .ct r2 => forD asg f ds r2
      | .bk r2 => .nx r2
      | o => o
def forE (gl : Rho → Res (List D)) (asg : Asg) (f : Rho → Out) : Rho → Out := lThen gl fun ds => forD asg f ds
theorem ds_for {asg : Asg} {iter : Expr} (hp : PassesOwn (model X.prog X.w) X.A X.env X.xe) (hc : X.calm = true) (hi : DI X W tg iter gl) (hg : DG X tg asg) (hb : DSs X W ss f)
    (hs : ∀ x, foldedSetIterable iter X.env x = pure x := by intro _; rfl) : DS X W (.For tg iter ss [] pos) (forE gl asg f) := by
  refine ⟨fun M0 H0 => ⟨fun pins s st H E I h => ?_⟩⟩
  obtain ⟨r, M, t, q⟩ := h
  unfold forE lThen at q
  cases hgl : gl r with
  | ex c =>
    rw [hgl] at q
    exact (ps_for hp hc hi.run hg.run (hb.run M0 H0) hs).run pins s st H E I ⟨r, M, t.en, by rw [hgl]; exact fun H1 s1 => q M st H1 (t.same s1)⟩
  | no => rw [hgl] at q; exact q.elim
  | ok ds =>
    rw [hgl] at q
    -- the base within the loop is known only behind the iterable: the body serves any base
    refine (ps_for (tb := fun E st H => ∃ M0 H0, tS X.K W M0 H0 f E st H) hp hc hi.run hg.run ⟨fun pins s st H E I ⟨M0, H0, q⟩ => (hb.run M0 H0).run pins s st H E I q⟩ hs).run pins s st H E I ⟨r, M, t.en, ?_⟩
    rw [hgl]
    intro J H1 s1 serve
    obtain ⟨M1, eM⟩ : ∃ M1, M1 = M := ⟨M, rfl⟩
    subst eM
    have t1 := t.same s1
    have sv := serve M0 (still M0 M1 H1) t1.sub (fun b o n e => still_of n e)
    have hbase : Same H0 (still M0 M1 H1) := t1.base
    refine ⟨fun i m st H => m = ds.length - i ∧ i ≤ ds.length ∧ ∃ r M, Sts X.K M0 (still M0 M1 H1) M H st r ∧ DemS X.K W M0 H0 E (forD asg f (ds.drop i) r), ⟨_, rfl, Nat.zero_le _, r, M1, t1.rebase, by rw [List.drop_zero]; exact q⟩, ?_⟩
    rintro i m st2 H2 ⟨rfl, hi, r2, M2, t2, q2⟩
    obtain ⟨sgo, sstop⟩ := sv i M2 H2 t2.keep t2.new t2.en.live
    by_cases hlt : i < ds.length
    · have hd : ds[i]? = some ds[i] := List.getElem?_eq_getElem hlt
      obtain ⟨go, yl⟩ := sgo _ hd
      rw [List.drop_eq_getElem_cons hlt] at q2
      unfold forD at q2
      refine .inr ⟨go, fun st H => ∃ r M, Sts X.K M0 (still M0 M1 H1) M H st r ∧ DemS X.K W M0 H0 E (forD asg f (ds.drop (i + 1)) r), fun st3 H3 z => ⟨ds.length - (i + 1), by omega, rfl, hlt, z⟩, fun x H3 y => ?_⟩
      obtain ⟨s3, rx⟩ := yl x H3 y
      cases ea : asg ds[i] with
      | none => rw [ea] at q2; exact q2.elim
      | some ps =>
        rw [ea] at q2
        simp only at q2
        refine ⟨_, M2, ps, rx, ea, fun vs l => ⟨M0, still M0 M1 H1, _, M2, (t2.same s3).sets ps vs _ _ l, ?_⟩⟩
        revert q2
        cases f (setsD r2 ps) with
        | nx r3 => exact fun q2 M3 st3 H3 t3 => ⟨r3, M3, t3, q2⟩
        | ct r3 => exact fun q2 M3 st3 H3 t3 => ⟨r3, M3, t3, q2⟩
        | bk r3 => exact fun q2 M3 st3 H3 t3 => q2 M3 st3 H3 (t3.unbase hbase)
        | rt d => exact fun q2 v H3 s3 => q2 v H3 (hbase.trans s3)
        | ex c r3 => exact fun q2 M3 st3 H3 t3 => q2 M3 st3 H3 (t3.unbase hbase)
        | no => exact fun q2 => q2
    · have e : i = ds.length := by omega
      subst e
      rw [List.drop_length] at q2
      exact .inl ⟨sstop (Nat.le_refl _), q2 M2 st2 H2 (t2.unbase hbase)⟩
end
end PD

namespace PD
open PySem PySem.Spec PyProof.Rows L2
variable {K : PySem.W.Frag}

/-! ### comprehensions -/
abbrev W0 : WX := fun _ _ _ _ => False
def Res.quiet {α : Type} : Res α → Res α
  | .ok a => .ok a
  | _ => .no
@[simp] theorem quiet_ok {α : Type} (a : α) : (Res.ok a).quiet = .ok a := rfl
def wipeR (r : Rho) : List Nat → Rho
  | [] => r
  | v :: vs => (wipeR r vs).set v .no
theorem wipeR_length (r : Rho) : ∀ vs : List Nat, (wipeR r vs).length = r.length
  | [] => rfl
  | v :: vs => by unfold wipeR; rw [List.length_set, wipeR_length r vs]
theorem En.wipe {M : MS} {H : Hp} {st : Sg} {r : Rho} (s : En K M H st r) : ∀ vs : List Nat, En K M H (wipe st vs) (wipeR r vs)
  | [] => s
  | v :: vs => by
    have ih := En.wipe s vs
    refine ⟨ih.live, fun j z e => ?_, by rw [wipe_length, wipeR_length]; exact s.len⟩
    unfold wipeR at e
    rcases set_get e with ⟨rfl, rfl, hj⟩ | ⟨hj, e⟩
    · exact trivial
    · have q := ih.slot j z e
      unfold L2.wipe
      rw [List.getElem?_set_ne (Ne.symm hj)]
      exact q
theorem wipe_get (st : Sg) (j : Nat) : ∀ vs : List Nat, (wipe st vs)[j]? = if j ∈ vs ∧ j < st.length then some none else st[j]?
  | [] => by simp [wipe]
  | v :: vs => by
    unfold L2.wipe
    have ih := wipe_get st j vs
    by_cases hj : j = v
    · subst hj
      by_cases hl : j < st.length
      · rw [List.getElem?_set_self (by rw [wipe_length]; exact hl), if_pos ⟨List.mem_cons_self, hl⟩]
      · rw [List.getElem?_eq_none (by rw [List.length_set, wipe_length]; omega), if_neg (fun z => hl z.2), List.getElem?_eq_none (by omega)]
    · rw [List.getElem?_set_ne (Ne.symm hj), ih]
      simp [hj]
theorem setsV_length : ∀ (is : List Nat) (vs : List V) (st : Sg), (setsV st is vs).length = st.length
  | [], _, _ => rfl
  | _ :: _, [], _ => rfl
  | i :: is, v :: vs, st => by
    unfold setsV
    rw [setsV_length is vs, List.length_set]
theorem setsV_out : ∀ (is : List Nat) (vs : List V) (st : Sg) {j : Nat}, j ∉ is → (setsV st is vs)[j]? = st[j]?
  | [], _, _, _, _ => rfl
  | _ :: _, [], _, _, _ => rfl
  | i :: is, v :: vs, st, j, h => by
    unfold setsV
    rw [setsV_out is vs _ (fun z => h (List.mem_cons_of_mem _ z)), List.getElem?_set_ne]
    exact fun z => h (z ▸ List.mem_cons_self)
theorem wipe_sets {st : Sg} {is : List Nat} {vs : List V} {own : List Nat} (h : ∀ i ∈ is, i ∈ own) : wipe (setsV (wipe st own) is vs) own = wipe st own := by
  apply List.ext_getElem?
  intro j
  rw [wipe_get, setsV_length, wipe_length]
  by_cases hj : j ∈ own ∧ j < st.length
  · rw [if_pos hj, wipe_get, if_pos hj]
  · rw [if_neg hj]
    by_cases ho : j ∈ own
    · have hl : ¬ j < st.length := fun z => hj ⟨ho, z⟩
      rw [List.getElem?_eq_none (by rw [setsV_length, wipe_length]; omega), List.getElem?_eq_none (by rw [wipe_length]; omega)]
    · rw [setsV_out _ _ _ (fun z => ho (h j z))]
def compD (asg : Asg) (gt : Rho → Res Bool) (ge : Rho → Res D) (r : Rho) : List D → Res (List D)
  | [] => .ok []
  | d :: ds => match asg d with
    | none => .no
    | some ps => (gt (setsD r ps)).quiet.bind fun c => if c then (ge (setsD r ps)).quiet.bind fun z => (compD asg gt ge r ds).bind fun zs => .ok (z :: zs) else compD asg gt ge r ds
def lcE (gl : Rho → Res (List D)) (asg : Asg) (gt : Rho → Res Bool) (ge : Rho → Res D) (own : List Nat) (r : Rho) : Res D :=
  (gl r).bind fun ds => if ds.length < 16777216 then (compD asg gt ge (wipeR r own) ds).bind fun zs => .ok (.list zs) else .no
section
variable {X : Cx} {W : WX} {gl : Rho → Res (List D)} {asg : Asg} {gt : Rho → Res Bool} {ge : Rho → Res D} {own : List Nat}
theorem tLc_of (hN : ∀ d ps, asg d = some ps → ∀ p ∈ ps, p.1 ∈ own) {st : Sg} {H : Hp} {Q : VK} {R : RR} (hR : ∀ {M H v d}, Rp X.K M H v d → R X.K M H v d) (hl : tE X.K R W (lcE gl asg gt ge own) st H Q) :
    tLc (tI X.K W gl) (tG X.K asg) (tT X.K W0 gt) (tE X.K Rp W0 ge) own st H Q := by
  obtain ⟨r, M, en, q⟩ := hl
  refine ⟨r, M, en, ?_⟩
  unfold lcE at q
  cases hgl : gl r with
  | ex c => rw [hgl] at q; exact q
  | no => rw [hgl] at q; exact q
  | ok ds =>
    rw [hgl] at q
    simp only [bind_ok] at q
    by_cases hsz : ds.length < 16777216
    · rw [if_pos hsz] at q
      intro J H1 s1 serve D0 hD
      have en1 := en.same s1
      have fr : ¬ M D0 := en1.fresh hD
      have sv := serve M H1 (fun _ z => z) (fun _ _ _ e => e)
      have q1 := q.ext s1
      clear q
      refine ⟨fun i m H => m = ds.length - i ∧ i ≤ ds.length ∧ ∃ acc vs, acc.length ≤ i ∧ H D0 = some (.lst vs) ∧ RpL X.K (fun l => M l ∨ l = D0) H vs acc ∧ Same H1 H ∧
        Dem X.K R W M st H1 ((compD asg gt ge (wipeR r own) (ds.drop i)).bind fun zs => .ok (.list (acc ++ zs))) Q, ⟨_, rfl, Nat.zero_le _, [], [], Nat.le_refl _, upd_same, .nil, same_upd hD, by rw [List.drop_zero]; exact q1⟩, ?_⟩
      rintro i m H2 ⟨rfl, hi, acc, vs, hacc, hH2, rl, s2, q2⟩
      obtain ⟨sgo, sstop⟩ := sv i (fun l => M l ∨ l = D0) H2 s2 (fun l z => z.elim .inl fun e => .inr (e ▸ hD)) (fun l z => z.elim (fun z => by
        obtain ⟨o, e⟩ := en1.live l z
        exact ⟨o, s2 _ _ e⟩) fun e => ⟨_, e ▸ hH2⟩)
      by_cases hlt : i < ds.length
      · have hd : ds[i]? = some ds[i] := List.getElem?_eq_getElem hlt
        obtain ⟨go, yl⟩ := sgo _ hd
        rw [List.drop_eq_getElem_cons hlt] at q2
        unfold compD at q2
        refine .inr ⟨go, fun H => ∃ acc vs, acc.length ≤ i + 1 ∧ H D0 = some (.lst vs) ∧ RpL X.K (fun l => M l ∨ l = D0) H vs acc ∧ Same H1 H ∧
          Dem X.K R W M st H1 ((compD asg gt ge (wipeR r own) (ds.drop (i + 1))).bind fun zs => .ok (.list (acc ++ zs))) Q, fun H3 z => ⟨ds.length - (i + 1), by omega, rfl, hlt, z⟩, fun x H3 y => ?_⟩
        obtain ⟨s3, rx⟩ := yl x H3 y
        cases ea : asg ds[i] with
        | none => rw [ea] at q2; exact q2.elim
        | some ps =>
          rw [ea] at q2
          simp only at q2
          refine ⟨_, _, ps, rx, ea, fun ws l => ⟨wipe_sets fun i hi => by
            obtain ⟨p, hp, e⟩ := List.mem_map.mp hi
            exact e ▸ hN _ _ ea p hp, ?_⟩⟩
          have en3 : En X.K (fun l => M l ∨ l = D0) H3 st r := by
            have e2 : En X.K M H3 st r := (en1.same s2).same s3
            refine ⟨fun l z => z.elim (fun z => e2.live l z) fun e => ⟨_, e ▸ s3 _ _ hH2⟩, fun j z e => ?_, en.len⟩
            have z1 := en1.slot j z e
            have gr : ∀ a, ¬ M a → (∃ o, H1 a = some o) → ¬ (M a ∨ a = D0) := fun a n ⟨o, e⟩ z => z.elim n fun q => by rw [q, hD] at e; cases e
            cases z with
            | no => exact trivial
            | val d =>
              obtain ⟨v, e1, rv⟩ := z1
              exact ⟨v, e1, Rp.to gr (fun a o _ e => s3 _ _ (s2 _ _ e)) d v rv⟩
            | own xs =>
              obtain ⟨l, us, e1, m, hh, rv⟩ := z1
              exact ⟨l, us, e1, .inl m, s3 _ _ (s2 _ _ hh), RpL.to gr (fun a o _ e => s3 _ _ (s2 _ _ e)) xs us rv⟩
          have en4 := En.sets ps ws _ _ (en3.wipe own) l
          refine ⟨_, _, en4, ?_⟩
          cases hgt : gt (setsD (wipeR r own) ps) with
          | ex c => rw [hgt] at q2; exact q2.elim
          | no => rw [hgt] at q2; exact q2.elim
          | ok c =>
            rw [hgt] at q2
            intro H4 s4
            cases c with
            | false =>
              exact ⟨acc, vs, by omega, s4 _ _ (s3 _ _ hH2), (rl.same s3).same s4, (s2.trans s3).trans s4, q2⟩
            | true =>
              simp only [quiet_ok, bind_ok, if_true] at q2
              refine ⟨_, _, en4.same s4, ?_⟩
              cases hge : ge (setsD (wipeR r own) ps) with
              | ex c => rw [hge] at q2; exact q2.elim
              | no => rw [hge] at q2; exact q2.elim
              | ok z =>
                rw [hge] at q2
                intro v H5 s5 rv
                have h5 := s5 _ _ (s4 _ _ (s3 _ _ hH2))
                have kp : ∀ {a : Addr} {o : HO}, ¬ (M a ∨ a = D0) → H5 a = some o → upd H5 D0 (.lst (vs ++ [v])) a = some o := fun {a o} n e => by
                  rw [upd_ne (fun z => n (.inr z))]
                  exact e
                refine ⟨vs, h5, by rw [rl.length, sizeLine_eq]; omega, acc ++ [z], vs ++ [v], by rw [List.length_append]; simp; omega, upd_same, ?_, ?_, ?_⟩
                · exact RpL.to (fun _ n _ => n) (fun a o n e => kp n e) _ _ ((((rl.same s3).same s4).same s5).app (.one rv))
                · intro b o e
                  have ne : b ≠ D0 := fun z => by rw [z, hD] at e; cases e
                  rw [upd_ne ne]
                  exact s5 _ _ (s4 _ _ (s3 _ _ (s2 _ _ e)))
                · revert q2
                  simp only [quiet_ok, bind_ok]
                  cases compD asg gt ge (wipeR r own) (ds.drop (i + 1)) with
                  | ok zs => simp only [bind_ok, List.append_assoc, List.singleton_append]; exact fun q2 => q2
                  | ex c => exact fun q2 => q2
                  | no => exact fun q2 => q2
      · have e : i = ds.length := by omega
        subst e
        rw [List.drop_length] at q2
        simp only [compD, bind_ok, List.append_nil] at q2
        exact .inl ⟨sstop (Nat.le_refl _), q2 _ _ s2 (hR (.lst fr (.inl hH2) (rl.anti fun l z => .inl z)))⟩
    · rw [if_neg hsz] at q
      exact q.elim
end
end PD

namespace PD
open PySem PySem.Spec PyProof.Rows L2
variable {K : PySem.W.Frag}
structure DTs (X : Cx) (W : WX) (ifs : List Expr) (g : Rho → Res Bool) : Prop where
  run : PTs X ifs (tT X.K W g)
section
variable {X : Cx} {W : WX} {e a b c elt tg iter : Expr} {es ifs : List Expr} {g ga gb ge : Rho → Res D} {gl : Rho → Res (List D)} {gt : Rho → Res Bool} {pos p : Pos} {asg : Asg}
theorem dts_nil : DTs X W [] (fun _ => .ok true) := ⟨⟨fun pins s st H Q I ⟨r, M, en, q⟩ => pts_nil.run pins s st H Q I (q H (Same.refl _))⟩⟩
theorem dts_one (h : DT X W c gt) : DTs X W [c] gt := ⟨pts_one h.run⟩
def inOwn (asg : Asg) (own : List Nat) : Prop := ∀ d ps, asg d = some ps → ∀ p ∈ ps, p.1 ∈ own
theorem inOwn_name {i : Nat} {own : List Nat} (h : i ∈ own) : inOwn (aName i) own := fun d ps e p hp => by
  cases e
  rw [List.mem_singleton] at hp
  subst hp
  exact h
theorem inOwn_tup {is own : List Nat} (h : ∀ i ∈ is, i ∈ own) : inOwn (aTup is) own := fun d ps e p hp => by
  unfold aTup at e
  cases d with
  | tuple ds =>
    simp only at e
    by_cases hl : ds.length = is.length
    · rw [if_pos hl] at e
      cases e
      obtain ⟨i, d⟩ := p
      exact h _ (List.of_mem_zip hp).1
    · rw [if_neg hl] at e
      cases e
  | none => cases e
  | bool => cases e
  | int => cases e
  | str => cases e
  | list => cases e
  | dict => cases e
theorem de_lc {scope : Scope} {own : List (Str × Nat)} (hc : X.calm = true) (hN : X.N.Nodup) (hi : DI X W tg iter gl) (ok : BlkOk X.N X.env.scope scope own) (ho : inOwn asg (own.map (·.2)))
    (hg : ∀ (s : Shared) (H : Hp) (C : Addr) (cl : List (Str × Addr)) (fp : List Addr), DG (X.blk s H scope (compEnvC scope cl C X.env) fp) tg asg) (ht : ∀ (s : Shared) (H : Hp) (C : Addr) (cl : List (Str × Addr)) (fp : List Addr), DTs (X.blk s H scope (compEnvC scope cl C X.env) fp) W0 ifs gt)
    (he : ∀ (s : Shared) (H : Hp) (C : Addr) (cl : List (Str × Addr)) (fp : List Addr), DE (X.blk s H scope (compEnvC scope cl C X.env) fp) W0 elt ge) (hs : ∀ x, foldedSetIterable iter X.env x = pure x := by intro _; rfl) :
    DE X W (.ListComp elt [⟨tg, iter, ifs, 0⟩] scope pos) (lcE gl asg gt ge (own.map (·.2))) :=
  ⟨(pe_lc hc hN hi.run ok (fun s H C cl fp => (hg s H C cl fp).run) (fun s H C cl fp => (ht s H C cl fp).run) (fun s H C cl fp => (he s H C cl fp).run) hs).imp fun st H Q q => tLc_of ho (R := Rp) (fun h => h) q⟩
theorem ds_setLc {i : Nat} {y : Str} {py spos : Pos} {scope : Scope} {own : List (Str × Nat)} (hc : X.calm = true) (hN : X.N.Nodup) (hy : X.N[i]? = some y) (hyl : X.env.scope.names.lookup y = some .local)
    (hsw : swapsWith (.ListComp elt [⟨tg, iter, ifs, 0⟩] scope pos) (some (.Name y py)) spos.line X.env = pure true) (hi : DI X W tg iter gl) (ok : BlkOk X.N X.env.scope scope own) (ho : inOwn asg (own.map (·.2)))
    (hg : ∀ (s : Shared) (H : Hp) (C : Addr) (cl : List (Str × Addr)) (fp : List Addr), DG (X.blk s H scope (compEnvC scope cl C X.env) fp) tg asg) (ht : ∀ (s : Shared) (H : Hp) (C : Addr) (cl : List (Str × Addr)) (fp : List Addr), DTs (X.blk s H scope (compEnvC scope cl C X.env) fp) W0 ifs gt)
    (he : ∀ (s : Shared) (H : Hp) (C : Addr) (cl : List (Str × Addr)) (fp : List Addr), DE (X.blk s H scope (compEnvC scope cl C X.env) fp) W0 elt ge) (hs : ∀ x, foldedSetIterable iter X.env x = pure x := by intro _; rfl) :
    DS X W (.Assign [.Name y py] (.ListComp elt [⟨tg, iter, ifs, 0⟩] scope pos) spos) (setE i (lcE gl asg gt ge (own.map (·.2)))) :=
  ⟨fun M0 H0 => (ps_setLc hc hN hy hyl hsw hi.run ok (fun s H C cl fp => (hg s H C cl fp).run) (fun s H C cl fp => (ht s H C cl fp).run) (fun s H C cl fp => (he s H C cl fp).run) hs).imp fun E st H ⟨r, M, t, q⟩ =>
    tLc_of ho (R := Rp) (fun h => h) (vthen_ok t q fun d v H1 s1 t1 rv q1 => q1 M _ H1 (t1.set rv))⟩

/-! ### calls of what is built in -/
def OpC1 (K : PySem.W.Frag) (W : WX) (r : List V → Hp → VK → Prop) (f : D → Res D) : Prop :=
  ∀ (M : MS) (st : Sg) (rh : Rho) (H : Hp) (x : V) (d : D) (Q : VK), En K M H st rh → Rw K M H x d → Dem K Rp W M st H (f d) Q → r [x] H Q
def OpC2 (K : PySem.W.Frag) (W : WX) (r : List V → Hp → VK → Prop) (f : D → D → Res D) : Prop :=
  ∀ (M : MS) (st : Sg) (rh : Rho) (H : Hp) (x y : V) (d e : D) (Q : VK), En K M H st rh → Rw K M H x d → Rw K M H y e → Dem K Rp W M st H (f d e) Q → r [x, y] H Q
theorem tCB1 {r : List V → Hp → VK → Prop} {f : D → Res D} (o : OpC1 K W r f) {st : Sg} {H : Hp} {Q : VK} (h : tE K Rp W (then1 ga f) st H Q) : tCB r (tCons (tE K Rw W ga) tNil) st H Q := by
  obtain ⟨rh, M, en, q⟩ := h
  exact ⟨rh, M, en, Dem.then en q fun d v H1 _ s1 en1 r1 q1 => o M st rh H1 v d Q en1 r1 q1⟩
theorem tCB2 {r : List V → Hp → VK → Prop} {f : D → D → Res D} (o : OpC2 K W r f) {st : Sg} {H : Hp} {Q : VK} (h : tE K Rp W (bin2 f ga gb) st H Q) : tCB r (tCons (tE K Rw W ga) (tCons (tE K Rw W gb) tNil)) st H Q := by
  obtain ⟨rh, M, en, q⟩ := h
  exact ⟨rh, M, en, Dem.then (R := Rp) (Ra := Rw) en q fun d v H1 _ s1 en1 r1 q1 => ⟨rh, M, en1, Dem.then (R := Rp) (Ra := Rw) en1 q1 fun d2 v2 H2 _ s2 en2 r2 q2 => o M st rh H2 v v2 d d2 Q en2 (r1.same s2) r2 q2⟩⟩
theorem de_b1 {x : Str} {id : String} {r : List V → Hp → VK → Prop} {f : D → Res D} (hc : CallR X (.builtin id) r) (o : OpC1 X.K W r f) (hm : X.mg x = none) (hv : bootBuiltins x = some (.builtin id)) (ha : DW X W a ga) (hg : Gl X x := by rfl) (hn : x ≠ "__name__" := by decide) (hdb : (x == ("__debug__" : Str)) = false := by decide)
    (he : starEach (a :: []) X.env = (false, eval a X.env) :: starEach [] X.env := by rfl) (hpl : (backTo pos (starEach [] X.env)).any (·.1) = false := by rfl) : DE X W (.Call (.Name x p) [a] [] pos) (then1 ga f) :=
  ⟨(pe_callB hc hg hm hv (pa_cons ha.run pa_nil he) hn hdb he hpl).imp fun st H Q q => tCB1 o q⟩
theorem de_t1 {x : Str} {T : String} {r : List V → Hp → VK → Prop} {f : D → Res D} (hc : CallR X (.type T) r) (o : OpC1 X.K W r f) (hm : X.mg x = none) (hv : bootBuiltins x = some (.type T)) (ha : DW X W a ga) (hg : Gl X x := by rfl) (hn : x ≠ "__name__" := by decide) (hdb : (x == ("__debug__" : Str)) = false := by decide)
    (he : starEach (a :: []) X.env = (false, eval a X.env) :: starEach [] X.env := by rfl) (hpl : (backTo pos (starEach [] X.env)).any (·.1) = false := by rfl) : DE X W (.Call (.Name x p) [a] [] pos) (then1 ga f) :=
  ⟨(pe_callTy hc hg hm hv (pa_cons ha.run pa_nil he) hn hdb he hpl).imp fun st H Q q => tCB1 o q⟩
theorem de_b2 {x : Str} {id : String} {r : List V → Hp → VK → Prop} {f : D → D → Res D} (hc : CallR X (.builtin id) r) (o : OpC2 X.K W r f) (hm : X.mg x = none) (hv : bootBuiltins x = some (.builtin id)) (ha : DW X W a ga) (hb : DW X W b gb) (hg : Gl X x := by rfl) (hn : x ≠ "__name__" := by decide) (hdb : (x == ("__debug__" : Str)) = false := by decide)
    (he : starEach (a :: [b]) X.env = (false, eval a X.env) :: starEach [b] X.env := by rfl) (he2 : starEach (b :: []) X.env = (false, eval b X.env) :: starEach [] X.env := by rfl) (hpl : (backTo pos (starEach [b] X.env)).any (·.1) = false := by rfl) : DE X W (.Call (.Name x p) [a, b] [] pos) (bin2 f ga gb) :=
  ⟨(pe_callB hc hg hm hv (pa_cons ha.run (pa_cons hb.run pa_nil he2) he) hn hdb he hpl).imp fun st H Q q => tCB2 o q⟩
def bLen : D → Res D
  | .list ds => .ok (.int ds.length)
  | .tuple ds => .ok (.int ds.length)
  | _ => .no
theorem opc_len : OpC1 K W (fun xs H Q => ∃ p ys, xs = [.ref p] ∧ (SqL K H p ys ∨ SqT K H p ys) ∧ Q (.int ys.length) H) bLen := by
  intro M st rh H x d Q en rx q
  cases d with
  | list ds =>
    obtain ⟨a, xs, rfl, rr, l⟩ := rx.lst_
    exact ⟨a, xs, rfl, .inl rr, q _ H (Same.refl _) (by rw [l.length]; exact .int _)⟩
  | tuple ds =>
    obtain ⟨a, xs, rfl, rr, l, _⟩ := rx.tup_
    exact ⟨a, xs, rfl, .inr (.inl rr), q _ H (Same.refl _) (by rw [l.length]; exact .int _)⟩
  | none => exact q.elim
  | bool => exact q.elim
  | int => exact q.elim
  | str => exact q.elim
  | dict => exact q.elim
theorem de_len (hm : X.mg "len" = none) (ha : DW X W a ga) (hg : Gl X "len" := by rfl)
    (he : starEach (a :: []) X.env = (false, eval a X.env) :: starEach [] X.env := by rfl) (hpl : (backTo pos (starEach [] X.env)).any (·.1) = false := by rfl) : DE X W (.Call (.Name "len" p) [a] [] pos) (then1 ga bLen) :=
  de_b1 call_len_seq opc_len hm PySem.boot_len ha hg (by decide) (by decide) he hpl
def bList : D → Res D
  | .list ds => .ok (.list ds)
  | .tuple ds => .ok (.list ds)
  | _ => .no
theorem opc_list : OpC1 K W (fun xs H Q => ∃ p ys, xs = [.ref p] ∧ (SqL K H p ys ∨ SqT K H p ys) ∧ ∀ l, H l = none → Q (.ref l) (upd H l (.lst ys))) bList := by
  intro M st rh H x d Q en rx q
  cases d with
  | list ds =>
    obtain ⟨a, xs, rfl, rr, l⟩ := rx.lst_
    exact ⟨a, xs, rfl, .inl rr, fun p hp => q _ _ (same_upd hp) (.lst (en.fresh hp) (.inl upd_same) (l.same (same_upd hp)))⟩
  | tuple ds =>
    obtain ⟨a, xs, rfl, rr, l, _⟩ := rx.tup_
    exact ⟨a, xs, rfl, .inr (.inl rr), fun p hp => q _ _ (same_upd hp) (.lst (en.fresh hp) (.inl upd_same) (l.same (same_upd hp)))⟩
  | none => exact q.elim
  | bool => exact q.elim
  | int => exact q.elim
  | str => exact q.elim
  | dict => exact q.elim
theorem de_list (hm : X.mg "list" = none) (ha : DW X W a ga) (hg : Gl X "list" := by rfl)
    (he : starEach (a :: []) X.env = (false, eval a X.env) :: starEach [] X.env := by rfl) (hpl : (backTo pos (starEach [] X.env)).any (·.1) = false := by rfl) : DE X W (.Call (.Name "list" p) [a] [] pos) (then1 ga bList) :=
  de_t1 call_list_of opc_list hm PyProof.Rows.boot_list ha hg (by decide) (by decide) he hpl
def bTuple : D → Res D
  | .list ds => .ok (.tuple ds)
  | .tuple ds => .ok (.tuple ds)
  | _ => .no
theorem opc_tuple : OpC1 K W (fun xs H Q => ∃ p ys, xs = [.ref p] ∧ ((SqL K H p ys ∧ ∀ l, H l = none → Q (.ref l) (upd H l (.tup ys))) ∨ (SqT K H p ys ∧ Q (.ref p) H))) bTuple := by
  intro M st rh H x d Q en rx q
  cases d with
  | list ds =>
    obtain ⟨a, xs, rfl, rr, l⟩ := rx.lst_
    exact ⟨a, xs, rfl, .inl ⟨rr, fun p hp => q _ _ (same_upd hp) (.tup (en.fresh hp) (.inl upd_same) (l.same (same_upd hp)))⟩⟩
  | tuple ds =>
    obtain ⟨a, xs, rfl, rr, l, n⟩ := rx.tup_
    exact ⟨a, xs, rfl, .inr ⟨.inl rr, q _ _ (Same.refl _) (.tup n rr l)⟩⟩
  | none => exact q.elim
  | bool => exact q.elim
  | int => exact q.elim
  | str => exact q.elim
  | dict => exact q.elim
theorem de_tuple (hm : X.mg "tuple" = none) (ha : DW X W a ga) (hg : Gl X "tuple" := by rfl)
    (he : starEach (a :: []) X.env = (false, eval a X.env) :: starEach [] X.env := by rfl) (hpl : (backTo pos (starEach [] X.env)).any (·.1) = false := by rfl) : DE X W (.Call (.Name "tuple" p) [a] [] pos) (then1 ga bTuple) :=
  de_t1 call_tuple_of opc_tuple hm PyProof.Rows.boot_tuple ha hg (by decide) (by decide) he hpl
def bInt : D → Res D
  | .int i => .ok (.int i)
  | .bool b => .ok (.int (if b then 1 else 0))
  | _ => .no
theorem opc_int : OpC1 K W (fun xs H Q => (∃ i, xs = [.int i] ∧ Q (.int i) H) ∨ ∃ k, xs = [.bl k] ∧ Q (.int (if k then 1 else 0)) H) bInt := by
  intro M st rh H x d Q en rx q
  cases d <;> first
    | exact q.elim
    | exact .inl ⟨_, by rw [rx.int_], q _ H (Same.refl _) (.int _)⟩
    | exact .inr ⟨_, by rw [rx.bool_], q _ H (Same.refl _) (.int _)⟩
theorem de_int1 (hm : X.mg "int" = none) (ha : DW X W a ga) (hg : Gl X "int" := by rfl)
    (he : starEach (a :: []) X.env = (false, eval a X.env) :: starEach [] X.env := by rfl) (hpl : (backTo pos (starEach [] X.env)).any (·.1) = false := by rfl) : DE X W (.Call (.Name "int" p) [a] [] pos) (then1 ga bInt) :=
  de_t1 call_int1 opc_int hm PyProof.Rows.boot_int ha hg (by decide) (by decide) he hpl
def bMin : D → D → Res D
  | .int i, .int j => .ok (.int (if j < i then j else i))
  | _, _ => .no
def bMax : D → D → Res D
  | .int i, .int j => .ok (.int (if j > i then j else i))
  | _, _ => .no
theorem opc_min : OpC2 K W (fun xs H Q => ∃ i j, xs = [.int i, .int j] ∧ Q (.int (if j < i then j else i)) H) bMin := by
  intro M st rh H x y d e Q en rx ry q
  cases d <;> cases e <;> first
    | exact q.elim
    | exact ⟨_, _, by rw [rx.int_, ry.int_], q _ H (Same.refl _) (.int _)⟩
theorem opc_max : OpC2 K W (fun xs H Q => ∃ i j, xs = [.int i, .int j] ∧ Q (.int (if j > i then j else i)) H) bMax := by
  intro M st rh H x y d e Q en rx ry q
  cases d <;> cases e <;> first
    | exact q.elim
    | exact ⟨_, _, by rw [rx.int_, ry.int_], q _ H (Same.refl _) (.int _)⟩
theorem de_min (hc : X.calm = true) (hm : X.mg "min" = none) (ha : DW X W a ga) (hb : DW X W b gb) (hg : Gl X "min" := by rfl)
    (he : starEach (a :: [b]) X.env = (false, eval a X.env) :: starEach [b] X.env := by rfl) (he2 : starEach (b :: []) X.env = (false, eval b X.env) :: starEach [] X.env := by rfl) (hpl : (backTo pos (starEach [b] X.env)).any (·.1) = false := by rfl) : DE X W (.Call (.Name "min" p) [a, b] [] pos) (bin2 bMin ga gb) :=
  de_b2 (call_min2 hc) opc_min hm PyProof.Rows.boot_min ha hb hg (by decide) (by decide) he he2 hpl
theorem de_max (hc : X.calm = true) (hm : X.mg "max" = none) (ha : DW X W a ga) (hb : DW X W b gb) (hg : Gl X "max" := by rfl)
    (he : starEach (a :: [b]) X.env = (false, eval a X.env) :: starEach [b] X.env := by rfl) (he2 : starEach (b :: []) X.env = (false, eval b X.env) :: starEach [] X.env := by rfl) (hpl : (backTo pos (starEach [b] X.env)).any (·.1) = false := by rfl) : DE X W (.Call (.Name "max" p) [a, b] [] pos) (bin2 bMax ga gb) :=
  de_b2 (call_max2 hc) opc_max hm PyProof.Rows.boot_max ha hb hg (by decide) (by decide) he he2 hpl
/-! sum of ints -/
def intsOf : List D → Option (List Int)
  | [] => some []
  | .int i :: ds => (intsOf ds).map fun is => i :: is
  | _ :: _ => none
theorem intsOf_ok {M : MS} {H : Hp} : ∀ {ds : List D} {vs : List V} {ns : List Int}, RpL K M H vs ds → intsOf ds = some ns → vs = ns.map V.int
  | [], _, _, h, e => by cases h; cases e; rfl
  | d :: ds, _, _, h, e => by
    cases h with
    | cons a t =>
      cases d <;> first
        | (cases e; done)
        | (rename_i i
           unfold intsOf at e
           cases ei : intsOf ds with
           | none => rw [ei] at e; cases e
           | some is =>
             rw [ei] at e
             cases e
             rw [a.weak.int_, intsOf_ok t ei]
             rfl)
def bSum : D → Res D
  | .list ds => match intsOf ds with
    | some ns => .ok (.int ns.sum)
    | none => .no
  | _ => .no
theorem opc_sum : OpC1 K W (rSum K) bSum := by
  intro M st rh H x d Q en rx q
  cases d with
  | list ds =>
    obtain ⟨a, xs, rfl, rr, l⟩ := rx.lst_
    unfold bSum at q
    simp only at q
    cases ei : intsOf ds with
    | none => rw [ei] at q; exact q.elim
    | some ns =>
      rw [ei] at q
      have z := intsOf_ok l ei
      subst z
      exact ⟨a, ns, rfl, rr, q _ H (Same.refl _) (.int _)⟩
  | tuple ds => exact q.elim
  | none => exact q.elim
  | bool => exact q.elim
  | int => exact q.elim
  | str => exact q.elim
  | dict => exact q.elim
theorem de_sum (hc : X.calm = true) (hm : X.mg "sum" = none) (ha : DW X W a ga) (hg : Gl X "sum" := by rfl)
    (he : starEach (a :: []) X.env = (false, eval a X.env) :: starEach [] X.env := by rfl) (hpl : (backTo pos (starEach [] X.env)).any (·.1) = false := by rfl) : DE X W (.Call (.Name "sum" p) [a] [] pos) (then1 ga bSum) :=
  de_b1 (cr_sum hc) opc_sum hm PyProof.Rows.boot_sum ha hg (by decide) (by decide) he hpl
/-! isinstance(x, T), T a built-in type -/
def tyD : D → String
  | .none => "NoneType"
  | .bool _ => "bool"
  | .int _ => "int"
  | .str _ => "str"
  | .list _ => "list"
  | .tuple _ => "tuple"
  | .dict _ => "dict"
theorem tyD_ok {M : MS} {H : Hp} {v : V} {d : D} (h : Rw K M H v d) : TyX K H v (.type (tyD d)) := by
  cases d with
  | none => rw [h.none_]; exact .base .non
  | bool b => rw [h.bool_]; exact .base (.bl _)
  | int i => rw [h.int_]; exact .base (.int _)
  | str x => rw [h.str_]; exact .base (.str _)
  | list ds =>
    obtain ⟨a, xs, rfl, r, _⟩ := h.lst_
    rcases r with (r | ⟨o, r⟩) | ⟨o, its, n, hk, hc, _⟩
    · exact .base (.lst r)
    · exact .base (.frz r)
    · exact .kList hk hc
  | tuple ds =>
    obtain ⟨a, xs, rfl, r, _⟩ := h.tup_
    rcases r with r | ⟨o, r⟩
    · exact .base (.tup r)
    · exact .fTuple r
  | dict ds => cases (show Rp K M H v (.dict ds) from h)
/-- the answers for the type T -/
structure IsiT (T : String) (f : String → Bool) : Prop where
  h : ∀ t ∈ ["NoneType", "bool", "int", "str", "list", "tuple"], kitB t T = some (f t)
theorem isi_int : IsiT "int" (fun t => t == "int" || t == "bool") := ⟨by decide +kernel⟩
theorem isi_bool : IsiT "bool" (fun t => t == "bool") := ⟨by decide +kernel⟩
theorem isi_tuple : IsiT "tuple" (fun t => t == "tuple") := ⟨by decide +kernel⟩
theorem isi_list : IsiT "list" (fun t => t == "list") := ⟨by decide +kernel⟩
theorem isi_str : IsiT "str" (fun t => t == "str") := ⟨by decide +kernel⟩
theorem tyD_mem {M : MS} {H : Hp} {v : V} {d : D} (h : Rw K M H v d) : tyD d ∈ ["NoneType", "bool", "int", "str", "list", "tuple"] := by
  cases d with
  | dict ds => cases (show Rp K M H v (.dict ds) from h)
  | _ => simp [tyD]
def isiE (f : String → Bool) (ga : Rho → Res D) : Rho → Res D := then1 ga fun d => .ok (.bool (f (tyD d)))
theorem de_isi {T : String} {f : String → Bool} {x : Str} {px : Pos} (t : IsiT T f) (hm : X.mg "isinstance" = none) (hmT : X.mg x = none) (hvT : bootBuiltins x = some (.type T)) (ha : DW X W a ga) (hg : Gl X "isinstance" := by rfl) (hgT : Gl X x := by rfl) (hn : x ≠ "__name__" := by decide) (hdb : (x == ("__debug__" : Str)) = false := by decide)
    (he : starEach (a :: [.Name x px]) X.env = (false, eval a X.env) :: starEach [.Name x px] X.env := by rfl) (he2 : starEach (.Name x px :: []) X.env = (false, eval (.Name x px) X.env) :: starEach [] X.env := by rfl) (hpl : (backTo pos (starEach [.Name x px] X.env)).any (·.1) = false := by rfl) :
    DE X W (.Call (.Name "isinstance" p) [a, .Name x px] [] pos) (isiE f ga) :=
  ⟨(pe_callB call_isi hg hm PyProof.Rows.boot_isinstance (pa_cons ha.run (pa_cons (pe_bltn (v := .ty T) hgT hmT hvT rfl hn hdb) pa_nil he2) he) (by decide) (by decide) he hpl).imp fun st H Q ⟨rh, M, en, q⟩ =>
    ⟨rh, M, en, Dem.then en q fun d v H1 _ s1 en1 r1 q1 => ⟨v, .ty T, _, _, _, rfl, .ty T, tyD_ok r1, kit_ty (t.h _ (tyD_mem r1)), q1 _ H1 (Same.refl _) (.bl _)⟩⟩⟩

/-! ### defs and their calls -/
def outR : Out → Res D
  | .rt d => .ok d
  | .nx _ => .ok .none
  | .ex c _ => .ex c
  | _ => .no
def spD (K : PySem.W.Frag) (n : Nat) (f : List D → Out) : Sp := fun vs H Q E => vs.length = n ∧ ∃ (M0 : MS) (ds : List D), (∀ l, M0 l → ∃ o, H l = some o) ∧ RpL K M0 H vs ds ∧
  match outR (f ds) with
  | .ok d => ∀ v H', Same H H' → Rp K M0 H' v d → Q v H'
  | .ex c => ∀ H', Same H H' → E (.ref c) none H'
  | .no => False
def fnD (fb : Rho → Out) (n : Nat) (ds : List D) : Out := fb (ds.map Sl.val ++ List.replicate (n - ds.length) Sl.no)
def callE (gl : Rho → Res (List D)) (fc : List D → Out) (r : Rho) : Res D := (gl r).bind fun ds => outR (fc ds)
theorem de_call {k n : Nat} {f : Addr} {fd : FuncData} {ps : List Str} {fc : List D → Out} {x : Str} (tk : Takes X W) (F : FnOk X.prog X.w X.K X.mg X.base (L2.CX X.prog X.w) k f fd ps (spD X.K n fc)) (hr : Room k X.A) (hm : X.mg x = some (.ref f)) (hk : PySem.W.keepIn X.K (.ref f) = true) (hb : Binds X.K fd ps [])
    (ha : DL X W (e :: es) gl) (hn : n = es.length + 1 := by rfl) (hg : Gl X x := by rfl) (hdb : (x == ("__debug__" : Str)) = false := by decide) (he : starEach (e :: es) X.env = (false, eval e X.env) :: starEach es X.env := by rfl) (hpl : (backTo pos (starEach es X.env)).any (·.1) = false := by rfl) :
    DE X W (.Call (.Name x p) (e :: es) [] pos) (callE gl fc) :=
  ⟨(pe_callS F hr hg hm hk hb (fun st => passAt tk st) ha.run hdb he hpl).imp fun st H Q ⟨r, M, en, q⟩ => by
    refine ⟨r, M, en, DemA.then en q fun ds vs H1 hgl s1 en1 r1 q1 => ⟨by rw [r1.length, ha.len r ds hgl, hn]; rfl, M, ds, en1.live, r1, ?_⟩⟩
    revert q1
    cases outR (fc ds) with
    | ok d => exact fun q1 => q1
    | ex c => exact fun q1 => q1
    | no => exact fun q1 => q1⟩
abbrev WD (E : XK) : WX := fun cls d _ H => E cls d H
abbrev CxD (P : Program) (w : World) (K : PySem.W.Frag) (mg : Str → Option Value) (base : Heap) (N : List Str) (qual : Str) (st : Stmt) (f : Addr) (cdv : Value) (A : Around) (outer : List Env) (s : Shared) (H : Hp) (E : XK) : Cx :=
  cxOf (L2.CX P w) P w K mg base N qual (defScope st) f cdv A outer s H E
end
section
variable {P : Program} {w : World} {K : PySem.W.Frag} {mg : Str → Option Value} {base : Heap} {N : List Str} {qual : Str} {st : Stmt} {f : Addr} {cdv : Value} {A : Around} {outer : List Env} {s : Shared} {H : Hp} {E : XK}
theorem tk_of : Takes (CxD P w K mg base N qual st f cdv A outer s H E) (WD E) := takes_of rfl rfl rfl rfl
theorem po_of : PassesOwn (model P w) (CxD P w K mg base N qual st f cdv A outer s H E).A (CxD P w K mg base N qual st f cdv A outer s H E).env (CxD P w K mg base N qual st f cdv A outer s H E).xe :=
  passes_of (X := CxD P w K mg base N qual st f cdv A outer s H E) rfl
theorem start_rep {M : MS} {H : Hp} {vs : List V} {ds : List D} {N : List Str} (live : ∀ l, M l → ∃ o, H l = some o) (l : RpL K M H vs ds) : En K M H (L2.start N vs) (ds.map Sl.val ++ List.replicate (N.length - ds.length) Sl.no) := by
  have hl := l.length
  refine ⟨live, fun i z e => ?_, by unfold L2.start; simp [hl]⟩
  by_cases hi : i < ds.length
  · rw [List.getElem?_append_left (by rw [List.length_map]; exact hi), List.getElem?_map] at e
    cases e2 : ds[i]? with
    | none => rw [e2] at e; cases e
    | some d =>
      rw [e2] at e
      cases e
      obtain ⟨v, h1, h2⟩ := l.get e2
      refine ⟨v, ?_, h2⟩
      unfold L2.start
      rw [List.getElem?_append_left (by rw [List.length_map]; omega), List.getElem?_map, h1]
      rfl
  · rw [List.getElem?_append_right (by rw [List.length_map]; omega)] at e
    obtain ⟨_, e3⟩ := List.getElem?_eq_some_iff.mp e
    rw [List.getElem_replicate] at e3
    subst e3
    exact trivial
theorem own_none {ds : List D} {n i : Nat} {xs : List D} (e : (ds.map Sl.val ++ List.replicate n Sl.no)[i]? = some (.own xs)) : False := by
  by_cases hi : i < ds.length
  · rw [List.getElem?_append_left (by rw [List.length_map]; exact hi), List.getElem?_map] at e
    cases e2 : ds[i]? with
    | none => rw [e2] at e; cases e
    | some d => rw [e2] at e; cases e
  · rw [List.getElem?_append_right (by rw [List.length_map]; omega)] at e
    obtain ⟨_, e3⟩ := List.getElem?_eq_some_iff.mp e
    rw [List.getElem_replicate] at e3
    cases e3
/-- THE RULE for a def -/
theorem def_ok {x : Str} {fd : FuncData} {ps : List Str} {k : Nat} {fb : Rho → Out} (F : Fun K x qual st f fd) (S : FnScope N ps (defScope st))
    (hb : ∀ (cdv : Value) (A : Around) (outer : List Env) (s : Shared) (H : Hp) (E : XK), Room k (CxD P w K mg base N qual st f cdv A outer s H E).A → DSs (CxD P w K mg base N qual st f cdv A outer s H E) (WD E) (defBody st) fb) :
    FnOk P w K mg base (L2.CX P w) (k + 1) f fd ps (spD K ps.length (fnD fb N.length)) := by
  refine F.okX S (fun vs H Q E h => h.1) (fun cdv A outer s H vs Q E hr h => ⟨_, (hb cdv A outer s H E hr).run (Classical.choose h.2) H, ?_⟩)
  obtain ⟨ds, live, l, q⟩ := Classical.choose_spec h.2
  have en := start_rep (N := N) live l
  refine ⟨_, _, ⟨en, Same.refl _, fun _ z => z, fun _ z => .inl z, en.len, fun i j l xs ys e => (own_none e).elim, fun i l xs e => (own_none e).elim⟩, ?_⟩
  have q' : match outR (fb (ds.map Sl.val ++ List.replicate (N.length - ds.length) Sl.no)) with
    | .ok d => ∀ v H', Same H H' → Rp K (Classical.choose h.2) H' v d → Q v H'
    | .ex c => ∀ H', Same H H' → E (.ref c) none H'
    | .no => False := q
  revert q'
  cases fb (ds.map Sl.val ++ List.replicate (N.length - ds.length) Sl.no) with
  | nx r => exact fun q M2 st2 H2 t2 => q .non H2 t2.keep .non
  | rt d => exact fun q v H2 s2 rv => q v H2 s2 rv
  | ex c r => exact fun q M2 st2 H2 t2 => q H2 t2.keep
  | bk r => exact fun q => q.elim
  | ct r => exact fun q => q.elim
  | no => exact fun q => q
end
end PD

namespace PD
open PySem PySem.Spec PyProof.Rows L2
variable {K : PySem.W.Frag}
section
variable {X : Cx} {W : WX} {e a b c : Expr} {es : List Expr} {g ga gb : Rho → Res D} {gl : Rho → Res (List D)} {gt : Rho → Res Bool} {pos p : Pos}
/-- a power that is written out -/
theorem de_pow {i j n : Int} {k1 k2 : Nat} {p1 p2 : Pos} (h0 : 0 ≤ j ∧ j ≤ 1000000 ∧ i.natAbs < 2 ^ 64) (hn : i ^ j.toNat = n) : DE X W (.BinOp (.Constant (.int i) k1 p1) .Pow (.Constant (.int j) k2 p2) pos) (fun _ => .ok (.int n)) :=
  ⟨(pe_op op_pow pe_int pe_int).imp fun st H Q ⟨r, M, en, q⟩ => ⟨i, j, rfl, rfl, h0, q _ H (Same.refl _) (by show Rp _ _ _ (V.int (i ^ j.toNat)) _; rw [hn]; exact .int _)⟩⟩
/-! x op= e -/
def augE (i : Nat) (f : D → D → Res D) (g : Rho → Res D) (r : Rho) : Out := match r[i]? with
  | some (.val d) => vThen (fun r => (g r).bind fun e => f d e) (fun z r => .nx (r.set i (.val z))) r
  | _ => .no

/-! ### a def that may be called -/
structure Cal (P : Program) (w : World) (K : PySem.W.Frag) (mg : Str → Option Value) (base : Heap) (k n : Nat) (x : Str) (fc : List D → Out) : Prop where
  ex : ∃ (f : Addr) (fd : FuncData) (ps : List Str), FnOk P w K mg base (L2.CX P w) k f fd ps (spD K n fc) ∧ mg x = some (.ref f) ∧ PySem.W.keepIn K (.ref f) = true ∧ Binds K fd ps []
theorem de_callC {k n : Nat} {fc : List D → Out} {x : Str} (tk : Takes X W) (C : Cal X.prog X.w X.K X.mg X.base k n x fc) (hr : Room k X.A)
    (ha : DL X W (e :: es) gl) (hn : n = es.length + 1 := by rfl) (hg : Gl X x := by rfl) (hdb : (x == ("__debug__" : Str)) = false := by decide) (he : starEach (e :: es) X.env = (false, eval e X.env) :: starEach es X.env := by rfl) (hpl : (backTo pos (starEach es X.env)).any (·.1) = false := by rfl) :
    DE X W (.Call (.Name x p) (e :: es) [] pos) (callE gl fc) := by
  obtain ⟨f, fd, ps, F, hm, hk, hb⟩ := C.ex
  exact de_call tk F hr hm hk hb ha hn hg hdb he hpl

/-! ### raise -/
/-- what the top says of an own class of errors without a body -/
structure ExcAt (K : PySem.W.Frag) (mg : Str → Option Value) (x : Str) (C : Addr) : Prop where
  g : mg x = some (.ref C)
  k : PySem.W.keepIn K (.ref C) = true
  q : PySem.W.excIn K C veTail "ValueError.__new__" = true
  b : PySem.W.subIn K (.ref C) (.type "BaseException") = some true
  t : PySem.W.typeIn K (.ref C) = some (.type "type")
theorem ds_raise {x m : Str} {j : Nat} {C : Addr} {p2 pos2 : Pos} (hc : X.calm = true) (tk : Takes X W) (T : ExcAt X.K X.mg x C) (hg : Gl X x := by rfl) (hdb : (x == ("__debug__" : Str)) = false := by decide) :
    DS X W (.Raise (some (.Call (.Name x p) [.Constant (.str m) j p2] [] pos)) none pos2) (fun r => .ex C r) :=
  ⟨fun M0 H0 => (ps_raise hc tk (pmk_own PySem.F.excBase_ValueError T.q T.g T.k (raises_own T.b T.t) hg hdb)).imp fun E st H ⟨r, M, t, q⟩ => q M st H t⟩
/-! the parts of a message -/
def msgI (g : Rho → Res D) (gt : Rho → Res Bool) (r : Rho) : Res Bool := (g r).bind fun d => match d with
  | .int i => if i.natAbs.log2 < 1920 then gt r else .no
  | _ => .no
end
/-! ### the end of a law -/
/-- the law says True of every script of at most 63 ints -/
def spT (K : PySem.W.Frag) : Sp := fun vs H Q _ => ∃ (a : Addr) (ns : List Int), vs = [.ref a] ∧ SqL K H a (ns.map V.int) ∧ ns.length ≤ 63 ∧ ∀ H', Q (.bl true) H'
theorem ints_rep {M : MS} {H : Hp} : ∀ ns : List Int, RpL K M H (ns.map V.int) (ns.map PyData.int)
  | [] => .nil
  | i :: is => .cons (.int i) (ints_rep is)
theorem law_imp {P : Program} {w : World} {mg : Str → Option Value} {base : Heap} {k : Nat} {f : Addr} {fd : FuncData} {ps : List Str} {fc : List D → Out} (F : FnOk P w K mg base (L2.CX P w) k f fd ps (spD K 1 fc))
    (h : ∀ ns : List Int, ns.length ≤ 63 → outR (fc [.list (ns.map PyData.int)]) = .ok (.bool true)) : FnOk P w K mg base (L2.CX P w) k f fd ps (spT K) :=
  F.imp fun vs H Q E ⟨a, ns, e, hs, hl, q⟩ => by
    subst e
    refine ⟨rfl, fun _ => False, [.list (ns.map PyData.int)], fun l z => z.elim, .one ?_, ?_⟩
    · rcases hs with hs | hs
      · exact .lst (fun z => z) hs (ints_rep ns)
      · exact .kls hs (ints_rep ns)
    · rw [h ns hl]
      intro v H' _ rv
      rw [rv.weak.bool_]
      exact q H'
theorem walk_law {l : PySem.W.OpenLaw} {k : Nat} {q : Program} {loose : List Str} {XP : (Str → Option Value) → Heap → Prop} {YP : World → Heap → Prop} {d : DefRec} {K : Params → PySem.W.Frag} {x : Str}
    (hn : l.most = some 63) (hn2 : 63 ≤ sizeLine) (hdf : d.params.defaults = []) (hr : Room k callerA) (hY : ∀ (w : World) (h : Heap), YP w h → (K w.params).In h)
    (F : ∀ (w : World) (mg : Str → Option Value) (fa : Addr) (h : Heap), (K w.params).In h → h.Ns mainGlobals mg → mg d.name = some (.ref fa) →
      ∃ fd : FuncData, (∀ (s : Shared) (u : Value), BindsTo s fd ⟨[u], []⟩ [(x, u)]) ∧ ∀ base : Heap, (K w.params).In base → base.Ns mainGlobals mg → FnOk l.prog w (K w.params) mg base (L2.CX l.prog w) k fa fd [x] (spT (K w.params))) :
    PySem.W.WalkO q loose XP YP l.row.toRowW d [] (fun f vs => PySem.call f vs) :=
  L2.walk_of (n := 63) (k := k) (x := x) (CX := fun w => L2.CX l.prog w) (sp := fun w => spT (K w.params)) hn hn2 hdf hr hY F (fun _ _ a ns hl _ hS => ⟨a, ns, rfl, hS, hl, fun _ => rfl⟩) fun w H s e s' h => by
    obtain ⟨_, _, _, _, _, _, _, _, _, _, _, _, z⟩ := h
    exact z
end PD

namespace PD
open PySem PySem.Spec PyProof.Rows L2

/-! ### what the pure functions come to -/
theorem shaped_int (i : Int) : SeqAt.shaped (.int i) = true := by simp [SeqAt.shaped, PyData.canLay0, PyData.depth]
theorem shaped_bool (i : Bool) : SeqAt.shaped (.bool i) = true := by simp [SeqAt.shaped, PyData.canLay0, PyData.depth]
theorem shaped_str {i : Str} (h : PyData.strOk i = true) : SeqAt.shaped (.str i) = true := by simp [SeqAt.shaped, PyData.canLay0, PyData.depth, h]
theorem shaped_none : SeqAt.shaped .none = true := by simp [SeqAt.shaped, PyData.canLay0, PyData.depth]
@[simp] theorem qEq_int (i j : Int) : qEq (.int i) (.int j) = .ok (.bool (i == j)) := by
  unfold qEq
  rw [if_pos ⟨shaped_int i, shaped_int j⟩, PyData.eqv]
@[simp] theorem qNe_int (i j : Int) : qNe (.int i) (.int j) = .ok (.bool (!(i == j))) := by
  unfold qNe
  rw [if_pos ⟨shaped_int i, shaped_int j⟩, PyData.eqv]
theorem qEq_str {i j : Str} (hi : PyData.strOk i = true) (hj : PyData.strOk j = true) : qEq (.str i) (.str j) = .ok (.bool (i == j)) := by
  unfold qEq
  rw [if_pos ⟨shaped_str hi, shaped_str hj⟩, PyData.eqv]
theorem qNe_str {i j : Str} (hi : PyData.strOk i = true) (hj : PyData.strOk j = true) : qNe (.str i) (.str j) = .ok (.bool (!(i == j))) := by
  unfold qNe
  rw [if_pos ⟨shaped_str hi, shaped_str hj⟩, PyData.eqv]
/-! loops -/
theorem forD_inv {asg : Asg} {f : Rho → Out} : ∀ (ds : List D) (r : Rho) (I : Nat → Rho → Prop) (k : Nat), I k r → (∀ i d r, ds[i]? = some d → I (k + i) r → ∃ ps r2, asg d = some ps ∧ (f (setsD r ps) = .nx r2 ∨ f (setsD r ps) = .ct r2) ∧ I (k + i + 1) r2) →
    ∃ r2, forD asg f ds r = .nx r2 ∧ I (k + ds.length) r2
  | [], r, I, k, h, _ => ⟨r, rfl, h⟩
  | d :: ds, r, I, k, h, st => by
    obtain ⟨ps, r2, e, hf, h2⟩ := st 0 d r rfl h
    obtain ⟨r3, e3, h3⟩ := forD_inv ds r2 I (k + 1) h2 fun i d r hd hi => by
      have q := st (i + 1) d r (by simpa using hd) (by rw [show k + (i + 1) = k + 1 + i by omega]; exact hi)
      rw [show k + (i + 1) + 1 = k + 1 + i + 1 by omega] at q
      exact q
    refine ⟨r3, ?_, by rw [List.length_cons, show k + (ds.length + 1) = k + 1 + ds.length by omega]; exact h3⟩
    unfold forD
    rw [e]
    rcases hf with hf | hf
    · simp only [hf]; exact e3
    · simp only [hf]; exact e3
theorem rngD_length (lo : Int) (n : Nat) : (rngD lo n).length = n := by simp [rngD]
theorem rngD_get {lo : Int} {n i : Nat} {d : D} (h : (rngD lo n)[i]? = some d) : i < n ∧ d = .int (lo + i) := by
  have hi : i < n := by
    have := (List.getElem?_eq_some_iff.mp h).1
    rw [rngD_length] at this
    exact this
  refine ⟨hi, ?_⟩
  simp [rngD, hi] at h
  exact h.symm
/-- over a range -/
theorem forD_rng {asg : Asg} {f : Rho → Out} (lo : Int) (n : Nat) (r : Rho) (I : Nat → Rho → Prop) (h : I 0 r) (st : ∀ i r, i < n → I i r → ∃ ps r2, asg (.int (lo + i)) = some ps ∧ (f (setsD r ps) = .nx r2 ∨ f (setsD r ps) = .ct r2) ∧ I (i + 1) r2) :
    ∃ r2, forD asg f (rngD lo n) r = .nx r2 ∧ I n r2 := by
  obtain ⟨r2, e, q⟩ := forD_inv (asg := asg) (f := f) (rngD lo n) r I 0 h fun i d r hd hi => by
    obtain ⟨hn, rfl⟩ := rngD_get hd
    rw [Nat.zero_add] at hi ⊢
    exact st i r hn hi
  rw [Nat.zero_add, rngD_length] at q
  exact ⟨r2, e, q⟩

/-! shapes of data: depth one above the deepest item -/
def flatL (ds : List D) : Bool := ds.all flatD
theorem mulok_r {i j : Int} (h : -(2 ^ 64) < j ∧ j < 2 ^ 64) : MulOk i j := .inl (.inr h)
theorem mulok_l {i j : Int} (h : -(2 ^ 64) < i ∧ i < 2 ^ 64) : MulOk i j := .inl (.inl h)
theorem iMul_r {i j : Int} (h : -(2 ^ 64) < j ∧ j < 2 ^ 64) : iMul (.int i) (.int j) = .ok (.int (i * j)) := by
  simp only [iMul]
  rw [if_pos (mulok_r h)]
theorem iMul_l {i j : Int} (h : -(2 ^ 64) < i ∧ i < 2 ^ 64) : iMul (.int i) (.int j) = .ok (.int (i * j)) := by
  simp only [iMul]
  rw [if_pos (mulok_l h)]
theorem iMul_w {i j : Int} {a b : Nat} (ha : i.natAbs < 2 ^ a) (hb : j.natAbs < 2 ^ b) (h0 : 0 < a) (h1 : 0 < b) (h : a + b ≤ 1000000) : iMul (.int i) (.int j) = .ok (.int (i * j)) := by
  simp only [iMul]
  rw [if_pos (.inr (wide_mul ha hb h0 h1 h))]
theorem iDiv_w {i j : Int} {b : Nat} (h : 0 < j) (hb : j.natAbs < 2 ^ b) (h0 : 0 < b) (h9 : b ≤ 9000) : iDiv (.int i) (.int j) = .ok (.int (i / j)) := by
  simp only [iDiv]
  rw [if_pos (wide_div h hb h0 h9)]
theorem iDiv_lit {i j : Int} (h : 0 < j ∧ j < 2 ^ 64) : iDiv (.int i) (.int j) = .ok (.int (i / j)) := iDiv_w (b := 64) h.1 (by omega) (by decide) (by decide)
theorem iMod_p {i j : Int} (h : 0 < j) : iMod (.int i) (.int j) = .ok (.int (i % j)) := by
  simp only [iMod]
  rw [if_pos h]
theorem qIx_at {d : D} {ds : List D} {i : Int} {z : D} (hd : items d = some ds) (h : atI ds i = some z) : qIx d (.int i) = .ok z := by
  unfold qIx
  rw [hd]
  simp only
  rw [h]
theorem atI_in {α : Type} {ds : List α} {i : Int} (h0 : 0 ≤ i) (h1 : i.toNat < ds.length) : atI ds i = some (ds[i.toNat]) := by
  have e : ((i.toNat : Nat) : Int) = i := by omega
  have q := atI_nat (List.getElem?_eq_getElem h1)
  rw [e] at q
  exact q
theorem qIx_list {ds : List D} {i : Int} (h0 : 0 ≤ i) (h1 : i.toNat < ds.length) : qIx (.list ds) (.int i) = .ok (ds[i.toNat]) := qIx_at rfl (atI_in h0 h1)
theorem qIx_tup {ds : List D} {i : Int} (h0 : 0 ≤ i) (h1 : i.toNat < ds.length) : qIx (.tuple ds) (.int i) = .ok (ds[i.toNat]) := qIx_at rfl (atI_in h0 h1)
theorem atI_cast {α : Type} (ds : List α) (n : Nat) : atI ds (n : Int) = ds[n]? := by
  unfold atI ixN
  rw [if_pos (by omega)]
  by_cases h : n < ds.length
  · rw [if_pos (by omega)]
    rfl
  · rw [if_neg (by omega), List.getElem?_eq_none (by omega)]
    rfl
@[simp] theorem atI_0 {α : Type} (ds : List α) : atI ds 0 = ds[0]? := atI_cast ds 0
@[simp] theorem atI_1 {α : Type} (ds : List α) : atI ds 1 = ds[1]? := atI_cast ds 1
@[simp] theorem atI_2 {α : Type} (ds : List α) : atI ds 2 = ds[2]? := atI_cast ds 2
@[simp] theorem atI_3 {α : Type} (ds : List α) : atI ds 3 = ds[3]? := atI_cast ds 3
@[simp] theorem atI_4 {α : Type} (ds : List α) : atI ds 4 = ds[4]? := atI_cast ds 4
@[simp] theorem atI_5 {α : Type} (ds : List α) : atI ds 5 = ds[5]? := atI_cast ds 5
@[simp] theorem atI_m1 {α : Type} (ds : List α) : atI ds (-1) = ds.getLast? := by
  unfold atI ixN
  rw [if_neg (by decide), List.getLast?_eq_getElem?]
  by_cases h : -(ds.length : Int) ≤ -1
  · rw [if_pos h]
    have e : (-1 + (ds.length : Int)).toNat = ds.length - 1 := by omega
    show ds[(-1 + (ds.length : Int)).toNat]? = _
    rw [e]
  · rw [if_neg h, List.getElem?_eq_none (by omega)]
    rfl
end PD


namespace K02
open PySem PySem.Spec PyProof.Rows L2 PD
/-- the text's statements by their places -/
abbrev topS (i : Nat) : Stmt := PySem.Challenge.pw_metergap_k02_days_share.main.body.getD i (.Pass ⟨0, 0, 0, 0⟩)

/-- the built-in names that the text does not store -/
structure Bi (mg : Str → Option Value) : Prop where
  len : mg "len" = none
  isinstance : mg "isinstance" = none
  int : mg "int" = none
  bool : mg "bool" = none
  range : mg "range" = none
section
variable {P : Program} {w : World} {K : PySem.W.Frag} {mg : Str → Option Value} {base : Heap}
/-! ### _law_cell_at -/
abbrev s__law_cell_at : Stmt := topS 4
abbrev nm__law_cell_at : List Str := ["_law_script", "_law_k"]
theorem sc__law_cell_at : FnScope nm__law_cell_at ["_law_script", "_law_k"] (defScope s__law_cell_at) := ⟨rfl, rfl, rfl, by decide +kernel, rfl, by decide +kernel, by decide +kernel⟩
noncomputable def b__law_cell_at : Rho → Out :=
  (sqf (sIf (thn1 (bin2 (iCmp fun i j => decide (i < j)) (rdw 1) (then1 (rdw 0) bLen)) asB) (sqf (retE (bin2 qIx (rdw 0) (rdw 1))) .nx) .nx) (sqf (retE (fun _ => .ok (.int 0))) .nx))
noncomputable def f__law_cell_at : List D → Out := fnD b__law_cell_at 2
theorem fo__law_cell_at {f : Addr} {fd : FuncData} (F : Fun K "_law_cell_at" "_law_cell_at" s__law_cell_at f fd) (B : Bi mg) :
    FnOk P w K mg base (L2.CX P w) 1 f fd ["_law_script", "_law_k"] (spD K 2 f__law_cell_at) := by
  refine def_ok (K := K) F sc__law_cell_at (fun cdv A outer s H E hr => ?_)
  exact (ds_cons (ds_if (dt_lt (dw_var (pv 1)) (de_len B.len (dw_var (pv 0))).weak) (ds_cons (ds_ret (de_at (dw_var (pv 0)) (dw_var (pv 1)))) ds_nil) ds_nil) (ds_cons (ds_ret de_int) ds_nil))
/-! ### use_ahead -/
abbrev s_use_ahead : Stmt := topS 2
abbrev nm_use_ahead : List Str := ["use", "days", "at"]
theorem sc_use_ahead : FnScope nm_use_ahead ["use", "days", "at"] (defScope s_use_ahead) := ⟨rfl, rfl, rfl, by decide +kernel, rfl, by decide +kernel, by decide +kernel⟩
noncomputable def b_use_ahead : Rho → Out :=
  (sqf (retE (bin2 iDiv (bin2 iMul (rdw 2) (rdw 0)) (rdw 1))) .nx)
noncomputable def f_use_ahead : List D → Out := fnD b_use_ahead 3
theorem fo_use_ahead {f : Addr} {fd : FuncData} (F : Fun K "use_ahead" "use_ahead" s_use_ahead f fd) (B : Bi mg) :
    FnOk P w K mg base (L2.CX P w) 1 f fd ["use", "days", "at"] (spD K 3 f_use_ahead) := by
  refine def_ok (K := K) F sc_use_ahead (fun cdv A outer s H E hr => ?_)
  exact (ds_cons (ds_ret (de_div (de_mul (dw_var (pv 2)) (dw_var (pv 0))).weak (dw_var (pv 1)))) ds_nil)
/-! ### share -/
abbrev s_share : Stmt := topS 1
abbrev nm_share : List Str := ["use", "days", "at"]
theorem sc_share : FnScope nm_share ["use", "days", "at"] (defScope s_share) := ⟨rfl, rfl, rfl, by decide +kernel, rfl, by decide +kernel, by decide +kernel⟩
noncomputable def b_share : Rho → Out :=
  (sqf (retE (bin2 iSub (callE (consA (rd 0) (consA (rd 1) (consA (bin2 pAdd (rdw 2) (fun _ => .ok (.int 1))) (fun _ => .ok [])))) f_use_ahead) (callE (consA (rd 0) (consA (rd 1) (consA (rd 2) (fun _ => .ok [])))) f_use_ahead))) .nx)
noncomputable def f_share : List D → Out := fnD b_share 3
theorem fo_share {f : Addr} {fd : FuncData} (F : Fun K "share" "share" s_share f fd) (B : Bi mg) (G_use_ahead : Cal P w K mg base 1 3 "use_ahead" f_use_ahead) :
    FnOk P w K mg base (L2.CX P w) 2 f fd ["use", "days", "at"] (spD K 3 f_share) := by
  refine def_ok (K := K) F sc_share (fun cdv A outer s H E hr => ?_)
  exact (ds_cons (ds_ret (de_sub (de_callC tk_of G_use_ahead (hr.mono (by decide)) (dl_cons (de_var (pv 0)) (dl_cons (de_var (pv 1)) (dl_cons (de_add (dw_var (pv 2)) de_int.weak) dl_nil)))).weak (de_callC tk_of G_use_ahead (hr.mono (by decide)) (dl_cons (de_var (pv 0)) (dl_cons (de_var (pv 1)) (dl_cons (de_var (pv 2)) dl_nil)))).weak)) ds_nil)
/-! ### _law_whole -/
abbrev s__law_whole : Stmt := topS 5
abbrev nm__law_whole : List Str := ["_law_found"]
theorem sc__law_whole : FnScope nm__law_whole ["_law_found"] (defScope s__law_whole) := ⟨rfl, rfl, rfl, by decide +kernel, rfl, by decide +kernel, by decide +kernel⟩
noncomputable def b__law_whole : Rho → Out :=
  (sqf (retE (andV (isiE (fun t => t == "int" || t == "bool") (rdw 0)) (notV (isiE (fun t => t == "bool") (rdw 0))))) .nx)
noncomputable def f__law_whole : List D → Out := fnD b__law_whole 1
theorem fo__law_whole {f : Addr} {fd : FuncData} (F : Fun K "_law_whole" "_law_whole" s__law_whole f fd) (B : Bi mg) :
    FnOk P w K mg base (L2.CX P w) 1 f fd ["_law_found"] (spD K 1 f__law_whole) := by
  refine def_ok (K := K) F sc__law_whole (fun cdv A outer s H E hr => ?_)
  exact (ds_cons (ds_ret (de_and (de_isi isi_int B.isinstance B.int PyProof.Rows.boot_int (dw_var (pv 0))) (de_one (de_not (de_isi isi_bool B.isinstance B.bool PyProof.Rows.boot_bool (dw_var (pv 0))))))) ds_nil)
/-! ### law -/
abbrev s_law : Stmt := topS 6
abbrev nm_law : List Str := ["_law_script", "_law_days", "_law_use", "_law_total", "_law_at", "_law_found"]
theorem sc_law : FnScope nm_law ["_law_script"] (defScope s_law) := ⟨rfl, rfl, rfl, by decide +kernel, rfl, by decide +kernel, by decide +kernel⟩
noncomputable def lb_law_1 : Rho → Out :=
  (sqf (sIf (thn1 (bin2 qNe (rdw 3) (bin2 iDiv (bin2 iMul (rdw 4) (rdw 2)) (rdw 1))) asB) (sqf (retE (fun _ => .ok (.bool false))) .nx) .nx) (sqf (setE 5 (callE (consA (rd 2) (consA (rd 1) (consA (rd 4) (fun _ => .ok [])))) f_share)) (sqf (sIf (orT (notT (thn1 (callE (consA (rd 5) (fun _ => .ok [])) f__law_whole) tru)) (thn1 (bin2 (iCmp fun i j => decide (i < j)) (rdw 5) (fun _ => .ok (.int 0))) asB)) (sqf (retE (fun _ => .ok (.bool false))) .nx) .nx) (sqf (setE 3 (bin2 pAdd (rdw 3) (rdw 5))) .nx))))
noncomputable def b_law : Rho → Out :=
  (sqf (setE 1 (bin2 pAdd (fun _ => .ok (.int 1)) (bin2 iMod (callE (consA (rd 0) (consA (fun _ => .ok (.int 0)) (fun _ => .ok []))) f__law_cell_at) (fun _ => .ok (.int 60))))) (sqf (sIf (thn1 (bin2 qEq (bin2 iMod (callE (consA (rd 0) (consA (fun _ => .ok (.int 2)) (fun _ => .ok []))) f__law_cell_at) (fun _ => .ok (.int 8))) (fun _ => .ok (.int 5))) asB) (sqf (setE 1 (bin2 pAdd (fun _ => .ok (.int 1)) (bin2 iMod (callE (consA (rd 0) (consA (fun _ => .ok (.int 0)) (fun _ => .ok []))) f__law_cell_at) (fun _ => .ok (.int 2000))))) .nx) .nx) (sqf (setE 2 (bin2 iMod (callE (consA (rd 0) (consA (fun _ => .ok (.int 1)) (fun _ => .ok []))) f__law_cell_at) (bin2 pAdd (fun _ => .ok (.int 1000000000000000)) (fun _ => .ok (.int 1))))) (sqf (sIf (thn1 (bin2 qEq (bin2 iMod (callE (consA (rd 0) (consA (fun _ => .ok (.int 2)) (fun _ => .ok []))) f__law_cell_at) (fun _ => .ok (.int 3))) (fun _ => .ok (.int 1))) asB) (sqf (setE 2 (bin2 iMod (rdw 2) (bin2 pAdd (bin2 iMul (fun _ => .ok (.int 2)) (rdw 1)) (fun _ => .ok (.int 1))))) .nx) .nx) (sqf (setE 3 (fun _ => .ok (.int 0))) (sqf (forE (rg1 (rdw 1)) (aName 4) lb_law_1) (sqf (retE (bin2 qEq (rdw 3) (rdw 2))) .nx)))))))
noncomputable def f_law : List D → Out := fnD b_law 6
theorem fo_law {f : Addr} {fd : FuncData} (F : Fun K "law" "law" s_law f fd) (B : Bi mg) (G__law_cell_at : Cal P w K mg base 1 2 "_law_cell_at" f__law_cell_at) (G_share : Cal P w K mg base 2 3 "share" f_share) (G__law_whole : Cal P w K mg base 1 1 "_law_whole" f__law_whole) :
    FnOk P w K mg base (L2.CX P w) 3 f fd ["_law_script"] (spD K 1 f_law) := by
  refine def_ok (K := K) F sc_law (fun cdv A outer s H E hr => ?_)
  exact (ds_cons (ds_set (i := 1) sc_law.nd rfl (by first | exact Or.inl rfl | exact Or.inr rfl) (de_add de_int.weak (de_mod (de_callC tk_of G__law_cell_at (hr.mono (by decide)) (dl_cons (de_var (pv 0)) (dl_cons de_int dl_nil))).weak de_int.weak).weak)) (ds_cons (ds_if (dt_eq hr.units (de_mod (de_callC tk_of G__law_cell_at (hr.mono (by decide)) (dl_cons (de_var (pv 0)) (dl_cons de_int dl_nil))).weak de_int.weak).weak de_int.weak) (ds_cons (ds_set (i := 1) sc_law.nd rfl (by first | exact Or.inl rfl | exact Or.inr rfl) (de_add de_int.weak (de_mod (de_callC tk_of G__law_cell_at (hr.mono (by decide)) (dl_cons (de_var (pv 0)) (dl_cons de_int dl_nil))).weak de_int.weak).weak)) ds_nil) ds_nil) (ds_cons (ds_set (i := 2) sc_law.nd rfl (by first | exact Or.inl rfl | exact Or.inr rfl) (de_mod (de_callC tk_of G__law_cell_at (hr.mono (by decide)) (dl_cons (de_var (pv 0)) (dl_cons de_int dl_nil))).weak (de_add (de_pow (by decide) (by decide)).weak de_int.weak).weak)) (ds_cons (ds_if (dt_eq hr.units (de_mod (de_callC tk_of G__law_cell_at (hr.mono (by decide)) (dl_cons (de_var (pv 0)) (dl_cons de_int dl_nil))).weak de_int.weak).weak de_int.weak) (ds_cons (ds_set (i := 2) sc_law.nd rfl (by first | exact Or.inl rfl | exact Or.inr rfl) (de_mod (dw_var (pv 2)) (de_add (de_mul de_int.weak (dw_var (pv 1))).weak de_int.weak).weak)) ds_nil) ds_nil) (ds_cons (ds_set (i := 3) sc_law.nd rfl (by first | exact Or.inl rfl | exact Or.inr rfl) de_int) (ds_cons (ds_for po_of rfl (di_rg1 B.range (dw_var (pv 1))) (dg_name (i := 4) sc_law.nd rfl (by first | exact Or.inl rfl | exact Or.inr rfl)) (ds_cons (ds_if (dt_ne hr.units (dw_var (pv 3)) (de_div (de_mul (dw_var (pv 4)) (dw_var (pv 2))).weak (dw_var (pv 1))).weak) (ds_cons (ds_ret de_bl) ds_nil) ds_nil) (ds_cons (ds_set (i := 5) sc_law.nd rfl (by first | exact Or.inl rfl | exact Or.inr rfl) (de_callC tk_of G_share (hr.mono (by decide)) (dl_cons (de_var (pv 2)) (dl_cons (de_var (pv 1)) (dl_cons (de_var (pv 4)) dl_nil))))) (ds_cons (ds_if (dp_or (dt_not (dt_tru (de_callC tk_of G__law_whole (hr.mono (by decide)) (dl_cons (de_var (pv 5)) dl_nil)).weak)) (dp_or1 (dt_lt (dw_var (pv 5)) de_int.weak))).dt (ds_cons (ds_ret de_bl) ds_nil) ds_nil) (ds_cons (ds_set (i := 3) sc_law.nd rfl (by first | exact Or.inl rfl | exact Or.inr rfl) (de_add (dw_var (pv 3)) (dw_var (pv 5)))) ds_nil))))) (ds_cons (ds_ret (de_eq hr.units (dw_var (pv 3)) (dw_var (pv 2)))) ds_nil)))))))
end
end K02
namespace K02
open PySem PySem.Spec PyProof.Rows L2 PD
abbrev script (ns : List Int) : D := .list (ns.map PyData.int)
def cell (ns : List Int) (k : Nat) : Int := ns.getD k 0
theorem cell_run (ns : List Int) (k : Nat) : f__law_cell_at [script ns, .int k] = .rt (.int (cell ns k)) := by
  by_cases h : k < ns.length
  · have e : atI (ns.map PyData.int) (k : Int) = some (.int (cell ns k)) := atI_nat (by simp [cell, h])
    simp [f__law_cell_at, b__law_cell_at, fnD, sqf, sIf, tThen, thn1, bin2, rdw, iCmp, then1, bLen, asB, retE, vThen, h, qIx, items, e]
  · simp [f__law_cell_at, b__law_cell_at, fnD, sqf, sIf, tThen, thn1, bin2, rdw, iCmp, then1, bLen, asB, retE, vThen, h, cell]
theorem whole_run (i : Int) : f__law_whole [.int i] = .rt (.bool true) := by
  simp [f__law_whole, b__law_whole, fnD, sqf, retE, vThen, andV, notV, isiE, then1, rdw, tyD, asB]
def part (use days at' : Int) : Int := at' * use / days
theorem ahead_run {use days at' : Int} (hu : 0 ≤ use ∧ use < 2 ^ 60) (hd : 0 < days ∧ days < 2 ^ 60) : f_use_ahead [.int use, .int days, .int at'] = .rt (.int (part use days at')) := by
  have m : iMul (.int at') (.int use) = .ok (.int (at' * use)) := iMul_r (by omega)
  have d : iDiv (.int (at' * use)) (.int days) = .ok (.int (at' * use / days)) := iDiv_lit (by omega)
  simp [f_use_ahead, b_use_ahead, fnD, sqf, retE, vThen, bin2, rdw, m, d, part]
theorem share_run {use days at' : Int} (hu : 0 ≤ use ∧ use < 2 ^ 60) (hd : 0 < days ∧ days < 2 ^ 60) : f_share [.int use, .int days, .int at'] = .rt (.int (part use days (at' + 1) - part use days at')) := by
  have a := fun at' => ahead_run (at' := at') hu hd
  simp [f_share, b_share, fnD, sqf, retE, vThen, bin2, rd, rdw, iSub, pAdd, callE, consA, outR, a]
theorem part_mono {use days at' : Int} (hu : 0 ≤ use) (hd : 0 < days) : 0 ≤ part use days (at' + 1) - part use days at' := by
  unfold part
  have h : at' * use / days ≤ (at' + 1) * use / days := Int.ediv_le_ediv hd (by rw [Int.add_mul]; omega)
  omega
theorem loop_run (ns : List Int) {use : Int} {n : Nat} (hu : 0 ≤ use ∧ use < 2 ^ 60) (hd : 0 < (n : Int) ∧ (n : Int) < 2 ^ 60) :
    ∃ a b, forD (aName 4) lb_law_1 (rngD 0 n) [.val (script ns), .val (.int n), .val (.int use), .val (.int 0), .no, .no] =
      .nx [.val (script ns), .val (.int n), .val (.int use), .val (.int (part use n n)), a, b] := by
  obtain ⟨r2, e, a, b, q⟩ := forD_rng (asg := aName 4) (f := lb_law_1) 0 n [.val (script ns), .val (.int n), .val (.int use), .val (.int 0), .no, .no]
    (fun i r => ∃ a b, r = [.val (script ns), .val (.int n), .val (.int use), .val (.int (part use n i)), a, b]) ⟨.no, .no, by simp [part]⟩ (by
      rintro i r hi ⟨a, b, rfl⟩
      refine ⟨_, [.val (script ns), .val (.int n), .val (.int use), .val (.int (part use n (i + 1))), .val (.int i), .val (.int (part use n (i + 1) - part use n i))], rfl, .inl ?_, _, _, rfl⟩
      · have sh := fun at' => share_run (at' := at') hu hd
        have m : iMul (.int (i : Int)) (.int use) = .ok (.int (i * use)) := iMul_r (by omega)
        have d : iDiv (.int (i * use)) (.int (n : Int)) = .ok (.int (i * use / n)) := iDiv_lit (by omega)
        have nn := part_mono (at' := i) hu.1 hd.1
        have nl : ¬ part use n (i + 1) - part use n i < 0 := by omega
        have pe : (i : Int) * use / n = part use n i := rfl
        have ad : part use n i + (part use n (i + 1) - part use n i) = part use n (i + 1) := by omega
        simp [lb_law_1, setsD, sqf, sIf, tThen, thn1, then1, bin2, rd, rdw, setE, retE, vThen, orT, notT, tru, callE, consA, outR, asB, iCmp, pAdd, m, d, pe, sh, whole_run, nl, ad]
        )
  exact ⟨a, b, by rw [e, q]⟩
theorem law_true (ns : List Int) (hn : ns.length ≤ 63) : outR (f_law [script ns]) = .ok (.bool true) := by
  have c0 : f__law_cell_at [script ns, .int 0] = .rt (.int (cell ns 0)) := cell_run ns 0
  have c1 : f__law_cell_at [script ns, .int 1] = .rt (.int (cell ns 1)) := cell_run ns 1
  have c2 : f__law_cell_at [script ns, .int 2] = .rt (.int (cell ns 2)) := cell_run ns 2
  have p15 : (0 : Int) < 1000000000000000 + 1 := by decide
  have key : ∀ (use days : Int), 0 ≤ use → use ≤ 1000000000000000 → 1 ≤ days → days ≤ 2000 →
      ∃ a b, forD (aName 4) lb_law_1 (rngD 0 days.toNat) [.val (script ns), .val (.int days), .val (.int use), .val (.int 0), .no, .no] =
        .nx [.val (script ns), .val (.int days), .val (.int use), .val (.int use), a, b] := by
    intro use days h0 h1 h2 h3
    obtain ⟨n, rfl⟩ : ∃ n : Nat, days = n := ⟨days.toNat, by omega⟩
    obtain ⟨a, b, e⟩ := loop_run ns (use := use) (n := n) ⟨h0, by omega⟩ ⟨by omega, by omega⟩
    have pe : part use n n = use := by
      unfold part
      exact Int.mul_ediv_cancel_left _ (by omega)
    rw [pe] at e
    exact ⟨a, b, by simpa using e⟩
  have run : ∀ (use days : Int), 0 ≤ use → use ≤ 1000000000000000 → 1 ≤ days → days ≤ 2000 → days < 4611686018427387904 ∧ -4611686018427387904 ≤ days := fun _ _ _ _ _ _ => ⟨by omega, by omega⟩
  have u0 : 0 ≤ cell ns 1 % 1000000000000001 ∧ cell ns 1 % 1000000000000001 ≤ 1000000000000000 := by omega
  by_cases h8 : cell ns 2 % 8 = 5
  · have hd : 1 ≤ 1 + cell ns 0 % 2000 ∧ 1 + cell ns 0 % 2000 ≤ 2000 := by omega
    obtain ⟨days, ed⟩ : ∃ days, days = 1 + cell ns 0 % 2000 := ⟨_, rfl⟩
    rw [← ed] at hd
    have m2 : iMul (.int 2) (.int days) = .ok (.int (2 * days)) := iMul_l (by decide)
    have pos : 0 < 2 * days + 1 := by omega
    have hr := run 0 days (by omega) (by omega) hd.1 hd.2
    by_cases h3 : cell ns 2 % 3 = 1
    · have u1 : 0 ≤ cell ns 1 % 1000000000000001 % (2 * days + 1) ∧ cell ns 1 % 1000000000000001 % (2 * days + 1) ≤ 1000000000000000 := by
        have a := Int.emod_nonneg (cell ns 1 % 1000000000000001) (show 2 * days + 1 ≠ 0 by omega)
        have b := Int.emod_lt_of_pos (cell ns 1 % 1000000000000001) pos
        omega
      obtain ⟨a, b, k⟩ := key _ days u1.1 u1.2 hd.1 hd.2
      simp [f_law, b_law, fnD, sqf, setE, sIf, retE, vThen, tThen, thn1, bin2, rd, rdw, consA, callE, outR, asB, pAdd, c0, c1, c2, m2, iMod, h8, h3, ← ed, pos, forE, lThen, rg1, hr, k]
    · obtain ⟨a, b, k⟩ := key _ days u0.1 u0.2 hd.1 hd.2
      simp [f_law, b_law, fnD, sqf, setE, sIf, retE, vThen, tThen, thn1, bin2, rd, rdw, consA, callE, outR, asB, pAdd, c0, c1, c2, m2, iMod, h8, h3, ← ed, pos, forE, lThen, rg1, hr, k]
  · have hd : 1 ≤ 1 + cell ns 0 % 60 ∧ 1 + cell ns 0 % 60 ≤ 2000 := by omega
    obtain ⟨days, ed⟩ : ∃ days, days = 1 + cell ns 0 % 60 := ⟨_, rfl⟩
    rw [← ed] at hd
    have m2 : iMul (.int 2) (.int days) = .ok (.int (2 * days)) := iMul_l (by decide)
    have pos : 0 < 2 * days + 1 := by omega
    have hr := run 0 days (by omega) (by omega) hd.1 hd.2
    by_cases h3 : cell ns 2 % 3 = 1
    · have u1 : 0 ≤ cell ns 1 % 1000000000000001 % (2 * days + 1) ∧ cell ns 1 % 1000000000000001 % (2 * days + 1) ≤ 1000000000000000 := by
        have a := Int.emod_nonneg (cell ns 1 % 1000000000000001) (show 2 * days + 1 ≠ 0 by omega)
        have b := Int.emod_lt_of_pos (cell ns 1 % 1000000000000001) pos
        omega
      obtain ⟨a, b, k⟩ := key _ days u1.1 u1.2 hd.1 hd.2
      simp [f_law, b_law, fnD, sqf, setE, sIf, retE, vThen, tThen, thn1, bin2, rd, rdw, consA, callE, outR, asB, pAdd, c0, c1, c2, m2, iMod, h8, h3, ← ed, pos, forE, lThen, rg1, hr, k]
    · obtain ⟨a, b, k⟩ := key _ days u0.1 u0.2 hd.1 hd.2
      simp [f_law, b_law, fnD, sqf, setE, sIf, retE, vThen, tThen, thn1, bin2, rd, rdw, consA, callE, outR, asB, pAdd, c0, c1, c2, m2, iMod, h8, h3, ← ed, pos, forE, lThen, rg1, hr, k]
end K02

namespace K02
open PySem PySem.Spec PyProof.Rows L2 PD
theorem all_mk {w : World} {K : PySem.W.Frag} {h : Heap} {mg : Str → Option Value} {fa : Addr} {a__law_cell_at a_use_ahead a_share a__law_whole a_law : Addr}
    {oc__law_cell_at kV__law_cell_at dc__law_cell_at pm__law_cell_at cd__law_cell_at ct__law_cell_at oc_use_ahead kV_use_ahead dc_use_ahead pm_use_ahead cd_use_ahead ct_use_ahead oc_share kV_share dc_share pm_share cd_share ct_share oc__law_whole kV__law_whole dc__law_whole pm__law_whole cd__law_whole ct__law_whole oc_law kV_law dc_law pm_law cd_law ct_law : Value}
    {od__law_cell_at an__law_cell_at od_use_ahead an_use_ahead od_share an_share od__law_whole an__law_whole od_law an_law : Option Addr}
    {sl__law_cell_at sl_use_ahead sl_share sl__law_whole sl_law : Array (Option Value)}
    (X : K.In h) (G : h.Ns mainGlobals mg) (hfa : mg "law" = some (.ref fa))
    (i__law_cell_at : PySem.W.nsIn K mainGlobals "_law_cell_at" = some (some (.ref a__law_cell_at))) (l__law_cell_at : K.lookup a__law_cell_at = some ⟨oc__law_cell_at, od__law_cell_at, .func (PySem.W.fnOf "_law_cell_at" "_law_cell_at" (defArgs s__law_cell_at) (defBody s__law_cell_at) (defScope s__law_cell_at) .none kV__law_cell_at dc__law_cell_at pm__law_cell_at an__law_cell_at cd__law_cell_at ct__law_cell_at), sl__law_cell_at⟩) (c__law_cell_at : PySem.W.codeIn K cd__law_cell_at "_law_cell_at" = true) (k__law_cell_at : PySem.W.keepIn K (.ref a__law_cell_at) = true)
    (i_use_ahead : PySem.W.nsIn K mainGlobals "use_ahead" = some (some (.ref a_use_ahead))) (l_use_ahead : K.lookup a_use_ahead = some ⟨oc_use_ahead, od_use_ahead, .func (PySem.W.fnOf "use_ahead" "use_ahead" (defArgs s_use_ahead) (defBody s_use_ahead) (defScope s_use_ahead) .none kV_use_ahead dc_use_ahead pm_use_ahead an_use_ahead cd_use_ahead ct_use_ahead), sl_use_ahead⟩) (c_use_ahead : PySem.W.codeIn K cd_use_ahead "use_ahead" = true) (k_use_ahead : PySem.W.keepIn K (.ref a_use_ahead) = true)
    (i_share : PySem.W.nsIn K mainGlobals "share" = some (some (.ref a_share))) (l_share : K.lookup a_share = some ⟨oc_share, od_share, .func (PySem.W.fnOf "share" "share" (defArgs s_share) (defBody s_share) (defScope s_share) .none kV_share dc_share pm_share an_share cd_share ct_share), sl_share⟩) (c_share : PySem.W.codeIn K cd_share "share" = true) (k_share : PySem.W.keepIn K (.ref a_share) = true)
    (i__law_whole : PySem.W.nsIn K mainGlobals "_law_whole" = some (some (.ref a__law_whole))) (l__law_whole : K.lookup a__law_whole = some ⟨oc__law_whole, od__law_whole, .func (PySem.W.fnOf "_law_whole" "_law_whole" (defArgs s__law_whole) (defBody s__law_whole) (defScope s__law_whole) .none kV__law_whole dc__law_whole pm__law_whole an__law_whole cd__law_whole ct__law_whole), sl__law_whole⟩) (c__law_whole : PySem.W.codeIn K cd__law_whole "_law_whole" = true) (k__law_whole : PySem.W.keepIn K (.ref a__law_whole) = true)
    (i_law : PySem.W.nsIn K mainGlobals "law" = some (some (.ref a_law))) (l_law : K.lookup a_law = some ⟨oc_law, od_law, .func (PySem.W.fnOf "law" "law" (defArgs s_law) (defBody s_law) (defScope s_law) .none kV_law dc_law pm_law an_law cd_law ct_law), sl_law⟩) (c_law : PySem.W.codeIn K cd_law "law" = true) (k_law : PySem.W.keepIn K (.ref a_law) = true)
    (z_len : PySem.W.nsIn K mainGlobals "len" = some none)
    (z_isinstance : PySem.W.nsIn K mainGlobals "isinstance" = some none)
    (z_int : PySem.W.nsIn K mainGlobals "int" = some none)
    (z_bool : PySem.W.nsIn K mainGlobals "bool" = some none)
    (z_range : PySem.W.nsIn K mainGlobals "range" = some none)
    : ∃ fd : FuncData, (∀ (s : Shared) (u : Value), BindsTo s fd ⟨[u], []⟩ [("_law_script", u)]) ∧ ∀ base : Heap, K.In base → base.Ns mainGlobals mg → FnOk PySem.Challenge.rw_metergap_k02_days_share.prog w K mg base (L2.CX PySem.Challenge.rw_metergap_k02_days_share.prog w) 3 fa fd ["_law_script"] (spT K) := by
  have e := hfa.symm.trans (PySem.W.mg_of X G i_law)
  cases e
  have B : Bi mg := ⟨PySem.W.mg_none_of X G z_len, PySem.W.mg_none_of X G z_isinstance, PySem.W.mg_none_of X G z_int, PySem.W.mg_none_of X G z_bool, PySem.W.mg_none_of X G z_range⟩
  have F__law_cell_at := fun_mk (st := s__law_cell_at) l__law_cell_at c__law_cell_at k__law_cell_at
  have b__law_cell_at' := F__law_cell_at.binds (ps := ["_law_script", "_law_k"]) fun _ _ _ _ _ _ us hl => match us, hl with | [_, _], _ => rfl
  have F_use_ahead := fun_mk (st := s_use_ahead) l_use_ahead c_use_ahead k_use_ahead
  have b_use_ahead' := F_use_ahead.binds (ps := ["use", "days", "at"]) fun _ _ _ _ _ _ us hl => match us, hl with | [_, _, _], _ => rfl
  have F_share := fun_mk (st := s_share) l_share c_share k_share
  have b_share' := F_share.binds (ps := ["use", "days", "at"]) fun _ _ _ _ _ _ us hl => match us, hl with | [_, _, _], _ => rfl
  have F__law_whole := fun_mk (st := s__law_whole) l__law_whole c__law_whole k__law_whole
  have b__law_whole' := F__law_whole.binds (ps := ["_law_found"]) fun _ _ _ _ _ _ us hl => match us, hl with | [_], _ => rfl
  have F_law := fun_mk (st := s_law) l_law c_law k_law
  have b_law' := F_law.binds (ps := ["_law_script"]) fun _ _ _ _ _ _ us hl => match us, hl with | [_], _ => rfl
  refine ⟨PySem.W.fnOf "law" "law" (defArgs s_law) (defBody s_law) (defScope s_law) .none kV_law dc_law pm_law an_law cd_law ct_law, fun s u => .of_eq rfl, fun base _ _ => ?_⟩
  have G__law_cell_at : Cal PySem.Challenge.rw_metergap_k02_days_share.prog w K mg base 1 2 "_law_cell_at" f__law_cell_at := ⟨_, _, _, fo__law_cell_at F__law_cell_at B, PySem.W.mg_of X G i__law_cell_at, k__law_cell_at, b__law_cell_at'⟩
  have G_use_ahead : Cal PySem.Challenge.rw_metergap_k02_days_share.prog w K mg base 1 3 "use_ahead" f_use_ahead := ⟨_, _, _, fo_use_ahead F_use_ahead B, PySem.W.mg_of X G i_use_ahead, k_use_ahead, b_use_ahead'⟩
  have G_share : Cal PySem.Challenge.rw_metergap_k02_days_share.prog w K mg base 2 3 "share" f_share := ⟨_, _, _, fo_share F_share B G_use_ahead, PySem.W.mg_of X G i_share, k_share, b_share'⟩
  have G__law_whole : Cal PySem.Challenge.rw_metergap_k02_days_share.prog w K mg base 1 1 "_law_whole" f__law_whole := ⟨_, _, _, fo__law_whole F__law_whole B, PySem.W.mg_of X G i__law_whole, k__law_whole, b__law_whole'⟩
  exact law_imp (fo_law F_law B G__law_cell_at G_share G__law_whole) (law_true)
end K02
open PySem PySem.W PyProof.Rows
set_option maxRecDepth 100000 in
set_option maxHeartbeats 0 in
theorem PySem.Challenge.cw_metergap_k02_days_share_holds : PySem.Challenge.rw_metergap_k02_days_share.Holds := by
  w_on; o_law; k_head; (case hw => w_witness2)
  k_fill
  refine PD.walk_law (l := PySem.Challenge.rw_metergap_k02_days_share) (k := 3) (x := "_law_script") rfl (by decide) rfl ⟨rfl, by decide, by decide⟩ (fun w h Y => PySem.W.kIn_of Y) ?F
  case F =>
    intro w mg fa h KX G hmg
    refine' K02.all_mk KX G hmg ?i__law_cell_at ?l__law_cell_at ?c__law_cell_at ?k__law_cell_at ?i_use_ahead ?l_use_ahead ?c_use_ahead ?k_use_ahead ?i_share ?l_share ?c_share ?k_share ?i__law_whole ?l__law_whole ?c__law_whole ?k__law_whole ?i_law ?l_law ?c_law ?k_law ?z_len ?z_isinstance ?z_int ?z_bool ?z_range
    (case i__law_cell_at => k_is)
    (case l__law_cell_at => k_is)
    (case c__law_cell_at => k_is)
    (case k__law_cell_at => k_is)
    (case i_use_ahead => k_is)
    (case l_use_ahead => k_is)
    (case c_use_ahead => k_is)
    (case k_use_ahead => k_is)
    (case i_share => k_is)
    (case l_share => k_is)
    (case c_share => k_is)
    (case k_share => k_is)
    (case i__law_whole => k_is)
    (case l__law_whole => k_is)
    (case c__law_whole => k_is)
    (case k__law_whole => k_is)
    (case i_law => k_is)
    (case l_law => k_is)
    (case c_law => k_is)
    (case k_law => k_is)
    (case z_len => k_is)
    (case z_isinstance => k_is)
    (case z_int => k_is)
    (case z_bool => k_is)
    (case z_range => k_is)


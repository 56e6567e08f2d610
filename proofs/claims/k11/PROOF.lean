import PyProof.Rows.All
import Wide.All
import OpenK.AllK
import Wide.FinOn
import HandS.ForMost
import HandS.ForExc
import HandS.Wide
import HandS.IsInst
import HandS.CallSlots
import HandS.TupAny
import HandS.Lambda
import HandS.RaiseMore
import HandS.FStr
import HandS.ExcIs
import KE.GoesNew
import KE.GoesMore
import HandS.HotCalls
import HandS.SetFor
import PyProof.RulesMatchSeq
import PyProof.Rows.MatchSeqLen
import HandS.GenList
import HandS.EndTab
import HandS.EndOwn
import PyProof.SumAny
import HandS.Iter
import HandS.SortInts
import HandS.Conv
import KE.SortKeyHeap
import HandS.TryMany
import PySem.Challenge.RW_metergap_k11_whole_plays
set_option Elab.async false
set_option linter.all false
set_option maxRecDepth 100000
set_option maxHeartbeats 4000000
namespace PD
open PySem PySem.Spec PyProof.Rows L2
variable {K : PySem.W.Frag}

/-! ### what stays, but tables of code objects may grow -/
/-- not a table -/
def NT (o : HO) : Prop := ∀ ps, o ≠ .tbl ps
abbrev CodO (c : Addr) (q : Str) : HO := LamX.CodeO c q
/-- the table at P: each code object that it tells is known -/
def TabG (H : Hp) (P : Addr) : Prop := ∃ ps : Array Value, H P = some (.tbl ps) ∧ TriplesOk ps.toList ∧ ∀ (pos : Pos) (cv : Value), codeAmong pos ps.toList = some cv → ∃ c q, cv = .ref c ∧ H c = some (CodO c q)
structure Same (H H' : Hp) : Prop where
  k : ∀ b o, H b = some o → NT o → H' b = some o
  t : ∀ P, TabG H P → TabG H' P
  d : ∀ b, H' b = none → H b = none
theorem nt_lst (xs : List V) : NT (.lst xs) := fun ps e => by cases e
theorem nt_tup (xs : List V) : NT (.tup xs) := fun ps e => by cases e
theorem nt_dK (xs : List (Key × V)) : NT (.dK xs) := fun ps e => by cases e
theorem nt_frz (o : Obj) (u : HO) : NT (.frz o u) := fun ps e => by cases e
theorem nt_code (c : Addr) (q : Str) : NT (CodO c q) := fun ps => LamX.codeO_ne ps
theorem TabG.to {H H' : Hp} {P : Addr} (t : TabG H P) (e : ∀ b o, H b = some o → H' b = some o) : TabG H' P := by
  obtain ⟨ps, a, b, c⟩ := t
  exact ⟨ps, e _ _ a, b, fun pos cv h => (c pos cv h).elim fun c' ⟨q, e1, e2⟩ => ⟨c', q, e1, e _ _ e2⟩⟩
theorem Same.of {H H' : Hp} (s : L2.Same H H') : Same H H' := ⟨fun b o e _ => s b o e, fun P t => t.to s, fun b e => L2.Same.free s e⟩
theorem Same.refl (H : Hp) : Same H H := .of (L2.Same.refl H)
theorem Same.trans {H H1 H2 : Hp} (a : Same H H1) (b : Same H1 H2) : Same H H2 := ⟨fun c o h n => b.k c o (a.k c o h n) n, fun P t => b.t P (a.t P t), fun c h => a.d c (b.d c h)⟩
theorem Same.free {H H' : Hp} (e : Same H H') {l : Addr} (h : H' l = none) : H l = none := e.d l h
theorem Same.lst {H H' : Hp} (e : Same H H') {l : Addr} {xs : List V} (h : H l = some (.lst xs)) : H' l = some (.lst xs) := e.k _ _ h (nt_lst xs)
theorem Same.tup {H H' : Hp} (e : Same H H') {l : Addr} {xs : List V} (h : H l = some (.tup xs)) : H' l = some (.tup xs) := e.k _ _ h (nt_tup xs)
theorem Same.seq {K : PySem.W.Frag} {H H' : Hp} {a : Addr} {xs : List V} (e : Same H H') (h : SqL K H a xs) : SqL K H' a xs := by
  rcases h with (h | ⟨o, h⟩) | h
  · exact .inl (.inl (e.lst h))
  · exact .inl (.inr ⟨o, e.k _ _ h (nt_frz _ _)⟩)
  · exact .inr h
theorem Same.has {H H' : Hp} (e : Same H H') {l : Addr} (h : ∃ o, H l = some o) : ∃ o, H' l = some o := by
  cases q : H' l with
  | some o => exact ⟨o, rfl⟩
  | none =>
    obtain ⟨o, h⟩ := h
    rw [e.d l q] at h
    cases h

/-! ### plain data, and a value of the heap that stands for it; M: the lists that may still change -/
abbrev D := PyData
abbrev MS := Addr → Prop
/-- a list that the module's top left -/
def KLs (K : PySem.W.Frag) (a : Addr) (xs : List V) : Prop :=
  ∃ (o : Obj) (its : Array Value) (n : Nat), K.lookup a = some o ∧ o.cls = .type "list" ∧ o.dict = none ∧ o.data = .seq its n ∧ its.size ≤ sizeLine ∧ Vals xs its.toList
abbrev Sg := L2.St
mutual
inductive Rp (K : PySem.W.Frag) (M : MS) (H : Hp) : V → D → Prop
  | non : Rp K M H .non .none
  | bl (b : Bool) : Rp K M H (.bl b) (.bool b)
  | int (i : Int) : Rp K M H (.int i) (.int i)
  | str (x : Str) : Rp K M H (.str x) (.str x)
  | lst {a : Addr} {xs : List V} {ds : List D} : ¬ M a → Rd H a (.lst xs) → RpL K M H xs ds → Rp K M H (.ref a) (.list ds)
  | kls {a : Addr} {xs : List V} {ds : List D} : KLs K a xs → RpL K M H xs ds → Rp K M H (.ref a) (.list ds)
  | tup {a : Addr} {xs : List V} {ds : List D} : ¬ M a → Rd H a (.tup xs) → RpL K M H xs ds → Rp K M H (.ref a) (.tuple ds)
inductive RpL (K : PySem.W.Frag) (M : MS) (H : Hp) : List V → List D → Prop
  | nil : RpL K M H [] []
  | cons {v : V} {vs : List V} {d : D} {ds : List D} : Rp K M H v d → RpL K M H vs ds → RpL K M H (v :: vs) (d :: ds)
end
theorem rd_some {H : Hp} {a : Addr} {u : HO} (r : Rd H a u) : ∃ o, H a = some o := by
  rcases r with r | ⟨o, r⟩
  · exact ⟨_, r⟩
  · exact ⟨_, r⟩
theorem rd_to {H H' : Hp} {a : Addr} {u : HO} (r : Rd H a u) (n : NT u) (h : ∀ o, H a = some o → NT o → H' a = some o) : Rd H' a u := by
  rcases r with r | ⟨o, r⟩
  · exact .inl (h _ r n)
  · exact .inr ⟨o, h _ r (nt_frz _ _)⟩
section
variable {M M' : MS} {H H' : Hp}
mutual
theorem Rp.to (hM : ∀ a, ¬ M a → (∃ o, H a = some o) → ¬ M' a) (hH : ∀ a o, ¬ M a → H a = some o → NT o → H' a = some o) : ∀ (d : D) (v : V), Rp K M H v d → Rp K M' H' v d
  | .none, _, h => by cases h; exact .non
  | .bool _, _, h => by cases h; exact .bl _
  | .int _, _, h => by cases h; exact .int _
  | .str _, _, h => by cases h; exact .str _
  | .list ds, _, h => by
    cases h with
    | lst n r l => exact .lst (hM _ n (rd_some r)) (rd_to r (nt_lst _) fun o => hH _ o n) (RpL.to hM hH ds _ l)
    | kls r l => exact .kls r (RpL.to hM hH ds _ l)
  | .tuple ds, _, h => by
    cases h with
    | tup n r l => exact .tup (hM _ n (rd_some r)) (rd_to r (nt_tup _) fun o => hH _ o n) (RpL.to hM hH ds _ l)
  | .dict _, _, h => by cases h
theorem RpL.to (hM : ∀ a, ¬ M a → (∃ o, H a = some o) → ¬ M' a) (hH : ∀ a o, ¬ M a → H a = some o → NT o → H' a = some o) : ∀ (ds : List D) (vs : List V), RpL K M H vs ds → RpL K M' H' vs ds
  | [], _, h => by cases h; exact .nil
  | d :: ds, _, h => by
    cases h with
    | cons a b => exact .cons (Rp.to hM hH d _ a) (RpL.to hM hH ds _ b)
end
theorem Rp.same {v : V} {d : D} (h : Rp K M H v d) (s : Same H H') : Rp K M H' v d := Rp.to (fun _ n _ => n) (fun a o _ e n => s.k a o e n) d v h
theorem RpL.same {v : List V} {d : List D} (h : RpL K M H v d) (s : Same H H') : RpL K M H' v d := RpL.to (fun _ n _ => n) (fun a o _ e n => s.k a o e n) d v h
theorem Rp.anti {v : V} {d : D} (h : Rp K M H v d) (s : ∀ l, M' l → M l) : Rp K M' H v d := Rp.to (fun _ n _ m => n (s _ m)) (fun a o _ e _ => e) d v h
theorem RpL.anti {v : List V} {d : List D} (h : RpL K M H v d) (s : ∀ l, M' l → M l) : RpL K M' H v d := RpL.to (fun _ n _ m => n (s _ m)) (fun a o _ e _ => e) d v h
theorem RpL.length : ∀ {vs : List V} {ds : List D}, RpL K M H vs ds → vs.length = ds.length
  | _, _, .nil => rfl
  | _, _, .cons _ t => by simp [RpL.length t]
theorem RpL.get : ∀ {vs : List V} {ds : List D} {i : Nat} {d : D}, RpL K M H vs ds → ds[i]? = some d → ∃ v, vs[i]? = some v ∧ Rp K M H v d
  | _, _, _, _, .nil, e => by simp at e
  | _, _, 0, _, .cons a t, e => by
    have e' := Option.some.inj e
    subst e'
    exact ⟨_, rfl, a⟩
  | _, _, i + 1, _, .cons a t, e => by
    obtain ⟨v, h1, h2⟩ := RpL.get (i := i) t (by simpa using e)
    exact ⟨v, by simpa using h1, h2⟩
theorem RpL.getV : ∀ {vs : List V} {ds : List D} {i : Nat} {v : V}, RpL K M H vs ds → vs[i]? = some v → ∃ d, ds[i]? = some d ∧ Rp K M H v d
  | _, _, _, _, .nil, e => by simp at e
  | _, _, 0, _, .cons a t, e => by
    have e' := Option.some.inj e
    subst e'
    exact ⟨_, rfl, a⟩
  | _, _, i + 1, _, .cons a t, e => by
    obtain ⟨v, h1, h2⟩ := RpL.getV (i := i) t (by simpa using e)
    exact ⟨v, by simpa using h1, h2⟩
theorem RpL.app : ∀ {vs ws : List V} {ds es : List D}, RpL K M H vs ds → RpL K M H ws es → RpL K M H (vs ++ ws) (ds ++ es)
  | _, _, _, _, .nil, s => s
  | _, _, _, _, .cons a t, s => .cons a (RpL.app t s)
theorem RpL.take : ∀ {vs : List V} {ds : List D} (n : Nat), RpL K M H vs ds → RpL K M H (vs.take n) (ds.take n)
  | _, _, 0, _ => .nil
  | _, _, _ + 1, .nil => .nil
  | _, _, n + 1, .cons a t => .cons a (RpL.take n t)
theorem RpL.drop : ∀ {vs : List V} {ds : List D} (n : Nat), RpL K M H vs ds → RpL K M H (vs.drop n) (ds.drop n)
  | _, _, 0, r => r
  | _, _, _ + 1, .nil => .nil
  | _, _, n + 1, .cons _ t => RpL.drop n t
theorem RpL.nil_iff {vs : List V} {ds : List D} (r : RpL K M H vs ds) : vs.isEmpty = ds.isEmpty := by cases r <;> rfl
theorem RpL.one {v : V} {d : D} (r : Rp K M H v d) : RpL K M H [v] [d] := .cons r .nil
mutual
theorem Rp.dp : ∀ (d : D) (v : V), Rp K M H v d → Dp K H v d
  | .none, _, h => by cases h; exact .non
  | .bool _, _, h => by cases h; exact .bl _
  | .int _, _, h => by cases h; exact .int _
  | .str _, _, h => by cases h; exact .str _
  | .list ds, _, h => by
    cases h with
    | lst n r l => exact .lst (.inl r) (RpL.dp ds _ l)
    | kls r l => exact .lst (.inr r) (RpL.dp ds _ l)
  | .tuple ds, _, h => by
    cases h with
    | tup n r l => exact .tup (.inl r) (RpL.dp ds _ l)
  | .dict _, _, h => by cases h
theorem RpL.dp : ∀ (ds : List D) (vs : List V), RpL K M H vs ds → DpAll K H vs ds
  | [], _, h => by cases h; exact .nil
  | d :: ds, _, h => by
    cases h with
    | cons a b => exact .cons (Rp.dp d _ a) (RpL.dp ds _ b)
end
end
/-- the same, but a list at the top may be one that still changes -/
def Rw (K : PySem.W.Frag) (M : MS) (H : Hp) (v : V) : D → Prop
  | .list ds => ∃ a xs, v = .ref a ∧ SqL K H a xs ∧ RpL K M H xs ds
  | d => Rp K M H v d
section
variable {M M' : MS} {H H' : Hp} {v : V} {d : D}
theorem Rp.weak (h : Rp K M H v d) : Rw K M H v d := by
  cases h with
  | lst n r l => exact ⟨_, _, rfl, .inl r, l⟩
  | kls r l => exact ⟨_, _, rfl, .inr r, l⟩
  | non => exact .non
  | bl => exact .bl _
  | int => exact .int _
  | str => exact .str _
  | tup n r l => exact .tup n r l
theorem Rw.same (h : Rw K M H v d) (s : Same H H') : Rw K M H' v d := by
  cases d with
  | list ds =>
    obtain ⟨a, xs, e, r, l⟩ := h
    exact ⟨a, xs, e, s.seq r, l.same s⟩
  | none => exact Rp.same h s
  | bool => exact Rp.same h s
  | int => exact Rp.same h s
  | str => exact Rp.same h s
  | tuple => exact Rp.same h s
  | dict => exact Rp.same h s
theorem Rw.dp (h : Rw K M H v d) : Dp K H v d := by
  cases d with
  | list ds =>
    obtain ⟨a, xs, e, r, l⟩ := h
    subst e
    exact .lst r (RpL.dp ds _ l)
  | none => exact Rp.dp _ _ h
  | bool => exact Rp.dp _ _ h
  | int => exact Rp.dp _ _ h
  | str => exact Rp.dp _ _ h
  | tuple => exact Rp.dp _ _ h
  | dict => exact Rp.dp _ _ h
theorem Rw.int_ {i : Int} (h : Rw K M H v (.int i)) : v = .int i := by cases (show Rp K M H v (.int i) from h); rfl
theorem Rw.bool_ {i : Bool} (h : Rw K M H v (.bool i)) : v = .bl i := by cases (show Rp K M H v (.bool i) from h); rfl
theorem Rw.str_ {i : Str} (h : Rw K M H v (.str i)) : v = .str i := by cases (show Rp K M H v (.str i) from h); rfl
theorem Rw.none_ (h : Rw K M H v .none) : v = .non := by cases (show Rp K M H v .none from h); rfl
theorem Rw.tup_ {ds : List D} (h : Rw K M H v (.tuple ds)) : ∃ a xs, v = .ref a ∧ Rd H a (.tup xs) ∧ RpL K M H xs ds ∧ ¬ M a := by
  cases (show Rp K M H v (.tuple ds) from h) with
  | tup n r l => exact ⟨_, _, rfl, r, l, n⟩
theorem Rw.lst_ {ds : List D} (h : Rw K M H v (.list ds)) : ∃ a xs, v = .ref a ∧ SqL K H a xs ∧ RpL K M H xs ds := h
end
theorem upd_same' {H : Hp} {p : Addr} {o : HO} (h : H p = none) : L2.Same H (upd H p o) := fun b u e => by
  rw [upd_ne (ne_of_none e h)]
  exact e
theorem same_upd {H : Hp} {p : Addr} {o : HO} (h : H p = none) : Same H (upd H p o) := .of (upd_same' h)

theorem Same.over {H H' : Hp} {p : Addr} {vs ws : List V} (s : Same H H') (h : H p = none) (e : H' p = some (.lst vs)) : Same H (upd H' p (.lst ws)) := by
  refine ⟨fun b o z n => ?_, fun P t => ?_, fun b z => ?_⟩
  · rw [upd_ne (ne_of_none z h)]
    exact s.k b o z n
  · obtain ⟨ps, a, b, c⟩ := s.t P t
    refine ⟨ps, ?_, b, fun pos cv q => ?_⟩
    · rw [upd_ne fun z => by rw [z, e] at a; cases a]
      exact a
    · obtain ⟨c', q', e1, e2⟩ := c pos cv q
      refine ⟨c', q', e1, ?_⟩
      rw [upd_ne fun z => by rw [z, e] at e2; unfold CodO LamX.CodeO at e2; cases e2]
      exact e2
  · by_cases q : b = p
    · rw [q]
      exact h
    · rw [upd_ne q] at z
      exact s.d b z
/-! ### code objects whose tables are tracked -/
/-- the defs that hold a generator expression or a lambda -/
def tabNames : List Str := [PySem.Str.ofString "owed", PySem.Str.ofString "billed", PySem.Str.ofString "with_tariff"]
def TabAt (K : PySem.W.Frag) (f c P : Addr) : Prop := ∃ (o : Obj) (fd : FuncData) (e : Value) (dd : Option Addr) (vs : Array Value) (sl : Array (Option Value)),
  K.lookup f = some o ∧ o.data = .func fd ∧ fd.code = .ref c ∧ K.lookup c = some ⟨e, dd, .fields vs, sl⟩ ∧ vs[11]? = some (.ref P)
def IsTab (K : PySem.W.Frag) (P : Addr) : Prop := ∃ x ∈ tabNames, ∃ f c : Addr, PySem.W.nsIn K mainGlobals x = some (some (.ref f)) ∧ TabAt K f c P

/-! ### slots -/
/-- what a slot of one's own is: a list, a dict with these keys -/
inductive Kd where
  | lst | dic (ks : List Key)
def Kd.obj : Kd → List V → HO
  | .lst, vs => .lst vs
  | .dic ks, vs => .dK (ks.zip vs)
theorem Kd.nt (k : Kd) (vs : List V) : NT (k.obj vs) := by
  cases k
  · exact nt_lst _
  · exact nt_dK _
theorem Kd.nc (k : Kd) (vs : List V) (c : Addr) (q : Str) : k.obj vs ≠ CodO c q := by
  unfold CodO LamX.CodeO
  cases k <;> exact fun e => by cases e
theorem Kd.nb (k : Kd) (vs : List V) (ps : Array Value) : k.obj vs ≠ .tbl ps := k.nt vs ps
/-- M's lists and dicts are there, and the tables -/
def Lv (K : PySem.W.Frag) (M : MS) (H : Hp) : Prop := (∀ l, M l → ∃ k vs, H l = some (Kd.obj k vs)) ∧ ∀ P, IsTab K P → TabG H P
theorem Lv.has {K : PySem.W.Frag} {M : MS} {H : Hp} (h : Lv K M H) : ∀ l, M l → ∃ o, H l = some o := fun l m => (h.1 l m).elim fun k ⟨vs, e⟩ => ⟨_, e⟩
theorem Lv.same {K : PySem.W.Frag} {M : MS} {H H' : Hp} (h : Lv K M H) (s : Same H H') : Lv K M H' := ⟨fun l m => (h.1 l m).elim fun k ⟨vs, e⟩ => ⟨k, vs, s.k _ _ e (k.nt vs)⟩, fun P t => s.t P (h.2 P t)⟩
/-- where a state lies: its dict, its two lists -/
structure SA where
  a : Addr
  t : Addr
  b : Addr
def SA.has (A : SA) (l : Addr) : Prop := l = A.a ∨ l = A.t ∨ l = A.b
def staO (vh : V) (lt lb : Addr) : HO := .dK [(.inr (PySem.Str.ofString "history"), vh), (.inr (PySem.Str.ofString "tariffs"), .ref lt), (.inr (PySem.Str.ofString "bills"), .ref lb)]
theorem nt_sta (vh : V) (lt lb : Addr) : NT (staO vh lt lb) := nt_dK _
/-- a dict of a value and of two lists, all its own -/
structure StaAt (K : PySem.W.Frag) (M : MS) (H : Hp) (A : SA) (h : D) (ts bs : List D) : Prop where
  ne : A.t ≠ A.b
  m : ∀ l, A.has l → M l
  ex : ∃ (vh : V) (us ws : List V), H A.a = some (staO vh A.t A.b) ∧ H A.t = some (.lst us) ∧ H A.b = some (.lst ws) ∧ Rp K M H vh h ∧ RpL K M H us ts ∧ RpL K M H ws bs
theorem StaAt.to {M M' : MS} {H H' : Hp} {A : SA} {h : D} {ts bs : List D} (s : StaAt K M H A h ts bs) (hM : ∀ a, ¬ M a → (∃ o, H a = some o) → ¬ M' a) (hH : ∀ a o, ¬ M a → H a = some o → NT o → H' a = some o)
    (up : ∀ l, A.has l → M' l ∧ ∀ o, H l = some o → NT o → H' l = some o) : StaAt K M' H' A h ts bs := by
  obtain ⟨vh, us, ws, e1, e2, e3, r1, r2, r3⟩ := s.ex
  exact ⟨s.ne, fun l z => (up l z).1, vh, us, ws, (up _ (.inl rfl)).2 _ e1 (nt_sta _ _ _), (up _ (.inr (.inl rfl))).2 _ e2 (nt_lst _), (up _ (.inr (.inr rfl))).2 _ e3 (nt_lst _), Rp.to hM hH _ _ r1, RpL.to hM hH _ _ r2, RpL.to hM hH _ _ r3⟩
theorem StaAt.same {M : MS} {H H' : Hp} {A : SA} {h : D} {ts bs : List D} (s : StaAt K M H A h ts bs) (q : Same H H') : StaAt K M H' A h ts bs :=
  s.to (fun _ n _ => n) (fun a o _ e n => q.k a o e n) fun l z => ⟨s.m l z, fun o e n => q.k l o e n⟩
theorem StaAt.anti {M M' : MS} {H : Hp} {A : SA} {h : D} {ts bs : List D} (s : StaAt K M H A h ts bs) (q : ∀ l, M' l → M l) (m : ∀ l, A.has l → M' l) : StaAt K M' H A h ts bs :=
  s.to (fun _ n _ z => n (q _ z)) (fun a o _ e _ => e) fun l z => ⟨m l z, fun o e _ => e⟩
theorem StaAt.obj {M : MS} {H : Hp} {A : SA} {h : D} {ts bs : List D} (s : StaAt K M H A h ts bs) {l : Addr} (z : A.has l) : ∃ k vs, H l = some (Kd.obj k vs) := by
  obtain ⟨vh, us, ws, e1, e2, e3, _⟩ := s.ex
  rcases z with z | z | z
  · exact ⟨.dic [.inr (PySem.Str.ofString "history"), .inr (PySem.Str.ofString "tariffs"), .inr (PySem.Str.ofString "bills")], [vh, .ref A.t, .ref A.b], z ▸ e1⟩
  · exact ⟨.lst, us, z ▸ e2⟩
  · exact ⟨.lst, ws, z ▸ e3⟩
theorem StaAt.there {M : MS} {H : Hp} {A : SA} {h : D} {ts bs : List D} (s : StaAt K M H A h ts bs) {l : Addr} (z : A.has l) : ∃ o, H l = some o := (s.obj z).elim fun k ⟨vs, e⟩ => ⟨_, e⟩
inductive Sl where
  | no | val (d : D) | box (k : Kd) (ds : List D) | exc (a : Addr) | sta (A : SA) (h : D) (ts bs : List D)
abbrev Sl.own (ds : List D) : Sl := .box .lst ds
abbrev Sl.dic (ks : List Key) (ds : List D) : Sl := .box (.dic ks) ds
abbrev Rho := List Sl
def SlR (K : PySem.W.Frag) (M : MS) (H : Hp) (o : Option (Option V)) : Sl → Prop
  | .no => True
  | .exc a => o = some (some (.ref a))
  | .val d => ∃ v, o = some (some v) ∧ Rp K M H v d
  | .box k ds => ∃ l vs, o = some (some (.ref l)) ∧ M l ∧ H l = some (k.obj vs) ∧ RpL K M H vs ds
  | .sta A h ts bs => o = some (some (.ref A.a)) ∧ StaAt K M H A h ts bs
structure En (K : PySem.W.Frag) (M : MS) (H : Hp) (st : Sg) (r : Rho) : Prop where
  live : Lv K M H
  slot : ∀ (i : Nat) (s : Sl), r[i]? = some s → SlR K M H st[i]? s
  len : st.length = r.length
theorem SlR.same {M : MS} {H H' : Hp} {o : Option (Option V)} {s : Sl} (h : SlR K M H o s) (q : Same H H') : SlR K M H' o s := by
  cases s with
  | no => exact trivial
  | exc a => exact h
  | val d =>
    obtain ⟨v, e, r⟩ := h
    exact ⟨v, e, r.same q⟩
  | box k ds =>
    obtain ⟨l, vs, e, m, hl, r⟩ := h
    exact ⟨l, vs, e, m, q.k _ _ hl (k.nt vs), r.same q⟩
  | sta A h' ts bs => exact ⟨h.1, h.2.same q⟩
theorem En.same {M : MS} {H H' : Hp} {st : Sg} {r : Rho} (h : En K M H st r) (q : Same H H') : En K M H' st r :=
  ⟨h.live.same q, fun i s e => (h.slot i s e).same q, h.len⟩
theorem En.fresh {M : MS} {H : Hp} {st : Sg} {r : Rho} (h : En K M H st r) {p : Addr} (e : H p = none) : ¬ M p := fun m => by
  obtain ⟨o, q⟩ := h.live.has p m
  rw [e] at q
  cases q

/-! ### results; an error is told by the number of its class -/
abbrev PWs := Nat → Sg → Hp → Prop
inductive Res (α : Type) where
  | ok (a : α) | ex (c : Nat) | no
def Res.bind {α β : Type} : Res α → (α → Res β) → Res β
  | .ok a, k => k a
  | .ex c, _ => .ex c
  | .no, _ => .no
@[simp] theorem bind_ok {α β : Type} (a : α) (k : α → Res β) : (Res.ok a).bind k = k a := eq_of_heq HEq.rfl
@[simp] theorem bind_ex {α β : Type} (c : Nat) (k : α → Res β) : (Res.ex c).bind k = .ex c := eq_of_heq HEq.rfl
@[simp] theorem bind_no {α β : Type} (k : α → Res β) : (Res.no : Res α).bind k = .no := eq_of_heq HEq.rfl
def Res.fold {α β : Type} (r : Res α) (k : α → β) (e : Nat → β) (n : β) : β := match r with
  | .ok a => k a
  | .ex c => e c
  | .no => n
@[simp] theorem fold_ok {α β : Type} (a : α) (k : α → β) (e : Nat → β) (n : β) : (Res.ok a).fold k e n = k a := eq_of_heq HEq.rfl
@[simp] theorem fold_ex {α β : Type} (c : Nat) (k : α → β) (e : Nat → β) (n : β) : (Res.ex c).fold k e n = e c := eq_of_heq HEq.rfl
@[simp] theorem fold_no {α β : Type} (k : α → β) (e : Nat → β) (n : β) : (Res.no : Res α).fold k e n = n := eq_of_heq HEq.rfl

abbrev RR := PySem.W.Frag → MS → Hp → V → D → Prop
def Dem (K : PySem.W.Frag) (R : RR) (W : PWs) (M : MS) (st : Sg) (H : Hp) (r : Res D) (Q : VK) : Prop :=
  match r with
  | .ok d => ∀ v H', Same H H' → R K M H' v d → Q v H'
  | .ex c => ∀ H', Same H H' → W c st H'
  | .no => False
def DemA (K : PySem.W.Frag) (W : PWs) (M : MS) (st : Sg) (H : Hp) (r : Res (List D)) (Q : List V → Hp → Prop) : Prop :=
  match r with
  | .ok d => ∀ v H', Same H H' → RpL K M H' v d → Q v H'
  | .ex c => ∀ H', Same H H' → W c st H'
  | .no => False
def DemT (W : PWs) (st : Sg) (H : Hp) (r : Res Bool) (Q : Bool → Hp → Prop) : Prop :=
  match r with
  | .ok d => ∀ H', Same H H' → Q d H'
  | .ex c => ∀ H', Same H H' → W c st H'
  | .no => False
theorem Dem.ext {R : RR} {W : PWs} {M : MS} {st : Sg} {H H' : Hp} {r : Res D} {Q : VK} (h : Dem K R W M st H r Q) (q : Same H H') : Dem K R W M st H' r Q := by
  cases r with
  | ok d => exact fun v H2 q2 => h v H2 (q.trans q2)
  | ex c => exact fun H2 q2 => h H2 (q.trans q2)
  | no => exact h
theorem DemA.ext {W : PWs} {M : MS} {st : Sg} {H H' : Hp} {r : Res (List D)} {Q : List V → Hp → Prop} (h : DemA K W M st H r Q) (q : Same H H') : DemA K W M st H' r Q := by
  cases r with
  | ok d => exact fun v H2 q2 => h v H2 (q.trans q2)
  | ex c => exact fun H2 q2 => h H2 (q.trans q2)
  | no => exact h
theorem DemT.ext {W : PWs} {st : Sg} {H H' : Hp} {r : Res Bool} {Q : Bool → Hp → Prop} (h : DemT W st H r Q) (q : Same H H') : DemT W st H' r Q := by
  cases r with
  | ok d => exact fun H2 q2 => h H2 (q.trans q2)
  | ex c => exact fun H2 q2 => h H2 (q.trans q2)
  | no => exact h
def tE (K : PySem.W.Frag) (R : RR) (W : PWs) (g : Rho → Res D) : TE := fun st H Q => ∃ r M, En K M H st r ∧ Dem K R W M st H (g r) Q
def tA (K : PySem.W.Frag) (W : PWs) (g : Rho → Res (List D)) : TA := fun st H Q => ∃ r M, En K M H st r ∧ DemA K W M st H (g r) Q
def tT (K : PySem.W.Frag) (W : PWs) (g : Rho → Res Bool) : TT := fun st H Q => ∃ r M, En K M H st r ∧ DemT W st H (g r) Q
structure DE (X : Cx) (W : PWs) (e : Expr) (g : Rho → Res D) : Prop where
  run : PE X e (tE X.K Rp W g)
structure DW (X : Cx) (W : PWs) (e : Expr) (g : Rho → Res D) : Prop where
  run : PE X e (tE X.K Rw W g)
structure DA (X : Cx) (W : PWs) (es : List Expr) (g : Rho → Res (List D)) : Prop where
  run : PA X es (tA X.K W g)
structure DT (X : Cx) (W : PWs) (e : Expr) (g : Rho → Res Bool) : Prop where
  run : PT X e (tT X.K W g)
theorem _root_.L2.PE.imp {X : Cx} {e : Expr} {t t' : TE} (h : PE X e t) (k : ∀ st H Q, t' st H Q → t st H Q) : PE X e t' := ⟨fun pins s st H Q I q => h.run pins s st H Q I (k _ _ _ q)⟩
theorem _root_.L2.PT.imp {X : Cx} {e : Expr} {t t' : TT} (h : PT X e t) (k : ∀ st H Q, t' st H Q → t st H Q) : PT X e t' := ⟨fun pins s st H Q I q => h.run pins s st H Q I (k _ _ _ q)⟩
theorem _root_.L2.PW.imp {X : Cx} {e : Expr} {t t' : TT} (h : PW X e t) (k : ∀ st H Q, t' st H Q → t st H Q) : PW X e t' := ⟨fun wh pins s st H Q I q => h.run wh pins s st H Q I (k _ _ _ q)⟩
theorem _root_.L2.PA.imp {X : Cx} {e : List Expr} {t t' : TA} (h : PA X e t) (k : ∀ st H Q, t' st H Q → t st H Q) : PA X e t' := ⟨fun pos pins s st H Q I q => h.run pos pins s st H Q I (k _ _ _ q)⟩
theorem _root_.L2.PS.imp {X : Cx} {e : Stmt} {t t' : TS} (h : PS X e t) (k : ∀ D st H, t' D st H → t D st H) : PS X e t' := ⟨fun pins s st H Q I q => h.run pins s st H Q I (k _ _ _ q)⟩
theorem _root_.L2.PSs.imp {X : Cx} {e : List Stmt} {t t' : TS} (h : PSs X e t) (k : ∀ D st H, t' D st H → t D st H) : PSs X e t' := ⟨fun pins s st H Q I q => h.run pins s st H Q I (k _ _ _ q)⟩

section
variable {R Ra Rb : RR} {W : PWs} {M : MS} {st : Sg} {H : Hp} {r : Rho} {ga gb : Rho → Res D}
/-- one value, then what hangs on it -/
theorem Dem.then {x : Res D} {k : D → Res D} {Q : VK} {P : V → Hp → Prop} (en : En K M H st r) (h : Dem K R W M st H (x.bind k) Q)
    (hk : ∀ d v H1, x = .ok d → Same H H1 → En K M H1 st r → Ra K M H1 v d → Dem K R W M st H1 (k d) Q → P v H1) : Dem K Ra W M st H x P := by
  cases x with
  | ok d => exact fun v H1 q rv => hk d v H1 rfl q (en.same q) rv (Dem.ext h q)
  | ex c => exact h
  | no => exact h
theorem Dem.thenA {x : Res D} {k : D → Res (List D)} {Q : List V → Hp → Prop} {P : V → Hp → Prop} (en : En K M H st r) (h : DemA K W M st H (x.bind k) Q)
    (hk : ∀ d v H1, x = .ok d → Same H H1 → En K M H1 st r → Ra K M H1 v d → DemA K W M st H1 (k d) Q → P v H1) : Dem K Ra W M st H x P := by
  cases x with
  | ok d => exact fun v H1 q rv => hk d v H1 rfl q (en.same q) rv (DemA.ext h q)
  | ex c => exact h
  | no => exact h
theorem DemA.then {x : Res (List D)} {k : List D → Res D} {Q : VK} {P : List V → Hp → Prop} (en : En K M H st r) (h : Dem K R W M st H (x.bind k) Q)
    (hk : ∀ d v H1, x = .ok d → Same H H1 → En K M H1 st r → RpL K M H1 v d → Dem K R W M st H1 (k d) Q → P v H1) : DemA K W M st H x P := by
  cases x with
  | ok d => exact fun v H1 q rv => hk d v H1 rfl q (en.same q) rv (Dem.ext h q)
  | ex c => exact h
  | no => exact h
theorem DemA.thenA {x : Res (List D)} {k : List D → Res (List D)} {Q : List V → Hp → Prop} {P : List V → Hp → Prop} (en : En K M H st r) (h : DemA K W M st H (x.bind k) Q)
    (hk : ∀ d v H1, x = .ok d → Same H H1 → En K M H1 st r → RpL K M H1 v d → DemA K W M st H1 (k d) Q → P v H1) : DemA K W M st H x P := by
  cases x with
  | ok d => exact fun v H1 q rv => hk d v H1 rfl q (en.same q) rv (DemA.ext h q)
  | ex c => exact h
  | no => exact h
theorem Dem.thenT {x : Res D} {k : D → Res Bool} {Q : Bool → Hp → Prop} {P : V → Hp → Prop} (en : En K M H st r) (h : DemT W st H (x.bind k) Q)
    (hk : ∀ d v H1, x = .ok d → Same H H1 → En K M H1 st r → Ra K M H1 v d → DemT W st H1 (k d) Q → P v H1) : Dem K Ra W M st H x P := by
  cases x with
  | ok d => exact fun v H1 q rv => hk d v H1 rfl q (en.same q) rv (DemT.ext h q)
  | ex c => exact h
  | no => exact h
theorem DemT.thenT {x : Res Bool} {k : Bool → Res Bool} {Q : Bool → Hp → Prop} {P : Bool → Hp → Prop} (en : En K M H st r) (h : DemT W st H (x.bind k) Q)
    (hk : ∀ d H1, x = .ok d → Same H H1 → En K M H1 st r → DemT W st H1 (k d) Q → P d H1) : DemT W st H x P := by
  cases x with
  | ok d => exact fun H1 q => hk d H1 rfl q (en.same q) (DemT.ext h q)
  | ex c => exact h
  | no => exact h
theorem DemT.then {x : Res Bool} {k : Bool → Res D} {Q : VK} {P : Bool → Hp → Prop} (en : En K M H st r) (h : Dem K R W M st H (x.bind k) Q)
    (hk : ∀ d H1, x = .ok d → Same H H1 → En K M H1 st r → Dem K R W M st H1 (k d) Q → P d H1) : DemT W st H x P := by
  cases x with
  | ok d => exact fun H1 q => hk d H1 rfl q (en.same q) (Dem.ext h q)
  | ex c => exact h
  | no => exact h
end

/-! ### expressions -/
section
variable {X : Cx} {W : PWs} {e a b c : Expr} {es : List Expr} {g ga gb gc : Rho → Res D} {gl : Rho → Res (List D)} {gt gu : Rho → Res Bool} {pos p : Pos}
theorem DE.weak (h : DE X W e g) : DW X W e g := ⟨h.run.imp fun st H Q ⟨r, M, en, q⟩ => ⟨r, M, en, by
  revert q
  cases g r with
  | ok d => exact fun q v H' s rw => q v H' s rw.weak
  | ex c => exact fun q => q
  | no => exact fun q => q⟩⟩
/-- reading a slot -/
def rd (i : Nat) (r : Rho) : Res D := match r[i]? with
  | some (.val d) => .ok d
  | _ => .no
def rdw (i : Nat) (r : Rho) : Res D := match r[i]? with
  | some (.val d) => .ok d
  | some (.box .lst ds) => .ok (.list ds)
  | _ => .no
theorem de_var {i : Nat} {x : Str} (h : PE X (.Name x pos) (tVar i)) : DE X W (.Name x pos) (rd i) := ⟨h.imp fun st H Q ⟨r, M, en, q⟩ => by
  unfold rd at q
  cases e : r[i]? with
  | none => rw [e] at q; exact q.elim
  | some s =>
    rw [e] at q
    cases s with
    | no => exact q.elim
    | exc a => exact q.elim
    | sta => exact q.elim
    | box k _ => exact q.elim
    | val d =>
      obtain ⟨v, e2, rv⟩ := en.slot i _ e
      exact ⟨v, e2, q v H (Same.refl _) rv⟩⟩
theorem dw_var {i : Nat} {x : Str} (h : PE X (.Name x pos) (tVar i)) : DW X W (.Name x pos) (rdw i) := ⟨h.imp fun st H Q ⟨r, M, en, q⟩ => by
  unfold rdw at q
  cases e : r[i]? with
  | none => rw [e] at q; exact q.elim
  | some s =>
    rw [e] at q
    cases s with
    | no => exact q.elim
    | exc a => exact q.elim
    | sta => exact q.elim
    | box k ds =>
      cases k with
      | dic ks => exact q.elim
      | lst =>
      obtain ⟨l, vs, e2, m, hl, rv⟩ := en.slot i _ e
      exact ⟨_, e2, q _ H (Same.refl _) ⟨l, vs, rfl, SqL.of hl, rv⟩⟩
    | val d =>
      obtain ⟨v, e2, rv⟩ := en.slot i _ e
      exact ⟨v, e2, q v H (Same.refl _) rv.weak⟩⟩
theorem de_const {v : V} {d : D} (h : PE X e (tC v)) (k : ∀ M H, Rp X.K M H v d) : DE X W e (fun _ => .ok d) := ⟨h.imp fun st H Q ⟨r, M, en, q⟩ => q v H (Same.refl _) (k M H)⟩
theorem de_int {i j} : DE X W (.Constant (.int i) j pos) (fun _ => .ok (.int i)) := de_const pe_int fun _ _ => .int _
theorem de_bl {i j} : DE X W (.Constant (.bool i) j pos) (fun _ => .ok (.bool i)) := de_const pe_bl fun _ _ => .bl _
theorem de_non {j} : DE X W (.Constant .none j pos) (fun _ => .ok .none) := de_const pe_non fun _ _ => .non
theorem de_str {i j} : DE X W (.Constant (.str i) j pos) (fun _ => .ok (.str i)) := de_const pe_str fun _ _ => .str _

/-- a two-place rule of the layer, by data -/
def OpD (K : PySem.W.Frag) (W : PWs) (r : R2) (f : D → D → Res D) : Prop :=
  ∀ (M : MS) (st : Sg) (rh : Rho) (H : Hp) (x y : V) (d e : D) (Q : VK), En K M H st rh → Rw K M H x d → Rw K M H y e → Dem K Rp W M st H (f d e) Q → r x y H Q
def bin2 (f : D → D → Res D) (ga gb : Rho → Res D) (r : Rho) : Res D := (ga r).bind fun d => (gb r).bind fun e => f d e
theorem tOp_of {r2 : R2} {f : D → D → Res D} (o : OpD K W r2 f) {st : Sg} {H : Hp} {Q : VK} (h : tE K Rp W (bin2 f ga gb) st H Q) : tOp r2 (tE K Rw W ga) (tE K Rw W gb) st H Q := by
  obtain ⟨r, M, en, q⟩ := h
  refine ⟨r, M, en, Dem.then (R := Rp) (Ra := Rw) en q fun d v H1 _ s1 en1 r1 q1 => ?_⟩
  refine ⟨r, M, en1, Dem.then (R := Rp) (Ra := Rw) en1 q1 fun d2 v2 H2 _ s2 en2 r2' q2 => ?_⟩
  exact o M st r H2 v v2 d d2 Q en2 (r1.same s2) r2' q2
theorem de_op {op : Operator} {r2 : R2} {f : D → D → Res D} (ho : OpR X (binaryOp op) r2) (o : OpD X.K W r2 f) (ha : DW X W a ga) (hb : DW X W b gb) : DE X W (.BinOp a op b pos) (bin2 f ga gb) :=
  ⟨(pe_op ho ha.run hb.run).imp fun _ _ _ h => tOp_of o h⟩
theorem de_cmp {op : CmpOp} {r2 : R2} {f : D → D → Res D} (ho : OpR X (compareOp op) r2) (o : OpD X.K W r2 f) (ha : DW X W a ga) (hb : DW X W b gb) (hm : behindInMarks op b = false) : DE X W (.Compare a [op] [b] pos) (bin2 f ga gb) :=
  ⟨(pe_cmpR ho ha.run hb.run hm).imp fun _ _ _ h => tOp_of o h⟩
theorem de_ix {r2 : R2} {f : D → D → Res D} (ho : IxR X r2) (o : OpD X.K W r2 f) (ha : DW X W a ga) (hb : DW X W b gb) (hs : PlainIx b) : DE X W (.Subscript a b pos) (bin2 f ga gb) :=
  ⟨(pe_ix ho ha.run hb.run hs).imp fun _ _ _ h => tOp_of o h⟩

/-! ints -/
def iAdd : D → D → Res D
  | .int i, .int j => .ok (.int (i + j))
  | _, _ => .no
def iSub : D → D → Res D
  | .int i, .int j => .ok (.int (i - j))
  | _, _ => .no
def MulOk (i j : Int) : Prop := CMul i j ∨ CMulW i j
open Classical in
noncomputable def iMul : D → D → Res D
  | .int i, .int j => if MulOk i j then .ok (.int (i * j)) else .no
  | _, _ => .no
open Classical in
noncomputable def iDiv : D → D → Res D
  | .int i, .int j => if CDivW i j then .ok (.int (i / j)) else .no
  | _, _ => .no
def iMod : D → D → Res D
  | .int i, .int j => if 0 < j then .ok (.int (i % j)) else .no
  | _, _ => .no
def iCmp (p : Int → Int → Bool) : D → D → Res D
  | .int i, .int j => .ok (.bool (p i j))
  | _, _ => .no
theorem opd_int0 {h : Int → Int → Int} {f : D → D → Res D} (hf : ∀ i j, f (.int i) (.int j) = .ok (.int (h i j))) (hn : ∀ d e, (∀ i j, ¬ (d = .int i ∧ e = .int j)) → f d e = .no) : OpD K W (rI0 fun i j => .int (h i j)) f := by
  intro M st r H x y d e Q en rx ry q
  by_cases hc : ∃ i j, d = .int i ∧ e = .int j
  · obtain ⟨i, j, rfl, rfl⟩ := hc
    rw [hf] at q
    exact ⟨i, j, rx.int_, ry.int_, q _ H (Same.refl _) (.int _)⟩
  · rw [hn d e fun i j z => hc ⟨i, j, z⟩] at q
    exact q.elim
theorem opd_add : OpD K W (rI0 fun i j => .int (i + j)) iAdd := opd_int0 (fun _ _ => rfl) fun d e h => by
  cases d <;> cases e <;> first | rfl | exact absurd ⟨rfl, rfl⟩ (h _ _)
theorem opd_sub : OpD K W (rI0 fun i j => .int (i - j)) iSub := opd_int0 (fun _ _ => rfl) fun d e h => by
  cases d <;> cases e <;> first | rfl | exact absurd ⟨rfl, rfl⟩ (h _ _)
theorem opd_cmp (p : Int → Int → Bool) : OpD K W (rI0 fun i j => .bl (p i j)) (iCmp p) := by
  intro M st r H x y d e Q en rx ry q
  cases d <;> cases e <;> first | exact q.elim | exact ⟨_, _, rx.int_, ry.int_, q _ H (Same.refl _) (.bl _)⟩
theorem op_mul2 : OpR X (binaryOp .Mult) (fun x y H Q => rI CMul (fun i j => .int (i * j)) x y H Q ∨ rI CMulW (fun i j => .int (i * j)) x y H Q) := op_mul.or op_mulW
open Classical in
theorem opd_mul : OpD K W (fun x y H Q => rI CMul (fun i j => .int (i * j)) x y H Q ∨ rI CMulW (fun i j => .int (i * j)) x y H Q) iMul := by
  intro M st r H x y d e Q en rx ry q
  cases d <;> cases e <;> first
    | exact q.elim
    | (rename_i i j
       simp only [iMul] at q
       by_cases hc : MulOk i j
       · rw [if_pos hc] at q
         rcases hc with hc | hc
         · exact .inl ⟨_, _, rx.int_, ry.int_, hc, q _ H (Same.refl _) (.int _)⟩
         · exact .inr ⟨_, _, rx.int_, ry.int_, hc, q _ H (Same.refl _) (.int _)⟩
       · rw [if_neg hc] at q
         exact q.elim)
open Classical in
theorem opd_div : OpD K W (rI CDivW fun i j => .int (i / j)) iDiv := by
  intro M st r H x y d e Q en rx ry q
  cases d <;> cases e <;> first
    | exact q.elim
    | (rename_i i j
       simp only [iDiv] at q
       by_cases hc : CDivW i j
       · rw [if_pos hc] at q
         exact ⟨_, _, rx.int_, ry.int_, hc, q _ H (Same.refl _) (.int _)⟩
       · rw [if_neg hc] at q
         exact q.elim)
theorem opd_mod : OpD K W (rI (fun _ j => 0 < j) fun i j => .int (i % j)) iMod := by
  intro M st r H x y d e Q en rx ry q
  cases d <;> cases e <;> first
    | exact q.elim
    | (rename_i i j
       simp only [iMod] at q
       by_cases hc : 0 < j
       · rw [if_pos hc] at q
         exact ⟨_, _, rx.int_, ry.int_, hc, q _ H (Same.refl _) (.int _)⟩
       · rw [if_neg hc] at q
         exact q.elim)
theorem de_sub (ha : DW X W a ga) (hb : DW X W b gb) : DE X W (.BinOp a .Sub b pos) (bin2 iSub ga gb) := de_op op_sub opd_sub ha hb
theorem de_mul (ha : DW X W a ga) (hb : DW X W b gb) : DE X W (.BinOp a .Mult b pos) (bin2 iMul ga gb) := de_op op_mul2 opd_mul ha hb
theorem de_div (ha : DW X W a ga) (hb : DW X W b gb) : DE X W (.BinOp a .FloorDiv b pos) (bin2 iDiv ga gb) := de_op op_fdivW opd_div ha hb
theorem de_mod (ha : DW X W a ga) (hb : DW X W b gb) : DE X W (.BinOp a .Mod b pos) (bin2 iMod ga gb) := de_op op_mod opd_mod ha hb
theorem de_addI (ha : DW X W a ga) (hb : DW X W b gb) : DE X W (.BinOp a .Add b pos) (bin2 iAdd ga gb) := de_op op_add opd_add ha hb
theorem de_lt (ha : DW X W a ga) (hb : DW X W b gb) : DE X W (.Compare a [.Lt] [b] pos) (bin2 (iCmp fun i j => decide (i < j)) ga gb) := de_cmp op_lt (opd_cmp _) ha hb (nomark _)
theorem de_le (ha : DW X W a ga) (hb : DW X W b gb) : DE X W (.Compare a [.LtE] [b] pos) (bin2 (iCmp fun i j => decide (i ≤ j)) ga gb) := de_cmp op_le (opd_cmp _) ha hb (nomark _)
theorem de_gt (ha : DW X W a ga) (hb : DW X W b gb) : DE X W (.Compare a [.Gt] [b] pos) (bin2 (iCmp fun i j => decide (j < i)) ga gb) := de_cmp op_gt (opd_cmp _) ha hb (nomark _)
theorem de_ge (ha : DW X W a ga) (hb : DW X W b gb) : DE X W (.Compare a [.GtE] [b] pos) (bin2 (iCmp fun i j => decide (j ≤ i)) ga gb) := de_cmp op_ge (opd_cmp _) ha hb (nomark _)
end
end PD

namespace PD
open PySem PySem.Spec PyProof.Rows L2
variable {K : PySem.W.Frag}
section
variable {X : Cx} {W : PWs} {e a b c : Expr} {es : List Expr} {g ga gb gc : Rho → Res D} {gl : Rho → Res (List D)} {gt gu : Rho → Res Bool} {pos p : Pos}

/-! ### tests -/
def asB : D → Res Bool
  | .bool b => .ok b
  | _ => .no
def tru : D → Res Bool
  | .none => .ok false
  | .bool b => .ok b
  | .int i => .ok (i != 0)
  | .list ds => .ok (!ds.isEmpty)
  | .tuple ds => .ok (!ds.isEmpty)
  | _ => .no
def thn1 (g : Rho → Res D) (k : D → Res Bool) (r : Rho) : Res Bool := (g r).bind k
theorem dt_tb {R : RR} (hR : ∀ {M H v b}, R X.K M H v (.bool b) → v = .bl b) (h : PT X e (tB (tE X.K R W g))) : DT X W e (thn1 g asB) := ⟨h.imp fun st H Q ⟨r, M, en, q⟩ =>
  ⟨r, M, en, Dem.thenT en q fun d v H1 _ s1 en1 r1 q1 => by
    cases d <;> first
      | exact q1.elim
      | exact ⟨_, hR r1, q1 H1 (Same.refl _)⟩⟩⟩
theorem dt_cmp {op : CmpOp} {r2 : R2} {f : D → D → Res D} (ho : OpR X (compareOp op) r2) (o : OpD X.K W r2 f) (ha : DW X W a ga) (hb : DW X W b gb) (hm : behindInMarks op b = false) : DT X W (.Compare a [op] [b] pos) (thn1 (bin2 f ga gb) asB) :=
  dt_tb (R := Rp) (fun h => h.weak.bool_) ((pt_cmpR ho ha.run hb.run hm).imp fun _ _ _ h => tOp_of o h)
/-- an expression whose value is a bool -/
theorem dt_val (h : DE X W e g) (he : ∀ whole, isTrue e X.env whole = (do let v ← whole; standAt e.pos; holding [v] (truthy v)) := by intro _; rfl) : DT X W e (thn1 g asB) :=
  dt_tb (R := Rp) (fun h => h.weak.bool_) (pt_val h.run he)
theorem tru_ok' {M : MS} {H : Hp} {v : V} {d : D} {k : Bool} (h : Rw K M H v d) (e : tru d = .ok k) : TruV K v H k := by
  cases d with
  | none => rw [h.none_]; cases e; exact rfl
  | bool b => rw [h.bool_]; cases e; exact rfl
  | int i => rw [h.int_]; cases e; exact rfl
  | str x => cases e
  | list ds =>
    obtain ⟨a, xs, rfl, r, l⟩ := h.lst_
    cases e
    exact .inl ⟨xs, r, by rw [l.nil_iff]⟩
  | tuple ds =>
    obtain ⟨a, xs, rfl, r, l, _⟩ := h.tup_
    cases e
    exact .inr (.inl ⟨xs, .inl r, by rw [l.nil_iff]⟩)
  | dict ds => cases e
theorem dt_tru (h : DW X W e g) (he : ∀ whole, isTrue e X.env whole = (do let v ← whole; standAt e.pos; holding [v] (truthy v)) := by intro _; rfl) : DT X W e (thn1 g tru) :=
  ⟨(pt_truth h.run he).imp fun st H Q ⟨r, M, en, q⟩ => ⟨r, M, en, Dem.thenT en q fun d v H1 _ s1 en1 r1 q1 => by
    cases e : tru d with
    | ok k => rw [e] at q1; exact ⟨k, tru_ok' r1 e, q1 H1 (Same.refl _)⟩
    | ex c => cases d <;> cases e
    | no => rw [e] at q1; exact q1.elim⟩⟩
def notT (gt : Rho → Res Bool) (r : Rho) : Res Bool := (gt r).bind fun c => .ok (!c)
def andT (gt gu : Rho → Res Bool) (r : Rho) : Res Bool := (gt r).bind fun c => if c then gu r else .ok false
def orT (gt gu : Rho → Res Bool) (r : Rho) : Res Bool := (gt r).bind fun c => if c then .ok true else gu r
theorem dt_not (h : DT X W a gt) : DT X W (.UnaryOp .Not a pos) (notT gt) :=
  ⟨(pt_not h.run).imp fun st H Q ⟨r, M, en, q⟩ => ⟨r, M, en, DemT.thenT en q fun d H1 _ s1 en1 q1 => q1 H1 (Same.refl _)⟩⟩
structure DP (X : Cx) (W : PWs) (e : Expr) (g : Rho → Res Bool) : Prop where
  run : PW X e (tT X.K W g)
theorem DP.dt (h : DP X W e gt) : DT X W e gt := ⟨h.run.pt⟩
theorem dp_and1 (h : DT X W a gt) : DP X W (.BoolOp .And [a] pos) gt := ⟨pw_and1 h.run⟩
theorem dp_or1 (h : DT X W a gt) : DP X W (.BoolOp .Or [a] pos) gt := ⟨pw_or1 h.run⟩
theorem dp_and {rest : List Expr} (ha : DT X W a gt) (hb : DP X W (.BoolOp .And (b :: rest) pos) gu) : DP X W (.BoolOp .And (a :: b :: rest) pos) (andT gt gu) :=
  ⟨(pw_and ha.run hb.run).imp fun st H Q ⟨r, M, en, q⟩ => ⟨r, M, en, DemT.thenT en q fun d H1 _ s1 en1 q1 => by
    cases d with
    | true => exact ⟨r, M, en1, q1⟩
    | false => exact q1 H1 (Same.refl _)⟩⟩
theorem dp_or {rest : List Expr} (ha : DT X W a gt) (hb : DP X W (.BoolOp .Or (b :: rest) pos) gu) : DP X W (.BoolOp .Or (a :: b :: rest) pos) (orT gt gu) :=
  ⟨(pw_or ha.run hb.run).imp fun st H Q ⟨r, M, en, q⟩ => ⟨r, M, en, DemT.thenT en q fun d H1 _ s1 en1 q1 => by
    cases d with
    | true => exact q1 H1 (Same.refl _)
    | false => exact ⟨r, M, en1, q1⟩⟩⟩
/-! as values -/
def andV (ga gb : Rho → Res D) (r : Rho) : Res D := (ga r).bind fun d => (asB d).bind fun c => if c then gb r else .ok (.bool false)
def orV (ga gb : Rho → Res D) (r : Rho) : Res D := (ga r).bind fun d => (asB d).bind fun c => if c then .ok (.bool true) else gb r
def notV (ga : Rho → Res D) (r : Rho) : Res D := (ga r).bind fun d => (asB d).bind fun c => .ok (.bool (!c))
theorem de_one {op} (h : DE X W a ga) : DE X W (.BoolOp op [a] pos) ga := ⟨pe_one h.run⟩
theorem de_and {rest : List Expr} (ha : DE X W a ga) (hb : DE X W (.BoolOp .And (b :: rest) pos) gb) : DE X W (.BoolOp .And (a :: b :: rest) pos) (andV ga gb) :=
  ⟨(pe_and ha.run hb.run).imp fun st H Q ⟨r, M, en, q⟩ => ⟨r, M, en, Dem.then en q fun d v H1 hg s1 en1 r1 q1 => by
    clear hg
    cases d <;> first
      | exact q1.elim
      | (rename_i k
         refine ⟨k, r1.weak.bool_, ?_⟩
         cases k with
         | true => exact ⟨r, M, en1, q1⟩
         | false => exact q1 _ H1 (Same.refl _) (.bl _))⟩⟩
theorem de_or {rest : List Expr} (ha : DE X W a ga) (hb : DE X W (.BoolOp .Or (b :: rest) pos) gb) : DE X W (.BoolOp .Or (a :: b :: rest) pos) (orV ga gb) :=
  ⟨(pe_or ha.run hb.run).imp fun st H Q ⟨r, M, en, q⟩ => ⟨r, M, en, Dem.then en q fun d v H1 hg s1 en1 r1 q1 => by
    clear hg
    cases d <;> first
      | exact q1.elim
      | (rename_i k
         refine ⟨k, r1.weak.bool_, ?_⟩
         cases k with
         | false => exact ⟨r, M, en1, q1⟩
         | true => exact q1 _ H1 (Same.refl _) (.bl _))⟩⟩
theorem de_not (ha : DE X W a ga) : DE X W (.UnaryOp .Not a pos) (notV ga) :=
  ⟨(pe_not ha.run).imp fun st H Q ⟨r, M, en, q⟩ => ⟨r, M, en, Dem.then en q fun d v H1 _ s1 en1 r1 q1 => by
    cases d <;> first
      | exact q1.elim
      | exact ⟨_, r1.weak.bool_, q1 _ H1 (Same.refl _) (.bl _)⟩⟩⟩
def ifV (gt : Rho → Res Bool) (ga gb : Rho → Res D) (r : Rho) : Res D := (gt r).bind fun c => if c then ga r else gb r
theorem de_if (hc : DT X W c gt) (ha : DE X W a ga) (hb : DE X W b gb) : DE X W (.IfExp c a b pos) (ifV gt ga gb) :=
  ⟨(pe_ifExp hc.run ha.run hb.run).imp fun st H Q ⟨r, M, en, q⟩ => ⟨r, M, en, DemT.then en q fun d H1 _ s1 en1 q1 => by
    cases d with
    | true => exact ⟨r, M, en1, q1⟩
    | false => exact ⟨r, M, en1, q1⟩⟩⟩
def negI : D → Res D
  | .int i => .ok (.int (-i))
  | _ => .no
def then1 (g : Rho → Res D) (k : D → Res D) (r : Rho) : Res D := (g r).bind k
theorem de_neg (ha : DW X W a ga) : DE X W (.UnaryOp .USub a pos) (then1 ga negI) :=
  ⟨(pe_un un_neg ha.run).imp fun st H Q ⟨r, M, en, q⟩ => ⟨r, M, en, Dem.then en q fun d v H1 _ s1 en1 r1 q1 => by
    cases d <;> first
      | exact q1.elim
      | exact ⟨_, r1.int_, q1 _ H1 (Same.refl _) (.int _)⟩⟩⟩
/-- is None, is not None -/
def isN : D → Bool
  | .none => true
  | _ => false
theorem isN_ok {M : MS} {H : Hp} {v : V} {d : D} (h : Rw K M H v d) : decide (v = .non) = isN d := by
  cases d with
  | none => rw [h.none_]; rfl
  | bool b => rw [h.bool_]; rfl
  | int i => rw [h.int_]; rfl
  | str x => rw [h.str_]; rfl
  | list ds => obtain ⟨a, xs, rfl, _⟩ := h.lst_; rfl
  | tuple ds => obtain ⟨a, xs, rfl, _⟩ := h.tup_; rfl
  | dict ds => cases (show Rp K M H v (.dict ds) from h)
theorem de_isN {j pos'} (ha : DW X W a ga) : DE X W (.Compare a [.Is] [.Constant .none j pos'] pos) (then1 ga fun d => .ok (.bool (isN d))) :=
  ⟨(pe_cmp (pc_isN ha.run)).imp fun st H Q ⟨r, M, en, q⟩ => ⟨r, M, en, Dem.then en q fun d v H1 _ s1 en1 r1 q1 => q1 _ H1 (Same.refl _) (by rw [isN_ok r1]; exact .bl _)⟩⟩
theorem de_notN {j pos'} (ha : DW X W a ga) : DE X W (.Compare a [.IsNot] [.Constant .none j pos'] pos) (then1 ga fun d => .ok (.bool (!isN d))) :=
  ⟨(pe_cmp (pc_notN ha.run)).imp fun st H Q ⟨r, M, en, q⟩ => ⟨r, M, en, Dem.then en q fun d v H1 _ s1 en1 r1 q1 => q1 _ H1 (Same.refl _) (by rw [isN_ok r1]; exact .bl _)⟩⟩
theorem dt_isN {j pos'} (ha : DW X W a ga) : DT X W (.Compare a [.Is] [.Constant .none j pos'] pos) (thn1 (then1 ga fun d => .ok (.bool (isN d))) asB) :=
  dt_tb (R := Rp) (fun h => h.weak.bool_) ((pt_cmp (pc_isN ha.run)).imp fun st H Q ⟨r, M, en, q⟩ => ⟨r, M, en, Dem.then en q fun d v H1 _ s1 en1 r1 q1 => q1 _ H1 (Same.refl _) (by rw [isN_ok r1]; exact .bl _)⟩)
theorem dt_notN {j pos'} (ha : DW X W a ga) : DT X W (.Compare a [.IsNot] [.Constant .none j pos'] pos) (thn1 (then1 ga fun d => .ok (.bool (!isN d))) asB) :=
  dt_tb (R := Rp) (fun h => h.weak.bool_) ((pt_cmp (pc_notN ha.run)).imp fun st H Q ⟨r, M, en, q⟩ => ⟨r, M, en, Dem.then en q fun d v H1 _ s1 en1 r1 q1 => q1 _ H1 (Same.refl _) (by rw [isN_ok r1]; exact .bl _)⟩)

/-! ### comparisons as tests -/
theorem dt_lt (ha : DW X W a ga) (hb : DW X W b gb) : DT X W (.Compare a [.Lt] [b] pos) (thn1 (bin2 (iCmp fun i j => decide (i < j)) ga gb) asB) := dt_cmp op_lt (opd_cmp _) ha hb (nomark _)
theorem dt_le (ha : DW X W a ga) (hb : DW X W b gb) : DT X W (.Compare a [.LtE] [b] pos) (thn1 (bin2 (iCmp fun i j => decide (i ≤ j)) ga gb) asB) := dt_cmp op_le (opd_cmp _) ha hb (nomark _)
theorem dt_gt (ha : DW X W a ga) (hb : DW X W b gb) : DT X W (.Compare a [.Gt] [b] pos) (thn1 (bin2 (iCmp fun i j => decide (j < i)) ga gb) asB) := dt_cmp op_gt (opd_cmp _) ha hb (nomark _)
theorem dt_ge (ha : DW X W a ga) (hb : DW X W b gb) : DT X W (.Compare a [.GtE] [b] pos) (thn1 (bin2 (iCmp fun i j => decide (j ≤ i)) ga gb) asB) := dt_cmp op_ge (opd_cmp _) ha hb (nomark _)
def qEq (d e : D) : Res D := if SeqAt.shaped d = true ∧ SeqAt.shaped e = true then .ok (.bool (PyData.eqv d e)) else .no
def qNe (d e : D) : Res D := if SeqAt.shaped d = true ∧ SeqAt.shaped e = true then .ok (.bool (!PyData.eqv d e)) else .no
theorem opd_eq : OpD K W (rEqD K) qEq := by
  intro M st r H x y d e Q en rx ry q
  unfold qEq at q
  by_cases hc : SeqAt.shaped d = true ∧ SeqAt.shaped e = true
  · rw [if_pos hc] at q
    exact ⟨d, e, rx.dp, ry.dp, hc.1, hc.2, q _ H (Same.refl _) (.bl _)⟩
  · rw [if_neg hc] at q
    exact q.elim
theorem opd_ne : OpD K W (rNeD K) qNe := by
  intro M st r H x y d e Q en rx ry q
  unfold qNe at q
  by_cases hc : SeqAt.shaped d = true ∧ SeqAt.shaped e = true
  · rw [if_pos hc] at q
    exact ⟨d, e, rx.dp, ry.dp, hc.1, hc.2, q _ H (Same.refl _) (.bl _)⟩
  · rw [if_neg hc] at q
    exact q.elim
theorem de_eq (hu : X.A.units + 64 < cLine) (ha : DW X W a ga) (hb : DW X W b gb) : DE X W (.Compare a [.Eq] [b] pos) (bin2 qEq ga gb) := de_cmp (op_eqD hu) opd_eq ha hb (nomark _)
theorem de_ne (hu : X.A.units + 64 < cLine) (ha : DW X W a ga) (hb : DW X W b gb) : DE X W (.Compare a [.NotEq] [b] pos) (bin2 qNe ga gb) := de_cmp (op_neD hu) opd_ne ha hb (nomark _)
theorem dt_eq (hu : X.A.units + 64 < cLine) (ha : DW X W a ga) (hb : DW X W b gb) : DT X W (.Compare a [.Eq] [b] pos) (thn1 (bin2 qEq ga gb) asB) := dt_cmp (op_eqD hu) opd_eq ha hb (nomark _)
theorem dt_ne (hu : X.A.units + 64 < cLine) (ha : DW X W a ga) (hb : DW X W b gb) : DT X W (.Compare a [.NotEq] [b] pos) (thn1 (bin2 qNe ga gb) asB) := dt_cmp (op_neD hu) opd_ne ha hb (nomark _)

/-! ### in, not in, over flat items -/
def flatD : D → Bool
  | .none => true
  | .bool _ => true
  | .int _ => true
  | .str _ => true
  | _ => false
theorem flat_ok {M : MS} {H : Hp} {v : V} {d : D} (h : Rw K M H v d) (f : flatD d = true) : flatV v = true := by
  cases d with
  | none => rw [h.none_]; rfl
  | bool b => rw [h.bool_]; rfl
  | int i => rw [h.int_]; rfl
  | str x => rw [h.str_]; rfl
  | list ds => cases f
  | tuple ds => cases f
  | dict ds => cases f
theorem eqV_ok {M : MS} {H : Hp} {v w : V} {d e : D} (h : Rw K M H v d) (h' : Rw K M H w e) (f : flatD d = true) (f' : flatD e = true) : eqV v w = PyData.eqv d e := by
  cases d with
  | none => rw [h.none_]; cases e <;> first | (rw [h'.none_]; simp only [eqV, PyData.eqv]) | (rw [h'.bool_]; simp only [eqV, PyData.eqv]) | (rw [h'.int_]; simp only [eqV, PyData.eqv]) | (rw [h'.str_]; simp only [eqV, PyData.eqv]) | cases f'
  | bool b => rw [h.bool_]; cases e <;> first | (rw [h'.none_]; simp only [eqV, PyData.eqv]) | (rw [h'.bool_]; simp only [eqV, PyData.eqv]) | (rw [h'.int_]; simp only [eqV, PyData.eqv]) | (rw [h'.str_]; simp only [eqV, PyData.eqv]) | cases f'
  | int i => rw [h.int_]; cases e <;> first | (rw [h'.none_]; simp only [eqV, PyData.eqv]) | (rw [h'.bool_]; simp only [eqV, PyData.eqv]) | (rw [h'.int_]; simp only [eqV, PyData.eqv]) | (rw [h'.str_]; simp only [eqV, PyData.eqv]) | cases f'
  | str x => rw [h.str_]; cases e <;> first | (rw [h'.none_]; simp only [eqV, PyData.eqv]) | (rw [h'.bool_]; simp only [eqV, PyData.eqv]) | (rw [h'.int_]; simp only [eqV, PyData.eqv]) | (rw [h'.str_]; simp only [eqV, PyData.eqv]) | cases f'
  | list ds => cases f
  | tuple ds => cases f
  | dict ds => cases f
theorem flatL_ok {M : MS} {H : Hp} : ∀ {vs : List V} {ds : List D}, RpL K M H vs ds → ds.all flatD = true → vs.all flatV = true
  | _, _, .nil, _ => rfl
  | _, _, .cons a t, f => by
    rw [List.all_cons, Bool.and_eq_true] at f ⊢
    exact ⟨flat_ok a.weak f.1, flatL_ok t f.2⟩
theorem inV_ok {M : MS} {H : Hp} {v : V} {d : D} (h : Rw K M H v d) (f : flatD d = true) : ∀ {vs : List V} {ds : List D}, RpL K M H vs ds → ds.all flatD = true → inV v vs = ds.any fun y => PyData.eqv y d
  | _, _, .nil, _ => rfl
  | _, _, .cons a t, fs => by
    rw [List.all_cons, Bool.and_eq_true] at fs
    have ih := inV_ok h f t fs.2
    unfold inV at ih ⊢
    rw [List.any_cons, List.any_cons, ih, eqV_ok a.weak h fs.1 f]
def items : D → Option (List D)
  | .list ds => some ds
  | .tuple ds => some ds
  | _ => none
def qIn (neg : Bool) (d e : D) : Res D := match items e with
  | some ds => if flatD d = true ∧ ds.all flatD = true then .ok (.bool (if neg then !(ds.any fun y => PyData.eqv y d) else ds.any fun y => PyData.eqv y d)) else .no
  | none => .no
theorem opd_in {neg : Bool} : OpD K W (rIn K neg) (qIn neg) := by
  intro M st r H x y d e Q en rx ry q
  unfold qIn at q
  cases e with
  | list ds =>
    obtain ⟨a, xs, rfl, rr, l⟩ := ry.lst_
    simp only [items] at q
    by_cases hc : flatD d = true ∧ ds.all flatD = true
    · rw [if_pos hc] at q
      exact ⟨a, xs, rfl, .inl rr, flat_ok rx hc.1, flatL_ok l hc.2, q _ H (Same.refl _) (by rw [inV_ok rx hc.1 l hc.2]; exact .bl _)⟩
    · rw [if_neg hc] at q
      exact q.elim
  | tuple ds =>
    obtain ⟨a, xs, rfl, rr, l, _⟩ := ry.tup_
    simp only [items] at q
    by_cases hc : flatD d = true ∧ ds.all flatD = true
    · rw [if_pos hc] at q
      exact ⟨a, xs, rfl, .inr (.inl rr), flat_ok rx hc.1, flatL_ok l hc.2, q _ H (Same.refl _) (by rw [inV_ok rx hc.1 l hc.2]; exact .bl _)⟩
    · rw [if_neg hc] at q
      exact q.elim
  | none => exact q.elim
  | bool => exact q.elim
  | int => exact q.elim
  | str => exact q.elim
  | dict => exact q.elim
theorem de_in (ha : DW X W a ga) (hb : DW X W b gb) (hm : behindInMarks .In b = false := by rfl) : DE X W (.Compare a [.In] [b] pos) (bin2 (qIn false) ga gb) := de_cmp op_in_seq opd_in ha hb hm
theorem dt_in (ha : DW X W a ga) (hb : DW X W b gb) (hm : behindInMarks .In b = false := by rfl) : DT X W (.Compare a [.In] [b] pos) (thn1 (bin2 (qIn false) ga gb) asB) := dt_cmp op_in_seq opd_in ha hb hm
theorem de_notin (ha : DW X W a ga) (hb : DW X W b gb) (hm : behindInMarks .NotIn b = false := by rfl) : DE X W (.Compare a [.NotIn] [b] pos) (bin2 (qIn true) ga gb) := de_cmp op_notIn_seq opd_in ha hb hm
theorem dt_notin (ha : DW X W a ga) (hb : DW X W b gb) (hm : behindInMarks .NotIn b = false := by rfl) : DT X W (.Compare a [.NotIn] [b] pos) (thn1 (bin2 (qIn true) ga gb) asB) := dt_cmp op_notIn_seq opd_in ha hb hm

/-! ### items -/
def qIx (d e : D) : Res D := match items d, e with
  | some ds, .int i => match atI ds i with
    | some z => .ok z
    | none => .no
  | _, _ => .no
theorem atI_ok {M : MS} {H : Hp} {vs : List V} {ds : List D} {i : Int} {d : D} (l : RpL K M H vs ds) (h : atI ds i = some d) : ∃ v, atI vs i = some v ∧ Rp K M H v d := by
  unfold atI at h ⊢
  rw [← l.length] at h
  cases e : ixN vs.length i with
  | none => rw [e] at h; cases h
  | some j =>
    rw [e] at h
    obtain ⟨v, h1, h2⟩ := l.get (show ds[j]? = some d from h)
    exact ⟨v, h1, h2⟩
theorem ix_lt : IxR X (fun x y H Q => rIxL X.K x y H Q ∨ rIxT X.K x y H Q) := ix_list.or ix_tup
theorem opd_ix : OpD K W (fun x y H Q => rIxL K x y H Q ∨ rIxT K x y H Q) qIx := by
  intro M st r H x y d e Q en rx ry q
  cases d with
  | list ds =>
    obtain ⟨a, xs, rfl, rr, l⟩ := rx.lst_
    cases e <;> first
      | exact q.elim
      | (rename_i i
         simp only [qIx, items] at q
         cases h : atI ds i with
         | none => rw [h] at q; exact q.elim
         | some z =>
           rw [h] at q
           obtain ⟨v, h1, h2⟩ := atI_ok l h
           exact .inl ⟨a, xs, i, v, rfl, ry.int_, rr, h1, q v H (Same.refl _) h2⟩)
  | tuple ds =>
    obtain ⟨a, xs, rfl, rr, l, _⟩ := rx.tup_
    cases e <;> first
      | exact q.elim
      | (rename_i i
         simp only [qIx, items] at q
         cases h : atI ds i with
         | none => rw [h] at q; exact q.elim
         | some z =>
           rw [h] at q
           obtain ⟨v, h1, h2⟩ := atI_ok l h
           exact .inr ⟨a, xs, i, v, rfl, ry.int_, .inl rr, h1, q v H (Same.refl _) h2⟩)
  | none => exact q.elim
  | bool => exact q.elim
  | int => exact q.elim
  | str => exact q.elim
  | dict => exact q.elim
theorem de_at (ha : DW X W a ga) (hb : DW X W b gb) (hs : PlainIx b := by exact fun _ _ => rfl) : DE X W (.Subscript a b pos) (bin2 qIx ga gb) := de_ix ix_lt opd_ix ha hb hs

/-! ### slices -/
def cutD {α : Type} (xs : List α) (lo hi : Option Int) : List α := (xs.drop (HT.sIx xs.length 0 lo)).take (HT.sIx xs.length xs.length hi - HT.sIx xs.length 0 lo)
def DemO (W : PWs) (st : Sg) (H : Hp) (r : Res (Option Int)) (Q : Option Int → Hp → Prop) : Prop :=
  match r with
  | .ok d => ∀ H', Same H H' → Q d H'
  | .ex c => ∀ H', Same H H' → W c st H'
  | .no => False
def tO (K : PySem.W.Frag) (W : PWs) (g : Rho → Res (Option Int)) : TO := fun st H Q => ∃ r M, En K M H st r ∧ DemO W st H (g r) Q
structure DO (X : Cx) (W : PWs) (e : Option Expr) (g : Rho → Res (Option Int)) : Prop where
  run : PO X e (tO X.K W g)
theorem do_none : DO X W none (fun _ => .ok none) := ⟨⟨fun pins s st H Q I ⟨r, M, en, q⟩ => po_none.run pins s st H Q I (q H (Same.refl _))⟩⟩
def asI : D → Res (Option Int)
  | .int i => .ok (some i)
  | _ => .no
def optI (g : Rho → Res D) (r : Rho) : Res (Option Int) := (g r).bind asI
theorem do_some (h : DW X W e g) : DO X W (some e) (optI g) := ⟨⟨fun pins s st H Q I ⟨r, M, en, q⟩ => (po_some h.run).run pins s st H Q I (by
  refine ⟨r, M, en, ?_⟩
  unfold optI at q
  cases hg : g r with
  | ok d =>
    rw [hg] at q
    clear hg
    cases d <;> first
      | exact q.elim
      | exact fun v H1 s1 r1 => ⟨_, r1.int_, q H1 s1⟩
  | ex c => rw [hg] at q; exact q
  | no => rw [hg] at q; exact q)⟩⟩
def qCut (d : D) (lo hi : Option Int) : Res D := match d with
  | .list ds => .ok (.list (cutD ds lo hi))
  | .tuple ds => .ok (.tuple (cutD ds lo hi))
  | _ => .no
def cut3 (g : Rho → Res D) (gl gh : Rho → Res (Option Int)) (r : Rho) : Res D := (g r).bind fun d => (gl r).bind fun lo => (gh r).bind fun hi => qCut d lo hi
theorem sl_both : L2.SlR X (fun x lo hi H Q => rSlL X.K x lo hi H Q ∨ rSlA X.K x lo hi H Q) := sl_list.or sl_tupA
theorem RpL.cut {M : MS} {H : Hp} {vs : List V} {ds : List D} (l : RpL K M H vs ds) (lo hi : Option Int) : RpL K M H (cutV vs lo hi) (cutD ds lo hi) := by
  unfold cutV cutD
  rw [l.length]
  exact (l.drop _).take _
theorem cutV_all (xs : List V) (lo hi : Option Int) (h : HT.sIx xs.length 0 lo = 0 ∧ HT.sIx xs.length xs.length hi = xs.length) : cutV xs lo hi = xs := by
  unfold cutV
  rw [h.1, h.2]
  simp
theorem de_slice {p2 : Pos} {lo hi : Option Expr} {gl gh : Rho → Res (Option Int)} (he : DW X W e g) (hl : DO X W lo gl) (hh : DO X W hi gh) : DE X W (.Subscript e (.Slice lo hi none p2) pos) (cut3 g gl gh) := by
  refine ⟨(pe_slice sl_both he.run hl.run hh.run).imp fun st H Q ⟨r, M, en, q⟩ => ⟨r, M, en, Dem.then en q fun d v H1 _ s1 en1 r1 q1 => ?_⟩⟩
  refine ⟨r, M, en1, ?_⟩
  cases hg : gl r with
  | ex c => rw [hg] at q1; exact q1
  | no => rw [hg] at q1; exact q1
  | ok o =>
    rw [hg] at q1
    refine fun H2 s2 => ⟨r, M, en1.same s2, ?_⟩
    have q2 : Dem X.K Rp W M st H2 ((gh r).bind fun hi => qCut d o hi) Q := Dem.ext q1 s2
    cases hg2 : gh r with
    | ex c => rw [hg2] at q2; exact q2
    | no => rw [hg2] at q2; exact q2
    | ok o2 =>
      rw [hg2] at q2
      intro H3 s3
      have q3 : Dem X.K Rp W M st H3 (qCut d o o2) Q := Dem.ext q2 s3
      have r3 := (r1.same s2).same s3
      have en3 := (en1.same s2).same s3
      cases d with
      | list ds =>
        obtain ⟨a, xs, rfl, rr, l⟩ := r3.lst_
        exact .inl ⟨a, xs, rfl, rr, fun p hp => q3 _ _ (same_upd hp) (.lst (en3.fresh hp) (.inl upd_same) ((l.cut o o2).same (same_upd hp)))⟩
      | tuple ds =>
        obtain ⟨a, xs, rfl, rr, l, nm⟩ := r3.tup_
        refine .inr ⟨a, xs, rfl, .inl rr, fun hw => ?_, fun hw p hp => q3 _ _ (same_upd hp) (.tup (en3.fresh hp) (.inl upd_same) ((l.cut o o2).same (same_upd hp)))⟩
        have l' := l.cut o o2
        rw [cutV_all xs o o2 hw] at l'
        exact q3 _ _ (Same.refl _) (.tup nm rr l')
      | none => exact q3.elim
      | bool => exact q3.elim
      | int => exact q3.elim
      | str => exact q3.elim
      | dict => exact q3.elim

/-! ### + of ints, tuples, lists -/
def rCatL (K : PySem.W.Frag) : R2 := fun x y H Q => ∃ l b xs zs, x = .ref l ∧ y = .ref b ∧ SqL K H l xs ∧ SqL K H b zs ∧ xs.length + zs.length ≤ sizeLine ∧ ∀ p, H p = none → Q (.ref p) (upd H p (.lst (xs ++ zs)))
theorem op_catL : OpR X (binaryOp .Add) (rCatL X.K) := by
  intro pins s st H x y v u Q I rx ry h
  obtain ⟨l, b, xs, zs, rfl, rfl, hH, hB, hz, q⟩ := h
  cases rx
  cases ry
  obtain ⟨its, r, ⟨o, n, eo, hc, hd, hs⟩, _⟩ := I.list hH
  obtain ⟨its2, r2, ⟨o2, n2, eo2, hc2, hd2, hs2⟩, _⟩ := I.list hB
  obtain ⟨oc, od, ot, osl⟩ := o
  obtain ⟨oc2, od2, ot2, osl2⟩ := o2
  simp only at hc hd hs hc2 hd2 hs2
  subst hc hd hs hc2 hd2 hs2
  have e : its.toArray ++ its2.toArray = (its ++ its2).toArray := by simp
  refine concat_meets ⟨_, eo, rfl⟩ ⟨_, eo2, rfl⟩ noFill_list_add seq_list_add PySem.F.slot_list_add PySem.F.entry_list_add (PySem.F.args_list_add_2 _ _) (PyProof.Rows.list_addW l b its.toArray its2.toArray n n2 none none osl osl2 (by have h1 := r.length; have h2 := r2.length; simp only [List.size_toArray]; omega)) ⟨eo, eo2, ?_⟩
  rw [e]
  exact ⟨.ref _, _, I.lnew (t' := s.toks) (r.append r2) (by rw [List.length_append]; omega), rfl, q _ I.fresh⟩
def pAdd : D → D → Res D
  | .int i, .int j => .ok (.int (i + j))
  | .tuple a, .tuple b => if a.length + b.length ≤ 16777216 then .ok (.tuple (a ++ b)) else .no
  | .list a, .list b => if a.length + b.length ≤ 16777216 then .ok (.list (a ++ b)) else .no
  | _, _ => .no
def rPlus (K : PySem.W.Frag) : R2 := fun x y H Q => rI0 (fun i j => .int (i + j)) x y H Q ∨ (rCatA K x y H Q ∨ rCatL K x y H Q)
theorem op_plus : OpR X (binaryOp .Add) (rPlus X.K) := op_add.or (op_catA.or op_catL)
theorem RpL.isnil {M : MS} {H : Hp} {vs : List V} {ds : List D} (l : RpL K M H vs ds) : vs = [] ↔ ds = [] := by
  cases l with
  | nil => simp
  | cons a b => simp
theorem opd_plus : OpD K W (rPlus K) pAdd := by
  intro M st r H x y d e Q en rx ry q
  have sz : sizeLine = 16777216 := sizeLine_eq
  cases d with
  | int i =>
    cases e <;> first
      | exact q.elim
      | exact .inl ⟨_, _, rx.int_, ry.int_, q _ H (Same.refl _) (.int _)⟩
  | tuple ds =>
    cases e <;> first
      | exact q.elim
      | (rename_i es
         obtain ⟨a, xs, rfl, rr, l, nm⟩ := rx.tup_
         obtain ⟨b, ys, rfl, rr2, l2, nm2⟩ := ry.tup_
         simp only [pAdd] at q
         by_cases hc : ds.length + es.length ≤ 16777216
         · rw [if_pos hc] at q
           refine .inr (.inl ⟨a, b, xs, ys, rfl, rfl, .inl rr, .inl rr2, by rw [l.length, l2.length, sz]; exact hc, fun h0 => ?_, fun h0 h1 => ?_, fun h0 h1 p hp => ?_⟩)
           · have z := l.isnil.mp h0
             subst z
             exact q _ H (Same.refl _) (.tup nm2 rr2 l2)
           · have z := l2.isnil.mp h1
             subst z
             rw [List.append_nil] at q
             exact q _ H (Same.refl _) (.tup nm rr l)
           · exact q _ _ (same_upd hp) (.tup (en.fresh hp) (.inl upd_same) ((l.app l2).same (same_upd hp)))
         · rw [if_neg hc] at q
           exact q.elim)
  | list ds =>
    cases e <;> first
      | exact q.elim
      | (rename_i es
         obtain ⟨a, xs, rfl, rr, l⟩ := rx.lst_
         obtain ⟨b, ys, rfl, rr2, l2⟩ := ry.lst_
         simp only [pAdd] at q
         by_cases hc : ds.length + es.length ≤ 16777216
         · rw [if_pos hc] at q
           refine .inr (.inr ⟨a, b, xs, ys, rfl, rfl, rr, rr2, by rw [l.length, l2.length, sz]; exact hc, fun p hp => ?_⟩)
           exact q _ _ (same_upd hp) (.lst (en.fresh hp) (.inl upd_same) ((l.app l2).same (same_upd hp)))
         · rw [if_neg hc] at q
           exact q.elim)
  | none => exact q.elim
  | bool => exact q.elim
  | str => exact q.elim
  | dict => exact q.elim
theorem de_add (ha : DW X W a ga) (hb : DW X W b gb) : DE X W (.BinOp a .Add b pos) (bin2 pAdd ga gb) := de_op op_plus opd_plus ha hb

/-! ### displays, arguments -/
def consA (g : Rho → Res D) (gl : Rho → Res (List D)) (r : Rho) : Res (List D) := (g r).bind fun d => (gl r).bind fun ds => .ok (d :: ds)
structure DL (X : Cx) (W : PWs) (es : List Expr) (g : Rho → Res (List D)) : Prop where
  run : PA X es (tA X.K W g)
  len : ∀ r ds, g r = .ok ds → ds.length = es.length
theorem dl_nil : DL X W [] (fun _ => .ok []) := ⟨pa_nil.imp fun st H Q ⟨r, M, en, q⟩ => q [] H (Same.refl _) .nil, fun r ds e => by cases e; rfl⟩
theorem dl_cons (h : DE X W e g) (hr : DL X W es gl) (hs : starEach (e :: es) X.env = (false, eval e X.env) :: starEach es X.env := by rfl) : DL X W (e :: es) (consA g gl) := by
  refine ⟨(pa_cons h.run hr.run hs).imp fun st H Q ⟨r, M, en, q⟩ => ⟨r, M, en, Dem.thenA en q fun d v H1 _ s1 en1 r1 q1 => ?_⟩, fun r ds e => ?_⟩
  · exact ⟨r, M, en1, DemA.thenA en1 q1 fun d2 v2 H2 _ s2 en2 r2 q2 => q2 _ H2 (Same.refl _) (.cons (r1.same s2) r2)⟩
  · unfold consA at e
    cases hg : g r with
    | ex c => rw [hg] at e; cases e
    | no => rw [hg] at e; cases e
    | ok d =>
      rw [hg] at e
      simp only [bind_ok] at e
      cases hl : gl r with
      | ex c => rw [hl] at e; cases e
      | no => rw [hl] at e; cases e
      | ok d2 =>
        rw [hl] at e
        cases e
        simp [hr.len r d2 hl]
def tupA (gl : Rho → Res (List D)) (r : Rho) : Res D := (gl r).bind fun ds => .ok (.tuple ds)
def lstA (gl : Rho → Res (List D)) (r : Rho) : Res D := (gl r).bind fun ds => .ok (.list ds)
theorem de_tup {x1} (h : DL X W es gl) (hl : es.length ≤ 1000 := by decide) : DE X W (.Tuple es x1 pos) (tupA gl) :=
  ⟨(pe_tup h.run).imp fun st H Q ⟨r, M, en, q⟩ => ⟨r, M, en, DemA.then en q fun d v H1 hg s1 en1 r1 q1 => ⟨by rw [r1.length, h.len r d hg, sizeLine_eq]; omega, fun p hp =>
    q1 _ _ (same_upd hp) (.tup (en1.fresh hp) (.inl upd_same) (r1.same (same_upd hp)))⟩⟩⟩
theorem de_lst (h : DL X W es gl) (hl : es.length ≤ 1000 := by decide) : DE X W (.List es pos) (lstA gl) :=
  ⟨(pe_lst h.run).imp fun st H Q ⟨r, M, en, q⟩ => ⟨r, M, en, DemA.then en q fun d v H1 hg s1 en1 r1 q1 => ⟨by rw [r1.length, h.len r d hg, sizeLine_eq]; omega, fun p hp =>
    q1 _ _ (same_upd hp) (.lst (en1.fresh hp) (.inl upd_same) (r1.same (same_upd hp)))⟩⟩⟩
end
end PD

namespace PD
open PySem PySem.Spec PyProof.Rows L2
variable {K : PySem.W.Frag}

/-- how a state lies among the slots -/
structure StaF (M0 : MS) (st : Sg) (r : Rho) : Prop where
  one : ∀ (i j : Nat) (A B : SA) (h h' : D) (ts bs ts' bs' : List D), r[i]? = some (.sta A h ts bs) → r[j]? = some (.sta B h' ts' bs') → i = j
  off : ∀ (i j : Nat) (l : Addr) (k : Kd) (xs : List D) (A : SA) (h : D) (ts bs : List D), r[i]? = some (.box k xs) → st[i]? = some (some (.ref l)) → r[j]? = some (.sta A h ts bs) → ¬ A.has l
  own : ∀ (j : Nat) (A : SA) (h : D) (ts bs : List D) (l : Addr), r[j]? = some (.sta A h ts bs) → A.has l → ¬ M0 l
theorem StaF.none {M0 : MS} {st : Sg} {r : Rho} (n : ∀ (i : Nat) (A : SA) (h : D) (ts bs : List D), r[i]? ≠ some (.sta A h ts bs)) : StaF M0 st r :=
  ⟨fun i j A B h h' ts bs ts' bs' e => (n _ _ _ _ _ e).elim, fun i j l k xs A h ts bs _ _ e => (n _ _ _ _ _ e).elim, fun j A h ts bs l e => (n _ _ _ _ _ e).elim⟩
/-- slot i is neither a box nor a state now -/
theorem StaF.upd {M0 : MS} {st st' : Sg} {r r' : Rho} (f : StaF M0 st r) (i : Nat) (hr : ∀ j s, j ≠ i → r'[j]? = some s → r[j]? = some s) (hs : ∀ j v, j ≠ i → st'[j]? = some v → st[j]? = some v) (hi : ∀ s, r'[i]? = some s → (∀ k xs, s ≠ .box k xs) ∧ ∀ A h ts bs, s ≠ .sta A h ts bs) : StaF M0 st' r' := by
  have ns : ∀ {j : Nat} {A : SA} {h : D} {ts bs : List D}, r'[j]? = some (.sta A h ts bs) → j ≠ i ∧ r[j]? = some (.sta A h ts bs) := fun {j A h ts bs} e => by
    have n : j ≠ i := fun z => (hi _ (z ▸ e)).2 _ _ _ _ rfl
    exact ⟨n, hr _ _ n e⟩
  have nb : ∀ {j : Nat} {k : Kd} {xs : List D}, r'[j]? = some (.box k xs) → j ≠ i ∧ r[j]? = some (.box k xs) := fun {j k xs} e => by
    have n : j ≠ i := fun z => (hi _ (z ▸ e)).1 _ _ rfl
    exact ⟨n, hr _ _ n e⟩
  exact ⟨fun a b A B h h' ts bs ts' bs' e1 e2 => f.one a b A B h h' ts bs ts' bs' (ns e1).2 (ns e2).2, fun a b l k xs A h ts bs e1 e2 e3 => f.off a b l k xs A h ts bs (nb e1).2 (hs _ _ (nb e1).1 e2) (ns e3).2, fun j A h ts bs l e z => f.own j A h ts bs l (ns e).2 z⟩
/-- slot i holds a box at p now -/
theorem StaF.box {M0 : MS} {st st' : Sg} {r r' : Rho} (f : StaF M0 st r) (i : Nat) (p : Addr) (hr : ∀ j s, j ≠ i → r'[j]? = some s → r[j]? = some s) (hs : ∀ j v, j ≠ i → st'[j]? = some v → st[j]? = some v) (hi : ∀ s, r'[i]? = some s → ∀ A h ts bs, s ≠ .sta A h ts bs)
    (hp : ∀ l, (∃ k xs, r'[i]? = some (.box k xs)) → st'[i]? = some (some (.ref l)) → l = p) (np : ∀ j A h ts bs, j ≠ i → r[j]? = some (.sta A h ts bs) → ¬ A.has p) : StaF M0 st' r' := by
  have ns : ∀ {j : Nat} {A : SA} {h : D} {ts bs : List D}, r'[j]? = some (.sta A h ts bs) → j ≠ i ∧ r[j]? = some (.sta A h ts bs) := fun {j A h ts bs} e => by
    have n : j ≠ i := fun z => (hi _ (z ▸ e)) _ _ _ _ rfl
    exact ⟨n, hr _ _ n e⟩
  refine ⟨fun a b A B h h' ts bs ts' bs' e1 e2 => f.one a b A B h h' ts bs ts' bs' (ns e1).2 (ns e2).2, fun a b l k xs A h ts bs e1 e2 e3 => ?_, fun j A h ts bs l e z => f.own j A h ts bs l (ns e).2 z⟩
  by_cases n : a = i
  · subst n
    rw [hp l ⟨_, _, e1⟩ e2]
    exact np b A h ts bs (ns e3).1 (ns e3).2
  · exact f.off a b l k xs A h ts bs (hr _ _ n e1) (hs _ _ n e2) (ns e3).2
/-! ### the state of a running def -/
structure Sts (K : PySem.W.Frag) (M0 : MS) (H0 : Hp) (M : MS) (H : Hp) (st : Sg) (r : Rho) : Prop where
  en : En K M H st r
  keep : Same H0 H
  sub : ∀ l, M0 l → M l
  new : ∀ l, M l → M0 l ∨ H0 l = none
  len : st.length = r.length
  dis : ∀ (i j : Nat) (l : Addr) (k k2 : Kd) (xs ys : List D), r[i]? = some (.box k xs) → r[j]? = some (.box k2 ys) → st[i]? = some (some (.ref l)) → st[j]? = some (some (.ref l)) → i = j
  own0 : ∀ (i : Nat) (l : Addr) (k : Kd) (xs : List D), r[i]? = some (.box k xs) → st[i]? = some (some (.ref l)) → ¬ M0 l
  sta : StaF M0 st r
section
variable {M0 M : MS} {H0 H H' : Hp} {st : Sg} {r : Rho}
theorem Sts.same (s : Sts K M0 H0 M H st r) (q : Same H H') : Sts K M0 H0 M H' st r := ⟨s.en.same q, s.keep.trans q, s.sub, s.new, s.len, s.dis, s.own0, s.sta⟩
theorem set_get {α : Type} {l : List α} {i j : Nat} {x y : α} (h : (l.set i x)[j]? = some y) : (j = i ∧ y = x ∧ i < l.length) ∨ (j ≠ i ∧ l[j]? = some y) := by
  by_cases e : j = i
  · subst e
    by_cases hl : j < l.length
    · rw [List.getElem?_set_self hl] at h
      exact .inl ⟨rfl, (Option.some.inj h).symm, hl⟩
    · rw [List.getElem?_eq_none (by rw [List.length_set]; omega)] at h
      cases h
  · rw [List.getElem?_set_ne (Ne.symm e)] at h
    exact .inr ⟨e, h⟩
theorem En.set (s : En K M H st r) {i : Nat} {v : V} {d : D} (h : Rp K M H v d) : En K M H (st.set i (some v)) (r.set i (.val d)) := by
  have hl := s.len
  refine ⟨s.live, fun j z e => ?_, by rw [List.length_set, List.length_set]; exact hl⟩
  rcases set_get e with ⟨rfl, rfl, hj⟩ | ⟨hj, e⟩
  · exact ⟨v, by rw [List.getElem?_set_self (by omega)], h⟩
  · have q := s.slot j z e
    rw [List.getElem?_set_ne (Ne.symm hj)]
    exact q
theorem StaF.set {M0 : MS} {st : Sg} {r : Rho} (f : StaF M0 st r) (i : Nat) (o : Option V) (s : Sl) (hb : ∀ k xs, s ≠ .box k xs) (hs : ∀ A h ts bs, s ≠ .sta A h ts bs) : StaF M0 (st.set i o) (r.set i s) :=
  f.upd i (fun j s n e => by rw [List.getElem?_set_ne (Ne.symm n)] at e; exact e) (fun j v n e => by rw [List.getElem?_set_ne (Ne.symm n)] at e; exact e) fun s e => by
    rcases set_get e with ⟨_, q, _⟩ | q
    · subst q
      exact ⟨hb, hs⟩
    · exact absurd rfl q.1
theorem Sts.set (s : Sts K M0 H0 M H st r) {i : Nat} {v : V} {d : D} (h : Rp K M H v d) : Sts K M0 H0 M H (st.set i (some v)) (r.set i (.val d)) := by
  have own : ∀ {j : Nat} {k : Kd} {xs : List D}, (r.set i (.val d))[j]? = some (.box k xs) → j ≠ i ∧ r[j]? = some (.box k xs) := fun {j k xs} e => by
    rcases set_get e with ⟨_, q, _⟩ | q
    · cases q
    · exact q
  have un : ∀ {j : Nat} {z : Option V}, j ≠ i → (st.set i (some v))[j]? = some z → st[j]? = some z := fun {j z} n e => by
    rw [List.getElem?_set_ne (Ne.symm n)] at e
    exact e
  refine ⟨s.en.set h, s.keep, s.sub, s.new, by rw [List.length_set, List.length_set]; exact s.len, fun a b l k k2 xs ys h1 h2 h3 h4 => ?_, fun a l k xs h1 h2 => ?_, s.sta.set i _ _ (fun k xs e => by cases e) fun A h ts bs e => by cases e⟩
  · obtain ⟨n1, e1⟩ := own h1
    obtain ⟨n2, e2⟩ := own h2
    exact s.dis a b l k k2 xs ys e1 e2 (un n1 h3) (un n2 h4)
  · obtain ⟨n1, e1⟩ := own h1
    exact s.own0 a l k xs e1 (un n1 h2)
/-- a slot's value is forgotten -/
theorem Sts.gone (s : Sts K M0 H0 M H st r) (i : Nat) : Sts K M0 H0 M H (st.set i none) (r.set i .no) := by
  have own : ∀ {j : Nat} {k : Kd} {xs : List D}, (r.set i .no)[j]? = some (.box k xs) → j ≠ i ∧ r[j]? = some (.box k xs) := fun {j k xs} e => by
    rcases set_get e with ⟨_, q, _⟩ | q
    · cases q
    · exact q
  have un : ∀ {j : Nat} {z : Option V}, j ≠ i → (st.set i none)[j]? = some z → st[j]? = some z := fun {j z} n e => by
    rw [List.getElem?_set_ne (Ne.symm n)] at e
    exact e
  refine ⟨⟨s.en.live, fun j z e => ?_, by rw [List.length_set, List.length_set]; exact s.len⟩, s.keep, s.sub, s.new, by rw [List.length_set, List.length_set]; exact s.len, fun a b l k k2 xs ys h1 h2 h3 h4 => ?_, fun a l k xs h1 h2 => ?_, s.sta.set i _ _ (fun k xs e => by cases e) fun A h ts bs e => by cases e⟩
  · rcases set_get e with ⟨rfl, rfl, hj⟩ | ⟨hj, e⟩
    · exact trivial
    · have q := s.en.slot j z e
      rw [List.getElem?_set_ne (Ne.symm hj)]
      exact q
  · obtain ⟨n1, e1⟩ := own h1
    obtain ⟨n2, e2⟩ := own h2
    exact s.dis a b l k k2 xs ys e1 e2 (un n1 h3) (un n2 h4)
  · obtain ⟨n1, e1⟩ := own h1
    exact s.own0 a l k xs e1 (un n1 h2)
/-- a slot holds anything -/
theorem Sts.any (s : Sts K M0 H0 M H st r) (i : Nat) (o : Option V) : Sts K M0 H0 M H (st.set i o) (r.set i .no) := by
  have own : ∀ {j : Nat} {k : Kd} {xs : List D}, (r.set i .no)[j]? = some (.box k xs) → j ≠ i ∧ r[j]? = some (.box k xs) := fun {j k xs} e => by
    rcases set_get e with ⟨_, q, _⟩ | q
    · cases q
    · exact q
  have un : ∀ {j : Nat} {z : Option V}, j ≠ i → (st.set i o)[j]? = some z → st[j]? = some z := fun {j z} n e => by
    rw [List.getElem?_set_ne (Ne.symm n)] at e
    exact e
  refine ⟨⟨s.en.live, fun j z e => ?_, by rw [List.length_set, List.length_set]; exact s.len⟩, s.keep, s.sub, s.new, by rw [List.length_set, List.length_set]; exact s.len, fun a b l k k2 xs ys h1 h2 h3 h4 => ?_, fun a l k xs h1 h2 => ?_, s.sta.set i _ _ (fun k xs e => by cases e) fun A h ts bs e => by cases e⟩
  · rcases set_get e with ⟨rfl, rfl, hj⟩ | ⟨hj, e⟩
    · exact trivial
    · have q := s.en.slot j z e
      rw [List.getElem?_set_ne (Ne.symm hj)]
      exact q
  · obtain ⟨n1, e1⟩ := own h1
    obtain ⟨n2, e2⟩ := own h2
    exact s.dis a b l k k2 xs ys e1 e2 (un n1 h3) (un n2 h4)
  · obtain ⟨n1, e1⟩ := own h1
    exact s.own0 a l k xs e1 (un n1 h2)
/-- a new list of one's own, at p -/
theorem Sts.setBox (s : Sts K M0 H0 M H st r) {i : Nat} {p : Addr} {kk : Kd} {vs : List V} {ds : List D} (hp : H p = none) (h : RpL K M H vs ds) :
    Sts K M0 H0 (fun l => M l ∨ l = p) (upd H p (kk.obj vs)) (st.set i (some (.ref p))) (r.set i (.box kk ds)) := by
  have fr : ¬ M p := s.en.fresh hp
  have grow : ∀ {a : Addr}, ¬ M a → (∃ o, H a = some o) → ¬ (M a ∨ a = p) := fun {a} n ⟨o, e⟩ z => z.elim n fun q => by rw [q, hp] at e; cases e
  have up : ∀ {v : V} {d : D}, Rp K M H v d → Rp K (fun l => M l ∨ l = p) (upd H p (kk.obj vs)) v d := fun {v d} q =>
    Rp.to (fun a n e => grow n e) (fun a o _ e _ => upd_same' hp a o e) d v q
  have upL : ∀ {v : List V} {d : List D}, RpL K M H v d → RpL K (fun l => M l ∨ l = p) (upd H p (kk.obj vs)) v d := fun {v d} q =>
    RpL.to (fun a n e => grow n e) (fun a o _ e _ => upd_same' hp a o e) d v q
  have un : ∀ {j : Nat} {z : Option V}, j ≠ i → (st.set i (some (.ref p)))[j]? = some z → st[j]? = some z := fun {j z} n e => by
    rw [List.getElem?_set_ne (Ne.symm n)] at e
    exact e
  have at_i : ∀ {l : Addr}, i < st.length → (st.set i (some (.ref p)))[i]? = some (some (.ref l)) → l = p := fun {l} hi e => by
    rw [List.getElem?_set_self hi] at e
    cases e
    rfl
  have np : ∀ j A h ts bs, j ≠ i → r[j]? = some (.sta A h ts bs) → ¬ A.has p := fun j A h ts bs _ e z => by
    obtain ⟨o, q⟩ := (s.en.slot j _ e).2.there z
    rw [hp] at q
    cases q
  -- an own slot elsewhere does not hold p
  have ne : ∀ {j : Nat} {k : Kd} {xs : List D} {l : Addr}, r[j]? = some (.box k xs) → st[j]? = some (some (.ref l)) → l ≠ p := fun {j k xs l} e1 e2 z => by
    obtain ⟨l', vs', e3, m, hl, _⟩ := s.en.slot j _ e1
    rw [e2] at e3
    cases e3
    exact fr (z ▸ m)
  refine ⟨⟨⟨fun l z => ?_, fun P t => (same_upd hp).t P (s.en.live.2 P t)⟩, fun j z e => ?_, by rw [List.length_set, List.length_set]; exact s.len⟩, s.keep.trans (same_upd hp), fun l z => .inl (s.sub l z), fun l z => ?_, by rw [List.length_set, List.length_set]; exact s.len, fun a b l k k2 xs ys h1 h2 h3 h4 => ?_, fun a l k xs h1 h2 => ?_,
    s.sta.box i p (fun j s n e => by rw [List.getElem?_set_ne (Ne.symm n)] at e; exact e) (fun j v n e => un n e) (fun z e A h ts bs => by
      rcases set_get e with ⟨_, q, _⟩ | q
      · subst q
        exact fun e => by cases e
      · exact absurd rfl q.1) (fun l ⟨k, xs, e⟩ e2 => by
      rcases set_get e with ⟨_, _, hi⟩ | q
      · exact at_i (by rw [s.len]; exact hi) e2
      · exact absurd rfl q.1) np⟩
  · rcases z with z | z
    · obtain ⟨k, us, e⟩ := s.en.live.1 l z
      exact ⟨k, us, upd_same' hp _ _ e⟩
    · subst z
      exact ⟨_, _, upd_same⟩
  · rcases set_get e with ⟨rfl, rfl, hj⟩ | ⟨hj, e⟩
    · have hj' : j < st.length := by rw [s.len]; exact hj
      exact ⟨p, vs, by rw [List.getElem?_set_self hj'], .inr rfl, upd_same, upL h⟩
    · have q := s.en.slot j z e
      rw [List.getElem?_set_ne (Ne.symm hj)]
      cases z with
      | no => exact trivial
      | exc a => exact q
      | val d =>
        obtain ⟨v, e1, q1⟩ := q
        exact ⟨v, e1, up q1⟩
      | box k2 xs =>
        obtain ⟨l, ws, e1, m, hl, q1⟩ := q
        exact ⟨l, ws, e1, .inl m, upd_same' hp _ _ hl, upL q1⟩
      | sta A h' ts bs => exact ⟨q.1, q.2.to (fun a n e => grow n e) (fun a o _ e _ => upd_same' hp a o e) fun l z => ⟨.inl (q.2.m l z), fun o e _ => upd_same' hp l o e⟩⟩
  · rcases z with z | z
    · exact s.new l z
    · subst z
      refine .inr ?_
      cases q : H0 l with
      | none => rfl
      | some o => rw [s.keep.d _ hp] at q; cases q
  · rcases set_get h1 with ⟨rfl, q1, hi⟩ | ⟨n1, e1⟩
    · have hi' : a < st.length := by rw [s.len]; exact hi
      have z := at_i hi' h3
      rcases set_get h2 with ⟨rfl, q2, _⟩ | ⟨n2, e2⟩
      · rfl
      · exact absurd z (ne e2 (un n2 h4))
    · rcases set_get h2 with ⟨rfl, q2, hi⟩ | ⟨n2, e2⟩
      · have hi' : b < st.length := by rw [s.len]; exact hi
        exact absurd (at_i hi' h4) (ne e1 (un n1 h3))
      · exact s.dis a b l k k2 xs ys e1 e2 (un n1 h3) (un n2 h4)
  · rcases set_get h1 with ⟨rfl, q1, hi⟩ | ⟨n1, e1⟩
    · have hi' : a < st.length := by rw [s.len]; exact hi
      have z := at_i hi' h2
      subst z
      exact fun m => fr (s.sub _ m)
    · exact s.own0 a l k xs e1 (un n1 h2)
theorem Sts.setOwn (s : Sts K M0 H0 M H st r) {i : Nat} {p : Addr} {vs : List V} {ds : List D} (hp : H p = none) (h : RpL K M H vs ds) :
    Sts K M0 H0 (fun l => M l ∨ l = p) (upd H p (.lst vs)) (st.set i (some (.ref p))) (r.set i (.own ds)) := s.setBox (kk := .lst) hp h
/-- the list of a slot of one's own has other items now -/
theorem Sts.put (s : Sts K M0 H0 M H st r) {i : Nat} {l : Addr} {k1 k2 : Kd} {xs es : List D} {ws : List V} (hi : r[i]? = some (.box k1 xs)) (hl : st[i]? = some (some (.ref l))) (h : RpL K M H ws es) :
    Sts K M0 H0 M (upd H l (k2.obj ws)) st (r.set i (.box k2 es)) := by
  obtain ⟨l', vs, e, m, hH, rv⟩ := s.en.slot i _ hi
  rw [hl] at e
  cases e
  have kp : ∀ {b : Addr} {o : HO}, ¬ M b → H b = some o → upd H l (k2.obj ws) b = some o := fun {b o} n e => by
    have nb : b ≠ l := by
      rintro rfl
      exact n m
    rw [upd_ne nb]
    exact e
  have up : ∀ {v : V} {d : D}, Rp K M H v d → Rp K M (upd H l (k2.obj ws)) v d := fun {v d} q => Rp.to (fun a n _ => n) (fun a o n e _ => kp n e) d v q
  have upL : ∀ {v : List V} {d : List D}, RpL K M H v d → RpL K M (upd H l (k2.obj ws)) v d := fun {v d} q => RpL.to (fun a n _ => n) (fun a o n e _ => kp n e) d v q
  have hi' : i < r.length := (List.getElem?_eq_some_iff.mp hi).1
  have h0 : H0 l = none := by
    rcases s.new l m with z | z
    · exact absurd z (s.own0 i l _ xs hi hl)
    · exact z
  have own : ∀ {j : Nat} {k : Kd} {ys : List D}, (r.set i (.box k2 es))[j]? = some (.box k ys) → ∃ k zs, r[j]? = some (.box k zs) := fun {j k ys} e => by
    rcases set_get e with ⟨rfl, _, _⟩ | ⟨_, q⟩
    · exact ⟨_, _, hi⟩
    · exact ⟨_, _, q⟩
  have tb : ∀ P, TabG H P → TabG (upd H l (k2.obj ws)) P := fun P ⟨ps, a, b, c⟩ => by
    refine ⟨ps, ?_, b, fun pos cv h => ?_⟩
    · rw [upd_ne fun z => ?_]
      · exact a
      · rw [z, hH] at a
        exact k1.nb vs ps (Option.some.inj a)
    · obtain ⟨c', q, e1, e2⟩ := c pos cv h
      refine ⟨c', q, e1, ?_⟩
      rw [upd_ne fun z => ?_]
      · exact e2
      · rw [z, hH] at e2
        exact k1.nc vs _ q (Option.some.inj e2)
  refine ⟨⟨⟨fun b z => ?_, fun P t => tb P (s.en.live.2 P t)⟩, fun j z e => ?_, by rw [List.length_set]; exact s.len⟩, ⟨fun b o e n => ?_, fun P t => tb P (s.keep.t P t), fun b e => ?_⟩, s.sub, s.new, by rw [List.length_set]; exact s.len, fun a b k ka kb ys zs h1 h2 h3 h4 => ?_, fun a k ka ys h1 h2 => ?_,
    s.sta.box i l (fun j s n e => by rw [List.getElem?_set_ne (Ne.symm n)] at e; exact e) (fun j v _ e => e) (fun z e A h ts bs => by
      rcases set_get e with ⟨_, q, _⟩ | q
      · subst q
        exact fun e => by cases e
      · exact absurd rfl q.1) (fun l2 _ e2 => by
      rw [hl] at e2
      cases e2
      rfl) fun j A h ts bs _ e => s.sta.off i j l _ _ A h ts bs hi hl e⟩
  · by_cases hb : b = l
    · subst hb
      exact ⟨_, _, upd_same⟩
    · rw [upd_ne hb]
      exact s.en.live.1 b z
  · rcases set_get e with ⟨rfl, rfl, hj⟩ | ⟨hj, e⟩
    · exact ⟨l, ws, hl, m, upd_same, upL h⟩
    · have q := s.en.slot j z e
      cases z with
      | no => exact trivial
      | exc a => exact q
      | val d =>
        obtain ⟨v, e1, q1⟩ := q
        exact ⟨v, e1, up q1⟩
      | box k3 ys =>
        obtain ⟨k, us, e1, mk, hk, q1⟩ := q
        have ne : k ≠ l := fun z => hj (s.dis j i l _ _ ys xs e hi (z ▸ e1) hl)
        exact ⟨k, us, e1, mk, by rw [upd_ne ne]; exact hk, upL q1⟩
      | sta A h' ts bs => exact ⟨q.1, q.2.to (fun a n _ => n) (fun a o n e _ => kp n e) fun b z => ⟨q.2.m b z, fun o e2 _ => by
          have ne : b ≠ l := fun w => s.sta.off i j l _ _ A h' ts bs hi hl e (w ▸ z)
          rw [upd_ne ne]
          exact e2⟩⟩
  · have ne : b ≠ l := fun z => by rw [z, h0] at e; cases e
    rw [upd_ne ne]
    exact s.keep.k b o e n
  · by_cases hb : b = l
    · rw [hb]
      exact h0
    · rw [upd_ne hb] at e
      exact s.keep.d b e
  · obtain ⟨_, _, q1⟩ := own h1
    obtain ⟨_, _, q2⟩ := own h2
    exact s.dis a b k _ _ _ _ q1 q2 h3 h4
  · obtain ⟨_, _, q1⟩ := own h1
    exact s.own0 a k _ _ q1 h2
theorem Sts.write (s : Sts K M0 H0 M H st r) {i : Nat} {l : Addr} {xs es : List D} {ws : List V} (hi : r[i]? = some (.own xs)) (hl : st[i]? = some (some (.ref l))) (h : RpL K M H ws es) :
    Sts K M0 H0 M (upd H l (.lst ws)) st (r.set i (.own es)) := s.put (k2 := .lst) hi hl h
/-- from here on the list of the slot is plain data -/
theorem Sts.freeze (s : Sts K M0 H0 M H st r) {i : Nat} {xs : List D} (hi : r[i]? = some (.own xs)) : ∃ M', Sts K M0 H0 M' H st (r.set i (.val (.list xs))) := by
  obtain ⟨l, vs, hl, m, hH, rv⟩ := s.en.slot i _ hi
  have dn : ∀ {v : V} {d : D}, Rp K M H v d → Rp K (fun b => M b ∧ b ≠ l) H v d := fun {v d} q => q.anti fun b z => z.1
  have dnL : ∀ {v : List V} {d : List D}, RpL K M H v d → RpL K (fun b => M b ∧ b ≠ l) H v d := fun {v d} q => q.anti fun b z => z.1
  have own : ∀ {j : Nat} {k : Kd} {ys : List D}, (r.set i (.val (.list xs)))[j]? = some (.box k ys) → j ≠ i ∧ r[j]? = some (.box k ys) := fun {j k ys} e => by
    rcases set_get e with ⟨_, q, _⟩ | q
    · cases q
    · exact q
  refine ⟨fun b => M b ∧ b ≠ l, ⟨⟨fun b z => s.en.live.1 b z.1, s.en.live.2⟩, fun j z e => ?_, by rw [List.length_set]; exact s.len⟩, s.keep, fun b z => ⟨s.sub b z, fun q => s.own0 i l _ xs hi hl (q ▸ z)⟩, fun b z => s.new b z.1, by rw [List.length_set]; exact s.len,
    fun a b k ka kb ys zs h1 h2 h3 h4 => s.dis a b k _ _ ys zs (own h1).2 (own h2).2 h3 h4, fun a k ka ys h1 h2 => s.own0 a k _ ys (own h1).2 h2, s.sta.upd i (fun j s n e => by rw [List.getElem?_set_ne (Ne.symm n)] at e; exact e) (fun j v _ e => e) fun z e => by
      rcases set_get e with ⟨_, q, _⟩ | q
      · subst q
        exact ⟨fun k xs e => (by cases e), fun A h ts bs e => (by cases e)⟩
      · exact absurd rfl q.1⟩
  rcases set_get e with ⟨rfl, rfl, hj⟩ | ⟨hj, e⟩
  · exact ⟨_, hl, .lst (fun z => z.2 rfl) (.inl hH) (dnL rv)⟩
  · have q := s.en.slot j z e
    cases z with
    | no => exact trivial
    | exc a => exact q
    | val d =>
      obtain ⟨v, e1, q1⟩ := q
      exact ⟨v, e1, dn q1⟩
    | box k3 ys =>
      obtain ⟨k, us, e1, mk, hk, q1⟩ := q
      exact ⟨k, us, e1, ⟨mk, fun z => hj (s.dis j i l _ _ ys xs e hi (z ▸ e1) hl)⟩, hk, dnL q1⟩
    | sta A h' ts bs => exact ⟨q.1, q.2.anti (fun b z => z.1) fun b z => ⟨q.2.m b z, fun w => s.sta.off i j l _ _ A h' ts bs hi hl e (w ▸ z)⟩⟩
end
open Classical in
/-- the part of H that no list of one's own stands in -/
noncomputable def still (M0 M : MS) (H : Hp) : Hp := fun b => if M b ∧ ¬ M0 b then none else H b
section
variable {M0 M : MS} {H0 H : Hp} {st : Sg} {r : Rho}
theorem still_of {b : Addr} {o : HO} (n : ¬ M b) (e : H b = some o) : still M0 M H b = some o := by
  unfold still
  rw [if_neg fun z => n z.1]
  exact e
theorem still_same : Same (still M0 M H) H := .of fun b o e => by
  unfold still at e
  split at e
  · cases e
  · exact e
theorem Sts.base (s : Sts K M0 H0 M H st r) : Same H0 (still M0 M H) := by
  have not_k : ∀ b o, ¬ (M b ∧ ¬ M0 b) → H b = some o → still M0 M H b = some o := fun b o n e => by
    unfold still
    rw [if_neg n]
    exact e
  refine ⟨fun b o e n => not_k b o ?_ (s.keep.k b o e n), fun P t => ?_, fun b e => ?_⟩
  · rintro ⟨z, m⟩
    rcases s.new b z with q | q
    · exact m q
    · rw [e] at q; cases q
  · obtain ⟨ps, a, b, c⟩ := s.keep.t P t
    refine ⟨ps, not_k _ _ (fun z => ?_) a, b, fun pos cv h => ?_⟩
    · obtain ⟨k, vs, e⟩ := s.en.live.1 P z.1
      rw [a] at e
      exact k.nb vs ps (Option.some.inj e).symm
    · obtain ⟨c', q, e1, e2⟩ := c pos cv h
      refine ⟨c', q, e1, not_k _ _ (fun z => ?_) e2⟩
      obtain ⟨k, vs, e⟩ := s.en.live.1 c' z.1
      rw [e2] at e
      exact k.nc vs _ q (Option.some.inj e).symm
  · unfold still at e
    split at e
    · rename_i z
      rcases s.new b z.1 with q | q
      · exact absurd q z.2
      · exact q
    · exact s.keep.d b e
theorem Sts.rebase (s : Sts K M0 H0 M H st r) : Sts K M0 (still M0 M H) M H st r := by
  refine ⟨s.en, still_same, s.sub, fun l z => ?_, s.len, s.dis, s.own0, s.sta⟩
  by_cases h : M0 l
  · exact .inl h
  · refine .inr ?_
    unfold still
    rw [if_pos ⟨z, h⟩]
theorem Sts.unbase {H1 : Hp} (s : Sts K M0 H1 M H st r) (q : Same H0 H1) : Sts K M0 H0 M H st r := by
  refine ⟨s.en, q.trans s.keep, s.sub, fun l z => ?_, s.len, s.dis, s.own0, s.sta⟩
  rcases s.new l z with h | h
  · exact .inl h
  · refine .inr ?_
    exact q.d l h
end

/-! ### what a statement does -/
inductive Out where
  | nx (r : Rho) | rt (d : D) | bk (r : Rho) | ct (r : Rho) | ex (c : Nat) (r : Rho) | no
def DemS (K : PySem.W.Frag) (W : PWs) (M0 : MS) (H0 : Hp) (E : Ends) : Out → Prop
  | .nx r => ∀ M st H, Sts K M0 H0 M H st r → E.nx st H
  | .bk r => ∀ M st H, Sts K M0 H0 M H st r → E.bk st H
  | .ct r => ∀ M st H, Sts K M0 H0 M H st r → E.ct st H
  | .rt d => ∀ v H, Same H0 H → Rp K M0 H v d → E.rt v H
  | .ex c r => ∀ M st H, Sts K M0 H0 M H st r → W c st H
  | .no => False
def tS (K : PySem.W.Frag) (W : PWs) (M0 : MS) (H0 : Hp) (f : Rho → Out) : TS := fun E st H => ∃ r M, Sts K M0 H0 M H st r ∧ DemS K W M0 H0 E (f r)
structure DS (X : Cx) (W : PWs) (st : Stmt) (f : Rho → Out) : Prop where
  run : ∀ M0 H0, PS X st (tS X.K W M0 H0 f)
structure DSs (X : Cx) (W : PWs) (st : List Stmt) (f : Rho → Out) : Prop where
  run : ∀ M0 H0, PSs X st (tS X.K W M0 H0 f)
def Out.seq : Out → (Rho → Out) → Out
  | .nx r, k => k r
  | o, _ => o
@[simp] theorem seq_nx (r : Rho) (k : Rho → Out) : (Out.nx r).seq k = k r := eq_of_heq HEq.rfl
@[simp] theorem seq_rt (r : D) (k : Rho → Out) : (Out.rt r).seq k = .rt r := eq_of_heq HEq.rfl
@[simp] theorem seq_bk (r : Rho) (k : Rho → Out) : (Out.bk r).seq k = .bk r := eq_of_heq HEq.rfl
@[simp] theorem seq_ct (r : Rho) (k : Rho → Out) : (Out.ct r).seq k = .ct r := eq_of_heq HEq.rfl
@[simp] theorem seq_ex (c : Nat) (r : Rho) (k : Rho → Out) : (Out.ex c r).seq k = .ex c r := eq_of_heq HEq.rfl
@[simp] theorem seq_no (k : Rho → Out) : Out.no.seq k = .no := eq_of_heq HEq.rfl
def sqf (f g : Rho → Out) (r : Rho) : Out := (f r).seq g
theorem DemS.imp {W : PWs} {M0 : MS} {H0 H1 : Hp} {E : Ends} {o : Out} (h : DemS K W M0 H0 E o) (q : Same H0 H1) : DemS K W M0 H1 E o := by
  cases o with
  | nx r => exact fun M st H s => h M st H (s.unbase q)
  | bk r => exact fun M st H s => h M st H (s.unbase q)
  | ct r => exact fun M st H s => h M st H (s.unbase q)
  | rt d => exact fun v H s => h v H (q.trans s)
  | ex c r => exact fun M st H s => h M st H (s.unbase q)
  | no => exact h
section
variable {X : Cx} {W : PWs} {e a b c : Expr} {s : Stmt} {ss : List Stmt} {f f2 : Rho → Out} {g : Rho → Res D} {gl : Rho → Res (List D)} {gt : Rho → Res Bool} {pos p : Pos}
theorem ds_nil : DSs X W [] .nx := ⟨fun M0 H0 => pss_nil.imp fun E st H ⟨r, M, t, q⟩ => q M st H t⟩
theorem ds_cons (h1 : DS X W s f) (h2 : DSs X W ss f2) : DSs X W (s :: ss) (sqf f f2) := ⟨fun M0 H0 => (pss_cons (h1.run M0 H0) (h2.run M0 H0)).imp fun E st H ⟨r, M, t, q⟩ => ⟨r, M, t, by
  unfold sqf at q
  revert q
  cases f r with
  | nx r2 => exact fun q M2 st2 H2 t2 => ⟨r2, M2, t2, q⟩
  | rt d => exact fun q => q
  | bk r2 => exact fun q => q
  | ct r2 => exact fun q => q
  | ex c r2 => exact fun q => q
  | no => exact fun q => q⟩⟩
/-- from a value on -/
def vThen (g : Rho → Res D) (k : D → Rho → Out) (r : Rho) : Out := (g r).fold (fun d => k d r) (fun c => .ex c r) .no
theorem vthen_ok {M0 M : MS} {H0 H : Hp} {st : Sg} {r : Rho} {k : D → Rho → Out} {E : Ends} {P : VK} {R : RR} (t : Sts K M0 H0 M H st r) (q : DemS K W M0 H0 E (vThen g k r))
    (h : ∀ d v H1, Same H H1 → Sts K M0 H0 M H1 st r → R K M H1 v d → DemS K W M0 H0 E (k d r) → P v H1) : tE K R W g st H P := by
  refine ⟨r, M, t.en, ?_⟩
  unfold vThen at q
  cases hg : g r with
  | ok d => rw [hg] at q; exact fun v H1 s1 rv => h d v H1 s1 (t.same s1) rv q
  | ex c => rw [hg] at q; exact fun H1 s1 => q M st H1 (t.same s1)
  | no => rw [hg] at q; exact q
def setE (i : Nat) (g : Rho → Res D) : Rho → Out := vThen g fun d r => .nx (r.set i (.val d))
def retE (g : Rho → Res D) : Rho → Out := vThen g fun d _ => .rt d
def drpE (g : Rho → Res D) : Rho → Out := vThen g fun _ r => .nx r
theorem ds_set {i : Nat} {x : Str} {pos' : Pos} (hN : X.N.Nodup) (hi : X.N[i]? = some x) (hx : Loc X.env.scope x) (he : DE X W e g) (hs : swapsWith e (some (.Name x pos')) pos.line X.env = pure false := by rfl) (hf : X.fn x = true ∨ X.env.scope.names.lookup x = some .local := by first | exact .inl rfl | exact .inr rfl | assumption) :
    DS X W (.Assign [.Name x pos'] e pos) (setE i g) :=
  ⟨fun M0 H0 => (ps_set hN hi hx he.run hs hf).imp fun E st H ⟨r, M, t, q⟩ => vthen_ok t q fun d v H1 s1 t1 rv q1 => q1 M _ H1 (t1.set rv)⟩
def lThen (g : Rho → Res (List D)) (k : List D → Rho → Out) (r : Rho) : Out := (g r).fold (fun d => k d r) (fun c => .ex c r) .no
def ownE (i : Nat) (gl : Rho → Res (List D)) : Rho → Out := lThen gl fun ds r => .nx (r.set i (.own ds))
/-- x = [..], a list of one's own -/
theorem ds_own {i : Nat} {x : Str} {pos' lpos : Pos} {es : List Expr} (hN : X.N.Nodup) (hi : X.N[i]? = some x) (hx : Loc X.env.scope x) (he : DL X W es gl) (hl : es.length ≤ 1000 := by decide) (hs : swapsWith (.List es lpos) (some (.Name x pos')) pos.line X.env = pure false := by rfl) (hf : X.fn x = true ∨ X.env.scope.names.lookup x = some .local := by first | exact .inl rfl | exact .inr rfl | assumption) :
    DS X W (.Assign [.Name x pos'] (.List es lpos) pos) (ownE i gl) :=
  ⟨fun M0 H0 => (ps_set hN hi hx (pe_lst he.run) hs hf).imp fun E st H ⟨r, M, t, q⟩ => by
    refine ⟨r, M, t.en, ?_⟩
    unfold ownE lThen at q
    cases hg : gl r with
    | ok d =>
      rw [hg] at q
      intro vs H1 s1 rv
      refine ⟨by rw [rv.length, he.len r d hg, sizeLine_eq]; omega, fun p hp => ?_⟩
      exact q _ _ _ ((t.same s1).setOwn hp rv)
    | ex c => rw [hg] at q; exact fun H1 s1 => q M st H1 (t.same s1)
    | no => rw [hg] at q; exact q⟩
/-- x.append(e) -/
def apnd (i : Nat) (d : D) (r : Rho) : Out := match r[i]? with
  | some (.box .lst xs) => if xs.length < 16777216 then .nx (r.set i (.own (xs ++ [d]))) else .no
  | _ => .no
def apndE (i : Nat) (g : Rho → Res D) (r : Rho) : Out := match r[i]? with
  | some (.box .lst _) => vThen g (apnd i) r
  | _ => .no
theorem mtr_append : MtR X "list.append" rAppend := fun pins s σ H x xs v us Q I rx rv h => mt_append pins s σ H x xs v us Q I rx rv h
theorem ds_append {i : Nat} {x : Str} {np apos cpos : Pos} (hv : PE X (.Name x np) (tVar i)) (he : DE X W e g)
    (hfew : ((backTo cpos (starEach (e :: []) X.env)).all (fun x => !x.1) && (backToKw cpos (keywordEach [] X.env)).all (fun x => x.1.isSome)
      && decide ((e :: []).length + ([] : List Keyword).length + (if ([] : List Keyword).isEmpty then 0 else 1) < 30)) = true := by rfl)
    (hbase : attributeBase (.Name x np) "append" X.env (eval (.Name x np) X.env) = eval (.Name x np) X.env := by rfl)
    (hline : (apos.endLine == cpos.line) = true := by rfl) (hs : starEach (e :: []) X.env = (false, eval e X.env) :: starEach [] X.env := by rfl) (hplain : (backTo cpos (starEach [] X.env)).any (·.1) = false := by rfl)
    (hsw : swapsWith (.Call (.Attribute (.Name x np) "append" apos) [e] [] cpos) none pos.line X.env = pure false := by rfl) :
    DS X W (.Expr (.Call (.Attribute (.Name x np) "append" apos) [e] [] cpos) pos) (apndE i g) :=
  ⟨fun M0 H0 => (ps_expr (pe_bm PySem.F.plainAttrs_list PySem.F.slot_list_append PySem.F.type_list_append mtr_append hv (pa_cons he.run pa_nil hs) hbase hfew hline hs hplain) hsw).imp fun E st H ⟨r, M, t, q⟩ => by
    unfold apndE at q
    cases hi : r[i]? with
    | none => rw [hi] at q; exact q.elim
    | some z =>
      rw [hi] at q
      cases z with
      | no => exact q.elim
      | exc a => exact q.elim
      | val d => exact q.elim
      | sta => exact q.elim
      | box kk xs =>
        cases kk with
        | dic ks => exact q.elim
        | lst =>
        obtain ⟨l, vs, e1, m, hH, rv⟩ := t.en.slot i _ hi
        refine ⟨_, e1, ⟨.inl ⟨rfl, vs, SqL.of hH⟩, ?_⟩⟩
        refine vthen_ok (R := Rp) t q fun d v H1 s1 t1 rd q1 => ?_
        unfold apnd at q1
        rw [hi] at q1
        simp only at q1
        by_cases hc : xs.length < 16777216
        · rw [if_pos hc] at q1
          refine ⟨l, vs, v, rfl, rfl, s1.lst hH, by rw [rv.length, sizeLine_eq]; exact hc, ?_⟩
          exact q1 M st _ (t1.write hi e1 ((rv.same s1).app (.one rd)))
        · rw [if_neg hc] at q1
          exact q1.elim⟩
theorem ds_ret (he : DE X W e g) : DS X W (.Return (some e) pos) (retE g) :=
  ⟨fun M0 H0 => (ps_ret he.run).imp fun E st H ⟨r, M, t, q⟩ => vthen_ok t q fun d v H1 s1 t1 rv q1 => q1 v H1 t1.keep (rv.anti t1.sub)⟩
theorem ds_expr (he : DE X W e g) (hs : swapsWith e none pos.line X.env = pure false := by rfl) : DS X W (.Expr e pos) (drpE g) :=
  ⟨fun M0 H0 => (ps_expr he.run hs).imp fun E st H ⟨r, M, t, q⟩ => vthen_ok t q fun d v H1 s1 t1 rv q1 => q1 M st H1 t1⟩
theorem ds_pass : DS X W (.Pass pos) .nx := ⟨fun M0 H0 => ps_pass.imp fun E st H ⟨r, M, t, q⟩ => q M st H t⟩
theorem ds_break : DS X W (.Break pos) .bk := ⟨fun M0 H0 => ps_break.imp fun E st H ⟨r, M, t, q⟩ => q M st H t⟩
theorem ds_cont : DS X W (.Continue pos) .ct := ⟨fun M0 H0 => ps_continue.imp fun E st H ⟨r, M, t, q⟩ => q M st H t⟩
def tThen (g : Rho → Res Bool) (k : Bool → Rho → Out) (r : Rho) : Out := (g r).fold (fun d => k d r) (fun c => .ex c r) .no
def sIf (gt : Rho → Res Bool) (f f2 : Rho → Out) : Rho → Out := tThen gt fun c r => if c then f r else f2 r
theorem tthen_ok {M0 M : MS} {H0 H : Hp} {st : Sg} {r : Rho} {k : Bool → Rho → Out} {E : Ends} {P : Bool → Hp → Prop} (t : Sts K M0 H0 M H st r) (q : DemS K W M0 H0 E (tThen gt k r))
    (h : ∀ d H1, Same H H1 → Sts K M0 H0 M H1 st r → gt r = .ok d → DemS K W M0 H0 E (k d r) → P d H1) : tT K W gt st H P := by
  refine ⟨r, M, t.en, ?_⟩
  unfold tThen at q
  cases hg : gt r with
  | ok d => rw [hg] at q; exact fun H1 s1 => h d H1 s1 (t.same s1) hg q
  | ex c => rw [hg] at q; exact fun H1 s1 => q M st H1 (t.same s1)
  | no => rw [hg] at q; exact q
theorem ds_if {ss2 : List Stmt} (hc : DT X W c gt) (ha : DSs X W ss f) (hb : DSs X W ss2 f2) : DS X W (.If c ss ss2 pos) (sIf gt f f2) :=
  ⟨fun M0 H0 => (ps_if hc.run (ha.run M0 H0) (hb.run M0 H0)).imp fun E st H ⟨r, M, t, q⟩ => tthen_ok t q fun d H1 s1 t1 _ q1 => by
    cases d with
    | true => exact ⟨r, M, t1, q1⟩
    | false => exact ⟨r, M, t1, q1⟩⟩
/-- ahead of the rest the list of a slot turns into plain data -/
def frz (i : Nat) (f : Rho → Out) (r : Rho) : Out := match r[i]? with
  | some (.box .lst xs) => f (r.set i (.val (.list xs)))
  | _ => .no
theorem ds_frz (i : Nat) (h : DSs X W ss f) : DSs X W ss (frz i f) := ⟨fun M0 H0 => (h.run M0 H0).imp fun E st H ⟨r, M, t, q⟩ => by
  unfold frz at q
  cases hi : r[i]? with
  | none => rw [hi] at q; exact q.elim
  | some z =>
    rw [hi] at q
    cases z with
    | no => exact q.elim
    | exc a => exact q.elim
    | val d => exact q.elim
    | sta => exact q.elim
    | box kk xs =>
      cases kk with
      | dic ks => exact q.elim
      | lst =>
      obtain ⟨M', t'⟩ := t.freeze hi
      exact ⟨_, M', t', q⟩⟩
/-! while: fuel n -/
def whileD (gt : Rho → Res Bool) (f : Rho → Out) : Nat → Rho → Out
  | 0, _ => .no
  | n + 1, r => tThen gt (fun c r => if c then (match f r with
      | .nx r2 => whileD gt f n r2
      | .ct r2 => whileD gt f n r2
      | .bk r2 => .nx r2
      | o => o) else .nx r) r
theorem ds_while (n : Nat) (hp : PassesOwn (model X.prog X.w) X.A X.env X.xe) (hc : DT X W c gt) (hb : DSs X W ss f) : DS X W (.While c ss [] pos) (whileD gt f n) :=
  ⟨fun M0 H0 => (ps_while hp hc.run (hb.run M0 H0)).imp fun E st H ⟨r, M, t, q⟩ => by
    refine ⟨fun m st H => ∃ r M, Sts X.K M0 H0 M H st r ∧ DemS X.K W M0 H0 E (whileD gt f m r), ⟨n, r, M, t, q⟩, ?_⟩
    rintro m st H ⟨r, M, t, q⟩
    cases m with
    | zero => exact q.elim
    | succ m =>
      unfold whileD at q
      refine tthen_ok t q fun d H1 s1 t1 _ q1 => ?_
      cases d with
      | false => exact q1 M st H1 t1
      | true =>
        refine ⟨fun st H => ∃ r M, Sts X.K M0 H0 M H st r ∧ DemS X.K W M0 H0 E (whileD gt f m r), fun st2 H2 z => ⟨m, Nat.lt_succ_self m, z⟩, ?_⟩
        refine ⟨r, M, t1, ?_⟩
        simp only [if_true] at q1
        revert q1
        cases f r with
        | nx r2 => exact fun q1 M2 st2 H2 t2 => ⟨r2, M2, t2, q1⟩
        | ct r2 => exact fun q1 M2 st2 H2 t2 => ⟨r2, M2, t2, q1⟩
        | bk r2 => exact fun q1 => q1
        | rt d => exact fun q1 => q1
        | ex c r2 => exact fun q1 => q1
        | no => exact fun q1 => q1⟩
end
end PD

namespace PD
open PySem PySem.Spec PyProof.Rows L2
variable {K : PySem.W.Frag}

/-! ### what a loop walks -/
/-- J gives the items ds, whatever happens outside of Hb -/
def Serves (K : PySem.W.Frag) (M0 : MS) (Hb : Hp) (J : It) (ds : List D) : Prop :=
  ∀ (i : Nat) (M : MS) (H : Hp), Same Hb H → (∀ l, M l → M0 l ∨ Hb l = none) → (∀ l, M l → ∃ o, H l = some o) →
    (∀ d, ds[i]? = some d → J.go i H ∧ ∀ x H', J.yld i H x H' → Same H H' ∧ Rp K M H' x d) ∧ (ds.length ≤ i → J.stop i H)
def DemI (K : PySem.W.Frag) (W : PWs) (M : MS) (st : Sg) (H : Hp) (r : Res (List D)) (R : It → Hp → Prop) : Prop :=
  match r with
  | .ok ds => ∀ J H1, Same H H1 → (∀ (M0 : MS) (Hb : Hp), (∀ l, M0 l → M l) → (∀ b o, ¬ M b → H1 b = some o → Hb b = some o) → Serves K M0 Hb J ds) → R J H1
  | .ex c => ∀ H', Same H H' → W c st H'
  | .no => False
def tI (K : PySem.W.Frag) (W : PWs) (g : Rho → Res (List D)) : TI := fun st H R => ∃ r M, En K M H st r ∧ DemI K W M st H (g r) R
structure DI (X : Cx) (W : PWs) (tg iter : Expr) (g : Rho → Res (List D)) : Prop where
  run : PI X tg iter (tI X.K W g)
theorem _root_.L2.PI.imp {X : Cx} {tg e : Expr} {t t' : TI} (h : PI X tg e t) (k : ∀ st H Q, t' st H Q → t st H Q) : PI X tg e t' := ⟨fun pins s st H Q I q => h.run pins s st H Q I (k _ _ _ q)⟩
section
variable {X : Cx} {W : PWs} {e a b c tg : Expr} {s : Stmt} {ss : List Stmt} {f f2 : Rho → Out} {g ga gb : Rho → Res D} {gl : Rho → Res (List D)} {gt : Rho → Res Bool} {pos p : Pos}
def asL (g : Rho → Res D) (r : Rho) : Res (List D) := (g r).bind fun d => match d with
  | .list ds => .ok ds
  | _ => .no
def asT (g : Rho → Res D) (r : Rho) : Res (List D) := (g r).bind fun d => match d with
  | .tuple ds => .ok ds
  | _ => .no
theorem serves_list {M M0 : MS} {H1 Hb : Hp} {a : Addr} {xs : List V} {ds : List D} (hS : ∀ H2, Same Hb H2 → SqL K H2 a xs) (hl : RpL K M H1 xs ds) (h0 : ∀ l, M0 l → M l) (hb : ∀ b o, ¬ M b → H1 b = some o → Hb b = some o) :
    Serves K M0 Hb (Itl K a) ds := by
  intro i M2 H2 s2 n2 l2
  have r2 := hS H2 s2
  have lb : RpL K M0 Hb xs ds := RpL.to (fun b n _ z => n (h0 b z)) (fun b o n e _ => hb b o n e) ds xs hl
  have l2' : RpL K M2 H2 xs ds := RpL.to (fun b n ⟨o, e⟩ z => by
    rcases n2 b z with q | q
    · exact n q
    · rw [e] at q; cases q) (fun b o _ e nt => s2.k b o e nt) ds xs lb
  refine ⟨fun d hd => ?_, fun hi => ⟨xs, r2, by rw [l2'.length]; exact hi⟩⟩
  obtain ⟨v, hv, rv⟩ := l2'.get hd
  refine ⟨⟨xs, v, r2, hv⟩, fun x H' ⟨e, q⟩ => ?_⟩
  subst e
  have z := q xs r2
  rw [hv] at z
  cases z
  exact ⟨Same.refl _, rv⟩
theorem serves_tup {M M0 : MS} {H1 Hb : Hp} {a : Addr} {xs : List V} {ds : List D} (hm : ¬ M a) (hr : Rd H1 a (.tup xs)) (hl : RpL K M H1 xs ds) (h0 : ∀ l, M0 l → M l) (hb : ∀ b o, ¬ M b → H1 b = some o → Hb b = some o) :
    Serves K M0 Hb (Itt K a) ds := by
  intro i M2 H2 s2 n2 l2
  have rb : Rd Hb a (.tup xs) := rd_to hr (nt_tup _) fun o e _ => hb a o hm e
  have r2 : Rd H2 a (.tup xs) := rd_to rb (nt_tup _) fun o e nt => s2.k a o e nt
  have lb : RpL K M0 Hb xs ds := RpL.to (fun b n _ z => n (h0 b z)) (fun b o n e _ => hb b o n e) ds xs hl
  have l2' : RpL K M2 H2 xs ds := RpL.to (fun b n ⟨o, e⟩ z => by
    rcases n2 b z with q | q
    · exact n q
    · rw [e] at q; cases q) (fun b o _ e nt => s2.k b o e nt) ds xs lb
  refine ⟨fun d hd => ?_, fun hi => ⟨xs, .inl r2, by rw [l2'.length]; exact hi⟩⟩
  obtain ⟨v, hv, rv⟩ := l2'.get hd
  refine ⟨⟨xs, v, .inl r2, hv⟩, fun x H' ⟨e, q⟩ => ?_⟩
  subst e
  have z := q xs (.inl r2)
  rw [hv] at z
  cases z
  exact ⟨Same.refl _, rv⟩
theorem di_list (h : DE X W e g) : DI X W tg e (asL g) := ⟨(pi_list h.run).imp fun st H R ⟨r, M, en, q⟩ => by
  refine ⟨r, M, en, ?_⟩
  unfold asL at q
  cases hg : g r with
  | ex c => rw [hg] at q; exact q
  | no => rw [hg] at q; exact q
  | ok d =>
    rw [hg] at q
    cases d with
    | list ds =>
      intro v H1 s1 rv
      cases rv with
      | lst n r1 l1 => exact ⟨_, rfl, ⟨_, .inl r1⟩, q _ H1 s1 fun M0 Hb h0 hb => serves_list (fun H2 s2 => .inl (rd_to (rd_to r1 (nt_lst _) fun o e _ => hb _ o n e) (nt_lst _) fun o e nt => s2.k _ o e nt)) l1 h0 hb⟩
      | kls r1 l1 => exact ⟨_, rfl, ⟨_, .inr r1⟩, q _ H1 s1 fun M0 Hb h0 hb => serves_list (fun H2 s2 => .inr r1) l1 h0 hb⟩
    | none => exact q.elim
    | bool => exact q.elim
    | int => exact q.elim
    | str => exact q.elim
    | tuple => exact q.elim
    | dict => exact q.elim⟩
theorem di_tup (h : DE X W e g) : DI X W tg e (asT g) := ⟨(pi_tup h.run).imp fun st H R ⟨r, M, en, q⟩ => by
  refine ⟨r, M, en, ?_⟩
  unfold asT at q
  cases hg : g r with
  | ex c => rw [hg] at q; exact q
  | no => rw [hg] at q; exact q
  | ok d =>
    rw [hg] at q
    cases d with
    | tuple ds =>
      intro v H1 s1 rv
      cases rv with
      | tup n r1 l1 => exact ⟨_, rfl, ⟨_, .inl r1⟩, q _ H1 s1 fun M0 Hb h0 hb => serves_tup n r1 l1 h0 hb⟩
    | none => exact q.elim
    | bool => exact q.elim
    | int => exact q.elim
    | str => exact q.elim
    | list => exact q.elim
    | dict => exact q.elim⟩
/-- a list or a tuple -/
theorem pi_either {l : Expr} {tl : TE} (hl : PE X l tl) : PI X tg l (fun st H R => tl st H fun x H1 => ∃ a, x = .ref a ∧ ((∃ xs, SqL X.K H1 a xs ∧ R (Itl X.K a) H1) ∨ ∃ xs, SqT X.K H1 a xs ∧ R (Itt X.K a) H1)) where
  run := fun pins s st H R I h => thn (hl.run pins s st H _ I h) fun v s1 hv => by
    rcases hv with ⟨x, H1, I1, r1, a, rfl, q⟩
    cases r1
    have nf : H1 s1.heap.objs.size = none := I1.hok.fresh (Nat.le_refl _)
    have fp : ∀ b ∈ [s1.heap.objs.size], FpOk X pins H1 b := fun b hb => by
      rw [List.mem_singleton] at hb
      rw [hb]
      exact I1.fpOk (Nat.le_refl _) nf
    rcases q with ⟨xs, hq, q⟩ | ⟨xs, hq, q⟩
    · obtain ⟨its, -, p, -⟩ := I1.list hq
      refine wpAny_pyIter_list p.isList ⟨_, _, _, _, H1, rfl, ?_, turn_list a _, ⟨_, Heap.get?_push_size _ rfl, rfl, rfl⟩, fp, q⟩
      exact I1.kept (t' := s1.toks) fun b o e => Heap.get?_push_of_some _ e
    · obtain ⟨its, -, p, -⟩ := I1.tuple hq
      refine wpAny_pyIter_tuple p ⟨_, _, _, _, H1, rfl, ?_, turn_tuple a _, ⟨_, Heap.get?_push_size _ rfl, rfl, rfl⟩, fp, q⟩
      exact I1.kept (t' := s1.toks) fun b o e => Heap.get?_push_of_some _ e
def asS (g : Rho → Res D) (r : Rho) : Res (List D) := (g r).bind fun d => match items d with
  | some ds => .ok ds
  | none => .no
theorem di_seq (h : DE X W e g) : DI X W tg e (asS g) := ⟨(pi_either h.run).imp fun st H R ⟨r, M, en, q⟩ => by
  refine ⟨r, M, en, ?_⟩
  unfold asS at q
  cases hg : g r with
  | ex c => rw [hg] at q; exact q
  | no => rw [hg] at q; exact q
  | ok d =>
    rw [hg] at q
    cases d with
    | list ds =>
      intro v H1 s1 rv
      cases rv with
      | lst n r1 l1 => exact ⟨_, rfl, .inl ⟨_, .inl r1, q _ H1 s1 fun M0 Hb h0 hb => serves_list (fun H2 s2 => .inl (rd_to (rd_to r1 (nt_lst _) fun o e _ => hb _ o n e) (nt_lst _) fun o e nt => s2.k _ o e nt)) l1 h0 hb⟩⟩
      | kls r1 l1 => exact ⟨_, rfl, .inl ⟨_, .inr r1, q _ H1 s1 fun M0 Hb h0 hb => serves_list (fun H2 s2 => .inr r1) l1 h0 hb⟩⟩
    | tuple ds =>
      intro v H1 s1 rv
      cases rv with
      | tup n r1 l1 => exact ⟨_, rfl, .inr ⟨_, .inl r1, q _ H1 s1 fun M0 Hb h0 hb => serves_tup n r1 l1 h0 hb⟩⟩
    | none => exact q.elim
    | bool => exact q.elim
    | int => exact q.elim
    | str => exact q.elim
    | dict => exact q.elim⟩
/-- lo, lo + 1, .. -/
def rngD (lo : Int) (n : Nat) : List D := (List.range n).map fun i => .int (lo + (i : Nat))
theorem serves_rng {M0 : MS} {Hb : Hp} {lo : Int} {n : Nat} : Serves K M0 Hb (Itr lo n) (rngD lo n) := by
  intro i M2 H2 s2 n2 l2
  refine ⟨fun d hd => ?_, fun hi => (by simpa [rngD] using hi : n ≤ i)⟩
  unfold rngD at hd
  rw [List.getElem?_map] at hd
  cases e : (List.range n)[i]? with
  | none => rw [e] at hd; cases hd
  | some j =>
    rw [e] at hd
    obtain ⟨hj, ej⟩ := List.getElem?_eq_some_iff.mp e
    rw [List.getElem_range] at ej
    subst ej
    rw [List.length_range] at hj
    cases hd
    refine ⟨hj, fun x H' ⟨e1, e2⟩ => ?_⟩
    subst e1 e2
    exact ⟨Same.refl _, .int _⟩
open Classical in
noncomputable def rg1 (g : Rho → Res D) (r : Rho) : Res (List D) := (g r).bind fun d => match d with
  | .int j => if j < 2 ^ 62 ∧ -(2 ^ 62) ≤ j then .ok (rngD 0 j.toNat) else .no
  | _ => .no
open Classical in
noncomputable def rg2 (ga gb : Rho → Res D) (r : Rho) : Res (List D) := (ga r).bind fun d => (gb r).bind fun e => match d, e with
  | .int i, .int j => if -(2 ^ 62) ≤ i ∧ i < 2 ^ 62 ∧ -(2 ^ 62) ≤ j ∧ j < 2 ^ 62 then .ok (rngD i (j - i).toNat) else .no
  | _, _ => .no
theorem di_rg1 (hm : X.mg "range" = none) (h : DW X W a g) (hg : Gl X "range" := by rfl) (hs1 : starEach (a :: []) X.env = (false, eval a X.env) :: starEach [] X.env := by rfl) : DI X W tg (.Call (.Name "range" p) [a] [] pos) (rg1 g) :=
  ⟨(pi_range1 hg hm (pa_cons h.run pa_nil hs1) (hs1.trans (by rfl))).imp fun st H R ⟨r, M, en, q⟩ => by
    refine ⟨r, M, en, ?_⟩
    unfold rg1 at q
    cases hg : g r with
    | ex c => rw [hg] at q; exact q
    | no => rw [hg] at q; exact q
    | ok d =>
      rw [hg] at q
      cases d with
      | int j =>
        simp only [bind_ok] at q
        by_cases hc : j < 2 ^ 62 ∧ -(2 ^ 62) ≤ j
        · rw [if_pos hc] at q
          intro v H1 s1 rv
          rw [rv.int_]
          exact ⟨j, rfl, hc.2, hc.1, q _ H1 s1 fun M0 Hb h0 hb => serves_rng⟩
        · rw [if_neg hc] at q
          exact q.elim
      | none => exact q.elim
      | bool => exact q.elim
      | list => exact q.elim
      | str => exact q.elim
      | tuple => exact q.elim
      | dict => exact q.elim⟩
theorem di_rg2 (hm : X.mg "range" = none) (ha : DW X W a ga) (hb : DW X W b gb) (hg : Gl X "range" := by rfl) (hs1 : starEach (a :: [b]) X.env = (false, eval a X.env) :: starEach [b] X.env := by rfl) (hs2 : starEach (b :: []) X.env = (false, eval b X.env) :: starEach [] X.env := by rfl) :
    DI X W tg (.Call (.Name "range" p) [a, b] [] pos) (rg2 ga gb) :=
  ⟨(pi_range2 hg hm (pa_cons ha.run (pa_cons hb.run pa_nil hs2) hs1) (by rw [hs1, hs2]; rfl) (by rw [hs2]; rfl)).imp fun st H R ⟨r, M, en, q⟩ => by
    refine ⟨r, M, en, ?_⟩
    unfold rg2 at q
    cases hga : ga r with
    | ex c => rw [hga] at q; exact q
    | no => rw [hga] at q; exact q
    | ok d =>
      rw [hga] at q
      simp only [bind_ok] at q
      intro v H1 s1 rv
      refine ⟨r, M, en.same s1, ?_⟩
      cases hgb : gb r with
      | ex c => rw [hgb] at q; exact fun H2 s2 => q H2 (s1.trans s2)
      | no => rw [hgb] at q; exact q
      | ok d2 =>
        rw [hgb] at q
        simp only [bind_ok] at q
        intro v2 H2 s2 rv2
        cases d <;> first
          | exact q.elim
          | skip
        cases d2 <;> first
          | exact q.elim
          | skip
        rename_i i j
        simp only at q
        by_cases hc : -(2 ^ 62) ≤ i ∧ i < 2 ^ 62 ∧ -(2 ^ 62) ≤ j ∧ j < 2 ^ 62
        · rw [if_pos hc] at q
          rw [rv.int_, rv2.int_]
          exact ⟨i, j, rfl, hc, q _ H2 (s1.trans s2) fun M0 Hb h0 hb => serves_rng⟩
        · rw [if_neg hc] at q
          exact q.elim⟩

/-! ### targets -/
abbrev Asg := D → Option (List (Nat × D))
def setsV (st : Sg) : List Nat → List V → Sg
  | i :: is, v :: vs => setsV (st.set i (some v)) is vs
  | _, _ => st
def setsD (r : Rho) : List (Nat × D) → Rho
  | [] => r
  | (i, d) :: ps => setsD (r.set i (.val d)) ps
theorem Sts.sets {M0 M : MS} {H0 H : Hp} : ∀ (ps : List (Nat × D)) (vs : List V) (st : Sg) (r : Rho), Sts K M0 H0 M H st r → RpL K M H vs (ps.map (·.2)) → Sts K M0 H0 M H (setsV st (ps.map (·.1)) vs) (setsD r ps)
  | [], _, _, _, s, h => by cases h; exact s
  | (i, d) :: ps, v :: vs, st, r, s, h => by
    cases h with
    | cons a t => exact Sts.sets ps vs _ _ (s.set a) t
theorem En.sets {M : MS} {H : Hp} : ∀ (ps : List (Nat × D)) (vs : List V) (st : Sg) (r : Rho), En K M H st r → RpL K M H vs (ps.map (·.2)) → En K M H (setsV st (ps.map (·.1)) vs) (setsD r ps)
  | [], _, _, _, s, h => by cases h; exact s
  | (i, d) :: ps, v :: vs, st, r, s, h => by
    cases h with
    | cons a t => exact En.sets ps vs _ _ (s.set a) t
/-- what a target asks of the value, and the stores -/
def tG (K : PySem.W.Frag) (asg : Asg) : TG := fun v st H Q => ∃ d M ps, Rp K M H v d ∧ asg d = some ps ∧ ∀ vs, RpL K M H vs (ps.map (·.2)) → Q (setsV st (ps.map (·.1)) vs) H
structure DG (X : Cx) (tg : Expr) (asg : Asg) : Prop where
  run : PG X tg (tG X.K asg)
theorem _root_.L2.PG.imp {X : Cx} {e : Expr} {t t' : TG} (h : PG X e t) (k : ∀ v st H Q, t' v st H Q → t v st H Q) : PG X e t' := ⟨fun pins s st H v u Q I r q => h.run pins s st H v u Q I r (k _ _ _ _ q)⟩
def aName (i : Nat) : Asg := fun d => some [(i, d)]
theorem dg_name {i : Nat} {x : Str} (hN : X.N.Nodup) (hi : X.N[i]? = some x) (hx : Loc X.env.scope x) (hf : X.fn x = true ∨ X.env.scope.names.lookup x = some .local := by first | exact .inl rfl | exact .inr rfl | assumption) : DG X (.Name x pos) (aName i) :=
  ⟨(pg_name hN hi hx hf).imp fun v st H Q ⟨d, M, ps, rv, e, q⟩ => by
    cases e
    exact q [v] (.one rv)⟩
/-- several plain names -/
def aTup (is : List Nat) : Asg := fun d => match d with
  | .tuple ds => if ds.length = is.length then some (is.zip ds) else none
  | _ => none
/-- the targets of a tuple are plain names at the slots is -/
inductive Names (X : Cx) : List Expr → List Nat → Prop where
  | nil : Names X [] []
  | cons {e : Expr} {es : List Expr} {i : Nat} {is : List Nat} (h : PG X e (gName i)) (hs : (assignEach (e :: es) X.env).map (·.2) = assign e X.env :: (assignEach es X.env).map (·.2)) (t : Names X es is) : Names X (e :: es) (i :: is)
def gNames : List Nat → TGs
  | [] => gNil
  | i :: is => gCons (gName i) (gNames is)
theorem Names.pgs : ∀ {es : List Expr} {is : List Nat}, Names X es is → PGs X es (gNames is)
  | _, _, .nil => pgs_nil
  | _, _, .cons h hs t => pgs_cons h t.pgs hs
theorem gNames_of : ∀ {is : List Nat} {vs : List V} {st : Sg} {H : Hp} {Q : Sg → Hp → Prop}, vs.length = is.length → Q (setsV st is vs) H → gNames is vs st H Q
  | [], [], _, _, _, _, q => ⟨rfl, q⟩
  | [], _ :: _, _, _, _, h, _ => by simp at h
  | _ :: _, [], _, _, _, h, _ => by simp at h
  | i :: is, v :: vs, st, H, Q, h, q => ⟨v, vs, rfl, gNames_of (is := is) (vs := vs) (by simpa using h) q⟩
theorem dg_tup {es : List Expr} {k : Nat} {is : List Nat} (hc : X.calm = true) (h : Names X es is)
    (hn : (assignEach es X.env).length = is.length := by rfl) (hst : (assignEach es X.env).findIdx? (·.1) = none := by rfl) : DG X (.Tuple es k pos) (aTup is) :=
  ⟨(pg_tup hc h.pgs hn hst).imp fun v st H Q ⟨d, M, ps, rv, e, q⟩ => by
    cases d with
    | tuple ds =>
      unfold aTup at e
      simp only at e
      by_cases hl : ds.length = is.length
      · rw [if_pos hl] at e
        cases e
        obtain ⟨a, xs, rfl, rr, l, _⟩ := rv.weak.tup_
        have l' := l.length
        have m1 : (is.zip ds).map (·.1) = is := by
          rw [List.map_fst_zip]
          omega
        have m2 : (is.zip ds).map (·.2) = ds := by
          rw [List.map_snd_zip]
          omega
        rw [m1, m2] at q
        exact ⟨a, xs, rfl, .inl rr, by omega, gNames_of (by omega) (q xs l)⟩
      · rw [if_neg hl] at e
        cases e
    | none => cases e
    | bool => cases e
    | int => cases e
    | str => cases e
    | list => cases e
    | dict => cases e⟩
/-- target = value -/
def sAsg (g : Rho → Res D) (asg : Asg) : Rho → Out := vThen g fun d r => match asg d with
  | some ps => .nx (setsD r ps)
  | none => .no
theorem ds_asg {asg : Asg} (he : DE X W e g) (hg : DG X tg asg) (hs : swapsWithSole [tg] e pos.line X.env = pure false := by rfl) (hw : swappedStores [tg] e X.env = pure none := by rfl)
    (h1 : (assignEach [tg] X.env).map (·.2) = [assign tg X.env] := by rfl) : DS X W (.Assign [tg] e pos) (sAsg g asg) :=
  ⟨fun M0 H0 => (ps_asg he.run hg.run hs hw h1).imp fun E st H ⟨r, M, t, q⟩ => vthen_ok t q fun d v H1 s1 t1 rv q1 => by
    cases e : asg d with
    | none => rw [e] at q1; exact q1.elim
    | some ps =>
      rw [e] at q1
      exact ⟨d, M, ps, rv, e, fun vs l => q1 M _ H1 (t1.sets ps vs _ _ l)⟩⟩

/-! ### for -/
def forD (asg : Asg) (f : Rho → Out) : List D → Rho → Out
  | [], r => .nx r
  | d :: ds, r => match asg d with
    | none => .no
    | some ps => match f (setsD r ps) with
      | .nx r2 => forD asg f ds r2
      | .ct r2 => forD asg f ds r2
      | .bk r2 => .nx r2
      | o => o
def forE (gl : Rho → Res (List D)) (asg : Asg) (f : Rho → Out) : Rho → Out := lThen gl fun ds => forD asg f ds
theorem ds_for {asg : Asg} {iter : Expr} (hp : PassesOwn (model X.prog X.w) X.A X.env X.xe) (hc : X.calm = true) (hi : DI X W tg iter gl) (hg : DG X tg asg) (hb : DSs X W ss f)
    (hs : ∀ x, foldedSetIterable iter X.env x = pure x := by intro _; rfl) : DS X W (.For tg iter ss [] pos) (forE gl asg f) := by
  refine ⟨fun M0 H0 => ⟨fun pins s st H E I h => ?_⟩⟩
  obtain ⟨r, M, t, q⟩ := h
  unfold forE lThen at q
  cases hgl : gl r with
  | ex c =>
    rw [hgl] at q
    exact (ps_for hp hc hi.run hg.run (hb.run M0 H0) hs).run pins s st H E I ⟨r, M, t.en, by rw [hgl]; exact fun H1 s1 => q M st H1 (t.same s1)⟩
  | no => rw [hgl] at q; exact q.elim
  | ok ds =>
    rw [hgl] at q
    -- the base within the loop is known only behind the iterable: the body serves any base
    refine (ps_for (tb := fun E st H => ∃ M0 H0, tS X.K W M0 H0 f E st H) hp hc hi.run hg.run ⟨fun pins s st H E I ⟨M0, H0, q⟩ => (hb.run M0 H0).run pins s st H E I q⟩ hs).run pins s st H E I ⟨r, M, t.en, ?_⟩
    rw [hgl]
    intro J H1 s1 serve
    obtain ⟨M1, eM⟩ : ∃ M1, M1 = M := ⟨M, rfl⟩
    subst eM
    have t1 := t.same s1
    have sv := serve M0 (still M0 M1 H1) t1.sub (fun b o n e => still_of n e)
    have hbase : Same H0 (still M0 M1 H1) := t1.base
    refine ⟨fun i m st H => m = ds.length - i ∧ i ≤ ds.length ∧ ∃ r M, Sts X.K M0 (still M0 M1 H1) M H st r ∧ DemS X.K W M0 H0 E (forD asg f (ds.drop i) r), ⟨_, rfl, Nat.zero_le _, r, M1, t1.rebase, by rw [List.drop_zero]; exact q⟩, ?_⟩
    rintro i m st2 H2 ⟨rfl, hi, r2, M2, t2, q2⟩
    obtain ⟨sgo, sstop⟩ := sv i M2 H2 t2.keep t2.new t2.en.live.has
    by_cases hlt : i < ds.length
    · have hd : ds[i]? = some ds[i] := List.getElem?_eq_getElem hlt
      obtain ⟨go, yl⟩ := sgo _ hd
      rw [List.drop_eq_getElem_cons hlt] at q2
      unfold forD at q2
      refine .inr ⟨go, fun st H => ∃ r M, Sts X.K M0 (still M0 M1 H1) M H st r ∧ DemS X.K W M0 H0 E (forD asg f (ds.drop (i + 1)) r), fun st3 H3 z => ⟨ds.length - (i + 1), by omega, rfl, hlt, z⟩, fun x H3 y => ?_⟩
      obtain ⟨s3, rx⟩ := yl x H3 y
      cases ea : asg ds[i] with
      | none => rw [ea] at q2; exact q2.elim
      | some ps =>
        rw [ea] at q2
        simp only at q2
        refine ⟨_, M2, ps, rx, ea, fun vs l => ⟨M0, still M0 M1 H1, _, M2, (t2.same s3).sets ps vs _ _ l, ?_⟩⟩
        revert q2
        cases f (setsD r2 ps) with
        | nx r3 => exact fun q2 M3 st3 H3 t3 => ⟨r3, M3, t3, q2⟩
        | ct r3 => exact fun q2 M3 st3 H3 t3 => ⟨r3, M3, t3, q2⟩
        | bk r3 => exact fun q2 M3 st3 H3 t3 => q2 M3 st3 H3 (t3.unbase hbase)
        | rt d => exact fun q2 v H3 s3 => q2 v H3 (hbase.trans s3)
        | ex c r3 => exact fun q2 M3 st3 H3 t3 => q2 M3 st3 H3 (t3.unbase hbase)
        | no => exact fun q2 => q2
    · have e : i = ds.length := by omega
      subst e
      rw [List.drop_length] at q2
      exact .inl ⟨sstop (Nat.le_refl _), q2 M2 st2 H2 (t2.unbase hbase)⟩
end
end PD

namespace PD
open PySem PySem.Spec PyProof.Rows L2
variable {K : PySem.W.Frag}

/-! ### comprehensions -/
abbrev W0 : PWs := fun _ _ _ => False
def Res.quiet {α : Type} : Res α → Res α
  | .ok a => .ok a
  | _ => .no
@[simp] theorem quiet_ok {α : Type} (a : α) : (Res.ok a).quiet = .ok a := rfl
def wipeR (r : Rho) : List Nat → Rho
  | [] => r
  | v :: vs => (wipeR r vs).set v .no
theorem wipeR_length (r : Rho) : ∀ vs : List Nat, (wipeR r vs).length = r.length
  | [] => rfl
  | v :: vs => by unfold wipeR; rw [List.length_set, wipeR_length r vs]
theorem En.wipe {M : MS} {H : Hp} {st : Sg} {r : Rho} (s : En K M H st r) : ∀ vs : List Nat, En K M H (wipe st vs) (wipeR r vs)
  | [] => s
  | v :: vs => by
    have ih := En.wipe s vs
    refine ⟨ih.live, fun j z e => ?_, by rw [wipe_length, wipeR_length]; exact s.len⟩
    unfold wipeR at e
    rcases set_get e with ⟨rfl, rfl, hj⟩ | ⟨hj, e⟩
    · exact trivial
    · have q := ih.slot j z e
      unfold L2.wipe
      rw [List.getElem?_set_ne (Ne.symm hj)]
      exact q
theorem wipe_get (st : Sg) (j : Nat) : ∀ vs : List Nat, (wipe st vs)[j]? = if j ∈ vs ∧ j < st.length then some none else st[j]?
  | [] => by simp [wipe]
  | v :: vs => by
    unfold L2.wipe
    have ih := wipe_get st j vs
    by_cases hj : j = v
    · subst hj
      by_cases hl : j < st.length
      · rw [List.getElem?_set_self (by rw [wipe_length]; exact hl), if_pos ⟨List.mem_cons_self, hl⟩]
      · rw [List.getElem?_eq_none (by rw [List.length_set, wipe_length]; omega), if_neg (fun z => hl z.2), List.getElem?_eq_none (by omega)]
    · rw [List.getElem?_set_ne (Ne.symm hj), ih]
      simp [hj]
theorem setsV_length : ∀ (is : List Nat) (vs : List V) (st : Sg), (setsV st is vs).length = st.length
  | [], _, _ => rfl
  | _ :: _, [], _ => rfl
  | i :: is, v :: vs, st => by
    unfold setsV
    rw [setsV_length is vs, List.length_set]
theorem setsV_out : ∀ (is : List Nat) (vs : List V) (st : Sg) {j : Nat}, j ∉ is → (setsV st is vs)[j]? = st[j]?
  | [], _, _, _, _ => rfl
  | _ :: _, [], _, _, _ => rfl
  | i :: is, v :: vs, st, j, h => by
    unfold setsV
    rw [setsV_out is vs _ (fun z => h (List.mem_cons_of_mem _ z)), List.getElem?_set_ne]
    exact fun z => h (z ▸ List.mem_cons_self)
theorem wipe_sets {st : Sg} {is : List Nat} {vs : List V} {own : List Nat} (h : ∀ i ∈ is, i ∈ own) : wipe (setsV (wipe st own) is vs) own = wipe st own := by
  apply List.ext_getElem?
  intro j
  rw [wipe_get, setsV_length, wipe_length]
  by_cases hj : j ∈ own ∧ j < st.length
  · rw [if_pos hj, wipe_get, if_pos hj]
  · rw [if_neg hj]
    by_cases ho : j ∈ own
    · have hl : ¬ j < st.length := fun z => hj ⟨ho, z⟩
      rw [List.getElem?_eq_none (by rw [setsV_length, wipe_length]; omega), List.getElem?_eq_none (by rw [wipe_length]; omega)]
    · rw [setsV_out _ _ _ (fun z => ho (h j z))]
def compD (asg : Asg) (gt : Rho → Res Bool) (ge : Rho → Res D) (r : Rho) : List D → Res (List D)
  | [] => .ok []
  | d :: ds => match asg d with
    | none => .no
    | some ps => (gt (setsD r ps)).quiet.bind fun c => if c then (ge (setsD r ps)).quiet.bind fun z => (compD asg gt ge r ds).bind fun zs => .ok (z :: zs) else compD asg gt ge r ds
def lcE (gl : Rho → Res (List D)) (asg : Asg) (gt : Rho → Res Bool) (ge : Rho → Res D) (own : List Nat) (r : Rho) : Res D :=
  (gl r).bind fun ds => if ds.length < 16777216 then (compD asg gt ge (wipeR r own) ds).bind fun zs => .ok (.list zs) else .no
/-- what is walked may be a list that still changes, but not meanwhile -/
def DemJ (K : PySem.W.Frag) (W : PWs) (M : MS) (st : Sg) (H : Hp) (r : Res (List D)) (R : It → Hp → Prop) : Prop :=
  match r with
  | .ok ds => ∀ J H1, Same H H1 → Serves K M H1 J ds → R J H1
  | .ex c => ∀ H', Same H H' → W c st H'
  | .no => False
def tJ (K : PySem.W.Frag) (W : PWs) (g : Rho → Res (List D)) : TI := fun st H R => ∃ r M, En K M H st r ∧ DemJ K W M st H (g r) R
structure DJ (X : Cx) (W : PWs) (tg iter : Expr) (g : Rho → Res (List D)) : Prop where
  run : PI X tg iter (tJ X.K W g)
theorem DI.j {X : Cx} {W : PWs} {tg iter : Expr} {g : Rho → Res (List D)} (h : DI X W tg iter g) : DJ X W tg iter g := ⟨h.run.imp fun st H R ⟨r, M, en, q⟩ => ⟨r, M, en, by
  revert q
  cases g r with
  | ok ds => exact fun q J H1 s1 sv => q J H1 s1 (sv M H1 (fun _ z => z) (fun _ _ _ e => e))
  | ex c => exact fun q => q
  | no => exact fun q => q⟩⟩
theorem dj_list {X : Cx} {W : PWs} {tg e : Expr} {g : Rho → Res D} (h : DW X W e g) : DJ X W tg e (asL g) := ⟨(pi_list h.run).imp fun st H R ⟨r, M, en, q⟩ => by
  refine ⟨r, M, en, ?_⟩
  unfold asL at q
  cases hg : g r with
  | ex c => rw [hg] at q; exact q
  | no => rw [hg] at q; exact q
  | ok d =>
    rw [hg] at q
    cases d with
    | list ds =>
      intro v H1 s1 rv
      obtain ⟨a, xs, rfl, rr, l⟩ := rv.lst_
      exact ⟨_, rfl, ⟨_, rr⟩, q _ H1 s1 (serves_list (fun H2 s2 => s2.seq rr) l (fun _ z => z) (fun _ _ _ e => e))⟩
    | none => exact q.elim
    | bool => exact q.elim
    | int => exact q.elim
    | str => exact q.elim
    | tuple => exact q.elim
    | dict => exact q.elim⟩
section
variable {X : Cx} {W : PWs} {gl : Rho → Res (List D)} {asg : Asg} {gt : Rho → Res Bool} {ge : Rho → Res D} {own : List Nat}
theorem tLc_of (hN : ∀ d ps, asg d = some ps → ∀ p ∈ ps, p.1 ∈ own) {st : Sg} {H : Hp} {Q : VK} {R : RR} (hR : ∀ {M H v d}, Rp X.K M H v d → R X.K M H v d) (hl : tE X.K R W (lcE gl asg gt ge own) st H Q) :
    tLc (tJ X.K W gl) (tG X.K asg) (tT X.K W0 gt) (tE X.K Rp W0 ge) own st H Q := by
  obtain ⟨r, M, en, q⟩ := hl
  refine ⟨r, M, en, ?_⟩
  unfold lcE at q
  cases hgl : gl r with
  | ex c => rw [hgl] at q; exact q
  | no => rw [hgl] at q; exact q
  | ok ds =>
    rw [hgl] at q
    simp only [bind_ok] at q
    by_cases hsz : ds.length < 16777216
    · rw [if_pos hsz] at q
      intro J H1 s1 serve D0 hD
      have en1 := en.same s1
      have fr : ¬ M D0 := en1.fresh hD
      have sv := serve
      have q1 := q.ext s1
      clear q
      refine ⟨fun i m H => m = ds.length - i ∧ i ≤ ds.length ∧ ∃ acc vs, acc.length ≤ i ∧ H D0 = some (.lst vs) ∧ RpL X.K (fun l => M l ∨ l = D0) H vs acc ∧ Same H1 H ∧
        Dem X.K R W M st H1 ((compD asg gt ge (wipeR r own) (ds.drop i)).bind fun zs => .ok (.list (acc ++ zs))) Q, ⟨_, rfl, Nat.zero_le _, [], [], Nat.le_refl _, upd_same, .nil, same_upd hD, by rw [List.drop_zero]; exact q1⟩, ?_⟩
      rintro i m H2 ⟨rfl, hi, acc, vs, hacc, hH2, rl, s2, q2⟩
      obtain ⟨sgo, sstop⟩ := sv i (fun l => M l ∨ l = D0) H2 s2 (fun l z => z.elim .inl fun e => .inr (e ▸ hD)) (fun l z => z.elim (fun z => by
        exact s2.has (en1.live.has l z)) fun e => ⟨_, e ▸ hH2⟩)
      by_cases hlt : i < ds.length
      · have hd : ds[i]? = some ds[i] := List.getElem?_eq_getElem hlt
        obtain ⟨go, yl⟩ := sgo _ hd
        rw [List.drop_eq_getElem_cons hlt] at q2
        unfold compD at q2
        refine .inr ⟨go, fun H => ∃ acc vs, acc.length ≤ i + 1 ∧ H D0 = some (.lst vs) ∧ RpL X.K (fun l => M l ∨ l = D0) H vs acc ∧ Same H1 H ∧
          Dem X.K R W M st H1 ((compD asg gt ge (wipeR r own) (ds.drop (i + 1))).bind fun zs => .ok (.list (acc ++ zs))) Q, fun H3 z => ⟨ds.length - (i + 1), by omega, rfl, hlt, z⟩, fun x H3 y => ?_⟩
        obtain ⟨s3, rx⟩ := yl x H3 y
        cases ea : asg ds[i] with
        | none => rw [ea] at q2; exact q2.elim
        | some ps =>
          rw [ea] at q2
          simp only at q2
          refine ⟨_, _, ps, rx, ea, fun ws l => ⟨wipe_sets fun i hi => by
            obtain ⟨p, hp, e⟩ := List.mem_map.mp hi
            exact e ▸ hN _ _ ea p hp, ?_⟩⟩
          have en3 : En X.K (fun l => M l ∨ l = D0) H3 st r := by
            have e2 : En X.K M H3 st r := (en1.same s2).same s3
            refine ⟨⟨fun l z => z.elim (fun z => e2.live.1 l z) fun e => ⟨.lst, _, e ▸ s3.lst hH2⟩, e2.live.2⟩, fun j z e => ?_, en.len⟩
            have z1 := en1.slot j z e
            have gr : ∀ a, ¬ M a → (∃ o, H1 a = some o) → ¬ (M a ∨ a = D0) := fun a n ⟨o, e⟩ z => z.elim n fun q => by rw [q, hD] at e; cases e
            cases z with
            | no => exact trivial
            | exc a => exact z1
            | val d =>
              obtain ⟨v, e1, rv⟩ := z1
              exact ⟨v, e1, Rp.to gr (fun a o _ e nt => s3.k _ _ (s2.k _ _ e nt) nt) d v rv⟩
            | sta A h' ts bs => exact ⟨z1.1, z1.2.to gr (fun a o _ e nt => s3.k _ _ (s2.k _ _ e nt) nt) fun l z => ⟨.inl (z1.2.m l z), fun o e nt => s3.k _ _ (s2.k _ _ e nt) nt⟩⟩
            | box kk xs =>
              obtain ⟨l, us, e1, m, hh, rv⟩ := z1
              exact ⟨l, us, e1, .inl m, s3.k _ _ (s2.k _ _ hh (kk.nt us)) (kk.nt us), RpL.to gr (fun a o _ e nt => s3.k _ _ (s2.k _ _ e nt) nt) xs us rv⟩
          have en4 := En.sets ps ws _ _ (en3.wipe own) l
          refine ⟨_, _, en4, ?_⟩
          cases hgt : gt (setsD (wipeR r own) ps) with
          | ex c => rw [hgt] at q2; exact q2.elim
          | no => rw [hgt] at q2; exact q2.elim
          | ok c =>
            rw [hgt] at q2
            intro H4 s4
            cases c with
            | false =>
              exact ⟨acc, vs, by omega, s4.lst (s3.lst hH2), (rl.same s3).same s4, (s2.trans s3).trans s4, q2⟩
            | true =>
              simp only [quiet_ok, bind_ok, if_true] at q2
              refine ⟨_, _, en4.same s4, ?_⟩
              cases hge : ge (setsD (wipeR r own) ps) with
              | ex c => rw [hge] at q2; exact q2.elim
              | no => rw [hge] at q2; exact q2.elim
              | ok z =>
                rw [hge] at q2
                intro v H5 s5 rv
                have h5 := s5.lst (s4.lst (s3.lst hH2))
                have kp : ∀ {a : Addr} {o : HO}, ¬ (M a ∨ a = D0) → H5 a = some o → upd H5 D0 (.lst (vs ++ [v])) a = some o := fun {a o} n e => by
                  rw [upd_ne (fun z => n (.inr z))]
                  exact e
                refine ⟨vs, h5, by rw [rl.length, sizeLine_eq]; omega, acc ++ [z], vs ++ [v], by rw [List.length_append]; simp; omega, upd_same, ?_, ?_, ?_⟩
                · exact RpL.to (fun _ n _ => n) (fun a o n e _ => kp n e) _ _ ((((rl.same s3).same s4).same s5).app (.one rv))
                · exact (((s2.trans s3).trans s4).trans s5).over hD h5
                · revert q2
                  simp only [quiet_ok, bind_ok]
                  cases compD asg gt ge (wipeR r own) (ds.drop (i + 1)) with
                  | ok zs => simp only [bind_ok, List.append_assoc, List.singleton_append]; exact fun q2 => q2
                  | ex c => exact fun q2 => q2
                  | no => exact fun q2 => q2
      · have e : i = ds.length := by omega
        subst e
        rw [List.drop_length] at q2
        simp only [compD, bind_ok, List.append_nil] at q2
        exact .inl ⟨sstop (Nat.le_refl _), q2 _ _ s2 (hR (.lst fr (.inl hH2) (rl.anti fun l z => .inl z)))⟩
    · rw [if_neg hsz] at q
      exact q.elim
end
end PD

namespace PD
open PySem PySem.Spec PyProof.Rows L2
variable {K : PySem.W.Frag}
structure DTs (X : Cx) (W : PWs) (ifs : List Expr) (g : Rho → Res Bool) : Prop where
  run : PTs X ifs (tT X.K W g)
section
variable {X : Cx} {W : PWs} {e a b c elt tg iter : Expr} {es ifs : List Expr} {g ga gb ge : Rho → Res D} {gl : Rho → Res (List D)} {gt : Rho → Res Bool} {pos p : Pos} {asg : Asg}
theorem dts_nil : DTs X W [] (fun _ => .ok true) := ⟨⟨fun pins s st H Q I ⟨r, M, en, q⟩ => pts_nil.run pins s st H Q I (q H (Same.refl _))⟩⟩
theorem dts_one (h : DT X W c gt) : DTs X W [c] gt := ⟨pts_one h.run⟩
def inOwn (asg : Asg) (own : List Nat) : Prop := ∀ d ps, asg d = some ps → ∀ p ∈ ps, p.1 ∈ own
theorem inOwn_name {i : Nat} {own : List Nat} (h : i ∈ own) : inOwn (aName i) own := fun d ps e p hp => by
  cases e
  rw [List.mem_singleton] at hp
  subst hp
  exact h
theorem inOwn_tup {is own : List Nat} (h : ∀ i ∈ is, i ∈ own) : inOwn (aTup is) own := fun d ps e p hp => by
  unfold aTup at e
  cases d with
  | tuple ds =>
    simp only at e
    by_cases hl : ds.length = is.length
    · rw [if_pos hl] at e
      cases e
      obtain ⟨i, d⟩ := p
      exact h _ (List.of_mem_zip hp).1
    · rw [if_neg hl] at e
      cases e
  | none => cases e
  | bool => cases e
  | int => cases e
  | str => cases e
  | list => cases e
  | dict => cases e
theorem de_lc {scope : Scope} {own : List (Str × Nat)} (hc : X.calm = true) (hN : X.N.Nodup) (hi : DI X W tg iter gl) (ok : BlkOk X.N X.env.scope scope own) (ho : inOwn asg (own.map (·.2)))
    (hg : ∀ (s : Shared) (H : Hp) (C : Addr) (cl : List (Str × Addr)) (fp : List Addr), DG (X.blk s H scope (compEnvC scope cl C X.env) fp) tg asg) (ht : ∀ (s : Shared) (H : Hp) (C : Addr) (cl : List (Str × Addr)) (fp : List Addr), DTs (X.blk s H scope (compEnvC scope cl C X.env) fp) W0 ifs gt)
    (he : ∀ (s : Shared) (H : Hp) (C : Addr) (cl : List (Str × Addr)) (fp : List Addr), DE (X.blk s H scope (compEnvC scope cl C X.env) fp) W0 elt ge) (hs : ∀ x, foldedSetIterable iter X.env x = pure x := by intro _; rfl) :
    DE X W (.ListComp elt [⟨tg, iter, ifs, 0⟩] scope pos) (lcE gl asg gt ge (own.map (·.2))) :=
  ⟨(pe_lc hc hN hi.j.run ok (fun s H C cl fp => (hg s H C cl fp).run) (fun s H C cl fp => (ht s H C cl fp).run) (fun s H C cl fp => (he s H C cl fp).run) hs).imp fun st H Q q => tLc_of ho (R := Rp) (fun h => h) q⟩
theorem de_lcW {scope : Scope} {own : List (Str × Nat)} (hc : X.calm = true) (hN : X.N.Nodup) (hi : DJ X W tg iter gl) (ok : BlkOk X.N X.env.scope scope own) (ho : inOwn asg (own.map (·.2)))
    (hg : ∀ (s : Shared) (H : Hp) (C : Addr) (cl : List (Str × Addr)) (fp : List Addr), DG (X.blk s H scope (compEnvC scope cl C X.env) fp) tg asg) (ht : ∀ (s : Shared) (H : Hp) (C : Addr) (cl : List (Str × Addr)) (fp : List Addr), DTs (X.blk s H scope (compEnvC scope cl C X.env) fp) W0 ifs gt)
    (he : ∀ (s : Shared) (H : Hp) (C : Addr) (cl : List (Str × Addr)) (fp : List Addr), DE (X.blk s H scope (compEnvC scope cl C X.env) fp) W0 elt ge) (hs : ∀ x, foldedSetIterable iter X.env x = pure x := by intro _; rfl) :
    DE X W (.ListComp elt [⟨tg, iter, ifs, 0⟩] scope pos) (lcE gl asg gt ge (own.map (·.2))) :=
  ⟨(pe_lc hc hN hi.run ok (fun s H C cl fp => (hg s H C cl fp).run) (fun s H C cl fp => (ht s H C cl fp).run) (fun s H C cl fp => (he s H C cl fp).run) hs).imp fun st H Q q => tLc_of ho (R := Rp) (fun h => h) q⟩
theorem ds_setLc {i : Nat} {y : Str} {py spos : Pos} {scope : Scope} {own : List (Str × Nat)} (hc : X.calm = true) (hN : X.N.Nodup) (hy : X.N[i]? = some y) (hyl : X.env.scope.names.lookup y = some .local)
    (hsw : swapsWith (.ListComp elt [⟨tg, iter, ifs, 0⟩] scope pos) (some (.Name y py)) spos.line X.env = pure true) (hi : DI X W tg iter gl) (ok : BlkOk X.N X.env.scope scope own) (ho : inOwn asg (own.map (·.2)))
    (hg : ∀ (s : Shared) (H : Hp) (C : Addr) (cl : List (Str × Addr)) (fp : List Addr), DG (X.blk s H scope (compEnvC scope cl C X.env) fp) tg asg) (ht : ∀ (s : Shared) (H : Hp) (C : Addr) (cl : List (Str × Addr)) (fp : List Addr), DTs (X.blk s H scope (compEnvC scope cl C X.env) fp) W0 ifs gt)
    (he : ∀ (s : Shared) (H : Hp) (C : Addr) (cl : List (Str × Addr)) (fp : List Addr), DE (X.blk s H scope (compEnvC scope cl C X.env) fp) W0 elt ge) (hs : ∀ x, foldedSetIterable iter X.env x = pure x := by intro _; rfl) :
    DS X W (.Assign [.Name y py] (.ListComp elt [⟨tg, iter, ifs, 0⟩] scope pos) spos) (setE i (lcE gl asg gt ge (own.map (·.2)))) :=
  ⟨fun M0 H0 => (ps_setLc hc hN hy hyl hsw hi.j.run ok (fun s H C cl fp => (hg s H C cl fp).run) (fun s H C cl fp => (ht s H C cl fp).run) (fun s H C cl fp => (he s H C cl fp).run) hs).imp fun E st H ⟨r, M, t, q⟩ =>
    tLc_of ho (R := Rp) (fun h => h) (vthen_ok t q fun d v H1 s1 t1 rv q1 => q1 M _ H1 (t1.set rv))⟩

/-! ### calls of what is built in -/
def OpC1 (K : PySem.W.Frag) (W : PWs) (r : List V → Hp → VK → Prop) (f : D → Res D) : Prop :=
  ∀ (M : MS) (st : Sg) (rh : Rho) (H : Hp) (x : V) (d : D) (Q : VK), En K M H st rh → Rw K M H x d → Dem K Rp W M st H (f d) Q → r [x] H Q
def OpC2 (K : PySem.W.Frag) (W : PWs) (r : List V → Hp → VK → Prop) (f : D → D → Res D) : Prop :=
  ∀ (M : MS) (st : Sg) (rh : Rho) (H : Hp) (x y : V) (d e : D) (Q : VK), En K M H st rh → Rw K M H x d → Rw K M H y e → Dem K Rp W M st H (f d e) Q → r [x, y] H Q
theorem tCB1 {r : List V → Hp → VK → Prop} {f : D → Res D} (o : OpC1 K W r f) {st : Sg} {H : Hp} {Q : VK} (h : tE K Rp W (then1 ga f) st H Q) : tCB r (tCons (tE K Rw W ga) tNil) st H Q := by
  obtain ⟨rh, M, en, q⟩ := h
  exact ⟨rh, M, en, Dem.then en q fun d v H1 _ s1 en1 r1 q1 => o M st rh H1 v d Q en1 r1 q1⟩
theorem tCB2 {r : List V → Hp → VK → Prop} {f : D → D → Res D} (o : OpC2 K W r f) {st : Sg} {H : Hp} {Q : VK} (h : tE K Rp W (bin2 f ga gb) st H Q) : tCB r (tCons (tE K Rw W ga) (tCons (tE K Rw W gb) tNil)) st H Q := by
  obtain ⟨rh, M, en, q⟩ := h
  exact ⟨rh, M, en, Dem.then (R := Rp) (Ra := Rw) en q fun d v H1 _ s1 en1 r1 q1 => ⟨rh, M, en1, Dem.then (R := Rp) (Ra := Rw) en1 q1 fun d2 v2 H2 _ s2 en2 r2 q2 => o M st rh H2 v v2 d d2 Q en2 (r1.same s2) r2 q2⟩⟩
theorem de_b1 {x : Str} {id : String} {r : List V → Hp → VK → Prop} {f : D → Res D} (hc : CallR X (.builtin id) r) (o : OpC1 X.K W r f) (hm : X.mg x = none) (hv : bootBuiltins x = some (.builtin id)) (ha : DW X W a ga) (hg : Gl X x := by rfl) (hn : x ≠ "__name__" := by decide) (hdb : (x == ("__debug__" : Str)) = false := by decide)
    (he : starEach (a :: []) X.env = (false, eval a X.env) :: starEach [] X.env := by rfl) (hpl : (backTo pos (starEach [] X.env)).any (·.1) = false := by rfl) : DE X W (.Call (.Name x p) [a] [] pos) (then1 ga f) :=
  ⟨(pe_callB hc hg hm hv (pa_cons ha.run pa_nil he) hn hdb he hpl).imp fun st H Q q => tCB1 o q⟩
theorem de_t1 {x : Str} {T : String} {r : List V → Hp → VK → Prop} {f : D → Res D} (hc : CallR X (.type T) r) (o : OpC1 X.K W r f) (hm : X.mg x = none) (hv : bootBuiltins x = some (.type T)) (ha : DW X W a ga) (hg : Gl X x := by rfl) (hn : x ≠ "__name__" := by decide) (hdb : (x == ("__debug__" : Str)) = false := by decide)
    (he : starEach (a :: []) X.env = (false, eval a X.env) :: starEach [] X.env := by rfl) (hpl : (backTo pos (starEach [] X.env)).any (·.1) = false := by rfl) : DE X W (.Call (.Name x p) [a] [] pos) (then1 ga f) :=
  ⟨(pe_callTy hc hg hm hv (pa_cons ha.run pa_nil he) hn hdb he hpl).imp fun st H Q q => tCB1 o q⟩
theorem de_b2 {x : Str} {id : String} {r : List V → Hp → VK → Prop} {f : D → D → Res D} (hc : CallR X (.builtin id) r) (o : OpC2 X.K W r f) (hm : X.mg x = none) (hv : bootBuiltins x = some (.builtin id)) (ha : DW X W a ga) (hb : DW X W b gb) (hg : Gl X x := by rfl) (hn : x ≠ "__name__" := by decide) (hdb : (x == ("__debug__" : Str)) = false := by decide)
    (he : starEach (a :: [b]) X.env = (false, eval a X.env) :: starEach [b] X.env := by rfl) (he2 : starEach (b :: []) X.env = (false, eval b X.env) :: starEach [] X.env := by rfl) (hpl : (backTo pos (starEach [b] X.env)).any (·.1) = false := by rfl) : DE X W (.Call (.Name x p) [a, b] [] pos) (bin2 f ga gb) :=
  ⟨(pe_callB hc hg hm hv (pa_cons ha.run (pa_cons hb.run pa_nil he2) he) hn hdb he hpl).imp fun st H Q q => tCB2 o q⟩
def bLen : D → Res D
  | .list ds => .ok (.int ds.length)
  | .tuple ds => .ok (.int ds.length)
  | _ => .no
theorem opc_len : OpC1 K W (fun xs H Q => ∃ p ys, xs = [.ref p] ∧ (SqL K H p ys ∨ SqT K H p ys) ∧ Q (.int ys.length) H) bLen := by
  intro M st rh H x d Q en rx q
  cases d with
  | list ds =>
    obtain ⟨a, xs, rfl, rr, l⟩ := rx.lst_
    exact ⟨a, xs, rfl, .inl rr, q _ H (Same.refl _) (by rw [l.length]; exact .int _)⟩
  | tuple ds =>
    obtain ⟨a, xs, rfl, rr, l, _⟩ := rx.tup_
    exact ⟨a, xs, rfl, .inr (.inl rr), q _ H (Same.refl _) (by rw [l.length]; exact .int _)⟩
  | none => exact q.elim
  | bool => exact q.elim
  | int => exact q.elim
  | str => exact q.elim
  | dict => exact q.elim
theorem de_len (hm : X.mg "len" = none) (ha : DW X W a ga) (hg : Gl X "len" := by rfl)
    (he : starEach (a :: []) X.env = (false, eval a X.env) :: starEach [] X.env := by rfl) (hpl : (backTo pos (starEach [] X.env)).any (·.1) = false := by rfl) : DE X W (.Call (.Name "len" p) [a] [] pos) (then1 ga bLen) :=
  de_b1 call_len_seq opc_len hm PySem.boot_len ha hg (by decide) (by decide) he hpl
def bList : D → Res D
  | .list ds => .ok (.list ds)
  | .tuple ds => .ok (.list ds)
  | _ => .no
theorem opc_list : OpC1 K W (fun xs H Q => ∃ p ys, xs = [.ref p] ∧ (SqL K H p ys ∨ SqT K H p ys) ∧ ∀ l, H l = none → Q (.ref l) (upd H l (.lst ys))) bList := by
  intro M st rh H x d Q en rx q
  cases d with
  | list ds =>
    obtain ⟨a, xs, rfl, rr, l⟩ := rx.lst_
    exact ⟨a, xs, rfl, .inl rr, fun p hp => q _ _ (same_upd hp) (.lst (en.fresh hp) (.inl upd_same) (l.same (same_upd hp)))⟩
  | tuple ds =>
    obtain ⟨a, xs, rfl, rr, l, _⟩ := rx.tup_
    exact ⟨a, xs, rfl, .inr (.inl rr), fun p hp => q _ _ (same_upd hp) (.lst (en.fresh hp) (.inl upd_same) (l.same (same_upd hp)))⟩
  | none => exact q.elim
  | bool => exact q.elim
  | int => exact q.elim
  | str => exact q.elim
  | dict => exact q.elim
theorem de_list (hm : X.mg "list" = none) (ha : DW X W a ga) (hg : Gl X "list" := by rfl)
    (he : starEach (a :: []) X.env = (false, eval a X.env) :: starEach [] X.env := by rfl) (hpl : (backTo pos (starEach [] X.env)).any (·.1) = false := by rfl) : DE X W (.Call (.Name "list" p) [a] [] pos) (then1 ga bList) :=
  de_t1 call_list_of opc_list hm PyProof.Rows.boot_list ha hg (by decide) (by decide) he hpl
def bTuple : D → Res D
  | .list ds => .ok (.tuple ds)
  | .tuple ds => .ok (.tuple ds)
  | _ => .no
theorem opc_tuple : OpC1 K W (fun xs H Q => ∃ p ys, xs = [.ref p] ∧ ((SqL K H p ys ∧ ∀ l, H l = none → Q (.ref l) (upd H l (.tup ys))) ∨ (SqT K H p ys ∧ Q (.ref p) H))) bTuple := by
  intro M st rh H x d Q en rx q
  cases d with
  | list ds =>
    obtain ⟨a, xs, rfl, rr, l⟩ := rx.lst_
    exact ⟨a, xs, rfl, .inl ⟨rr, fun p hp => q _ _ (same_upd hp) (.tup (en.fresh hp) (.inl upd_same) (l.same (same_upd hp)))⟩⟩
  | tuple ds =>
    obtain ⟨a, xs, rfl, rr, l, n⟩ := rx.tup_
    exact ⟨a, xs, rfl, .inr ⟨.inl rr, q _ _ (Same.refl _) (.tup n rr l)⟩⟩
  | none => exact q.elim
  | bool => exact q.elim
  | int => exact q.elim
  | str => exact q.elim
  | dict => exact q.elim
theorem de_tuple (hm : X.mg "tuple" = none) (ha : DW X W a ga) (hg : Gl X "tuple" := by rfl)
    (he : starEach (a :: []) X.env = (false, eval a X.env) :: starEach [] X.env := by rfl) (hpl : (backTo pos (starEach [] X.env)).any (·.1) = false := by rfl) : DE X W (.Call (.Name "tuple" p) [a] [] pos) (then1 ga bTuple) :=
  de_t1 call_tuple_of opc_tuple hm PyProof.Rows.boot_tuple ha hg (by decide) (by decide) he hpl
def bInt : D → Res D
  | .int i => .ok (.int i)
  | .bool b => .ok (.int (if b then 1 else 0))
  | _ => .no
theorem opc_int : OpC1 K W (fun xs H Q => (∃ i, xs = [.int i] ∧ Q (.int i) H) ∨ ∃ k, xs = [.bl k] ∧ Q (.int (if k then 1 else 0)) H) bInt := by
  intro M st rh H x d Q en rx q
  cases d <;> first
    | exact q.elim
    | exact .inl ⟨_, by rw [rx.int_], q _ H (Same.refl _) (.int _)⟩
    | exact .inr ⟨_, by rw [rx.bool_], q _ H (Same.refl _) (.int _)⟩
theorem de_int1 (hm : X.mg "int" = none) (ha : DW X W a ga) (hg : Gl X "int" := by rfl)
    (he : starEach (a :: []) X.env = (false, eval a X.env) :: starEach [] X.env := by rfl) (hpl : (backTo pos (starEach [] X.env)).any (·.1) = false := by rfl) : DE X W (.Call (.Name "int" p) [a] [] pos) (then1 ga bInt) :=
  de_t1 call_int1 opc_int hm PyProof.Rows.boot_int ha hg (by decide) (by decide) he hpl
def bMin : D → D → Res D
  | .int i, .int j => .ok (.int (if j < i then j else i))
  | _, _ => .no
def bMax : D → D → Res D
  | .int i, .int j => .ok (.int (if j > i then j else i))
  | _, _ => .no
theorem opc_min : OpC2 K W (fun xs H Q => ∃ i j, xs = [.int i, .int j] ∧ Q (.int (if j < i then j else i)) H) bMin := by
  intro M st rh H x y d e Q en rx ry q
  cases d <;> cases e <;> first
    | exact q.elim
    | exact ⟨_, _, by rw [rx.int_, ry.int_], q _ H (Same.refl _) (.int _)⟩
theorem opc_max : OpC2 K W (fun xs H Q => ∃ i j, xs = [.int i, .int j] ∧ Q (.int (if j > i then j else i)) H) bMax := by
  intro M st rh H x y d e Q en rx ry q
  cases d <;> cases e <;> first
    | exact q.elim
    | exact ⟨_, _, by rw [rx.int_, ry.int_], q _ H (Same.refl _) (.int _)⟩
theorem de_min (hc : X.calm = true) (hm : X.mg "min" = none) (ha : DW X W a ga) (hb : DW X W b gb) (hg : Gl X "min" := by rfl)
    (he : starEach (a :: [b]) X.env = (false, eval a X.env) :: starEach [b] X.env := by rfl) (he2 : starEach (b :: []) X.env = (false, eval b X.env) :: starEach [] X.env := by rfl) (hpl : (backTo pos (starEach [b] X.env)).any (·.1) = false := by rfl) : DE X W (.Call (.Name "min" p) [a, b] [] pos) (bin2 bMin ga gb) :=
  de_b2 (call_min2 hc) opc_min hm PyProof.Rows.boot_min ha hb hg (by decide) (by decide) he he2 hpl
theorem de_max (hc : X.calm = true) (hm : X.mg "max" = none) (ha : DW X W a ga) (hb : DW X W b gb) (hg : Gl X "max" := by rfl)
    (he : starEach (a :: [b]) X.env = (false, eval a X.env) :: starEach [b] X.env := by rfl) (he2 : starEach (b :: []) X.env = (false, eval b X.env) :: starEach [] X.env := by rfl) (hpl : (backTo pos (starEach [b] X.env)).any (·.1) = false := by rfl) : DE X W (.Call (.Name "max" p) [a, b] [] pos) (bin2 bMax ga gb) :=
  de_b2 (call_max2 hc) opc_max hm PyProof.Rows.boot_max ha hb hg (by decide) (by decide) he he2 hpl
/-! sum of ints -/
def intsOf : List D → Option (List Int)
  | [] => some []
  | .int i :: ds => (intsOf ds).map fun is => i :: is
  | _ :: _ => none
theorem intsOf_ok {M : MS} {H : Hp} : ∀ {ds : List D} {vs : List V} {ns : List Int}, RpL K M H vs ds → intsOf ds = some ns → vs = ns.map V.int
  | [], _, _, h, e => by cases h; cases e; rfl
  | d :: ds, _, _, h, e => by
    cases h with
    | cons a t =>
      cases d <;> first
        | (cases e; done)
        | (rename_i i
           unfold intsOf at e
           cases ei : intsOf ds with
           | none => rw [ei] at e; cases e
           | some is =>
             rw [ei] at e
             cases e
             rw [a.weak.int_, intsOf_ok t ei]
             rfl)
def bSum : D → Res D
  | .list ds => match intsOf ds with
    | some ns => .ok (.int ns.sum)
    | none => .no
  | _ => .no
theorem opc_sum : OpC1 K W (rSum K) bSum := by
  intro M st rh H x d Q en rx q
  cases d with
  | list ds =>
    obtain ⟨a, xs, rfl, rr, l⟩ := rx.lst_
    unfold bSum at q
    simp only at q
    cases ei : intsOf ds with
    | none => rw [ei] at q; exact q.elim
    | some ns =>
      rw [ei] at q
      have z := intsOf_ok l ei
      subst z
      exact ⟨a, ns, rfl, rr, q _ H (Same.refl _) (.int _)⟩
  | tuple ds => exact q.elim
  | none => exact q.elim
  | bool => exact q.elim
  | int => exact q.elim
  | str => exact q.elim
  | dict => exact q.elim
theorem de_sum (hc : X.calm = true) (hm : X.mg "sum" = none) (ha : DW X W a ga) (hg : Gl X "sum" := by rfl)
    (he : starEach (a :: []) X.env = (false, eval a X.env) :: starEach [] X.env := by rfl) (hpl : (backTo pos (starEach [] X.env)).any (·.1) = false := by rfl) : DE X W (.Call (.Name "sum" p) [a] [] pos) (then1 ga bSum) :=
  de_b1 (cr_sum hc) opc_sum hm PyProof.Rows.boot_sum ha hg (by decide) (by decide) he hpl
/-! isinstance(x, T), T a built-in type -/
def tyD : D → String
  | .none => "NoneType"
  | .bool _ => "bool"
  | .int _ => "int"
  | .str _ => "str"
  | .list _ => "list"
  | .tuple _ => "tuple"
  | .dict _ => "dict"
theorem tyD_ok {M : MS} {H : Hp} {v : V} {d : D} (h : Rw K M H v d) : TyX K H v (.type (tyD d)) := by
  cases d with
  | none => rw [h.none_]; exact .base .non
  | bool b => rw [h.bool_]; exact .base (.bl _)
  | int i => rw [h.int_]; exact .base (.int _)
  | str x => rw [h.str_]; exact .base (.str _)
  | list ds =>
    obtain ⟨a, xs, rfl, r, _⟩ := h.lst_
    rcases r with (r | ⟨o, r⟩) | ⟨o, its, n, hk, hc, _⟩
    · exact .base (.lst r)
    · exact .base (.frz r)
    · exact .kList hk hc
  | tuple ds =>
    obtain ⟨a, xs, rfl, r, _⟩ := h.tup_
    rcases r with r | ⟨o, r⟩
    · exact .base (.tup r)
    · exact .fTuple r
  | dict ds => cases (show Rp K M H v (.dict ds) from h)
/-- the answers for the type T -/
structure IsiT (T : String) (f : String → Bool) : Prop where
  h : ∀ t ∈ ["NoneType", "bool", "int", "str", "list", "tuple"], kitB t T = some (f t)
theorem isi_int : IsiT "int" (fun t => t == "int" || t == "bool") := ⟨by decide +kernel⟩
theorem isi_bool : IsiT "bool" (fun t => t == "bool") := ⟨by decide +kernel⟩
theorem isi_tuple : IsiT "tuple" (fun t => t == "tuple") := ⟨by decide +kernel⟩
theorem isi_list : IsiT "list" (fun t => t == "list") := ⟨by decide +kernel⟩
theorem isi_str : IsiT "str" (fun t => t == "str") := ⟨by decide +kernel⟩
theorem tyD_mem {M : MS} {H : Hp} {v : V} {d : D} (h : Rw K M H v d) : tyD d ∈ ["NoneType", "bool", "int", "str", "list", "tuple"] := by
  cases d with
  | dict ds => cases (show Rp K M H v (.dict ds) from h)
  | _ => simp [tyD]
def isiE (f : String → Bool) (ga : Rho → Res D) : Rho → Res D := then1 ga fun d => .ok (.bool (f (tyD d)))
theorem de_isi {T : String} {f : String → Bool} {x : Str} {px : Pos} (t : IsiT T f) (hm : X.mg "isinstance" = none) (hmT : X.mg x = none) (hvT : bootBuiltins x = some (.type T)) (ha : DW X W a ga) (hg : Gl X "isinstance" := by rfl) (hgT : Gl X x := by rfl) (hn : x ≠ "__name__" := by decide) (hdb : (x == ("__debug__" : Str)) = false := by decide)
    (he : starEach (a :: [.Name x px]) X.env = (false, eval a X.env) :: starEach [.Name x px] X.env := by rfl) (he2 : starEach (.Name x px :: []) X.env = (false, eval (.Name x px) X.env) :: starEach [] X.env := by rfl) (hpl : (backTo pos (starEach [.Name x px] X.env)).any (·.1) = false := by rfl) :
    DE X W (.Call (.Name "isinstance" p) [a, .Name x px] [] pos) (isiE f ga) :=
  ⟨(pe_callB call_isi hg hm PyProof.Rows.boot_isinstance (pa_cons ha.run (pa_cons (pe_bltn (v := .ty T) hgT hmT hvT rfl hn hdb) pa_nil he2) he) (by decide) (by decide) he hpl).imp fun st H Q ⟨rh, M, en, q⟩ =>
    ⟨rh, M, en, Dem.then en q fun d v H1 _ s1 en1 r1 q1 => ⟨v, .ty T, _, _, _, rfl, .ty T, tyD_ok r1, kit_ty (t.h _ (tyD_mem r1)), q1 _ H1 (Same.refl _) (.bl _)⟩⟩⟩

/-! ### defs and their calls -/
def outR : Out → Res D
  | .rt d => .ok d
  | .nx _ => .ok .none
  | .ex c _ => .ex c
  | _ => .no
/-- the wish, of the classes' numbers; cs: where the classes stand -/
def lft (cs : Nat → Addr) (W : PWs) : L2.WX := fun cls d st H => ∃ c, cls = .ref (cs c) ∧ d = none ∧ W c st H
theorem takes00 {cs : Nat → Addr} : Takes X (lft cs W0) := takes0.imp fun _ _ _ _ ⟨_, _, _, z⟩ => z
def spD (cs : Nat → Addr) (K : PySem.W.Frag) (n : Nat) (f : List D → Out) : Sp := fun vs H Q E => vs.length = n ∧ ∃ (M0 : MS) (ds : List D), Lv K M0 H ∧ RpL K M0 H vs ds ∧
  match outR (f ds) with
  | .ok d => ∀ v H', Same H H' → Rp K M0 H' v d → Q v H'
  | .ex c => ∀ H', Same H H' → E (.ref (cs c)) none H'
  | .no => False
def fnD (fb : Rho → Out) (n : Nat) (ds : List D) : Out := fb (ds.map Sl.val ++ List.replicate (n - ds.length) Sl.no)
def callE (gl : Rho → Res (List D)) (fc : List D → Out) (r : Rho) : Res D := (gl r).bind fun ds => outR (fc ds)
theorem de_call {k n : Nat} {f : Addr} {fd : FuncData} {ps : List Str} {fc : List D → Out} {x : Str} {cs : Nat → Addr} (tk : Takes X (lft cs W)) (F : FnOk X.prog X.w X.K X.mg X.base (L2.CX X.prog X.w) k f fd ps (spD cs X.K n fc)) (hr : Room k X.A) (hm : X.mg x = some (.ref f)) (hk : PySem.W.keepIn X.K (.ref f) = true) (hb : Binds X.K fd ps [])
    (ha : DL X W (e :: es) gl) (hn : n = es.length + 1 := by rfl) (hg : Gl X x := by rfl) (hdb : (x == ("__debug__" : Str)) = false := by decide) (he : starEach (e :: es) X.env = (false, eval e X.env) :: starEach es X.env := by rfl) (hpl : (backTo pos (starEach es X.env)).any (·.1) = false := by rfl) :
    DE X W (.Call (.Name x p) (e :: es) [] pos) (callE gl fc) :=
  ⟨(pe_callS F hr hg hm hk hb (fun st => passAt tk st) ha.run hdb he hpl).imp fun st H Q ⟨r, M, en, q⟩ => by
    refine ⟨r, M, en, DemA.then en q fun ds vs H1 hgl s1 en1 r1 q1 => ⟨by rw [r1.length, ha.len r ds hgl, hn]; rfl, M, ds, en1.live, r1, ?_⟩⟩
    revert q1
    cases outR (fc ds) with
    | ok d => exact fun q1 => q1
    | ex c => exact fun q1 H' s' => ⟨c, rfl, rfl, q1 H' s'⟩
    | no => exact fun q1 => q1⟩
abbrev WD (cs : Nat → Addr) (E : XK) : PWs := fun c _ H => E (.ref (cs c)) none H
abbrev CxD (P : Program) (w : World) (K : PySem.W.Frag) (mg : Str → Option Value) (base : Heap) (N : List Str) (qual : Str) (st : Stmt) (f : Addr) (cdv : Value) (A : Around) (outer : List Env) (s : Shared) (H : Hp) (E : XK) : Cx :=
  cxOf (L2.CX P w) P w K mg base N qual (defScope st) f cdv A outer s H E
end
section
variable {P : Program} {w : World} {K : PySem.W.Frag} {mg : Str → Option Value} {base : Heap} {N : List Str} {qual : Str} {st : Stmt} {f : Addr} {cdv : Value} {A : Around} {outer : List Env} {s : Shared} {H : Hp} {E : XK}
theorem tk_of {cs : Nat → Addr} : Takes (CxD P w K mg base N qual st f cdv A outer s H E) (lft cs (WD cs E)) := (takes_of (X := CxD P w K mg base N qual st f cdv A outer s H E) rfl rfl rfl rfl).imp fun cls d st H ⟨c, e1, e2, z⟩ => by
  subst e1 e2
  exact z
theorem po_of : PassesOwn (model P w) (CxD P w K mg base N qual st f cdv A outer s H E).A (CxD P w K mg base N qual st f cdv A outer s H E).env (CxD P w K mg base N qual st f cdv A outer s H E).xe :=
  passes_of (X := CxD P w K mg base N qual st f cdv A outer s H E) rfl
theorem start_rep {M : MS} {H : Hp} {vs : List V} {ds : List D} {N : List Str} (live : Lv K M H) (l : RpL K M H vs ds) : En K M H (L2.start N vs) (ds.map Sl.val ++ List.replicate (N.length - ds.length) Sl.no) := by
  have hl := l.length
  refine ⟨live, fun i z e => ?_, by unfold L2.start; simp [hl]⟩
  by_cases hi : i < ds.length
  · rw [List.getElem?_append_left (by rw [List.length_map]; exact hi), List.getElem?_map] at e
    cases e2 : ds[i]? with
    | none => rw [e2] at e; cases e
    | some d =>
      rw [e2] at e
      cases e
      obtain ⟨v, h1, h2⟩ := l.get e2
      refine ⟨v, ?_, h2⟩
      unfold L2.start
      rw [List.getElem?_append_left (by rw [List.length_map]; omega), List.getElem?_map, h1]
      rfl
  · rw [List.getElem?_append_right (by rw [List.length_map]; omega)] at e
    obtain ⟨_, e3⟩ := List.getElem?_eq_some_iff.mp e
    rw [List.getElem_replicate] at e3
    subst e3
    exact trivial
theorem own_none {ds : List D} {n i : Nat} {k : Kd} {xs : List D} (e : (ds.map Sl.val ++ List.replicate n Sl.no)[i]? = some (.box k xs)) : False := by
  by_cases hi : i < ds.length
  · rw [List.getElem?_append_left (by rw [List.length_map]; exact hi), List.getElem?_map] at e
    cases e2 : ds[i]? with
    | none => rw [e2] at e; cases e
    | some d => rw [e2] at e; cases e
  · rw [List.getElem?_append_right (by rw [List.length_map]; omega)] at e
    obtain ⟨_, e3⟩ := List.getElem?_eq_some_iff.mp e
    rw [List.getElem_replicate] at e3
    cases e3
theorem sta_none {M0 : MS} {st : Sg} {ds : List D} {n : Nat} : StaF M0 st (ds.map Sl.val ++ List.replicate n Sl.no) := .none fun i A h ts bs e => by
  by_cases hi : i < ds.length
  · rw [List.getElem?_append_left (by rw [List.length_map]; exact hi), List.getElem?_map] at e
    cases e2 : ds[i]? with
    | none => rw [e2] at e; cases e
    | some d => rw [e2] at e; cases e
  · rw [List.getElem?_append_right (by rw [List.length_map]; omega)] at e
    obtain ⟨_, e3⟩ := List.getElem?_eq_some_iff.mp e
    rw [List.getElem_replicate] at e3
    cases e3
/-- THE RULE for a def -/
theorem def_ok {x : Str} {fd : FuncData} {ps : List Str} {k : Nat} {fb : Rho → Out} {cs : Nat → Addr} (F : Fun K x qual st f fd) (S : FnScope N ps (defScope st))
    (hb : ∀ (cdv : Value) (A : Around) (outer : List Env) (s : Shared) (H : Hp) (E : XK), Room k (CxD P w K mg base N qual st f cdv A outer s H E).A → DSs (CxD P w K mg base N qual st f cdv A outer s H E) (WD cs E) (defBody st) fb) :
    FnOk P w K mg base (L2.CX P w) (k + 1) f fd ps (spD cs K ps.length (fnD fb N.length)) := by
  refine F.okX S (fun vs H Q E h => h.1) (fun cdv A outer s H vs Q E hr h => ⟨_, (hb cdv A outer s H E hr).run (Classical.choose h.2) H, ?_⟩)
  obtain ⟨ds, live, l, q⟩ := Classical.choose_spec h.2
  have en := start_rep (N := N) live l
  refine ⟨_, _, ⟨en, Same.refl _, fun _ z => z, fun _ z => .inl z, en.len, fun i j l _ _ xs ys e => (own_none e).elim, fun i l _ xs e => (own_none e).elim, sta_none⟩, ?_⟩
  have q' : match outR (fb (ds.map Sl.val ++ List.replicate (N.length - ds.length) Sl.no)) with
    | .ok d => ∀ v H', Same H H' → Rp K (Classical.choose h.2) H' v d → Q v H'
    | .ex c => ∀ H', Same H H' → E (.ref (cs c)) none H'
    | .no => False := q
  revert q'
  cases fb (ds.map Sl.val ++ List.replicate (N.length - ds.length) Sl.no) with
  | nx r => exact fun q M2 st2 H2 t2 => q .non H2 t2.keep .non
  | rt d => exact fun q v H2 s2 rv => q v H2 s2 rv
  | ex c r => exact fun q M2 st2 H2 t2 => q H2 t2.keep
  | bk r => exact fun q => q.elim
  | ct r => exact fun q => q.elim
  | no => exact fun q => q
end
end PD

namespace PD
open PySem PySem.Spec PyProof.Rows L2
variable {K : PySem.W.Frag}
section
variable {X : Cx} {W : PWs} {e a b c : Expr} {es : List Expr} {g ga gb : Rho → Res D} {gl : Rho → Res (List D)} {gt : Rho → Res Bool} {pos p : Pos}
/-- a power that is written out -/
theorem de_pow {i j n : Int} {k1 k2 : Nat} {p1 p2 : Pos} (h0 : 0 ≤ j ∧ j ≤ 1000000 ∧ i.natAbs < 2 ^ 64) (hn : i ^ j.toNat = n) : DE X W (.BinOp (.Constant (.int i) k1 p1) .Pow (.Constant (.int j) k2 p2) pos) (fun _ => .ok (.int n)) :=
  ⟨(pe_op op_pow pe_int pe_int).imp fun st H Q ⟨r, M, en, q⟩ => ⟨i, j, rfl, rfl, h0, q _ H (Same.refl _) (by show Rp _ _ _ (V.int (i ^ j.toNat)) _; rw [hn]; exact .int _)⟩⟩
/-! x op= e -/
def augE (i : Nat) (f : D → D → Res D) (g : Rho → Res D) (r : Rho) : Out := match r[i]? with
  | some (.val d) => vThen (fun r => (g r).bind fun e => f d e) (fun z r => .nx (r.set i (.val z))) r
  | _ => .no

/-! ### a def that may be called -/
structure Cal (cs : Nat → Addr) (P : Program) (w : World) (K : PySem.W.Frag) (mg : Str → Option Value) (base : Heap) (k n : Nat) (x : Str) (fc : List D → Out) : Prop where
  ex : ∃ (f : Addr) (fd : FuncData) (ps : List Str), FnOk P w K mg base (L2.CX P w) k f fd ps (spD cs K n fc) ∧ mg x = some (.ref f) ∧ PySem.W.keepIn K (.ref f) = true ∧ Binds K fd ps []
theorem de_callC {k n : Nat} {fc : List D → Out} {x : Str} {cs : Nat → Addr} (tk : Takes X (lft cs W)) (C : Cal cs X.prog X.w X.K X.mg X.base k n x fc) (hr : Room k X.A)
    (ha : DL X W (e :: es) gl) (hn : n = es.length + 1 := by rfl) (hg : Gl X x := by rfl) (hdb : (x == ("__debug__" : Str)) = false := by decide) (he : starEach (e :: es) X.env = (false, eval e X.env) :: starEach es X.env := by rfl) (hpl : (backTo pos (starEach es X.env)).any (·.1) = false := by rfl) :
    DE X W (.Call (.Name x p) (e :: es) [] pos) (callE gl fc) := by
  obtain ⟨f, fd, ps, F, hm, hk, hb⟩ := C.ex
  exact de_call tk F hr hm hk hb ha hn hg hdb he hpl

/-! ### raise -/
/-- what the top says of an own class of errors without a body -/
structure ExcAt (K : PySem.W.Frag) (mg : Str → Option Value) (x : Str) (C : Addr) : Prop where
  g : mg x = some (.ref C)
  k : PySem.W.keepIn K (.ref C) = true
  q : PySem.W.excIn K C PySem.HandSPX.veTail "ValueError.__new__" = true
  b : PySem.W.subIn K (.ref C) (.type "BaseException") = some true
  t : PySem.W.typeIn K (.ref C) = some (.type "type")
theorem ds_raise {x m : Str} {j c : Nat} {cs : Nat → Addr} {p2 pos2 : Pos} (hc : X.calm = true) (tk : Takes X (lft cs W)) (T : ExcAt X.K X.mg x (cs c)) (hg : Gl X x := by rfl) (hdb : (x == ("__debug__" : Str)) = false := by decide) :
    DS X W (.Raise (some (.Call (.Name x p) [.Constant (.str m) j p2] [] pos)) none pos2) (fun r => .ex c r) :=
  ⟨fun M0 H0 => (ps_raise hc tk (pmk_own PySem.F.excBase_ValueError T.q T.g T.k (raises_own T.b T.t) hg hdb)).imp fun E st H ⟨r, M, t, q⟩ => ⟨c, rfl, rfl, q M st H t⟩⟩
/-! the parts of a message -/
open Classical in
noncomputable def msgI (g : Rho → Res D) (gt : Rho → Res Bool) (r : Rho) : Res Bool := (g r).bind fun d => match d with
  | .int i => if i.natAbs.log2 < 1920 then gt r else .no
  | _ => .no
end
/-! ### the end of a law -/
/-- the law says True of every script of at most 63 ints -/
def spT (K : PySem.W.Frag) : Sp := fun vs H Q _ => ∃ (a : Addr) (ns : List Int), vs = [.ref a] ∧ SqL K H a (ns.map V.int) ∧ ns.length ≤ 63 ∧ (∀ P, IsTab K P → TabG H P) ∧ ∀ H', Same H H' → Q (.bl true) H'
theorem ints_rep {M : MS} {H : Hp} : ∀ ns : List Int, RpL K M H (ns.map V.int) (ns.map PyData.int)
  | [] => .nil
  | i :: is => .cons (.int i) (ints_rep is)
theorem law_imp {P : Program} {w : World} {mg : Str → Option Value} {base : Heap} {k : Nat} {f : Addr} {fd : FuncData} {ps : List Str} {fc : List D → Out} {cs : Nat → Addr} (F : FnOk P w K mg base (L2.CX P w) k f fd ps (spD cs K 1 fc))
    (h : ∀ ns : List Int, ns.length ≤ 63 → outR (fc [.list (ns.map PyData.int)]) = .ok (.bool true)) : FnOk P w K mg base (L2.CX P w) k f fd ps (spT K) :=
  F.imp fun vs H Q E ⟨a, ns, e, hs, hl, ht, q⟩ => by
    subst e
    refine ⟨rfl, fun _ => False, [.list (ns.map PyData.int)], ⟨fun l z => z.elim, ht⟩, .one ?_, ?_⟩
    · rcases hs with hs | hs
      · exact .lst (fun z => z) hs (ints_rep ns)
      · exact .kls hs (ints_rep ns)
    · rw [h ns hl]
      intro v H' sm rv
      rw [rv.weak.bool_]
      exact q H' sm
end PD

namespace PD
open PySem PySem.Spec PyProof.Rows L2

/-! ### what the pure functions come to -/
theorem shaped_int (i : Int) : SeqAt.shaped (.int i) = true := by simp [SeqAt.shaped, PyData.canLay0, PyData.depth]
theorem shaped_bool (i : Bool) : SeqAt.shaped (.bool i) = true := by simp [SeqAt.shaped, PyData.canLay0, PyData.depth]
theorem shaped_str {i : Str} (h : PyData.strOk i = true) : SeqAt.shaped (.str i) = true := by simp [SeqAt.shaped, PyData.canLay0, PyData.depth, h]
theorem shaped_none : SeqAt.shaped .none = true := by simp [SeqAt.shaped, PyData.canLay0, PyData.depth]
@[simp] theorem qEq_int (i j : Int) : qEq (.int i) (.int j) = .ok (.bool (i == j)) := by
  unfold qEq
  rw [if_pos ⟨shaped_int i, shaped_int j⟩, PyData.eqv]
@[simp] theorem qNe_int (i j : Int) : qNe (.int i) (.int j) = .ok (.bool (!(i == j))) := by
  unfold qNe
  rw [if_pos ⟨shaped_int i, shaped_int j⟩, PyData.eqv]
theorem qEq_str {i j : Str} (hi : PyData.strOk i = true) (hj : PyData.strOk j = true) : qEq (.str i) (.str j) = .ok (.bool (i == j)) := by
  unfold qEq
  rw [if_pos ⟨shaped_str hi, shaped_str hj⟩, PyData.eqv]
theorem qNe_str {i j : Str} (hi : PyData.strOk i = true) (hj : PyData.strOk j = true) : qNe (.str i) (.str j) = .ok (.bool (!(i == j))) := by
  unfold qNe
  rw [if_pos ⟨shaped_str hi, shaped_str hj⟩, PyData.eqv]
/-! loops -/
theorem forD_inv {asg : Asg} {f : Rho → Out} : ∀ (ds : List D) (r : Rho) (I : Nat → Rho → Prop) (k : Nat), I k r → (∀ i d r, ds[i]? = some d → I (k + i) r → ∃ ps r2, asg d = some ps ∧ (f (setsD r ps) = .nx r2 ∨ f (setsD r ps) = .ct r2) ∧ I (k + i + 1) r2) →
    ∃ r2, forD asg f ds r = .nx r2 ∧ I (k + ds.length) r2
  | [], r, I, k, h, _ => ⟨r, rfl, h⟩
  | d :: ds, r, I, k, h, st => by
    obtain ⟨ps, r2, e, hf, h2⟩ := st 0 d r rfl h
    obtain ⟨r3, e3, h3⟩ := forD_inv ds r2 I (k + 1) h2 fun i d r hd hi => by
      have q := st (i + 1) d r (by simpa using hd) (by rw [show k + (i + 1) = k + 1 + i by omega]; exact hi)
      rw [show k + (i + 1) + 1 = k + 1 + i + 1 by omega] at q
      exact q
    refine ⟨r3, ?_, by rw [List.length_cons, show k + (ds.length + 1) = k + 1 + ds.length by omega]; exact h3⟩
    unfold forD
    rw [e]
    rcases hf with hf | hf
    · simp only [hf]; exact e3
    · simp only [hf]; exact e3
theorem rngD_length (lo : Int) (n : Nat) : (rngD lo n).length = n := by simp [rngD]
theorem rngD_get {lo : Int} {n i : Nat} {d : D} (h : (rngD lo n)[i]? = some d) : i < n ∧ d = .int (lo + i) := by
  have hi : i < n := by
    have := (List.getElem?_eq_some_iff.mp h).1
    rw [rngD_length] at this
    exact this
  refine ⟨hi, ?_⟩
  simp [rngD, hi] at h
  exact h.symm
/-- over a range -/
theorem forD_rng {asg : Asg} {f : Rho → Out} (lo : Int) (n : Nat) (r : Rho) (I : Nat → Rho → Prop) (h : I 0 r) (st : ∀ i r, i < n → I i r → ∃ ps r2, asg (.int (lo + i)) = some ps ∧ (f (setsD r ps) = .nx r2 ∨ f (setsD r ps) = .ct r2) ∧ I (i + 1) r2) :
    ∃ r2, forD asg f (rngD lo n) r = .nx r2 ∧ I n r2 := by
  obtain ⟨r2, e, q⟩ := forD_inv (asg := asg) (f := f) (rngD lo n) r I 0 h fun i d r hd hi => by
    obtain ⟨hn, rfl⟩ := rngD_get hd
    rw [Nat.zero_add] at hi ⊢
    exact st i r hn hi
  rw [Nat.zero_add, rngD_length] at q
  exact ⟨r2, e, q⟩

/-! shapes of data: depth one above the deepest item -/
def flatL (ds : List D) : Bool := ds.all flatD
theorem mulok_r {i j : Int} (h : -(2 ^ 64) < j ∧ j < 2 ^ 64) : MulOk i j := .inl (.inr h)
theorem mulok_l {i j : Int} (h : -(2 ^ 64) < i ∧ i < 2 ^ 64) : MulOk i j := .inl (.inl h)
theorem iMul_r {i j : Int} (h : -(2 ^ 64) < j ∧ j < 2 ^ 64) : iMul (.int i) (.int j) = .ok (.int (i * j)) := by
  simp only [iMul]
  rw [if_pos (mulok_r h)]
theorem iMul_l {i j : Int} (h : -(2 ^ 64) < i ∧ i < 2 ^ 64) : iMul (.int i) (.int j) = .ok (.int (i * j)) := by
  simp only [iMul]
  rw [if_pos (mulok_l h)]
theorem iMul_w {i j : Int} {a b : Nat} (ha : i.natAbs < 2 ^ a) (hb : j.natAbs < 2 ^ b) (h0 : 0 < a) (h1 : 0 < b) (h : a + b ≤ 1000000) : iMul (.int i) (.int j) = .ok (.int (i * j)) := by
  simp only [iMul]
  rw [if_pos (.inr (wide_mul ha hb h0 h1 h))]
theorem iDiv_w {i j : Int} {b : Nat} (h : 0 < j) (hb : j.natAbs < 2 ^ b) (h0 : 0 < b) (h9 : b ≤ 9000) : iDiv (.int i) (.int j) = .ok (.int (i / j)) := by
  simp only [iDiv]
  rw [if_pos (wide_div h hb h0 h9)]
theorem iDiv_lit {i j : Int} (h : 0 < j ∧ j < 2 ^ 64) : iDiv (.int i) (.int j) = .ok (.int (i / j)) := iDiv_w (b := 64) h.1 (by omega) (by decide) (by decide)
theorem iMod_p {i j : Int} (h : 0 < j) : iMod (.int i) (.int j) = .ok (.int (i % j)) := by
  simp only [iMod]
  rw [if_pos h]
theorem qIx_at {d : D} {ds : List D} {i : Int} {z : D} (hd : items d = some ds) (h : atI ds i = some z) : qIx d (.int i) = .ok z := by
  unfold qIx
  rw [hd]
  simp only
  rw [h]
theorem atI_in {α : Type} {ds : List α} {i : Int} (h0 : 0 ≤ i) (h1 : i.toNat < ds.length) : atI ds i = some (ds[i.toNat]) := by
  have e : ((i.toNat : Nat) : Int) = i := by omega
  have q := atI_nat (List.getElem?_eq_getElem h1)
  rw [e] at q
  exact q
theorem qIx_list {ds : List D} {i : Int} (h0 : 0 ≤ i) (h1 : i.toNat < ds.length) : qIx (.list ds) (.int i) = .ok (ds[i.toNat]) := qIx_at rfl (atI_in h0 h1)
theorem qIx_tup {ds : List D} {i : Int} (h0 : 0 ≤ i) (h1 : i.toNat < ds.length) : qIx (.tuple ds) (.int i) = .ok (ds[i.toNat]) := qIx_at rfl (atI_in h0 h1)
theorem atI_cast {α : Type} (ds : List α) (n : Nat) : atI ds (n : Int) = ds[n]? := by
  unfold atI ixN
  rw [if_pos (by omega)]
  by_cases h : n < ds.length
  · rw [if_pos (by omega)]
    rfl
  · rw [if_neg (by omega), List.getElem?_eq_none (by omega)]
    rfl
@[simp] theorem atI_0 {α : Type} (ds : List α) : atI ds 0 = ds[0]? := atI_cast ds 0
@[simp] theorem atI_1 {α : Type} (ds : List α) : atI ds 1 = ds[1]? := atI_cast ds 1
@[simp] theorem atI_2 {α : Type} (ds : List α) : atI ds 2 = ds[2]? := atI_cast ds 2
@[simp] theorem atI_3 {α : Type} (ds : List α) : atI ds 3 = ds[3]? := atI_cast ds 3
@[simp] theorem atI_4 {α : Type} (ds : List α) : atI ds 4 = ds[4]? := atI_cast ds 4
@[simp] theorem atI_5 {α : Type} (ds : List α) : atI ds 5 = ds[5]? := atI_cast ds 5
@[simp] theorem atI_m1 {α : Type} (ds : List α) : atI ds (-1) = ds.getLast? := by
  unfold atI ixN
  rw [if_neg (by decide), List.getLast?_eq_getElem?]
  by_cases h : -(ds.length : Int) ≤ -1
  · rw [if_pos h]
    have e : (-1 + (ds.length : Int)).toNat = ds.length - 1 := by omega
    show ds[(-1 + (ds.length : Int)).toNat]? = _
    rw [e]
  · rw [if_neg h, List.getElem?_eq_none (by omega)]
    rfl
end PD

namespace PD
open PySem PySem.Spec PyProof.Rows L2
variable {K : PySem.W.Frag}
section
variable {X : Cx} {W : PWs} {e a b c : Expr} {es : List Expr} {f : Rho → Out} {g ga gb : Rho → Res D} {gl : Rho → Res (List D)} {gt : Rho → Res Bool} {pos p : Pos} {cs : Nat → Addr}
/-! ### a message of written pieces and whole numbers -/
def DemM (W : PWs) (st : Sg) (H : Hp) (r : Res Bool) (Q : Str → Hp → Prop) : Prop := match r with
  | .ok _ => ∀ y H', Same H H' → Q y H'
  | .ex c => ∀ H', Same H H' → W c st H'
  | .no => False
/-- the parts, the text so far at most n signs long -/
inductive Msg (X : Cx) (W : PWs) : List Expr → Nat → (Rho → Res Bool) → Prop where
  | nil {n : Nat} (h : n ≤ 16000000) : Msg X W [] n (fun _ => .ok true)
  | str {x : Str} {j n : Nat} {p : Pos} {es : List Expr} {gt : Rho → Res Bool} (hl : x.length ≤ 2000) (t : Msg X W es (n + 2000) gt) : Msg X W (.Constant (.str x) j p :: es) n gt
  | int {e : Expr} {n : Nat} {p : Pos} {es : List Expr} {g : Rho → Res D} {gt : Rho → Res Bool} (he : DW X W e g) (t : Msg X W es (n + 2000) gt) : Msg X W (.FormattedValue e (-1) none p :: es) n (msgI g gt)
theorem Msg.le {es : List Expr} {n : Nat} {gt : Rho → Res Bool} (h : Msg X W es n gt) : n ≤ 16000000 := by
  induction h with
  | nil h => exact h
  | str _ _ ih => omega
  | int _ _ ih => omega
theorem Msg.run {es : List Expr} {n : Nat} {gt : Rho → Res Bool} (h : Msg X W es n gt) : ∃ ts, PJ X es ts ∧ ∀ (acc : Str) (st : Sg) (H : Hp) (r : Rho) (M : MS) (Q : Str → Hp → Prop), acc.length ≤ n → En X.K M H st r → DemM W st H (gt r) Q → tJs ts acc st H Q := by
  have sz : sizeLine = 16777216 := sizeLine_eq
  induction h with
  | nil h => exact ⟨[], .nil, fun acc st H r M Q _ _ q => q acc H (Same.refl _)⟩
  | @str x j n p es gt hl t ih =>
    obtain ⟨ts, hj, k⟩ := ih
    refine ⟨_ :: ts, .cons pe_str hj, fun acc st H r M Q ha en q => ⟨x, rfl, ?_, k _ st H r M Q ?_ en q⟩⟩
    · rw [Str.length_append]
      have := t.le
      omega
    · rw [Str.length_append]
      omega
  | @int e n p es g gt he t ih =>
    obtain ⟨ts, hj, k⟩ := ih
    refine ⟨_ :: ts, .cons (pe_fmt he.run) hj, fun acc st H r M Q ha en q => ⟨r, M, en, ?_⟩⟩
    unfold msgI at q
    cases hg : g r with
    | ex c => rw [hg] at q; exact q
    | no => rw [hg] at q; exact q
    | ok d =>
      rw [hg] at q
      cases d with
      | int i =>
        simp only [bind_ok] at q
        by_cases hi : i.natAbs.log2 < 1920
        · rw [if_pos hi] at q
          intro v H1 s1 rv
          have hl : (Str.ofString (toString i)).length ≤ 1921 := by
            rw [PySem.ofString_length]
            exact int_text_length_le (by decide) hi
          refine .inr ⟨i, rv.int_, hi, Str.ofString (toString i), rfl, ?_, k _ st H1 r M Q ?_ (en.same s1) ?_⟩
          · rw [Str.length_append]
            have := t.le
            omega
          · rw [Str.length_append]
            omega
          · revert q
            cases gt r with
            | ok b => exact fun q y H2 s2 => q y H2 (s1.trans s2)
            | ex c => exact fun q H2 s2 => q H2 (s1.trans s2)
            | no => exact fun q => q
        · rw [if_neg hi] at q
          exact q.elim
      | none => exact q.elim
      | bool => exact q.elim
      | str => exact q.elim
      | list => exact q.elim
      | tuple => exact q.elim
      | dict => exact q.elim
/-- raise X(f'..') -/
def rsE (gt : Rho → Res Bool) (c : Nat) : Rho → Out := tThen gt fun _ r => .ex c r
theorem ds_raiseF {x : Str} {c : Nat} {v1 v2 : Expr} {rest : List Expr} {jpos pos2 : Pos} (hc : X.calm = true) (tk : Takes X (lft cs W)) (T : ExcAt X.K X.mg x (cs c)) (m : Msg X W (v1 :: v2 :: rest) 0 gt) (hg : Gl X x := by rfl) (hdb : (x == ("__debug__" : Str)) = false := by decide)
    (hs : starEach [.JoinedStr (v1 :: v2 :: rest) jpos] X.env = (false, eval (.JoinedStr (v1 :: v2 :: rest) jpos) X.env) :: starEach [] X.env := by rfl) :
    DS X W (.Raise (some (.Call (.Name x p) [.JoinedStr (v1 :: v2 :: rest) jpos] [] pos)) none pos2) (rsE gt c) := by
  obtain ⟨ts, hj, k⟩ := m.run
  refine ⟨fun M0 H0 => (ps_raise hc tk (SkE.pmk_own1 PySem.F.excBase_ValueError T.q T.g T.k (raises_own T.b T.t) hg (pe_joined hj) hs hdb)).imp fun E st H ⟨r, M, t, q⟩ => ?_⟩
  refine k _ st H r M _ (Nat.zero_le _) t.en ?_
  unfold rsE tThen at q
  cases hgt : gt r with
  | ok b => rw [hgt] at q; exact fun y H' s => ⟨c, rfl, rfl, q M st H' (t.same s)⟩
  | ex c2 => rw [hgt] at q; exact fun H' s => q M st H' (t.same s)
  | no => rw [hgt] at q; exact q

/-! ### try .. except X as e -/
/-- slot i holds the error at a -/
theorem Sts.setExc {M0 M : MS} {H0 H : Hp} {st : Sg} {r : Rho} (s : Sts K M0 H0 M H st r) (i : Nat) (a : Addr) : Sts K M0 H0 M H (st.set i (some (.ref a))) (r.set i (.exc a)) := by
  have own : ∀ {j : Nat} {k : Kd} {xs : List D}, (r.set i (.exc a))[j]? = some (.box k xs) → j ≠ i ∧ r[j]? = some (.box k xs) := fun {j k xs} e => by
    rcases set_get e with ⟨_, q, _⟩ | q
    · cases q
    · exact q
  have un : ∀ {j : Nat} {z : Option V}, j ≠ i → (st.set i (some (.ref a)))[j]? = some z → st[j]? = some z := fun {j z} n e => by
    rw [List.getElem?_set_ne (Ne.symm n)] at e
    exact e
  refine ⟨⟨s.en.live, fun j z e => ?_, by rw [List.length_set, List.length_set]; exact s.len⟩, s.keep, s.sub, s.new, by rw [List.length_set, List.length_set]; exact s.len, fun a b l k k2 xs ys h1 h2 h3 h4 => ?_, fun a l k xs h1 h2 => ?_, s.sta.set i _ _ (fun k xs e => by cases e) fun A h ts bs e => by cases e⟩
  · rcases set_get e with ⟨rfl, rfl, hj⟩ | ⟨hj, e⟩
    · have hj' : j < st.length := by rw [s.len]; exact hj
      show (st.set j (some (.ref a)))[j]? = _
      rw [List.getElem?_set_self hj']
    · have q := s.en.slot j z e
      rw [List.getElem?_set_ne (Ne.symm hj)]
      exact q
  · obtain ⟨n1, e1⟩ := own h1
    obtain ⟨n2, e2⟩ := own h2
    exact s.dis _ _ l _ _ xs ys e1 e2 (un n1 h3) (un n2 h4)
  · obtain ⟨n1, e1⟩ := own h1
    exact s.own0 _ l _ xs e1 (un n1 h2)
def Out.gone (i : Nat) : Out → Out
  | .nx r => .nx (r.set i .no)
  | .bk r => .bk (r.set i .no)
  | .ct r => .ct (r.set i .no)
  | .rt d => .rt d
  | _ => .no
@[simp] theorem gone_nx (i : Nat) (r : Rho) : (Out.nx r).gone i = .nx (r.set i .no) := eq_of_heq HEq.rfl
@[simp] theorem gone_ct (i : Nat) (r : Rho) : (Out.ct r).gone i = .ct (r.set i .no) := eq_of_heq HEq.rfl
@[simp] theorem gone_bk (i : Nat) (r : Rho) : (Out.bk r).gone i = .bk (r.set i .no) := eq_of_heq HEq.rfl
@[simp] theorem gone_rt (i : Nat) (r : D) : (Out.rt r).gone i = .rt r := eq_of_heq HEq.rfl
open Classical in
/-- what the suite comes to, wherever the error lies -/
noncomputable def caught (i : Nat) (su : Addr → Rho → Out) (r : Rho) : Out :=
  if h : ∃ o, ∀ a, (su a (r.set i (.exc a))).gone i = o then choose h else .no
theorem caught_eq {i : Nat} {su : Addr → Rho → Out} {r : Rho} {o : Out} (h : ∀ a, (su a (r.set i (.exc a))).gone i = o) : caught i su r = o := by
  have ex : ∃ o, ∀ a, (su a (r.set i (.exc a))).gone i = o := ⟨o, h⟩
  unfold caught
  rw [dif_pos ex, ← Classical.choose_spec ex 0]
  exact h 0
/-- hd: which errors the clause takes; su c a: the suite where an error of class c lies at a -/
noncomputable def tryE (f : Rho → Out) (i : Nat) (hd : Nat → Bool) (su : Nat → Addr → Rho → Out) (r : Rho) : Out := match f r with
  | .ex c r2 => if hd c then caught i (su c) r2 else .ex c r2
  | o => o
theorem ds_try_as {x n : Str} {C : Value} {i : Nat} {body suite : List Stmt} {b0 : Stmt} {np pos' : Pos} {hd : Nat → Bool} {su : Nat → Addr → Rho → Out}
    (hs : X.stack = X.env :: X.outer) (hf : X.env.frame = some X.env.locals) (hN : X.N.Nodup) (hi : X.N[i]? = some n) (hln : X.env.kindOf n = some .local) (hc : L2.Names X x C) (tk : Takes X (lft cs W))
    (hm : ∀ c, PySem.W.exmOne X.K (.ref (cs c)) C = some (hd c))
    (hb : ∀ (W : PWs) (pn : List (Addr × Obj)) (xe : Value → Shared → Prop), Takes (X.tr pn xe) (lft cs W) → PassesOwn (model X.prog X.w) X.A X.env xe → DSs (X.tr pn xe) W body f)
    (hsu : ∀ (c : Nat) (a : Addr) (oe : Obj) (pn : List (Addr × Obj)), Zc (.ref (cs c)) none oe → (∃ vs, oe.data = .fields vs) → DSs (X.suite a ((a, oe) :: pn)) W0 (b0 :: suite) (su c a)) :
    DS X W (.Try body [.ExceptHandler (some (.Name x np)) (some n) (b0 :: suite) pos'] [] [] pos) (tryE f i hd su) := by
  refine ⟨fun M0 H0 => (ps_try_as (i := i) (tb := fun WW E st H => ∃ (M0 : MS) (H0 : Hp) (W' : PWs), (∀ c st H, W' c st H → WW (.ref (cs c)) none st H) ∧ tS X.K W' M0 H0 f E st H)
    (ts := fun a cls d E st H => ∃ c, cls = .ref (cs c) ∧ d = none ∧ ∃ M0 H0, tS X.K W0 M0 H0 (su c a) E st H) hs hf hN hi hln hc tk ?_ ?_).imp ?_⟩
  · intro WW pn xe tk' po
    exact ⟨fun pins s st H E I ⟨M0, H0, W', hW, q⟩ => ((hb W' pn xe (tk'.imp fun cls d st H ⟨c, e1, e2, z⟩ => by
      subst e1 e2
      exact hW c st H z) po).run M0 H0).run pins s st H E I q⟩
  · intro a oe cls d pn hz hf
    exact ⟨fun pins s st H E I ⟨c, e1, e2, M0, H0, q⟩ => by
      subst e1 e2
      exact ((hsu c a oe pn hz hf).run M0 H0).run pins s st H E I q⟩
  · rintro E st H ⟨r, M, t, q⟩
    refine ⟨M0, H0, fun c st H => wAs X.K C i (fun a cls d E st H => ∃ c, cls = .ref (cs c) ∧ d = none ∧ ∃ M0 H0, tS X.K W0 M0 H0 (su c a) E st H) (lft cs W) E (.ref (cs c)) none st H, fun _ _ _ z => z, r, M, t, ?_⟩
    unfold tryE at q
    revert q
    cases f r with
    | nx r2 => exact fun q => q
    | bk r2 => exact fun q => q
    | ct r2 => exact fun q => q
    | rt d => exact fun q => q
    | no => exact fun q => q
    | ex c r2 =>
      intro q M2 st2 H2 t2
      simp only at q
      refine ⟨hd c, hm c, fun hc a ha => ⟨c, rfl, rfl, M0, H0, _, M2, t2.setExc i a, ?_⟩, fun hc => ?_⟩
      · rw [if_pos hc] at q
        unfold caught at q
        split at q
        · rename_i ex
          have sp := Classical.choose_spec ex a
          rw [← sp] at q
          revert q
          cases su c a (r2.set i (.exc a)) with
          | nx r3 => exact fun q M3 st3 H3 t3 => q M3 _ H3 (t3.gone i)
          | bk r3 => exact fun q M3 st3 H3 t3 => q M3 _ H3 (t3.gone i)
          | ct r3 => exact fun q M3 st3 H3 t3 => q M3 _ H3 (t3.gone i)
          | rt d => exact fun q => q
          | ex c3 r3 => exact fun q => q.elim
          | no => exact fun q => q.elim
        · exact q.elim
      · rw [hc] at q
        exact ⟨c, rfl, rfl, q M2 st2 H2 t2⟩
/-! without a name -/
def Out.flat : Out → Out
  | .ex _ _ => .no
  | o => o
def tryO (f : Rho → Out) (hd : Nat → Bool) (su : Nat → Rho → Out) (r : Rho) : Out := match f r with
  | .ex c r2 => if hd c then (su c r2).flat else .ex c r2
  | o => o
theorem ds_try_only {x : Str} {C : Value} {body suite : List Stmt} {b0 : Stmt} {np pos' : Pos} {hd : Nat → Bool} {su : Nat → Rho → Out}
    (hs : X.stack = X.env :: X.outer) (hf : X.env.frame = some X.env.locals) (hc : L2.Names X x C) (tk : Takes X (lft cs W))
    (hm : ∀ c, PySem.W.exmOne X.K (.ref (cs c)) C = some (hd c))
    (hb : ∀ (W : PWs) (pn : List (Addr × Obj)) (xe : Value → Shared → Prop), Takes (X.tr pn xe) (lft cs W) → PassesOwn (model X.prog X.w) X.A X.env xe → DSs (X.tr pn xe) W body f)
    (hsu : ∀ (c : Nat) (a : Addr) (oe : Obj) (pn : List (Addr × Obj)), Zc (.ref (cs c)) none oe → (∃ vs, oe.data = .fields vs) → DSs (X.suite a ((a, oe) :: pn)) W0 (b0 :: suite) (su c)) :
    DS X W (.Try body [.ExceptHandler (some (.Name x np)) none (b0 :: suite) pos'] [] [] pos) (tryO f hd su) := by
  refine ⟨fun M0 H0 => (ps_try_only (tb := fun WW E st H => ∃ (M0 : MS) (H0 : Hp) (W' : PWs), (∀ c st H, W' c st H → WW (.ref (cs c)) none st H) ∧ tS X.K W' M0 H0 f E st H)
    (ts := fun a cls d E st H => ∃ c, cls = .ref (cs c) ∧ d = none ∧ ∃ M0 H0, tS X.K W0 M0 H0 (su c) E st H) hs hf hc tk ?_ ?_).imp ?_⟩
  · intro WW pn xe tk' po
    exact ⟨fun pins s st H E I ⟨M0, H0, W', hW, q⟩ => ((hb W' pn xe (tk'.imp fun cls d st H ⟨c, e1, e2, z⟩ => by
      subst e1 e2
      exact hW c st H z) po).run M0 H0).run pins s st H E I q⟩
  · intro a oe cls d pn hz hf
    exact ⟨fun pins s st H E I ⟨c, e1, e2, M0, H0, q⟩ => by
      subst e1 e2
      exact ((hsu c a oe pn hz hf).run M0 H0).run pins s st H E I q⟩
  · rintro E st H ⟨r, M, t, q⟩
    refine ⟨M0, H0, fun c st H => wOnly X.K C (fun a cls d E st H => ∃ c, cls = .ref (cs c) ∧ d = none ∧ ∃ M0 H0, tS X.K W0 M0 H0 (su c) E st H) (lft cs W) E (.ref (cs c)) none st H, fun _ _ _ z => z, r, M, t, ?_⟩
    unfold tryO at q
    revert q
    cases f r with
    | nx r2 => exact fun q => q
    | bk r2 => exact fun q => q
    | ct r2 => exact fun q => q
    | rt d => exact fun q => q
    | no => exact fun q => q
    | ex c r2 =>
      intro q M2 st2 H2 t2
      simp only at q
      refine ⟨hd c, hm c, fun hc a ha => ⟨c, rfl, rfl, M0, H0, _, M2, t2, ?_⟩, fun hc => ?_⟩
      · rw [if_pos hc] at q
        revert q
        cases su c r2 with
        | nx r3 => exact fun q => q
        | bk r3 => exact fun q => q
        | ct r3 => exact fun q => q
        | rt d => exact fun q => q
        | ex c3 r3 => exact fun q => q.elim
        | no => exact fun q => q
      · rw [hc] at q
        exact ⟨c, rfl, rfl, q M2 st2 H2 t2⟩
/-! isinstance(e, C), e the error that the suite holds at a, of class number c -/
def isE (i : Nat) (a : Addr) (b : Bool) (r : Rho) : Res D := match r[i]? with
  | some (.exc a') => if a' = a then .ok (.bool b) else .no
  | _ => .no
theorem tE_isE {st : Sg} {H : Hp} {Q : VK} {i : Nat} {a : Addr} {b : Bool} (h : tE K Rp W (isE i a b) st H Q) : st[i]? = some (some (.ref a)) ∧ Q (.bl b) H := by
  obtain ⟨r, M, en, q⟩ := h
  unfold isE at q
  cases e : r[i]? with
  | none => rw [e] at q; exact q.elim
  | some z =>
    rw [e] at q
    cases z with
    | no => exact q.elim
    | val d => exact q.elim
    | box k ds => exact q.elim
    | sta => exact q.elim
    | exc a' =>
      simp only at q
      by_cases h : a' = a
      · rw [if_pos h] at q
        subst h
        exact ⟨en.slot i _ e, q _ H (Same.refl _) (.bl _)⟩
      · rw [if_neg h] at q
        exact q.elim
theorem de_isE {i c : Nat} {a : Addr} {oe : Obj} {pn : List (Addr × Obj)} {en xn : Str} {pe px : Pos} {cv : Value} {bb : Bool} {v : V} (T : ExcC X.K (cs c)) (hz : Zc (.ref (cs c)) none oe) (hf : ∃ vs, oe.data = .fields vs) (hm : X.mg "isinstance" = none)
    (hv : PE (X.suite a ((a, oe) :: pn)) (.Name en pe) (tVar i)) (hx : PE (X.suite a ((a, oe) :: pn)) (.Name xn px) (tC v)) (hr : ∀ u, RelV v u → u = cv) (hk : PySem.W.kitOne X.K (.ref (cs c)) cv = some bb) (hg : Gl X "isinstance" := by rfl)
    (he : starEach (.Name en pe :: [.Name xn px]) X.env = (false, eval (.Name en pe) X.env) :: starEach [.Name xn px] X.env := by rfl) (he2 : starEach (.Name xn px :: []) X.env = (false, eval (.Name xn px) X.env) :: starEach [] X.env := by rfl) (hpl : (backTo pos (starEach [.Name xn px] X.env)).any (·.1) = false := by rfl) :
    DE (X.suite a ((a, oe) :: pn)) W (.Call (.Name "isinstance" p) [.Name en pe, .Name xn px] [] pos) (isE i a bb) :=
  ⟨(pe_callB (X := X.suite a ((a, oe) :: pn)) (call_isE T hz hf) hg hm PyProof.Rows.boot_isinstance (pa_cons hv (pa_cons hx pa_nil he2) he) (by decide) (by decide) he hpl).imp fun st H Q q => by
    obtain ⟨e, q⟩ := tE_isE q
    exact ⟨.ref a, e, v, cv, bb, rfl, hr, hk, q⟩⟩

/-! ### enumerate of a tuple -/
/-- the tuple at a as it stands, each item in a new pair -/
def Itet (K : PySem.W.Frag) (a : Addr) : It where
  go := fun i H => ∃ (xs : List V) (x : V), SqT K H a xs ∧ xs[i]? = some x
  yld := fun i H v H' => ∃ T x, v = .ref T ∧ H T = none ∧ H' = upd H T (.tup [.int (i : Nat), x]) ∧ ∀ xs, SqT K H a xs → xs[i]? = some x
  stop := fun i H => ∃ xs : List V, SqT K H a xs ∧ xs.length ≤ i
theorem turn_enumT {P : Program} {w : World} {elts : List Expr} {kk : Nat} {tpos : Pos} (a ea it : Addr) :
    Turn P w K (.Tuple elts kk tpos) (Itet K a) [ea, it] ea (fun i h => (∃ old, IsEnum h ea it ((i : Nat) : Int) old) ∧ h.IsTupleIter it a i ∧ ea ≠ it ∧ a ≠ it ∧ ea ≠ a) where
  mem := by simp
  obj := fun i h st b hb => by
    obtain ⟨⟨old, he⟩, ⟨o, ho, hc, hd⟩, _⟩ := st
    rcases List.mem_cons.mp hb with z | z
    · subst z
      exact ⟨_, he, fun v q => by
        have q' : Data.fields _ = Data.cell v := q
        cases q'⟩
    · rw [List.mem_singleton] at z
      subst z
      exact ⟨o, ho, fun v q => by rw [hd] at q; cases q⟩
  keep := fun i h h' st k => by
    obtain ⟨⟨old, he⟩, hi, hne⟩ := st
    exact ⟨⟨old, k ea (by simp) _ he⟩, hi.at fun o q => k it (by simp) o q, hne⟩
  item := by
    intro X hP hw hK hc i pins s st H E I hf tn hg
    subst hP hw hK
    obtain ⟨he, hit, hne, hai, hea⟩ := tn
    obtain ⟨xs, x, hq, hx⟩ := hg
    obtain ⟨its, rv, p, hz⟩ := I.tuple hq
    have hil : i < its.toArray.size := by
      have h1 := (List.getElem?_eq_some_iff.mp hx).1
      have h2 := rv.length
      rw [List.size_toArray]
      omega
    have G := GoesN.enumFrom (prog := X.prog) (w := X.w) (A := X.A) (elts := elts) (x1 := kk) (pos := tpos) 0 (Draws.tuple (prog := X.prog) (w := X.w) (A := X.A.in1) (I.ok.hd hc) it a hai its.toArray) ea hne (by simp [hne, hea]) (by simp)
    have st0 : (∃ old, IsEnum s.heap ea it (0 + (i : Int)) old) ∧ s.heap.IsTupleIter it a i ∧ s.heap.IsTuple a its.toArray := by
      rw [Int.zero_add]
      exact ⟨he, hit, p⟩
    refine wpAny_mono (G.goes i s (fun u s2 => ∃ x H', Inv X pins st H' s2 ∧ RelV x u ∧ (Itet X.K a).yld i H x H' ∧ ((∃ old, IsEnum s2.heap ea it ((i + 1 : Nat) : Int) old) ∧ s2.heap.IsTupleIter it a (i + 1) ∧ ea ≠ it ∧ a ≠ it ∧ ea ≠ a) ∧ ∀ b ∈ [ea, it], H' b = none) E hil st0 ?_) (fun r s1 hr => hr) fun _ _ z => z
    intro v h' tk hy st1 hk htk
    obtain ⟨T, t, u, rfl, hn, hu, hT⟩ := hy
    obtain ⟨he1, hit1, _⟩ := st1
    have hu' : its[i]? = some u := by simpa using hu
    obtain ⟨u2, hu2, ru⟩ := rv.get hx
    rw [hu'] at hu2
    cases hu2
    rw [Int.zero_add] at hT
    have new : ObjOk X.prog X.w (upd H T (.tup [.int (i : Nat), x])) h' T (.tup [.int (i : Nat), x]) :=
      ⟨by show 2 ≤ sizeLine; decide, [.int i t, u], .cons ⟨_, rfl⟩ (.cons ru .nil), hT⟩
    have I1 : Inv X pins st (upd H T (.tup [.int (i : Nat), x])) { s with heap := h', toks := tk } :=
      I.turnedNew (ch := [ea, it]) (fun b o hb q => hk b o hb q) hf hn new
    have hTn : H T = none := I.hok.fresh hn
    refine ⟨.ref T, _, I1, rfl, ⟨T, x, rfl, hTn, rfl, fun ys hy => by rw [I.tuple_inj hy hq]; exact hx⟩, ⟨?_, hit1, hne, hai, hea⟩, fun b hb => ?_⟩
    · have e1 : (0 : Int) + ((i + 1 : Nat) : Int) = ((i + 1 : Nat) : Int) := Int.zero_add _
      rw [e1] at he1
      exact he1
    · have hbl : b < s.heap.objs.size := by
        obtain ⟨old, he0⟩ := he
        obtain ⟨o, ho, _⟩ := hit
        rcases List.mem_cons.mp hb with z | z
        · exact z ▸ Heap.lt_size he0
        · rw [List.mem_singleton] at z
          exact z ▸ Heap.lt_size ho
      rw [upd_ne (Nat.ne_of_lt (Nat.lt_of_lt_of_le hbl hn))]
      exact (hf b hb).1
  done := by
    intro X hP hw hK hc i pins s st H E I hf tn hg
    subst hP hw hK
    obtain ⟨he, hit, hne, hai, hea⟩ := tn
    obtain ⟨xs, hq, hx⟩ := hg
    obtain ⟨its, rv, p, hz⟩ := I.tuple hq
    have hl := rv.length
    obtain ⟨f0, f1, f2, f3, f4, f5⟩ := hf it (by simp)
    have D : Draws X.prog X.w X.A.in1 it [it, a] i (fun _ _ => True) (fun j h => j = i ∧ h.IsTupleIter it a j ∧ h.IsTuple a its.toArray) := by
      refine ⟨fun j h st => ?_, fun j h h2 st k => ?_, fun j s Q E hj st => ?_, fun s Q E st q => ?_⟩
      · obtain ⟨_, ⟨o, ho, _⟩, _⟩ := st
        exact ⟨o, ho⟩
      · exact ⟨st.1, st.2.1.at fun o e => k it (by simp) o e, st.2.2.at fun o e => k a (by simp) o e⟩
      · omega
      · refine wpAny_nextOf_tuple_end (I.ok.hd hc) st.2.1 st.2.2 ?_ q
        rw [List.getElem?_toArray, List.getElem?_eq_none]
        omega
    obtain ⟨old, he⟩ := he
    exact wpAny_pyNext_enum_endD D he ⟨rfl, hit, p⟩ fun h' eb => ⟨rfl, I.turned (t' := s.toks) (fun b o hb q => eb b o hb q) f0 f1 f3 f4 f5⟩
  self := fun A i s Q E st h => by
    obtain ⟨⟨_, he⟩, _⟩ := st
    exact wpAny_pyIter_enum he h
/-! the call -/
theorem meets_enum1 {v : Value} {o : Obj} {G : Heap → Prop} (B : Begins v o G) :
    Meets (Builtin.«enumerate.__new__» ⟨[.type "enumerate", v], []⟩) (fun _ R s => G s.heap ∧
      R (.ok (.ret (.ref (s.heap.push o).objs.size)))
        { s with heap := (s.heap.push o).push { cls := .type "enumerate", data := .fields #[.none, .bool false, .ref s.heap.objs.size, rawInt 0, .none, .none] } }) :=
  .of_wp fun prog w A R s h => by
    obtain ⟨hp, g, d, tk, os⟩ := s
    obtain ⟨h1, h⟩ := h
    have sb := sub_enumerate
    have mk : ∀ {A' : Around} {E Q : Value → Shared → Prop}, Q (.ref hp.objs.size) ⟨hp.push o, g, d, tk, os⟩ → wpAny (model prog w) A' (pyIter v) Q E ⟨hp, g, d, tk, os⟩ :=
      fun z => B.iter prog w _ _ ⟨hp, g, d, tk, os⟩ _ h1 z
    wp_walk using mk
    refine wpAny_stack_any fun _ => wpAny_pure ?_
    split
    · rename_i c _ _ _ _ _
      cases (c == Value.type "enumerate") <;>
        (wp_walk using mk; exact ⟨_, rfl, h⟩)
    · (wp_walk using mk; exact ⟨_, rfl, h⟩)
theorem call_enum1 {prog : Program} {w : World} {A : Around} {E : Value → Shared → Prop} {s : Shared} {v : Value} {o : Obj} {G : Heap → Prop} {Q : Value → Shared → Prop} (B : Begins v o G) (h1 : G s.heap)
    (h : ∀ h', IsEnum h' (s.heap.objs.size + 1) s.heap.objs.size 0 .none → h'.get? s.heap.objs.size = some o → (∀ b u, s.heap.get? b = some u → h'.get? b = some u) → Q (.ref (s.heap.objs.size + 1)) { s with heap := h' }) :
    wpAny (model prog w) A (call (.type "enumerate") [v]) Q E s := by
  refine callType_new PySem.F.called_enumerate (by decide) (PySem.F.typeCall_enumerate_1 _)
    (PySem.F.newCall_enumerate_1 _) (fun z => PySem.F.args_object_init_2 z _) PySem.F.entry_enumerate_new (meets_enum1 B) ⟨h1, ?_⟩
  have sz : (s.heap.push o).objs.size = s.heap.objs.size + 1 := Heap.size_push ..
  show _ ∧ _
  have en : ∀ u : Obj, u = { cls := .type "enumerate", data := .fields #[.none, .bool false, .ref s.heap.objs.size, rawInt 0, .none, .none] } → ((s.heap.push o).push u).get? (s.heap.objs.size + 1) = some u := by
    rintro u rfl
    rw [← sz]
    exact Heap.get?_push_size _ rfl
  rw [sz]
  exact ⟨⟨_, en _ rfl, rfl⟩, h _ (en _ rfl) (Heap.get?_push_of_some _ (Heap.get?_push_size _ B.free)) fun b u x => Heap.get?_push_of_some _ (Heap.get?_push_of_some _ x)⟩
def iEnumT (K : PySem.W.Frag) (tb : TA) : TI := fun st H R => tb st H fun vs H1 => ∃ a xs, vs = [.ref a] ∧ SqT K H1 a xs ∧ R (Itet K a) H1
theorem pi_enumT {X : Cx} {e : Expr} {tb : TA} {p pos tpos : Pos} {elts : List Expr} {kk : Nat} (hg : Gl X "enumerate") (hm : X.mg "enumerate" = none) (ha : PA X [e] tb) (hs : starEach [e] X.env = [(false, eval e X.env)] := by rfl) :
    PI X (.Tuple elts kk tpos) (.Call (.Name "enumerate" p) [e] [] pos) (iEnumT X.K tb) where
  run := fun pins s st H R I h => by
    refine Call_ (ld_blt I hg hm boot_enumerate (PyProof.Rows.callWith_type1 (thn (ha.run pos pins s st H _ I h) ?_) hs rfl))
    rintro us s1 ⟨vs, H1, I1, r1, a, xs, rfl, hq, q⟩
    cases r1 with
    | cons r rr =>
      cases rr
      cases r
      obtain ⟨its, rv, p', hz⟩ := I1.tuple hq
      have la : a < s1.heap.objs.size := by
        obtain ⟨o, ho, _⟩ := p'
        exact Heap.lt_size ho
      refine call_enum1 (begins_tuple a its.toArray) p' fun h' he hi hk => wpAny_pyIter_enum he ?_
      have I2 : Inv X pins st H1 { s1 with heap := h' } := I1.kept (t' := s1.toks) hk
      refine ⟨s1.heap.objs.size + 1, [s1.heap.objs.size + 1, s1.heap.objs.size], _, _, H1, rfl, I2, turn_enumT a (s1.heap.objs.size + 1) s1.heap.objs.size,
        ⟨⟨.none, he⟩, ⟨_, hi, rfl, rfl⟩, Nat.succ_ne_self _, Nat.ne_of_lt la, Nat.ne_of_gt (Nat.lt_succ_of_lt la)⟩, fun b hb => ?_, q⟩
      have ge : s1.heap.objs.size ≤ b := by
        rcases List.mem_cons.mp hb with z | z
        · rw [z]
          exact Nat.le_succ _
        · rw [List.mem_singleton] at z
          rw [z]
          exact Nat.le_refl _
      exact I1.fpOk ge (I1.hok.fresh ge)
/-! as data -/
def enumD (ds : List D) : List D := ds.zipIdx.map fun z => .tuple [.int (z.2 : Nat), z.1]
theorem serves_enumT {M M0 : MS} {H1 Hb : Hp} {a : Addr} {xs : List V} {ds : List D} (hm : ¬ M a) (hr : Rd H1 a (.tup xs)) (hl : RpL K M H1 xs ds) (h0 : ∀ l, M0 l → M l) (hb : ∀ b o, ¬ M b → H1 b = some o → Hb b = some o) :
    Serves K M0 Hb (Itet K a) (enumD ds) := by
  intro i M2 H2 s2 n2 l2
  have r2 : Rd H2 a (.tup xs) := rd_to (rd_to hr (nt_tup _) fun o e _ => hb a o hm e) (nt_tup _) fun o e nt => s2.k a o e nt
  have lb : RpL K M0 Hb xs ds := RpL.to (fun b n _ z => n (h0 b z)) (fun b o n e _ => hb b o n e) ds xs hl
  have l2' : RpL K M2 H2 xs ds := RpL.to (fun b n ⟨o, e⟩ z => by
    rcases n2 b z with q | q
    · exact n q
    · rw [e] at q; cases q) (fun b o _ e nt => s2.k b o e nt) ds xs lb
  have len : (enumD ds).length = ds.length := by simp [enumD]
  refine ⟨fun d hd => ?_, fun hi => ⟨xs, .inl r2, by rw [l2'.length, ← len]; exact hi⟩⟩
  unfold enumD at hd
  rw [List.getElem?_map, List.getElem?_zipIdx] at hd
  cases e : ds[i]? with
  | none => rw [e] at hd; cases hd
  | some z =>
    rw [e] at hd
    simp only [Option.map_some, Option.some.injEq, Nat.zero_add] at hd
    subst hd
    obtain ⟨v, hv, rv⟩ := l2'.get e
    refine ⟨⟨xs, v, .inl r2, hv⟩, fun x H' ⟨T, y, e1, hT, e2, q⟩ => ?_⟩
    have z := q xs (.inl r2)
    rw [hv] at z
    cases z
    subst e1 e2
    have sm : Same H2 (upd H2 T (.tup [.int (i : Nat), v])) := same_upd hT
    have nT : ¬ M2 T := fun z => by
      obtain ⟨o, e⟩ := l2 T z
      rw [hT] at e
      cases e
    exact ⟨sm, .tup nT (.inl upd_same) (.cons (.int _) (.one (rv.same sm)))⟩
def enS (g : Rho → Res D) (r : Rho) : Res (List D) := (g r).bind fun d => match d with
  | .tuple ds => .ok (enumD ds)
  | _ => .no
theorem di_enum {tpos : Pos} {elts : List Expr} {kk : Nat} (hm : X.mg "enumerate" = none) (h : DE X W a g) (hg : Gl X "enumerate" := by rfl) (hs1 : starEach (a :: []) X.env = (false, eval a X.env) :: starEach [] X.env := by rfl) :
    DI X W (.Tuple elts kk tpos) (.Call (.Name "enumerate" p) [a] [] pos) (enS g) :=
  ⟨(pi_enumT hg hm (pa_cons h.run pa_nil hs1) (hs1.trans (by rfl))).imp fun st H R ⟨r, M, en, q⟩ => by
    refine ⟨r, M, en, ?_⟩
    unfold enS at q
    cases hga : g r with
    | ex c => rw [hga] at q; exact q
    | no => rw [hga] at q; exact q
    | ok d =>
      rw [hga] at q
      cases d with
      | tuple ds =>
        intro v H1 s1 rv
        cases rv with
        | tup n r1 l1 => exact ⟨_, _, rfl, .inl r1, q _ H1 s1 fun M0 Hb h0 hb => serves_enumT n r1 l1 h0 hb⟩
      | none => exact q.elim
      | bool => exact q.elim
      | int => exact q.elim
      | str => exact q.elim
      | list => exact q.elim
      | dict => exact q.elim⟩
end
end PD

namespace PD
open PySem PySem.Spec PyProof.Rows L2

/-! ### shapes: what equality may be asked of -/
def Lay (n : Nat) (d : D) : Prop := d.canLay0 = true ∧ d.depth ≤ n
theorem lay_int {n : Nat} (i : Int) : Lay n (.int i) := ⟨by simp [PyData.canLay0], by simp [PyData.depth]⟩
theorem lay_bool {n : Nat} (b : Bool) : Lay n (.bool b) := ⟨by simp [PyData.canLay0], by simp [PyData.depth]⟩
theorem lay_none {n : Nat} : Lay n .none := ⟨by simp [PyData.canLay0], by simp [PyData.depth]⟩
theorem lay_str {n : Nat} {x : Str} (h : PyData.strOk x = true) : Lay n (.str x) := ⟨by simp [PyData.canLay0, h], by simp [PyData.depth]⟩
theorem lay_all {n : Nat} : ∀ {ds : List D}, (∀ d ∈ ds, Lay n d) → PyData.canLayAll0 ds = true ∧ PyData.depthAll ds ≤ n
  | [], _ => ⟨by simp [PyData.canLayAll0], by simp [PyData.depthAll]⟩
  | d :: ds, h => by
    obtain ⟨a, b⟩ := h d List.mem_cons_self
    obtain ⟨a2, b2⟩ := lay_all fun e he => h e (List.mem_cons_of_mem _ he)
    exact ⟨by simp [PyData.canLayAll0, a, a2], by simp only [PyData.depthAll]; omega⟩
theorem lay_list {n : Nat} {ds : List D} (h : ∀ d ∈ ds, Lay n d) : Lay (n + 1) (.list ds) := by
  obtain ⟨a, b⟩ := lay_all h
  exact ⟨by simp [PyData.canLay0, a], by simp only [PyData.depth]; omega⟩
theorem lay_tup {n : Nat} {ds : List D} (h : ∀ d ∈ ds, Lay n d) : Lay (n + 1) (.tuple ds) := by
  obtain ⟨a, b⟩ := lay_all h
  exact ⟨by simp [PyData.canLay0, a], by simp only [PyData.depth]; omega⟩
theorem Lay.shaped {n : Nat} {d : D} (h : Lay n d) (hn : n ≤ 64) : SeqAt.shaped d = true := by
  unfold SeqAt.shaped
  rw [h.1, Bool.true_and]
  exact decide_eq_true (Nat.le_trans h.2 hn)
theorem qEq_lay {m n : Nat} {d e : D} (h : Lay m d) (k : Lay n e) (hm : m ≤ 64 := by decide) (hn : n ≤ 64 := by decide) : qEq d e = .ok (.bool (PyData.eqv d e)) := by
  unfold qEq
  rw [if_pos ⟨h.shaped hm, k.shaped hn⟩]
theorem qNe_lay {m n : Nat} {d e : D} (h : Lay m d) (k : Lay n e) (hm : m ≤ 64 := by decide) (hn : n ≤ 64 := by decide) : qNe d e = .ok (.bool (!PyData.eqv d e)) := by
  unfold qNe
  rw [if_pos ⟨h.shaped hm, k.shaped hn⟩]
theorem Lay.self {n : Nat} {d : D} (h : Lay n d) : PyData.eqv d d = true := SeqAt.eqv_refl d h.1
@[simp] theorem eqv_bb (a b : Bool) : PyData.eqv (.bool a) (.bool b) = (a == b) := by rw [PyData.eqv]
@[simp] theorem eqv_ii (a b : Int) : PyData.eqv (.int a) (.int b) = (a == b) := by rw [PyData.eqv]
@[simp] theorem eqv_ss (a b : Str) : PyData.eqv (.str a) (.str b) = (a == b) := by rw [PyData.eqv]
theorem eqv_nil (ds : List D) : PyData.eqv (.list ds) (.list []) = ds.isEmpty := by
  cases ds <;> simp [PyData.eqv, PyData.eqvAll]

/-! ### loops that end early -/
def Out.last : Out → Bool
  | .rt _ => true
  | .ex _ _ => true
  | .no => true
  | _ => false
theorem forD_hit {asg : Asg} {f : Rho → Out} : ∀ (ds : List D) (r : Rho) (I : Nat → Rho → Prop) (k n : Nat) (d : D) (o : Out), o.last = true → ds[n]? = some d → I k r →
    (∀ i d r, i < n → ds[i]? = some d → I (k + i) r → ∃ ps r2, asg d = some ps ∧ (f (setsD r ps) = .nx r2 ∨ f (setsD r ps) = .ct r2) ∧ I (k + i + 1) r2) →
    (∀ r, I (k + n) r → ∃ ps, asg d = some ps ∧ f (setsD r ps) = o) → forD asg f ds r = o
  | [], _, _, _, _, _, _, _, h, _, _, _ => by simp at h
  | d0 :: ds, r, I, k, 0, d, o, ho, h, h0, _, hd => by
    have e := Option.some.inj h
    subst e
    obtain ⟨ps, e1, e2⟩ := hd r h0
    unfold forD
    rw [e1]
    simp only [e2]
    cases o <;> first | rfl | cases ho
  | d0 :: ds, r, I, k, n + 1, d, o, ho, h, h0, st, hd => by
    obtain ⟨ps, r2, e, hf, h2⟩ := st 0 d0 r (Nat.succ_pos n) rfl h0
    have rest := forD_hit ds r2 I (k + 1) n d o ho (by simpa using h) h2 (fun i d r hi hd hI => by
      have q := st (i + 1) d r (by omega) (by simpa using hd) (by rw [show k + (i + 1) = k + 1 + i by omega]; exact hI)
      rw [show k + (i + 1) + 1 = k + 1 + i + 1 by omega] at q
      exact q) (fun r hI => hd r (by rw [show k + (n + 1) = k + 1 + n by omega]; exact hI))
    unfold forD
    rw [e]
    rcases hf with hf | hf
    · simp only [hf]; exact rest
    · simp only [hf]; exact rest
theorem enumD_get (ds : List D) (i : Nat) : (enumD ds)[i]? = ds[i]?.map fun d => .tuple [.int (i : Nat), d] := by
  unfold enumD
  rw [List.getElem?_map, List.getElem?_zipIdx]
  cases ds[i]? with
  | none => rfl
  | some d => simp
theorem enumD_length (ds : List D) : (enumD ds).length = ds.length := by simp [enumD]
theorem rg1_ok {g : Rho → Res D} (n : Nat) (h : n ≤ 4000) (r : Rho) (e : g r = .ok (.int (n : Int))) : rg1 g r = .ok (rngD 0 n) := by
  have c : ∃ j : Int, j = n ∧ j < 2 ^ 62 ∧ -(2 ^ 62) ≤ j := by
    have a : (n : Int) ≤ 4000 := Int.ofNat_le.mpr h
    have b : (0 : Int) ≤ n := Int.natCast_nonneg n
    exact ⟨n, rfl, Int.lt_of_le_of_lt a (by decide), Int.le_trans (by decide) b⟩
  obtain ⟨j, ej, hj⟩ := c
  unfold rg1
  rw [e, ← ej]
  simp only [bind_ok]
  rw [if_pos hj, ej, Int.toNat_natCast]
theorem rngD_at {lo : Int} {n i : Nat} (h : i < n) : (rngD lo n)[i]? = some (.int (lo + i)) := by simp [rngD, h]

theorem compD_map {α : Type} {i : Nat} {G : Rho → Res Bool} {F : Rho → Res D} {r : Rho} (dat out : α → D) (p : α → Bool) : ∀ xs : List α, (∀ x ∈ xs, G (r.set i (.val (dat x))) = .ok (p x)) → (∀ x ∈ xs, p x = true → F (r.set i (.val (dat x))) = .ok (out x)) →
    compD (aName i) G F r (xs.map dat) = .ok ((xs.filter p).map out)
  | [], _, _ => rfl
  | x :: xs, hG, hF => by
    have ih := compD_map dat out p xs (fun y hy => hG y (List.mem_cons_of_mem _ hy)) (fun y hy => hF y (List.mem_cons_of_mem _ hy))
    have g := hG x List.mem_cons_self
    have f := hF x List.mem_cons_self
    rw [List.map_cons]
    unfold compD
    show (G (r.set i (.val (dat x)))).quiet.bind _ = _
    rw [g]
    cases hp : p x with
    | false =>
      rw [List.filter_cons_of_neg (by rw [hp]; decide)]
      exact ih
    | true =>
      rw [List.filter_cons_of_pos hp, List.map_cons]
      show (F (r.set i (.val (dat x)))).quiet.bind _ = _
      rw [f hp]
      show (compD (aName i) G F r (xs.map dat)).bind _ = _
      rw [ih]
      rfl

/-! ### slices -/
theorem cut_to {α : Type} (ds : List α) {n : Nat} (h : n ≤ ds.length) : cutD ds none (some (n : Int)) = ds.take n := by
  unfold cutD
  rw [HT.sIx_none, HT.sIx_nat]
  simp [h]
theorem cut_from {α : Type} (ds : List α) {n : Nat} (h : n ≤ ds.length) : cutD ds (some (n : Int)) none = ds.drop n := by
  unfold cutD
  rw [HT.sIx_none, HT.sIx_nat, Nat.min_eq_left h, List.take_of_length_le]
  simp

/-! ### entries of a history -/
abbrev sStart : Str := PySem.Str.ofString "start"
abbrev sRead : Str := PySem.Str.ofString "read"
abbrev sChange : Str := PySem.Str.ofString "change"
theorem ok_start : PyData.strOk sStart = true := by decide +kernel
theorem ok_read : PyData.strOk sRead = true := by decide +kernel
theorem ok_change : PyData.strOk sChange = true := by decide +kernel
theorem ne_sr : (sStart == sRead) = false := by decide +kernel
theorem ne_cr : (sChange == sRead) = false := by decide +kernel
theorem ne_sc : (sStart == sChange) = false := by decide +kernel
theorem ne_rc : (sRead == sChange) = false := by decide +kernel
theorem ne_rs : (sRead == sStart) = false := by decide +kernel
theorem ne_cs : (sChange == sStart) = false := by decide +kernel
theorem q_sr : qEq (.str sStart) (.str sRead) = .ok (.bool false) := by rw [qEq_str ok_start ok_read, ne_sr]
theorem q_cr : qEq (.str sChange) (.str sRead) = .ok (.bool false) := by rw [qEq_str ok_change ok_read, ne_cr]
theorem q_rr : qEq (.str sRead) (.str sRead) = .ok (.bool true) := by rw [qEq_str ok_read ok_read]; simp
theorem q_sc : qEq (.str sStart) (.str sChange) = .ok (.bool false) := by rw [qEq_str ok_start ok_change, ne_sc]
theorem q_rc : qEq (.str sRead) (.str sChange) = .ok (.bool false) := by rw [qEq_str ok_read ok_change, ne_rc]
theorem q_cc : qEq (.str sChange) (.str sChange) = .ok (.bool true) := by rw [qEq_str ok_change ok_change]; simp
inductive Ent where
  | start (d s v : Int) | read (d v : Int) (x : Bool) | change (d v s w : Int)
  deriving DecidableEq
def Ent.dat : Ent → D
  | .start d s v => .tuple [.str sStart, .int d, .int s, .int v]
  | .read d v x => .tuple [.str sRead, .int d, .int v, .bool x]
  | .change d v s w => .tuple [.str sChange, .int d, .int v, .int s, .int w]
def Ent.name : Ent → Str
  | .start .. => sStart
  | .read .. => sRead
  | .change .. => sChange
def Ent.day : Ent → Int
  | .start d _ _ => d
  | .read d _ _ => d
  | .change d _ _ _ => d
def Ent.two : Ent → Int
  | .start _ s _ => s
  | .read _ v _ => v
  | .change _ v _ _ => v
theorem Ent.at0 (e : Ent) : qIx e.dat (.int 0) = .ok (.str e.name) := by cases e <;> simp [Ent.dat, Ent.name, qIx, items]
theorem Ent.at1 (e : Ent) : qIx e.dat (.int 1) = .ok (.int e.day) := by cases e <;> simp [Ent.dat, Ent.day, qIx, items]
theorem Ent.at2 (e : Ent) : qIx e.dat (.int 2) = .ok (.int e.two) := by cases e <;> simp [Ent.dat, Ent.two, qIx, items]
theorem Ent.ok (e : Ent) : PyData.strOk e.name = true := by
  cases e
  · exact ok_start
  · exact ok_read
  · exact ok_change
theorem Ent.lay (e : Ent) : Lay 1 e.dat := by
  cases e with
  | start d s v =>
    exact lay_tup fun d hd => by
      simp only [List.mem_cons, List.not_mem_nil, or_false] at hd
      rcases hd with rfl | rfl | rfl | rfl
      · exact lay_str ok_start
      · exact lay_int _
      · exact lay_int _
      · exact lay_int _
  | read d v x =>
    exact lay_tup fun d hd => by
      simp only [List.mem_cons, List.not_mem_nil, or_false] at hd
      rcases hd with rfl | rfl | rfl | rfl
      · exact lay_str ok_read
      · exact lay_int _
      · exact lay_int _
      · exact lay_bool _
  | change d v s w =>
    exact lay_tup fun d hd => by
      simp only [List.mem_cons, List.not_mem_nil, or_false] at hd
      rcases hd with rfl | rfl | rfl | rfl | rfl
      · exact lay_str ok_change
      · exact lay_int _
      · exact lay_int _
      · exact lay_int _
      · exact lay_int _
theorem Ent.eqv_day {e f : Ent} (h : e.day ≠ f.day) : PyData.eqv e.dat f.dat = false := by
  cases e <;> cases f <;> simp_all [Ent.dat, Ent.day, PyData.eqv, PyData.eqvAll]
theorem Ent.eqv_self (e : Ent) : PyData.eqv e.dat e.dat = true := e.lay.self
abbrev datL (es : List Ent) : List D := es.map Ent.dat
abbrev hist (es : List Ent) : D := .tuple (datL es)
theorem datL_get (es : List Ent) (i : Nat) : (datL es)[i]? = es[i]?.map Ent.dat := by simp [datL]
theorem lay_hist (es : List Ent) : Lay 2 (hist es) := lay_tup fun d hd => by
  obtain ⟨e, _, rfl⟩ := List.mem_map.mp hd
  exact e.lay
theorem lay_datL (es : List Ent) : Lay 2 (.list (datL es)) := lay_list fun d hd => by
  obtain ⟨e, _, rfl⟩ := List.mem_map.mp hd
  exact e.lay
/-- an entry that may come on the day d, at the size s -/
def Ent.fits (s : Int) : Ent → Prop
  | .start .. => False
  | .read _ v _ => 0 ≤ v ∧ v < s
  | .change _ v z w => (0 ≤ v ∧ v < s) ∧ (2 ≤ z ∧ z ≤ 1000000000000) ∧ 0 ≤ w ∧ w < z
def Ent.size (s : Int) : Ent → Int
  | .start _ z _ => z
  | .read .. => s
  | .change _ _ z _ => z
def Ent.shown : Ent → Int
  | .start _ _ v => v
  | .read _ v _ => v
  | .change _ _ _ w => w
/-- a history as the scripts grow it: last day, size and what is shown -/
inductive Hist : List Ent → Int → Int → Int → Prop where
  | start {d s v : Int} : 0 ≤ d → d < 12 → 2 ≤ s → s ≤ 1000000000000 → 0 ≤ v → v < s → Hist [.start d s v] d s v
  | more {es : List Ent} {l s v : Int} {e : Ent} : Hist es l s v → l < e.day → e.day ≤ l + 60 → e.fits s → Hist (es ++ [e]) e.day (e.size s) e.shown
theorem Hist.facts {es : List Ent} {l s v : Int} (h : Hist es l s v) : (∃ e, es.getLast? = some e ∧ e.day = l) ∧ es.length ≠ 0 ∧ (∀ e ∈ es, 0 ≤ e.day ∧ e.day ≤ l) ∧ l ≤ 12 + 60 * es.length ∧ 2 ≤ s ∧ s ≤ 1000000000000 ∧ 0 ≤ v ∧ v < s := by
  induction h with
  | start h1 h2 h3 h4 h5 h6 =>
    refine ⟨⟨_, rfl, rfl⟩, by simp, fun e he => ?_, by simp; omega, h3, h4, h5, h6⟩
    rw [List.mem_singleton] at he
    subst he
    exact ⟨h1, Int.le_refl _⟩
  | @more es l s v e h h1 h2 h3 ih =>
    obtain ⟨_, k0, k, kl, k1, k2, k3, k4⟩ := ih
    refine ⟨⟨e, by simp, rfl⟩, by simp, fun f hf => ?_, by rw [List.length_append]; simp; omega, ?_⟩
    · rcases List.mem_append.mp hf with z | z
      · have := k f z
        exact ⟨this.1, by omega⟩
      · rw [List.mem_singleton] at z
        subst z
        cases es with
        | nil => simp at k0
        | cons a t =>
          have := k a List.mem_cons_self
          exact ⟨by omega, Int.le_refl _⟩
    · cases e with
      | start => exact h3.elim
      | read d x b =>
        obtain ⟨a1, a2⟩ : 0 ≤ x ∧ x < s := h3
        exact ⟨k1, k2, a1, a2⟩
      | change d x z w =>
        obtain ⟨_, b, c1, c2⟩ : (0 ≤ x ∧ x < s) ∧ (2 ≤ z ∧ z ≤ 1000000000000) ∧ 0 ≤ w ∧ w < z := h3
        exact ⟨b.1, b.2, c1, c2⟩
theorem Hist.days {es : List Ent} {l s v : Int} (h : Hist es l s v) : es.Pairwise fun a b => a.day < b.day := by
  induction h with
  | start => exact List.pairwise_singleton _ _
  | @more es l s v e h h1 h2 h3 ih =>
    refine List.pairwise_append.mpr ⟨ih, List.pairwise_singleton _ _, fun a ha b hb => ?_⟩
    rw [List.mem_singleton] at hb
    subst hb
    have := (h.facts.2.2.1 a ha).2
    omega
/-- one entry a day -/
theorem one_day {es : List Ent} (h : es.Pairwise fun a b => a.day < b.day) {i j : Nat} {e f : Ent} (hi : es[i]? = some e) (hj : es[j]? = some f) (he : e.day = f.day) : i = j := by
  obtain ⟨i1, rfl⟩ := List.getElem?_eq_some_iff.mp hi
  obtain ⟨j1, rfl⟩ := List.getElem?_eq_some_iff.mp hj
  have p := List.pairwise_iff_getElem.mp h
  rcases Nat.lt_trichotomy i j with q | q | q
  · have := p i j i1 j1 q
    omega
  · exact q
  · have := p j i j1 i1 q
    omega
/-- a reading of the day that stands -/
def Ent.hit (day : Int) : Ent → Bool
  | .read d _ x => d == day && !x
  | _ => false
def Ent.mark : Ent → Ent
  | .read d v _ => .read d v true
  | e => e
theorem Ent.mark_day (e : Ent) : e.mark.day = e.day := by cases e <;> rfl
theorem Ent.hit_day {day : Int} {e : Ent} (h : e.hit day = true) : ∃ v, e = .read day v false := by
  cases e with
  | read d v x =>
    simp only [Ent.hit, Bool.and_eq_true, beq_iff_eq, Bool.not_eq_true'] at h
    exact ⟨v, by rw [h.1, h.2]⟩
  | start => cases h
  | change => cases h
end PD

namespace PD
open PySem PySem.Spec PyProof.Rows L2
variable {K : PySem.W.Frag}
section
variable {X : Cx} {W : PWs} {e a b c : Expr} {es : List Expr} {f : Rho → Out} {g ga gb : Rho → Res D} {gl : Rho → Res (List D)} {gt : Rho → Res Bool} {pos p : Pos} {cs : Nat → Addr}
/-! ### x += .., x -= .. of whole numbers -/
def opI (h : Int → Int → Int) : D → D → Res D
  | .int i, .int j => .ok (.int (h i j))
  | _, _ => .no
theorem ds_aug {i : Nat} {x : Str} {op : Operator} {h : Int → Int → Int} {pos' : Pos} (hN : X.N.Nodup) (hi : X.N[i]? = some x) (hx : Loc X.env.scope x) (he : DW X W e g) (ho : PIp X op (ipI h)) (hf : X.fn x = true ∨ X.env.scope.names.lookup x = some .local := by first | exact .inl rfl | exact .inr rfl | assumption) :
    DS X W (.AugAssign (.Name x pos') op e pos) (augE i (opI h) g) :=
  ⟨fun M0 H0 => (ps_aug hN hi hx he.run ho hf).imp fun E st H ⟨r, M, t, q⟩ => by
    unfold augE at q
    cases hr : r[i]? with
    | none => rw [hr] at q; exact q.elim
    | some z =>
      rw [hr] at q
      cases z with
      | no => exact q.elim
      | exc a => exact q.elim
      | box k ds => exact q.elim
      | sta => exact q.elim
      | val d =>
        obtain ⟨v, hv, rv⟩ := t.en.slot i _ hr
        refine ⟨v, hv, r, M, t.en, ?_⟩
        change DemS X.K W M0 H0 E (((g r).bind fun y => opI h d y).fold (fun z => .nx (r.set i (.val z))) (fun c => .ex c r) .no) at q
        cases hg : g r with
        | ex c => rw [hg] at q; exact fun H1 s1 => q M st H1 (t.same s1)
        | no => rw [hg] at q; exact q
        | ok y =>
          rw [hg] at q
          intro u H1 s1 ru
          cases d <;> first
            | exact q.elim
            | skip
          cases y <;> first
            | exact q.elim
            | skip
          rename_i j k
          refine ⟨j, k, rv.weak.int_, ru.int_, ?_⟩
          exact q M _ H1 ((t.same s1).set (.int _))⟩
/-! ### l.count(x), l.index(x) of flat items -/
def bCount (d e : D) : Res D := match d with
  | .list ds => if flatD e = true ∧ ds.all flatD = true then .ok (.int (ds.countP fun y => PyData.eqv y e : Nat)) else .no
  | _ => .no
def lstE (f : D → D → Res D) (ga gb : Rho → Res D) (r : Rho) : Res D := (ga r).bind fun d => match d with
  | .list ds => (gb r).bind fun y => f (.list ds) y
  | _ => .no
def rCountF (K : PySem.W.Frag) : V → List V → Hp → VK → Prop := fun x xs H Q => ∃ (l : Addr) (ys : List V) (y : V), x = .ref l ∧ xs = [y] ∧ SqL K H l ys ∧ flatV y = true ∧ ys.all flatV = true ∧ Q (.int (ys.countP fun z => eqV z y : Nat)) H
theorem countU {y : V} : ∀ {ys : List V} {us : List Value}, Vals ys us → ys.all flatV = true → us.countP (eqU y) = ys.countP fun z => eqV z y
  | _, _, .nil, _ => rfl
  | z :: ys, u :: us, .cons r t, h => by
    rw [List.all_cons, Bool.and_eq_true] at h
    rw [List.countP_cons, List.countP_cons, countU t h.2, eqU_of r h.1]
theorem mtr_countF : MtR X "list.count" (rCountF X.K) := by
  intro pins s st H x xs v us Q I rx rxs h
  obtain ⟨l, ys, y, rfl, rfl, hs, fy, fys, q⟩ := h
  cases rx
  obtain ⟨u, rfl, ru⟩ := rxs.one
  obtain ⟨its, rv, ⟨⟨cls, dd, data, sl⟩, n, ho, hc, hdn, hd⟩, hlen⟩ := I.list hs
  simp only at hc hd
  subst hc hd
  refine call_meets PySem.F.slot_list_count ⟨_, ho, rfl⟩ PySem.F.entry_list_count
    (PySem.F.args_list_count_2 _ _) (SeqAt.list_countAt l its.toArray n dd sl u (eqU y)) ⟨ho, fun z hz => mem_eqAt ru fy rv fys z (by simpa using hz), ?_⟩
  refine ⟨.int (ys.countP fun z => eqV z y : Nat), H, I.tok _, ⟨s.toks, ?_⟩, q⟩
  show Value.int ((its.toArray.toList.countP (eqU y) : Nat) : Int) s.toks = Value.int ((ys.countP fun z => eqV z y : Nat) : Int) s.toks
  rw [← countU rv fys]
theorem countV {M : MS} {H : Hp} {w : V} {e : D} (rw' : Rw K M H w e) (fe : flatD e = true) : ∀ {vs : List V} {ds : List D}, RpL K M H vs ds → ds.all flatD = true → (vs.countP fun z => eqV z w) = ds.countP fun y => PyData.eqv y e
  | _, _, .nil, _ => rfl
  | v :: vs, d :: ds, .cons r t, h => by
    rw [List.all_cons, Bool.and_eq_true] at h
    rw [List.countP_cons, List.countP_cons, countV rw' fe t h.2, eqV_ok r.weak rw' h.1 fe]
theorem de_count {apos cpos : Pos} (ha : DW X W a ga) (hb : DW X W b gb) (hbase : attributeBase a "count" X.env (eval a X.env) = eval a X.env := by rfl)
    (hfew : ((backTo cpos (starEach (b :: []) X.env)).all (fun x => !x.1) && (backToKw cpos (keywordEach [] X.env)).all (fun x => x.1.isSome) && decide ((b :: []).length + ([] : List Keyword).length + (if ([] : List Keyword).isEmpty then 0 else 1) < 30)) = true := by rfl)
    (hline : (apos.endLine == cpos.line) = true := by rfl) (hs : starEach (b :: []) X.env = (false, eval b X.env) :: starEach [] X.env := by rfl) (hplain : (backTo cpos (starEach [] X.env)).any (·.1) = false := by rfl) :
    DE X W (.Call (.Attribute a "count" apos) [b] [] cpos) (lstE bCount ga gb) :=
  ⟨(pe_bm PySem.F.plainAttrs_list PySem.F.slot_list_count PySem.F.type_list_count mtr_countF ha.run (pa_cons hb.run pa_nil hs) hbase hfew hline hs hplain).imp fun st H Q ⟨r, M, en, q⟩ => by
    refine ⟨r, M, en, Dem.then (R := Rp) (Ra := Rw) en q fun d v H1 _ s1 en1 r1 q1 => ?_⟩
    cases d with
    | list ds =>
      obtain ⟨l, ys, rfl, hs, lv⟩ := r1.lst_
      refine ⟨.inl ⟨rfl, ys, hs⟩, r, M, en1, Dem.then (R := Rp) (Ra := Rw) en1 q1 fun d2 v2 H2 _ s2 en2 r2 q2 => ?_⟩
      unfold bCount at q2
      simp only at q2
      by_cases hc : flatD d2 = true ∧ ds.all flatD = true
      · rw [if_pos hc] at q2
        refine ⟨l, ys, v2, rfl, rfl, s2.seq hs, flat_ok r2 hc.1, flatL_ok (lv.same s2) hc.2, q2 _ H2 (Same.refl _) ?_⟩
        rw [countV r2 hc.1 (lv.same s2) hc.2]
        exact .int _
      · rw [if_neg hc] at q2
        exact q2.elim
    | none => exact q1.elim
    | bool => exact q1.elim
    | int => exact q1.elim
    | str => exact q1.elim
    | tuple => exact q1.elim
    | dict => exact q1.elim⟩
def bIndex (d e : D) : Res D := match d with
  | .list ds => if flatD e = true ∧ ds.all flatD = true then (match ds.findIdx? fun y => PyData.eqv y e with
    | some j => .ok (.int (j : Nat))
    | none => .no) else .no
  | _ => .no
theorem de_index {apos cpos : Pos} (ha : DW X W a ga) (hb : DW X W b gb) (hbase : attributeBase a "index" X.env (eval a X.env) = eval a X.env := by rfl)
    (hfew : ((backTo cpos (starEach (b :: []) X.env)).all (fun x => !x.1) && (backToKw cpos (keywordEach [] X.env)).all (fun x => x.1.isSome) && decide ((b :: []).length + ([] : List Keyword).length + (if ([] : List Keyword).isEmpty then 0 else 1) < 30)) = true := by rfl)
    (hline : (apos.endLine == cpos.line) = true := by rfl) (hs : starEach (b :: []) X.env = (false, eval b X.env) :: starEach [] X.env := by rfl) (hplain : (backTo cpos (starEach [] X.env)).any (·.1) = false := by rfl) :
    DE X W (.Call (.Attribute a "index" apos) [b] [] cpos) (lstE bIndex ga gb) :=
  ⟨(pe_bm PySem.F.plainAttrs_list PySem.F.slot_list_index PySem.F.type_list_index mt_index ha.run (pa_cons hb.run pa_nil hs) hbase hfew hline hs hplain).imp fun st H Q ⟨r, M, en, q⟩ => by
    refine ⟨r, M, en, Dem.then (R := Rp) (Ra := Rw) en q fun d v H1 _ s1 en1 r1 q1 => ?_⟩
    cases d with
    | list ds =>
      obtain ⟨l, ys, rfl, hs, lv⟩ := r1.lst_
      refine ⟨.inl ⟨rfl, ys, hs⟩, r, M, en1, Dem.then (R := Rp) (Ra := Rw) en1 q1 fun d2 v2 H2 _ s2 en2 r2 q2 => ?_⟩
      unfold bIndex at q2
      simp only at q2
      by_cases hc : flatD d2 = true ∧ ds.all flatD = true
      · rw [if_pos hc] at q2
        cases hj : ds.findIdx? fun y => PyData.eqv y d2 with
        | none => rw [hj] at q2; exact q2.elim
        | some j =>
          rw [hj] at q2
          obtain ⟨hl, hp, hno⟩ := List.findIdx?_eq_some_iff_getElem.mp hj
          have lv2 := lv.same s2
          obtain ⟨z, hz, rz⟩ := lv2.get (List.getElem?_eq_getElem hl)
          have fl : ∀ (i : Nat) (h : i < ds.length), flatD ds[i] = true := fun i h => List.all_eq_true.mp hc.2 _ (List.getElem_mem h)
          refine ⟨l, ys, v2, j, z, rfl, rfl, s2.seq hs, flat_ok r2 hc.1, flatL_ok lv2 hc.2, hz, ?_, fun m z' hm hz' => ?_, q2 _ H2 (Same.refl _) (.int _)⟩
          · rw [eqV_ok rz.weak r2 (fl j hl) hc.1]
            exact hp
          · obtain ⟨dm, hdm, rm⟩ := lv2.getV hz'
            obtain ⟨lm, rfl⟩ := List.getElem?_eq_some_iff.mp hdm
            rw [eqV_ok rm.weak r2 (fl m lm) hc.1]
            exact Bool.eq_false_iff.mpr (hno m hm)
      · rw [if_neg hc] at q2
        exact q2.elim
    | none => exact q1.elim
    | bool => exact q1.elim
    | int => exact q1.elim
    | str => exact q1.elim
    | tuple => exact q1.elim
    | dict => exact q1.elim⟩
end
/-! ### a def that is handed the error which the suite holds -/
def exE (i : Nat) (a : Addr) (r : Res D) (rho : Rho) : Res D := match rho[i]? with
  | some (.exc a') => if a' = a then r else .no
  | _ => .no
def spE (K : PySem.W.Frag) (r : Res D) (H : Hp) (Q : VK) : Prop := match r with
  | .ok d => ∃ M0 : MS, Lv K M0 H ∧ ∀ v H', Same H H' → Rp K M0 H' v d → Q v H'
  | _ => False
structure FnE (cs : Nat → Addr) (P : Program) (w : World) (K : PySem.W.Frag) (mg : Str → Option Value) (base : Heap) (k : Nat) (f : Addr) (fd : FuncData) (y : Str) (g : Nat → Res D) : Prop where
  run : ∀ (A : Around) (outer : List Env) (s : Shared) (H : Hp) (args : Args) (Q : VK) (p : Addr × Obj) (c : Nat), L2H.RoomH k A → A.handled = some (.ref p.1) → L2H.PinOk outer H s p → Zc (.ref (cs c)) none p.2 → (∃ vs, p.2.data = .fields vs) → Env0 P w K mg base A outer s H →
    BindsTo s fd args [(y, .ref p.1)] → spE K (g c) H Q → codeAny (model P w) A (.call (.ref f) args) (CR (L2.CX P w) outer P w H s Q fun _ _ _ => False) s
open Classical in
/-- what the body comes to, wherever the error lies -/
noncomputable def resE (fb : Nat → Addr → Rho → Out) (n : Nat) (c : Nat) : Res D :=
  if h : ∃ o, ∀ a, outR (fb c a (Sl.exc a :: List.replicate (n - 1) Sl.no)) = o then choose h else .no
theorem resE_eq {fb : Nat → Addr → Rho → Out} {n c : Nat} {o : Res D} (h : ∀ a, outR (fb c a (Sl.exc a :: List.replicate (n - 1) Sl.no)) = o) : resE fb n c = o := by
  have ex : ∃ o, ∀ a, outR (fb c a (Sl.exc a :: List.replicate (n - 1) Sl.no)) = o := ⟨o, h⟩
  unfold resE
  rw [dif_pos ex, ← Classical.choose_spec ex 0]
  exact h 0
section
variable {P : Program} {w : World} {K : PySem.W.Frag} {mg : Str → Option Value} {base : Heap} {N : List Str} {qual : Str} {st : Stmt} {f : Addr} {cs : Nat → Addr}
theorem start_exc {M : MS} {H : Hp} {N : List Str} {a : Addr} (live : Lv K M H) (hN : N.length ≠ 0) : En K M H (L2.start N [V.ref a]) (Sl.exc a :: List.replicate (N.length - 1) Sl.no) := by
  refine ⟨live, fun i z e => ?_, by unfold L2.start; simp <;> omega⟩
  cases i with
  | zero =>
    cases e
    rfl
  | succ i =>
    rw [List.getElem?_cons_succ, List.getElem?_replicate] at e
    split at e
    · cases e
      exact trivial
    · cases e
theorem fnE_ok {x y : Str} {fd : FuncData} {k : Nat} {fb : Nat → Addr → Rho → Out} (F : Fun K x qual st f fd) (S : FnScope N [y] (defScope st))
    (hb : ∀ (cdv : Value) (A : Around) (outer : List Env) (s : Shared) (H : Hp) (E : XK) (c : Nat) (a : Addr) (oe : Obj), L2H.RoomH k (CxD P w K mg base N qual st f cdv A outer s H E).A → Zc (.ref (cs c)) none oe → (∃ vs, oe.data = .fields vs) →
      DSs ((CxD P w K mg base N qual st f cdv A outer s H E).suite a ((a, oe) :: [])) W0 (defBody st) (fb c a)) :
    FnE cs P w K mg base (k + 1) f fd y (resE fb N.length) := by
  obtain ⟨oc, od, kV, doc, pm, an, cdv, ct, osl, rfl, lk, hcd⟩ := F.ex
  refine ⟨fun A outer s H args Q p c hr hh hpin hz hf e0 hbd hsp => ?_⟩
  have inK : K.In s.heap := e0.mod.kin.keeps fun b o e => (e0.bs b o e).1
  have lim : s.heap.NoLimit := e0.mod.nolimit.keeps fun b o e => (e0.bs b o e).1
  have names : ∀ z ∈ [(y, Value.ref p.1)], (defScope st).names.lookup z.1 = some .local ∨ ((defScope st).names.lookup z.1 = some .cell ∧ ((cellsFrom (s.heap.objs.size + 1) (defScope st).names []).lookup z.1).isSome = true) := fun z hz => by
    rw [List.mem_singleton] at hz
    subst hz
    rcases S.par y List.mem_cons_self with q | q
    · exact .inl q
    · exact .inr ⟨q, PySem.W.cellsFrom_some _ _ _ (.inl q)⟩
  refine codeAny_call_function hr.depth (inK _ _ lk) rfl S.co S.gen rfl (PySem.W.codeRec_of inK hcd) (hbd _ _ _ _ ?_)
  refine wpAny_newFunctionEnv_cells S.kind names fun env he s1 xx => ?_
  subst he
  refine ⟨lim.keeps xx.toInCall.keep, codeAny_func ?_⟩
  have I := L2H.inv_startH (CX := L2.CX P w) (f := f) (cd := cdv) (E := fun _ _ _ => False) (vs := [V.ref p.1]) (us := [Value.ref p.1]) S hpin e0 rfl (.cons rfl .nil) xx
  have eA : (A.deeper (envOfC qual (defScope st) s.heap.objs.size f cdv)).mark (some (.ref p.1)) = A.deeper (envOfC qual (defScope st) s.heap.objs.size f cdv) := by
    have same : ∀ (B : Around) (v : Value), B.handled = some v → B.mark (some v) = B := fun B v h => by
      obtain ⟨b1, b2, b3, b4, b5⟩ := B
      cases h
      rfl
    exact same _ _ hh
  have I2 : Inv ((CxD P w K mg base N qual st f cdv A outer s H fun _ _ _ => False).suite p.1 [p]) [] (L2.start N [V.ref p.1]) H s1 := by
    have J := I.wish (fun _ _ => False)
    unfold Cx.suite
    have e2 : (CxD P w K mg base N qual st f cdv A outer s H fun _ _ _ => False).A.mark (some (.ref p.1)) = (CxD P w K mg base N qual st f cdv A outer s H fun _ _ _ => False).A := eA
    rw [e2]
    exact J
  have rm : L2H.RoomH k (CxD P w K mg base N qual st f cdv A outer s H fun _ _ _ => False).A := hr.deeper _
  have body := hb cdv A outer s H (fun _ _ _ => False) c p.1 p.2 rm hz hf
  unfold spE at hsp
  cases ho : resE fb N.length c with
  | ex c2 => rw [ho] at hsp; exact hsp.elim
  | no => rw [ho] at hsp; exact hsp.elim
  | ok d =>
    rw [ho] at hsp
    obtain ⟨M0, live, q⟩ := hsp
    have out : outR (fb c p.1 (Sl.exc p.1 :: List.replicate (N.length - 1) Sl.no)) = .ok d := by
      unfold resE at ho
      split at ho
      · rename_i ex
        rw [Classical.choose_spec ex p.1, ho]
      · cases ho
    have hN : N.length ≠ 0 := fun z => by
      have := S.pre
      rw [List.eq_nil_of_length_eq_zero z] at this
      cases this
    have en := start_exc (K := K) (a := p.1) live hN
    have sts : Sts K M0 H M0 H (L2.start N [V.ref p.1]) (Sl.exc p.1 :: List.replicate (N.length - 1) Sl.no) := by
      have noown : ∀ (i : Nat) (kd : Kd) (zs : List D), (Sl.exc p.1 :: List.replicate (N.length - 1) Sl.no)[i]? = some (.box kd zs) → False := fun i kd zs e => by
        cases i with
        | zero => cases e
        | succ i =>
          rw [List.getElem?_cons_succ, List.getElem?_replicate] at e
          split at e <;> cases e
      exact ⟨en, Same.refl _, fun _ z => z, fun _ z => .inl z, en.len, fun i j l _ _ xs ys e => (noown _ _ _ e).elim, fun i l _ xs e => (noown _ _ _ e).elim, .none fun i A h ts bs e => by
        cases i with
        | zero => cases e
        | succ i =>
          rw [List.getElem?_cons_succ, List.getElem?_replicate] at e
          split at e <;> cases e⟩
    have run := (body.run M0 H).run [] s1 _ H { nx := fun _ H' => Q .non H', rt := Q } I2 ⟨_, M0, sts, by
      revert out
      cases fb c p.1 (Sl.exc p.1 :: List.replicate (N.length - 1) Sl.no) with
      | nx r => exact fun out M2 st2 H2 t2 => q .non H2 t2.keep (by cases out; exact .non)
      | rt d2 => exact fun out v H2 s2 rv => q v H2 s2 (by cases out; exact rv)
      | ex c2 r => exact fun out => by cases out
      | bk r => exact fun out => by cases out
      | ct r => exact fun out => by cases out
      | no => exact fun out => by cases out⟩
    have run2 : wpAny (model P w) (A.deeper (envOfC qual (defScope st) s.heap.objs.size f cdv)) (execs (defBody st) (envOfC qual (defScope st) s.heap.objs.size f cdv)) (SP ((CxD P w K mg base N qual st f cdv A outer s H fun _ _ _ => False).suite p.1 [p]) [] { nx := fun _ H' => Q .non H', rt := Q }) (fun _ _ => False) s1 := by
      rw [← eA]
      exact run
    refine wpAny_mono run2 (fun fl s' hs => ?_) fun e s' hs => hs.elim
    have fin : ∀ {st' : L2.St} {H' : Hp} {v : V} {u : Value}, Inv ((CxD P w K mg base N qual st f cdv A outer s H fun _ _ _ => False).suite p.1 [p]) [] st' H' s' → RelV v u → Q v H' → CE outer P w H s Q u s' :=
      fun {st' H' v u} J rv qv => ⟨v, H', J.os, J.bare, J.base, J.hok, rv, qv⟩
    cases fl with
    | ret u =>
      obtain ⟨v, st', H', J, rv, qv⟩ := hs
      exact fin J rv qv
    | next =>
      obtain ⟨st', H', J, qv⟩ := hs
      exact fin (v := V.non) (u := Value.none) J rfl qv
    | brk => exact hs.choose_spec.choose_spec.2.elim
    | cont => exact hs.choose_spec.choose_spec.2.elim
end
theorem hotRoom {k : Nat} {A : Around} {h : Option Value} (r : Room k A) : L2H.RoomH k (A.mark h) := ⟨r.dp, r.un⟩
theorem unitsH {k : Nat} {A : Around} (r : L2H.RoomH k A) : A.units + 64 < cLine := by
  have := r.un
  omega
theorem unitsM {k : Nat} {A : Around} {h : Option Value} (r : L2H.RoomH k A) : (A.mark h).units + 64 < cLine := by
  have := unitsH r
  rw [Around.mark_units]
  exact this
/-- a def that may be handed the error -/
structure CalE (cs : Nat → Addr) (P : Program) (w : World) (K : PySem.W.Frag) (mg : Str → Option Value) (base : Heap) (k : Nat) (x : Str) (g : Nat → Res D) : Prop where
  ex : ∃ (f : Addr) (fd : FuncData) (y : Str), FnE cs P w K mg base k f fd y g ∧ mg x = some (.ref f) ∧ PySem.W.keepIn K (.ref f) = true ∧ Binds K fd [y] []
section
variable {X : Cx} {W : PWs} {cs : Nat → Addr} {pos p : Pos}
theorem de_callE {i k c : Nat} {a : Addr} {oe : Obj} {pn : List (Addr × Obj)} {x en : Str} {pe : Pos} {g : Nat → Res D} (C : CalE cs X.prog X.w X.K X.mg X.base k x g) (hr : L2H.RoomH k (X.suite a ((a, oe) :: pn)).A) (hz : Zc (.ref (cs c)) none oe) (hf : ∃ vs, oe.data = .fields vs)
    (hv : PE (X.suite a ((a, oe) :: pn)) (.Name en pe) (tVar i)) (hg : Gl X x := by rfl) (hdb : (x == ("__debug__" : Str)) = false := by decide)
    (he : starEach (.Name en pe :: []) X.env = (false, eval (.Name en pe) X.env) :: starEach [] X.env := by rfl) (hpl : (backTo pos (starEach [] X.env)).any (·.1) = false := by rfl) :
    DE (X.suite a ((a, oe) :: pn)) W (.Call (.Name x p) [.Name en pe] [] pos) (exE i a (g c).quiet) := by
  obtain ⟨f, fd, y, F, hm, hk, hb⟩ := C.ex
  refine ⟨⟨fun pins s st H Q I ⟨r, M, e1, q⟩ => ?_⟩⟩
  have hi : st[i]? = some (some (.ref a)) ∧ Dem X.K Rp W M st H (g c).quiet Q := by
    unfold exE at q
    cases e : r[i]? with
    | none => rw [e] at q; exact q.elim
    | some z =>
      rw [e] at q
      cases z with
      | no => exact q.elim
      | val d => exact q.elim
      | box k ds => exact q.elim
      | sta => exact q.elim
      | exc b =>
        simp only at q
        by_cases hb : b = a
        · rw [if_pos hb] at q
          subst hb
          exact ⟨e1.slot i _ e, q⟩
        · rw [if_neg hb] at q
          exact q.elim
  refine wpAny_Call_Name_kw (ld_glob I hg hm ?_ hdb)
  refine PySem.W.callWith_K (h₀ := X.base) I.ok.mod.kin hk (thn ((pa_cons hv pa_nil he).run pos pins s st H (fun vs H1 => vs = [V.ref a] ∧ Dem X.K Rp W M st H1 (g c).quiet Q ∧ En X.K M H1 st r) I ⟨V.ref a, hi.1, rfl, hi.2, e1⟩) fun us s1 ⟨vs, H1, I1, rv, ev, q1, en1⟩ => ⟨I1.kIn, ?_⟩) he hpl
  subst ev
  obtain ⟨u, rfl, ru⟩ := rv.one
  cases ru
  have P1 := I1.pin (a, oe) (List.mem_append.mpr (.inl List.mem_cons_self))
  have hpin : L2H.PinOk X.stack H1 s1 (a, oe) := ⟨P1.1, P1.2.1, fun hm => (List.mem_cons.mp (I1.stkSub a hm)).elim P1.2.2.1 P1.2.2.2.1, P1.2.2.2.2⟩
  have bd := hb s1 [.ref a] I1.kIn rfl
  rw [List.append_nil] at bd
  have sp : spE X.K (g c) H1 (fun v H' => Q v H') := by
    unfold spE
    revert q1
    cases g c with
    | ok d => exact fun q1 => ⟨M, en1.live, q1⟩
    | ex c2 => exact fun q1 => q1.elim
    | no => exact fun q1 => q1
  refine wpAny_call (codeAny_mono (F.run (X.suite a ((a, oe) :: pn)).A X.stack s1 H1 ⟨[.ref a], []⟩ (fun v H' => Q v H') (a, oe) c hr rfl hpin hz hf I1.env0 bd sp) fun res s' hq => ?_)
  cases res with
  | error e =>
    obtain ⟨_, _, _, _, _, _, _, _, _, _, _, _, z⟩ := hq
    exact False.elim z
  | ok fl =>
    cases fl with
    | ret u => exact I1.after hq
    | next => exact False.elim hq
    | brk => exact False.elim hq
    | cont => exact False.elim hq
end
end PD

namespace PD
open PySem PySem.Spec PyProof.Rows L2
@[simp] theorem outR_rt (d : D) : outR (.rt d) = .ok d := eq_of_heq HEq.rfl
@[simp] theorem outR_nx (r : Rho) : outR (.nx r) = .ok .none := eq_of_heq HEq.rfl
@[simp] theorem outR_ex (c : Nat) (r : Rho) : outR (.ex c r) = .ex c := eq_of_heq HEq.rfl
/-! ### sizes along a history -/
def lastSize (c : Int) (es : List Ent) : Int := es.foldl (fun s e => e.size s) c
def sizesOf (c : Int) : List Ent → List Int
  | [] => []
  | e :: es => e.size c :: sizesOf (e.size c) es
theorem lastSize_app (c : Int) (es : List Ent) (e : Ent) : lastSize c (es ++ [e]) = e.size (lastSize c es) := by simp [lastSize, List.foldl_append]
theorem sizesOf_length : ∀ (c : Int) (es : List Ent), (sizesOf c es).length = es.length
  | _, [] => rfl
  | c, e :: es => by simp [sizesOf, sizesOf_length (e.size c) es]
theorem sizesOf_app : ∀ (c : Int) (es : List Ent) (e : Ent), sizesOf c (es ++ [e]) = sizesOf c es ++ [e.size (lastSize c es)]
  | _, [], _ => rfl
  | c, f :: es, e => by
    show f.size c :: sizesOf (f.size c) (es ++ [e]) = _
    rw [sizesOf_app (f.size c) es e]
    rfl
theorem sizesOf_last : ∀ (c : Int) (es : List Ent), es ≠ [] → (sizesOf c es).getLast? = some (lastSize c es)
  | c, es, h => by
    obtain ⟨fs, e, rfl⟩ : ∃ fs e, es = fs ++ [e] := ⟨es.dropLast, es.getLast h, (List.dropLast_concat_getLast h).symm⟩
    rw [sizesOf_app, lastSize_app, List.getLast?_append]
    simp
theorem sizesOf_get (c : Int) (es : List Ent) (i : Nat) (h : i < es.length) : (sizesOf c es)[i]? = some (lastSize c (es.take (i + 1))) := by
  induction es generalizing c i with
  | nil => simp at h
  | cons e es ih =>
    cases i with
    | zero => simp [sizesOf, lastSize]
    | succ i =>
      have := ih (e.size c) i (by simpa using h)
      simpa [sizesOf, lastSize] using this
def Ent.isRead : Ent → Bool
  | .read .. => true
  | _ => false
theorem Ent.qRead (e : Ent) : qEq (.str e.name) (.str sRead) = .ok (.bool e.isRead) := by
  cases e
  · exact q_sr
  · exact q_rr
  · exact q_cr
theorem Ent.size_read {e : Ent} (h : e.isRead = true) (s : Int) : e.size s = s := by
  cases e with
  | read => rfl
  | start => cases h
  | change => cases h
/-- a history that does not begin with a reading -/
def OkHead (es : List Ent) : Prop := ∀ e, es[0]? = some e → e.isRead = false
theorem OkHead.app {es : List Ent} {e : Ent} (h : OkHead es) (he : es = [] → e.isRead = false) : OkHead (es ++ [e]) := by
  intro f hf
  cases es with
  | nil =>
    cases hf
    exact he rfl
  | cons a t => exact h f hf
theorem take_succ_get {es : List Ent} {j : Nat} {e : Ent} (h : es[j]? = some e) : es.take (j + 1) = es.take j ++ [e] := by
  obtain ⟨hl, rfl⟩ := List.getElem?_eq_some_iff.mp h
  exact List.take_succ_eq_append_getElem hl
end PD

namespace PD
open PySem PySem.Spec PyProof.Rows L2
variable {K : PySem.W.Frag}
/-! ### match over tuples that begin with a word -/
inductive Pk where
  | lit (x : Str) | cap (i : Nat) | wild
def mtD : List Pk → List D → Res (Option (List (Nat × D)))
  | [], [] => .ok (some [])
  | .lit x :: ks, d :: ds => match d with
    | .str y => if y = x then mtD ks ds else .ok none
    | _ => .no
  | .cap i :: ks, d :: ds => (mtD ks ds).bind fun o => .ok (o.map fun ps => (i, d) :: ps)
  | .wild :: ks, _ :: ds => mtD ks ds
  | _, _ => .no
inductive Pts (X : Cx) : List Pattern → List Pk → Prop
  | nil : Pts X [] []
  | lit {x : Str} {j : Nat} {p1 p2 : Pos} {ps : List Pattern} {ks : List Pk} (t : Pts X ps ks) : Pts X (.MatchValue (.Constant (.str x) j p1) p2 :: ps) (.lit x :: ks)
  | cap {x : Str} {i : Nat} {p : Pos} {ps : List Pattern} {ks : List Pk} (hi : X.N[i]? = some x) (hx : Loc X.env.scope x) (hf : X.fn x = true ∨ X.env.scope.names.lookup x = some .local) (t : Pts X ps ks) : Pts X (.MatchAs none (some x) p :: ps) (.cap i :: ks)
  | wild {p : Pos} {ps : List Pattern} {ks : List Pk} (t : Pts X ps ks) : Pts X (.MatchAs none none p :: ps) (.wild :: ks)
theorem Pts.len {X : Cx} : ∀ {ps : List Pattern} {ks : List Pk}, Pts X ps ks → ps.length = ks.length
  | _, _, .nil => rfl
  | _, _, .lit t => by simp [Pts.len t]
  | _, _, .cap _ _ _ t => by simp [Pts.len t]
  | _, _, .wild t => by simp [Pts.len t]
/-- the names that a match gives, with their values -/
inductive Bnd (X : Cx) (M : MS) (H : Hp) : List (Str × Value) → List (Nat × D) → Prop
  | nil : Bnd X M H [] []
  | cons {x : Str} {i : Nat} {u : Value} {v : V} {d : D} {bs : List (Str × Value)} {ps : List (Nat × D)} (hi : X.N[i]? = some x) (hx : Loc X.env.scope x) (hf : X.fn x = true ∨ X.env.scope.names.lookup x = some .local) (r : RelV v u) (q : Rp X.K M H v d) (t : Bnd X M H bs ps) : Bnd X M H ((x, u) :: bs) ((i, d) :: ps)
def BndO (X : Cx) (M : MS) (H : Hp) : Option (List (Str × Value)) → Option (List (Nat × D)) → Prop
  | none, none => True
  | some bs, some ps => Bnd X M H bs ps
  | _, _ => False
section
variable {X : Cx} {W : PWs} {M : MS} {H : Hp} {st : Sg} {pins : List (Addr × Obj)} {E : Value → Shared → Prop}
theorem each_ok : ∀ {ps : List Pattern} {ks : List Pk} {s : Shared} {vs : List V} {us : List Value} {ds : List D} {o : Option (List (Nat × D))} {Q : Option (List (Str × Value)) → Shared → Prop}, Pts X ps ks → Inv X pins st H s → Vals vs us → RpL X.K M H vs ds → mtD ks ds = .ok o →
    (∀ s' bs, Inv X pins st H s' → BndO X M H bs o → Q bs s') → wpAny (model X.prog X.w) X.A (matchEach ps X.env us) Q E s
  | _, _, s, _, _, [], o, Q, .nil, I, r, l, e, h => by
    cases l
    cases r
    cases e
    exact wpAny_matchEach_nil (h s _ I .nil)
  | _, _, s, _, _, d :: ds, o, Q, .nil, I, r, l, e, h => by cases e
  | _, _, s, _, _, [], o, Q, .lit t, I, r, l, e, h => by cases e
  | _, _, s, _, _, [], o, Q, .cap _ _ _ t, I, r, l, e, h => by cases e
  | _, _, s, _, _, [], o, Q, .wild t, I, r, l, e, h => by cases e
  | _, _, s, _, _, d :: ds, o, Q, .lit (x := x) t, I, r, l, e, h => by
    cases l with
    | cons a l =>
      cases r with
      | cons ra r =>
        cases d <;> try cases e
        rename_i y
        cases (show _ = V.str y from a.weak.str_)
        obtain ⟨tk, rfl⟩ := ra
        refine wpAny_matchEach_cons (wpAny_matchPattern_Value (thn ((pe_str (X := X.wish E) (x := x)).run pins s st H (fun v H' => v = .str x ∧ H = H') (I.wish E) ⟨rfl, rfl⟩) fun u s1 ⟨v, H1, I1, rv, e1, e2⟩ => ?_))
        subst e1 e2
        obtain ⟨tk2, rfl⟩ := rv
        refine eq_str (wpAny_truthy_bool ?_)
        unfold mtD at e
        simp only at e
        by_cases c : y = x
        · subst c
          rw [if_pos rfl] at e
          simp only [beq_self_eq_true, if_true]
          refine each_ok t I1.unwish r l e fun s2 bs I2 b => ?_
          cases bs with
          | none => exact h s2 _ I2 b
          | some bs => exact h s2 _ I2 b
        · rw [if_neg c] at e
          cases e
          rw [show (y == x) = false from beq_eq_false_iff_ne.mpr c]
          simp only [Bool.false_eq_true, if_false]
          exact h s1 none I1.unwish trivial
  | _, _, s, _, _, d :: ds, o, Q, .cap (ks := ks) hi hx hf t, I, r, l, e, h => by
    cases l with
    | cons a l =>
      cases r with
      | cons ra r =>
        unfold mtD at e
        cases em : mtD ks ds with
        | ok o1 =>
          rw [em] at e
          cases e
          refine wpAny_matchEach_cons (wpAny_matchPattern_Capture ?_)
          refine each_ok t I r l em fun s2 bs I2 b => ?_
          cases bs with
          | none =>
            cases o1 with
            | none => exact h s2 _ I2 trivial
            | some ps => exact b.elim
          | some bs =>
            cases o1 with
            | none => exact b.elim
            | some ps => exact h s2 _ I2 (.cons hi hx hf ra a b)
        | ex c => rw [em] at e; cases e
        | no => rw [em] at e; cases e
  | _, _, s, _, _, d :: ds, o, Q, .wild t, I, r, l, e, h => by
    cases l with
    | cons a l =>
      cases r with
      | cons ra r =>
        refine wpAny_matchEach_cons (wpAny_matchPattern_Capture ?_)
        refine each_ok t I r l e fun s2 bs I2 b => ?_
        cases bs with
        | none => exact h s2 _ I2 b
        | some bs => exact h s2 _ I2 b
theorem binds_ok (hN : X.N.Nodup) : ∀ {bs : List (Str × Value)} {ps : List (Nat × D)} {s : Shared} {st : Sg} {Q : Unit → Shared → Prop}, Bnd X M H bs ps → Inv X pins st H s →
    (∀ s' vs, Inv X pins (setsV st (ps.map (·.1)) vs) H s' → RpL X.K M H vs (ps.map (·.2)) → Q () s') → wpAny (model X.prog X.w) X.A (assignInOrder (bs.map fun (n, _) => bindName X.env n) (bs.map (·.2))) Q E s
  | _, _, s, st, Q, .nil, I, h => wpAny_assignInOrder_none (h s [] I .nil)
  | _, _, s, st, Q, .cons hi hx hf r q t, I, h => by
    refine wpAny_assignInOrder_more (wpAny_bindName (store_ok I hN hi hx r (fun s2 I2 => ?_) hf))
    refine binds_ok hN t I2 fun s3 vs I3 l => ?_
    exact h s3 (_ :: vs) I3 (.cons q l)
end
def mCases : List (List Pk × (Rho → Out)) → D → Rho → Out
  | [], _, r => .nx r
  | (ks, f) :: cs, d, r => match d with
    | .tuple ds => if ds.length = ks.length then (mtD ks ds).fold (fun o => match o with
      | none => mCases cs d r
      | some ps => f (setsD r ps)) (fun _ => .no) .no else mCases cs d r
    | _ => .no
inductive Cas (X : Cx) (W : PWs) : List MatchCase → List (List Pk × (Rho → Out)) → Prop
  | nil : Cas X W [] []
  | cons {ps : List Pattern} {ks : List Pk} {pos : Pos} {body : List Stmt} {f : Rho → Out} {rest : List MatchCase} {cs : List (List Pk × (Rho → Out))} (hp : Pts X ps ks) (hstar : ps.findIdx? (·.isStar) = none)
      (hwild : (ps.all fun p => p.isWildcard || (p.isStar && p.names.isEmpty)) = false) (hsz : ks.length < 1000) (hb : DSs X W body f) (t : Cas X W rest cs) : Cas X W (⟨.MatchSequence ps pos, none, body⟩ :: rest) ((ks, f) :: cs)
section
variable {X : Cx} {W : PWs} {e : Expr} {g : Rho → Res D} {pos : Pos}
theorem cases_ok (hN : X.N.Nodup) (hc : X.calm = true) {M0 : MS} {H0 : Hp} {D : Ends} {pins : List (Addr × Obj)} : ∀ {mc : List MatchCase} {cs : List (List Pk × (Rho → Out))} {first : Bool} {s : Shared} {M : MS} {H : Hp} {st : Sg} {r : Rho} {v : V} {u : Value} {d : PD.D},
    Cas X W mc cs → Inv X pins st H s → Sts X.K M0 H0 M H st r → RelV v u → Rp X.K M H v d → DemS X.K W M0 H0 D (mCases cs d r) → wpAny (model X.prog X.w) X.A (matchCases mc X.env u first) (SP X pins D) X.xe s
  | _, _, first, s, M, H, st, r, v, u, d, .nil, I, t, rv, rp, q => wpAny_matchCases_nil ⟨st, H, I, q M st H t⟩
  | _, _, first, s, M, H, st, r, v, u, d, .cons (ps := pl) (ks := ks) (f := f) (cs := cs) hp hstar hwild hsz hb rest, I, t, rv, rp, q => by
    unfold mCases at q
    cases d <;> try exact q.elim
    rename_i ds
    obtain ⟨a, xs, rfl, rr, l, nm⟩ := rp.weak.tup_
    cases rv
    obtain ⟨its, rvs, ht, hz⟩ := I.tuple (.inl rr)
    simp only at q
    have hl := l.length
    have hl2 := rvs.length
    have esz : its.toArray.size = its.length := by simp
    have fit : ((its.toArray.size : Nat) : Int) < 2 ^ 63 := by
      rw [sizeLine_eq] at hz
      have h2 : (its.toArray.size : Nat) ≤ 16777216 := by omega
      omega
    have hpl := hp.len
    by_cases hlen : ds.length = ks.length
    · rw [if_pos hlen] at q
      have hn : its.toArray.size = pl.length := by omega
      refine wpAny_matchCases_cons (matchSeq_tuple_hit ht fit hn ?_ hstar hwild)
      have I0 : Inv X pins st H { s with toks := s.toks + 1 + 1 } := I.tok _
      rw [← hn]
      refine unpackItems_tuple (I.ok.hd hc) ht fun h' hx => ?_
      have I1 : Inv X pins st H { s with heap := h', toks := s.toks + 1 + 1 } := I0.kept (t' := s.toks + 1 + 1) fun b o e => hx b o (Nat.ne_of_lt (Heap.lt_size e)) e
      cases em : mtD ks ds with
      | ok o =>
        rw [em] at q
        refine each_ok hp I1 (by simpa using rvs) l em fun s2 bs I2 b => ?_
        cases bs with
        | none =>
          cases o with
          | some ps => exact b.elim
          | none => exact cases_ok hN hc rest I2 t (v := .ref a) rfl rp q
        | some bs =>
          cases o with
          | none => exact b.elim
          | some ps =>
            refine binds_ok hN b I2 fun s3 vs I3 l3 => ?_
            exact (hb.run M0 H0).run pins s3 _ H D I3 ⟨_, M, t.sets ps vs _ _ l3, q⟩
      | ex c => rw [em] at q; exact q.elim
      | no => rw [em] at q; exact q.elim
    · rw [if_neg hlen] at q
      have hn : its.toArray.size ≠ pl.length := by omega
      refine wpAny_matchCases_cons (matchSeq_tuple_miss ht fit hn ?_ hstar hwild)
      exact cases_ok hN hc rest (I.tok _) t (v := .ref a) rfl rp q
def sMatch (g : Rho → Res D) (cs : List (List Pk × (Rho → Out))) : Rho → Out := vThen g (mCases cs)
theorem ds_match {mc : List MatchCase} {cs : List (List Pk × (Rho → Out))} (hN : X.N.Nodup) (hc : X.calm = true) (he : DE X W e g) (hcs : Cas X W mc cs) : DS X W (.Match e mc pos) (sMatch g cs) :=
  ⟨fun M0 H0 => ⟨fun pins s st H D I ⟨r, M, t, q⟩ => by
    refine wpAny_Match (thn (he.run.run pins s st H _ I (vthen_ok (R := Rp) (P := fun v H1 => ∃ d, Sts X.K M0 H0 M H1 st r ∧ Rp X.K M H1 v d ∧ DemS X.K W M0 H0 D (mCases cs d r)) t q fun d v H1 s1 t1 rv q1 => ⟨d, t1, rv, q1⟩)) fun u s1 ⟨v, H1, I1, rv, d, t1, rp, q1⟩ => ?_)
    exact cases_ok hN hc hcs I1 t1 rv rp q1⟩⟩
end
section
variable {X : Cx} {W : PWs} {gl : Rho → Res (List D)} {pos : Pos}
/-- x, y = a, b with plain local names -/
def parE (i j : Nat) (gl : Rho → Res (List D)) : Rho → Out := lThen gl fun ds r => match ds with
  | [d, e] => .nx ((r.set i (.val d)).set j (.val e))
  | _ => .no
theorem ds_par {i j : Nat} {x y : Str} {a b : Expr} {px py pt : Pos} {kt k2 : Nat} {pt2 : Pos} (hc : X.calm = true) (hN : X.N.Nodup) (hi : X.N[i]? = some x) (hj : X.N[j]? = some y) (hij : i ≠ j)
    (hx : X.env.scope.names.lookup x = some .local) (hy : X.env.scope.names.lookup y = some .local) (ha : DL X W [a, b] gl)
    (hw : swappedStores [.Tuple [.Name x px, .Name y py] kt pt] (.Tuple [a, b] k2 pt2) X.env = pure (some [x, y]) := by rfl)
    (hs : swapsWithSole [.Tuple [.Name x px, .Name y py] kt pt] (.Tuple [a, b] k2 pt2) pos.line X.env = pure false := by rfl) :
    DS X W (.Assign [.Tuple [.Name x px, .Name y py] kt pt] (.Tuple [a, b] k2 pt2) pos) (parE i j gl) :=
  ⟨fun M0 H0 => (ps_par hc hN hi hj hij hx hy ha.run hw hs).imp fun E st H ⟨r, M, t, q⟩ => by
    refine ⟨r, M, t.en, ?_⟩
    unfold parE lThen at q
    cases hg : gl r with
    | ok ds =>
      rw [hg] at q
      intro vs H1 s1 rv
      match ds, q, rv with
      | [d, e], q, .cons rd (.cons re .nil) => exact ⟨_, _, rfl, q M _ H1 (((t.same s1).set rd).set re)⟩
      | [], q, _ => exact q.elim
      | [_], q, _ => exact q.elim
      | _ :: _ :: _ :: _, q, _ => exact q.elim
    | ex c => rw [hg] at q; exact fun H1 s1 => q M st H1 (t.same s1)
    | no => rw [hg] at q; exact q⟩
end
end PD

namespace PD
open PySem PySem.Spec PyProof.Rows L2
/-! ### what counts in a history: the state behind an entry that counts is its day, the size, what is shown -/
abbrev St3 := Int × Int × Int
def std (t : St3) : D := .tuple [.int t.1, .int t.2.1, .int t.2.2]
theorem std_0 (t : St3) : qIx (std t) (.int 0) = .ok (.int t.1) := by simp [std, qIx, items]
theorem std_1 (t : St3) : qIx (std t) (.int 1) = .ok (.int t.2.1) := by simp [std, qIx, items]
theorem std_2 (t : St3) : qIx (std t) (.int 2) = .ok (.int t.2.2) := by simp [std, qIx, items]
theorem isN_std (t : St3) : isN (std t) = false := rfl
theorem lay_std (t : St3) : Lay 1 (std t) := lay_tup fun d hd => by
  simp only [List.mem_cons, List.not_mem_nil, or_false] at hd
  rcases hd with rfl | rfl | rfl <;> exact lay_int _
def Ent.use (t : St3) (e : Ent) : Int := (e.two - t.2.2) % t.2.1
def Ent.off : Ent → Bool
  | .read _ _ x => x
  | _ => false
def Ent.cnt (m : Int) (t : St3) (e : Ent) : Bool := !e.isRead || (!e.off && decide (e.use t ≤ m * (e.day - t.1)))
theorem cnt_read (m : Int) (t : St3) (d v : Int) (x : Bool) : Ent.cnt m t (.read d v x) = (!x && decide (Ent.use t (.read d v x) ≤ m * (d - t.1))) := rfl
theorem cnt_change (m : Int) (t : St3) (d v s w : Int) : Ent.cnt m t (.change d v s w) = true := rfl
theorem q_cs : qEq (.str sChange) (.str sStart) = .ok (.bool false) := by rw [qEq_str ok_change ok_start, ne_cs]
theorem q_rs : qEq (.str sRead) (.str sStart) = .ok (.bool false) := by rw [qEq_str ok_read ok_start, ne_rs]
theorem q_ss : qEq (.str sStart) (.str sStart) = .ok (.bool true) := by rw [qEq_str ok_start ok_start]; simp
def Ent.beh (t : St3) (e : Ent) : St3 := (e.day, e.size t.2.1, e.shown)
def plc (m : Int) : Nat → St3 → List Ent → List Nat
  | _, _, [] => []
  | k, t, e :: es => if e.cnt m t then k :: plc m (k + 1) (e.beh t) es else plc m (k + 1) t es
def gap (m : Int) : St3 → List Ent → List St3
  | _, [] => []
  | t, e :: es => if e.cnt m t then (t.1, e.day, e.use t) :: gap m (e.beh t) es else gap m t es
def endS (m : Int) : St3 → List Ent → St3
  | t, [] => t
  | t, e :: es => if e.cnt m t then endS m (e.beh t) es else endS m t es
/-- an entry behind the first one -/
def Ent.later : Ent → Prop
  | .start .. => False
  | .read .. => True
  | .change _ _ s _ => 0 < s ∧ s ≤ 1000000000000
/-- the rest of a history behind the state t -/
structure Rest (t : St3) (es : List Ent) : Prop where
  pos : 0 < t.2.1 ∧ t.2.1 ≤ 1000000000000
  day : 0 ≤ t.1
  days : es.Pairwise fun a b => a.day < b.day
  late : ∀ e ∈ es, t.1 < e.day ∧ e.day ≤ 1000000
  fit : ∀ e ∈ es, e.later
theorem Rest.skip {t : St3} {e : Ent} {es : List Ent} (h : Rest t (e :: es)) : Rest t es :=
  ⟨h.pos, h.day, (List.pairwise_cons.mp h.days).2, fun f hf => h.late f (List.mem_cons_of_mem _ hf), fun f hf => h.fit f (List.mem_cons_of_mem _ hf)⟩
theorem Rest.next {t : St3} {e : Ent} {es : List Ent} (h : Rest t (e :: es)) : Rest (e.beh t) es := by
  have hl := h.late e List.mem_cons_self
  have hd := h.day
  refine ⟨?_, by show 0 ≤ e.day; omega, (List.pairwise_cons.mp h.days).2, fun f hf => ⟨(List.pairwise_cons.mp h.days).1 f hf, (h.late f (List.mem_cons_of_mem _ hf)).2⟩, fun f hf => h.fit f (List.mem_cons_of_mem _ hf)⟩
  have hf := h.fit e List.mem_cons_self
  cases e with
  | start => exact hf.elim
  | read d v x => exact h.pos
  | change d v s w => exact hf
theorem Hist.head {es : List Ent} {l s v : Int} (h : Hist es l s v) : ∃ d z w r, es = .start d z w :: r ∧ Rest (d, z, w) r ∨ es.length > 10000 := by
  by_cases big : es.length > 10000
  · exact ⟨0, 0, 0, [], .inr big⟩
  have fs := h.facts
  have dd := h.days
  have hh : ∃ d z w r, es = .start d z w :: r ∧ 0 ≤ d ∧ (0 < z ∧ z ≤ 1000000000000) ∧ ∀ e ∈ r, e.later := by
    clear fs dd big
    induction h with
    | start h1 h2 h3 h4 h5 h6 => exact ⟨_, _, _, [], rfl, h1, ⟨by omega, h4⟩, fun e he => by cases he⟩
    | @more es l s v e h h1 h2 h3 ih =>
      obtain ⟨d, z, w, r, rfl, a, b, c⟩ := ih
      refine ⟨d, z, w, r ++ [e], rfl, a, b, fun f hf => ?_⟩
      rcases List.mem_append.mp hf with q | q
      · exact c f q
      · rw [List.mem_singleton] at q
        subst q
        cases f with
        | start => exact h3.elim
        | read => exact trivial
        | change d x s' w =>
          obtain ⟨_, ⟨b1, b2⟩, _⟩ : (0 ≤ x ∧ x < s) ∧ (2 ≤ s' ∧ s' ≤ 1000000000000) ∧ 0 ≤ w ∧ w < s' := h3
          exact ⟨by omega, b2⟩
  obtain ⟨d, z, w, r, rfl, a, b, c⟩ := hh
  refine ⟨d, z, w, r, .inl ⟨rfl, b, a, (List.pairwise_cons.mp dd).2, fun e he => ⟨(List.pairwise_cons.mp dd).1 e he, ?_⟩, c⟩⟩
  have := (fs.2.2.1 e (List.mem_cons_of_mem _ he)).2
  have := fs.2.2.2.1
  omega
theorem gap_first {m : Int} : ∀ {es : List Ent} {t : St3} {g : St3}, g ∈ gap m t es → Rest t es → t.1 ≤ g.1 ∧ g.1 < g.2.1 ∧ g.2.1 ≤ 1000000 ∧ 0 ≤ g.2.2 ∧ g.2.2 < 1000000000000
  | [], _, _, h, _ => by cases h
  | e :: es, t, g, h, r => by
    unfold gap at h
    have hl := r.late e List.mem_cons_self
    have hp := r.pos
    by_cases c : e.cnt m t = true
    · rw [if_pos c] at h
      rcases List.mem_cons.mp h with rfl | h
      · refine ⟨Int.le_refl _, hl.1, hl.2, ?_, ?_⟩
        · exact Int.emod_nonneg _ (by omega)
        · have := Int.emod_lt_of_pos (e.two - t.2.2) hp.1
          show (e.two - t.2.2) % t.2.1 < _
          omega
      · have q := gap_first h r.next
        have : t.1 < e.day := hl.1
        have q1 : e.day ≤ g.1 := q.1
        exact ⟨by omega, q.2⟩
    · rw [if_neg c] at h
      exact gap_first h r.skip
theorem plc_ge {m : Int} : ∀ {es : List Ent} {t : St3} {k p : Nat}, p ∈ plc m k t es → k ≤ p ∧ p < k + es.length
  | [], _, _, _, h => by cases h
  | e :: es, t, k, p, h => by
    unfold plc at h
    by_cases c : e.cnt m t = true
    · rw [if_pos c] at h
      rcases List.mem_cons.mp h with rfl | h
      · exact ⟨Nat.le_refl _, by simp⟩
      · have := plc_ge h
        simp only [List.length_cons]
        omega
    · rw [if_neg c] at h
      have := plc_ge h
      simp only [List.length_cons]
      omega
def natD (ns : List Nat) : List D := ns.map fun n => .int (n : Nat)
def gapD (gs : List St3) : List D := gs.map std
theorem lay_natD (ns : List Nat) : Lay 1 (.list (natD ns)) := lay_list fun d hd => by
  obtain ⟨n, _, rfl⟩ := List.mem_map.mp hd
  exact lay_int _
theorem lay_gapD (gs : List St3) : Lay 2 (.list (gapD gs)) := lay_list fun d hd => by
  obtain ⟨n, _, rfl⟩ := List.mem_map.mp hd
  exact lay_std _
/-! ### walks from a place on -/
def enumK (k : Nat) : List D → List D
  | [] => []
  | d :: ds => .tuple [.int (k : Nat), d] :: enumK (k + 1) ds
theorem enumK_get : ∀ (k : Nat) (ds : List D) (i : Nat), (enumK k ds)[i]? = ds[i]?.map fun d => .tuple [.int ((k + i : Nat) : Int), d]
  | _, [], _ => by simp [enumK]
  | k, d :: ds, 0 => by simp [enumK]
  | k, d :: ds, i + 1 => by
    have := enumK_get (k + 1) ds i
    simp only [enumK, List.getElem?_cons_succ]
    rw [this, show k + 1 + i = k + (i + 1) by omega]
theorem enumD_K (ds : List D) : enumD ds = enumK 0 ds := by
  apply List.ext_getElem?
  intro i
  rw [enumD_get, enumK_get, Nat.zero_add]
def rngK (k : Nat) : Nat → List D
  | 0 => []
  | n + 1 => .int (k : Nat) :: rngK (k + 1) n
theorem rngK_get : ∀ (k n i : Nat), (rngK k n)[i]? = if i < n then some (.int ((k + i : Nat) : Int)) else none
  | _, 0, _ => by simp [rngK]
  | k, n + 1, 0 => by simp [rngK]
  | k, n + 1, i + 1 => by
    have := rngK_get (k + 1) n i
    simp only [rngK, List.getElem?_cons_succ]
    rw [this, show k + 1 + i = k + (i + 1) by omega]
    simp
theorem rngD_K (k n : Nat) : rngD (k : Nat) n = rngK k n := by
  apply List.ext_getElem?
  intro i
  rw [rngK_get]
  by_cases h : i < n
  · rw [if_pos h, rngD_at h]
    simp
  · rw [if_neg h, List.getElem?_eq_none (by rw [rngD_length]; omega)]
theorem forD_nx {asg : Asg} {f : Rho → Out} {d : D} {ds : List D} {r : Rho} {ps : List (Nat × D)} {r2 : Rho} (h : asg d = some ps) (hf : f (setsD r ps) = .nx r2) : forD asg f (d :: ds) r = forD asg f ds r2 := by
  rw [forD, h]
  simp only [hf]
theorem forD_ct {asg : Asg} {f : Rho → Out} {d : D} {ds : List D} {r : Rho} {ps : List (Nat × D)} {r2 : Rho} (h : asg d = some ps) (hf : f (setsD r ps) = .ct r2) : forD asg f (d :: ds) r = forD asg f ds r2 := by
  rw [forD, h]
  simp only [hf]
theorem forD_rt {asg : Asg} {f : Rho → Out} {d : D} {ds : List D} {r : Rho} {ps : List (Nat × D)} {v : D} (h : asg d = some ps) (hf : f (setsD r ps) = .rt v) : forD asg f (d :: ds) r = .rt v := by
  rw [forD, h]
  simp only [hf]
theorem forD_nil {asg : Asg} {f : Rho → Out} {r : Rho} : forD asg f [] r = .nx r := by rw [forD]
theorem last_place {full : List Ent} {m : Int} : ∀ (es pre : List Ent) (t : St3) (p0 : Nat) (f0 : Ent), full = pre ++ es → full[p0]? = some f0 → f0.day = t.1 → ∃ p f, (p0 :: plc m pre.length t es).getLast? = some p ∧ full[p]? = some f ∧ f.day = (endS m t es).1
  | [], pre, t, p0, f0, _, h0, hd => ⟨p0, f0, rfl, h0, hd⟩
  | e :: es, pre, t, p0, f0, hf, h0, hd => by
    have full' : full = (pre ++ [e]) ++ es := by rw [hf]; simp
    by_cases c : e.cnt m t = true
    · obtain ⟨p, f, q1, q2, q3⟩ := last_place (full := full) (m := m) es (pre ++ [e]) (e.beh t) pre.length e full' (by rw [hf]; simp) rfl
      refine ⟨p, f, ?_, q2, by rw [endS, if_pos c]; exact q3⟩
      rw [plc, if_pos c]
      rw [List.length_append] at q1
      rw [List.getLast?_cons_cons]
      exact q1
    · obtain ⟨p, f, q1, q2, q3⟩ := last_place (full := full) (m := m) es (pre ++ [e]) t p0 f0 full' h0 hd
      refine ⟨p, f, ?_, q2, by rw [endS, if_neg c]; exact q3⟩
      rw [plc, if_neg c]
      rw [List.length_append] at q1
      exact q1
theorem natD_last {ns : List Nat} {p : Nat} (h : ns.getLast? = some p) : qIx (.list (natD ns)) (.int (-1)) = .ok (.int (p : Nat)) := qIx_at rfl (by rw [atI_m1, natD, List.getLast?_map, h]; rfl)
end PD

namespace PD
open PySem PySem.Spec PyProof.Rows L2
/-! ### what goes through on a day -/
def part (use days at' : Int) : Int := at' * use / days
def share3 (g : St3) (day : Int) : Int := part g.2.2 (g.2.1 - g.1) (day - g.1 + 1) - part g.2.2 (g.2.1 - g.1) (day - g.1)
def rate (g : St3) : Int := g.2.2 / (g.2.1 - g.1)
def useAt : List St3 → Int → Int → Int
  | [], f, _ => f
  | g :: gs, f, day => if g.1 ≤ day ∧ day < g.2.1 then share3 g day else useAt gs (if g.2.1 ≤ day then rate g else f) day
theorem part_mono {use days at' : Int} (hu : 0 ≤ use) (hd : 0 < days) : 0 ≤ part use days (at' + 1) - part use days at' := by
  unfold part
  have h : at' * use / days ≤ (at' + 1) * use / days := Int.ediv_le_ediv hd (by rw [Int.add_mul]; omega)
  omega
/-- spans in a row from lo on -/
inductive Chn : Int → List St3 → Prop
  | nil {lo : Int} : Chn lo []
  | cons {g : St3} {gs : List St3} (h0 : 0 ≤ g.1) (h1 : g.1 < g.2.1) (h2 : g.2.1 ≤ 1000000) (h3 : 0 ≤ g.2.2) (h4 : g.2.2 < 1000000000000) (t : Chn g.2.1 gs) : Chn g.1 (g :: gs)
theorem gap_chn {m : Int} : ∀ {es : List Ent} {t : St3}, Rest t es → Chn t.1 (gap m t es)
  | [], _, _ => .nil
  | e :: es, t, r => by
    unfold gap
    have hl := r.late e List.mem_cons_self
    have hp := r.pos
    have hd := r.day
    by_cases c : e.cnt m t = true
    · rw [if_pos c]
      have m0 : 0 ≤ e.use t := Int.emod_nonneg _ (by omega)
      have m1 : e.use t < t.2.1 := Int.emod_lt_of_pos _ hp.1
      exact Chn.cons (g := (t.1, e.day, e.use t)) hd hl.1 hl.2 m0 (by show e.use t < _; omega) (gap_chn r.next)
    · rw [if_neg c]
      exact gap_chn r.skip
theorem gap_length {m : Int} : ∀ (es : List Ent) (t : St3), (gap m t es).length ≤ es.length
  | [], _ => Nat.le_refl _
  | e :: es, t => by
    unfold gap
    split
    · have := gap_length (m := m) es (e.beh t)
      simp only [List.length_cons]
      omega
    · have := gap_length (m := m) es t
      simp only [List.length_cons]
      omega
theorem Chn.ahead : ∀ {lo : Int} {gs : List St3} {f day : Int}, Chn lo gs → day < lo → useAt gs f day = f
  | _, _, _, _, .nil, _ => rfl
  | _, _, f, day, .cons (g := g) h0 h1 h2 h3 h4 t, h => by
    unfold useAt
    rw [if_neg (fun z => by omega), if_neg (by omega)]
    exact t.ahead (by omega)
/-- how many of the spans end ahead of the day, or on it -/
def ptr (day : Int) : List St3 → Nat
  | [] => 0
  | g :: gs => if g.2.1 ≤ day then ptr day gs + 1 else 0
theorem ptr_le (day : Int) : ∀ gs : List St3, ptr day gs ≤ gs.length
  | [] => Nat.le_refl _
  | g :: gs => by
    unfold ptr
    have := ptr_le day gs
    split <;> simp <;> omega
theorem ptr_below {day : Int} : ∀ {gs : List St3} {j : Nat} {g : St3}, j < ptr day gs → gs[j]? = some g → g.2.1 ≤ day
  | [], _, _, h, _ => by simp [ptr] at h
  | g0 :: gs, j, g, h, e => by
    unfold ptr at h
    by_cases c : g0.2.1 ≤ day
    · rw [if_pos c] at h
      cases j with
      | zero => cases e; exact c
      | succ j => exact ptr_below (gs := gs) (j := j) (by omega) (by simpa using e)
    · rw [if_neg c] at h
      omega
theorem ptr_at {day : Int} : ∀ {gs : List St3} {g : St3}, gs[ptr day gs]? = some g → day < g.2.1
  | [], _, e => by simp at e
  | g0 :: gs, g, e => by
    unfold ptr at e
    by_cases c : g0.2.1 ≤ day
    · rw [if_pos c] at e
      exact ptr_at (gs := gs) (by simpa using e)
    · rw [if_neg c] at e
      cases e
      omega
theorem ptr_mono {d e : Int} (h : d ≤ e) : ∀ gs : List St3, ptr d gs ≤ ptr e gs
  | [] => Nat.le_refl _
  | g :: gs => by
    unfold ptr
    have := ptr_mono h gs
    by_cases c : g.2.1 ≤ d
    · rw [if_pos c, if_pos (by omega)]
      omega
    · rw [if_neg c]
      omega
theorem Chn.val : ∀ {lo : Int} {gs : List St3} {f day : Int}, Chn lo gs → lo ≤ day → useAt gs f day = match gs[ptr day gs]? with
    | some g => share3 g day
    | none => match gs.getLast? with
      | some g => rate g
      | none => f
  | _, _, _, _, .nil, _ => rfl
  | _, _, f, day, .cons (g := g) (gs := gs) h0 h1 h2 h3 h4 t, h => by
    unfold useAt ptr
    by_cases c : g.2.1 ≤ day
    · rw [if_neg (fun z => by omega), if_pos c, if_pos c]
      rw [t.val c, List.getElem?_cons_succ]
      cases gs[ptr day gs]? with
      | some x => rfl
      | none =>
        cases gs with
        | nil => rfl
        | cons x xs => rw [List.getLast?_cons_cons]; rfl
    · rw [if_pos ⟨h, by omega⟩, if_neg c]
      rfl
theorem Chn.start : ∀ {lo : Int} {gs : List St3} {j : Nat} {g : St3}, Chn lo gs → gs[j]? = some g → lo ≤ g.1 ∧ 0 ≤ g.1 ∧ g.1 < g.2.1 ∧ g.2.1 ≤ 1000000 ∧ 0 ≤ g.2.2 ∧ g.2.2 < 1000000000000 ∧ (j = 0 → g.1 = lo) ∧ ∀ i h, j = i + 1 → gs[i]? = some h → g.1 = h.2.1
  | _, _, _, _, .nil, e => by simp at e
  | _, _, 0, _, .cons h0 h1 h2 h3 h4 t, e => by
    cases e
    exact ⟨Int.le_refl _, h0, h1, h2, h3, h4, fun _ => rfl, fun i h z => by omega⟩
  | _, _, j + 1, g, .cons (g := g0) (gs := gs) h0 h1 h2 h3 h4 t, e => by
    have e' : gs[j]? = some g := by simpa using e
    obtain ⟨a, b, c, d, f, k, p, q⟩ := t.start e'
    refine ⟨by omega, b, c, d, f, k, fun z => by omega, fun i h z hi => ?_⟩
    have zi : i = j := by omega
    subst zi
    cases i with
    | zero =>
      cases hi
      exact p rfl
    | succ i => exact q i h rfl (by simpa using hi)
theorem Chn.nonneg : ∀ {lo : Int} {gs : List St3} {f day : Int}, Chn lo gs → 0 ≤ f → 0 ≤ useAt gs f day
  | _, _, _, _, .nil, hf => hf
  | _, _, f, day, .cons (g := g) h0 h1 h2 h3 h4 t, hf => by
    unfold useAt
    split
    · exact part_mono h3 (by omega)
    · refine t.nonneg ?_
      split
      · exact Int.ediv_nonneg h3 (by omega)
      · exact hf
theorem rg2_ok {ga gb : Rho → Res D} {i j : Int} (h : -4000000 ≤ i ∧ i ≤ 4000000 ∧ -4000000 ≤ j ∧ j ≤ 4000000) (r : Rho) (e : ga r = .ok (.int i)) (e2 : gb r = .ok (.int j)) : rg2 ga gb r = .ok (rngD i (j - i).toNat) := by
  have c : -(2 ^ 62) ≤ i ∧ i < 2 ^ 62 ∧ -(2 ^ 62) ≤ j ∧ j < 2 ^ 62 :=
    ⟨Int.le_trans (by decide) h.1, Int.lt_of_le_of_lt h.2.1 (by decide), Int.le_trans (by decide) h.2.2.1, Int.lt_of_le_of_lt h.2.2.2 (by decide)⟩
  unfold rg2
  rw [e, e2]
  simp only [bind_ok]
  rw [if_pos c]
def useL (gs : List St3) (low : Int) (n : Nat) : List D := (List.range n).map fun j => .int (useAt gs 0 (low + (j : Nat)))
theorem useL_succ (gs : List St3) (low : Int) (n : Nat) : useL gs low (n + 1) = useL gs low n ++ [.int (useAt gs 0 (low + (n : Nat)))] := by simp [useL, List.range_succ]
theorem useL_length (gs : List St3) (low : Int) (n : Nat) : (useL gs low n).length = n := by simp [useL]
theorem gapD_get (gs : List St3) (i : Nat) : (gapD gs)[i]? = gs[i]?.map std := by simp [gapD]
theorem gapD_length (gs : List St3) : (gapD gs).length = gs.length := by simp [gapD]
theorem lay_useL (gs : List St3) (low : Int) (n : Nat) : Lay 1 (.list (useL gs low n)) := lay_list fun d hd => by
  obtain ⟨n, _, rfl⟩ := List.mem_map.mp hd
  exact lay_int _
end PD

namespace PD
open PySem PySem.Spec PyProof.Rows L2
/-! ### sums over days -/
theorem cut_mid {α : Type} (ds : List α) {a b : Nat} (h : b ≤ ds.length) (hab : a ≤ b) : cutD ds (some (a : Int)) (some (b : Int)) = (ds.drop a).take (b - a) := by
  unfold cutD
  rw [HT.sIx_nat, HT.sIx_nat, Nat.min_eq_left h, Nat.min_eq_left (by omega)]
def sumU (gs : List St3) (lo : Int) : Nat → Int
  | 0 => 0
  | n + 1 => sumU gs lo n + useAt gs 0 (lo + (n : Nat))
theorem useL_cut (gs : List St3) {a b n : Nat} (hb : b ≤ n) (hab : a ≤ b) : ((useL gs 0 n).drop a).take (b - a) = useL gs (a : Nat) (b - a) := by
  apply List.ext_getElem?
  intro i
  unfold useL
  rw [List.getElem?_take]
  by_cases h : i < b - a
  · rw [if_pos h, List.getElem?_drop, List.getElem?_map, List.getElem?_map, List.getElem?_range (by omega), List.getElem?_range h]
    simp only [Option.map_some]
    congr 3
    omega
  · rw [if_neg h, List.getElem?_map, List.getElem?_eq_none (by simp; omega)]
    rfl
theorem intsOf_app : ∀ (ds : List D) (ns : List Int) (i : Int), intsOf ds = some ns → intsOf (ds ++ [.int i]) = some (ns ++ [i])
  | [], _, _, h => by cases h; rfl
  | d :: ds, ns, i, h => by
    cases d <;> first
      | (cases h; done)
      | (rename_i j
         unfold intsOf at h
         cases e : intsOf ds with
         | none => rw [e] at h; cases h
         | some is =>
           rw [e] at h
           cases h
           have := intsOf_app ds is i e
           show (intsOf (ds ++ [.int i])).map _ = _
           rw [this]
           rfl)
theorem useL_ints (gs : List St3) (lo : Int) : ∀ n : Nat, ∃ ns, intsOf (useL gs lo n) = some ns ∧ ns.sum = sumU gs lo n
  | 0 => ⟨[], rfl, rfl⟩
  | n + 1 => by
    obtain ⟨ns, h1, h2⟩ := useL_ints gs lo n
    refine ⟨ns ++ [useAt gs 0 (lo + (n : Nat))], ?_, by rw [List.sum_append, h2]; simp [sumU]⟩
    rw [useL_succ]
    exact intsOf_app _ _ _ h1
theorem sum_useL (gs : List St3) (lo : Int) (n : Nat) : bSum (.list (useL gs lo n)) = .ok (.int (sumU gs lo n)) := by
  obtain ⟨ns, h1, h2⟩ := useL_ints gs lo n
  unfold bSum
  simp only
  rw [h1]
  simp only
  rw [h2]
theorem sumU_zero {gs : List St3} {lo : Int} {a : Int} (c : Chn lo gs) : ∀ n : Nat, a + (n : Nat) ≤ lo → sumU gs a n = 0
  | 0, _ => rfl
  | n + 1, h => by
    unfold sumU
    rw [sumU_zero c n (by omega), c.ahead (by omega)]
    rfl
theorem Chn.within : ∀ {lo : Int} {gs : List St3} {f day : Int} {k : Nat} {g : St3}, Chn lo gs → gs[k]? = some g → g.1 ≤ day → day < g.2.1 → useAt gs f day = share3 g day
  | _, _, _, _, _, _, .nil, e, _, _ => by simp at e
  | _, _, f, day, 0, _, .cons h0 h1 h2 h3 h4 t, e, a, b => by
    cases e
    unfold useAt
    rw [if_pos ⟨a, b⟩]
  | _, _, f, day, k + 1, g, .cons (g := g0) (gs := gs) h0 h1 h2 h3 h4 t, e, a, b => by
    have e' : gs[k]? = some g := by simpa using e
    have st := (t.start e').1
    unfold useAt
    rw [if_neg (fun z => by omega)]
    exact t.within e' a b
theorem sum_part {gs : List St3} {lo : Int} {k : Nat} {g : St3} (c : Chn lo gs) (hk : gs[k]? = some g) : ∀ n : Nat, (n : Int) ≤ g.2.1 - g.1 → sumU gs g.1 n = PD.part g.2.2 (g.2.1 - g.1) (n : Nat)
  | 0, _ => by simp [sumU, PD.part]
  | n + 1, h => by
    unfold sumU
    rw [sum_part c hk n (by omega), c.within hk (by omega) (by omega)]
    unfold share3
    have e1 : g.1 + (n : Nat) - g.1 = (n : Nat) := by omega
    rw [e1]
    have e2 : (((n + 1 : Nat) : Nat) : Int) = (n : Nat) + 1 := by omega
    rw [e2]
    omega
theorem sum_gap {gs : List St3} {lo : Int} {k : Nat} {g : St3} (c : Chn lo gs) (hk : gs[k]? = some g) : sumU gs g.1 (g.2.1 - g.1).toNat = g.2.2 := by
  have st := c.start hk
  have e : (((g.2.1 - g.1).toNat : Nat) : Int) = g.2.1 - g.1 := by omega
  rw [sum_part c hk _ (by omega), e]
  unfold PD.part
  exact Int.mul_ediv_cancel_left _ (by omega)
/-! ### values below the sizes, along a history -/
def Fits : Int → List Ent → Prop
  | _, [] => True
  | s, e :: es => e.fits s ∧ Fits (e.size s) es
theorem Fits.app : ∀ {es : List Ent} {s : Int} {e : Ent}, Fits s es → e.fits (lastSize s es) → Fits s (es ++ [e])
  | [], s, e, _, h => ⟨h, trivial⟩
  | f :: es, s, e, ⟨h1, h2⟩, h => ⟨h1, Fits.app h2 h⟩
theorem Hist.fits {es : List Ent} {l s v : Int} (h : Hist es l s v) : ∃ d z w r, es = .start d z w :: r ∧ Fits z r ∧ lastSize z r = s ∧ (0 ≤ w ∧ w < z) := by
  induction h with
  | start h1 h2 h3 h4 h5 h6 => exact ⟨_, _, _, [], rfl, trivial, rfl, h5, h6⟩
  | @more es l s v e h h1 h2 h3 ih =>
    obtain ⟨d, z, w, r, rfl, a, b, c⟩ := ih
    exact ⟨d, z, w, r ++ [e], rfl, a.app (by rw [b]; exact h3), by rw [lastSize_app, b], c⟩
end PD

namespace PD
open PySem PySem.Spec PyProof.Rows L2
/-! ### generator expressions that are walked where they are made -/
abbrev gcx (X : Cx) (s : Shared) (H : Hp) (env : Env) (B : Around) (fp : List Addr) (pn : List (Addr × Obj)) : Cx :=
  { X with s_0 := s, H_0 := H, env := env, outer := X.stack, stack := env :: X.stack, A := B, ex := fp, fn := fun _ => false, pn := pn, xe := fun _ _ => False }
section
variable {X : Cx} {pins : List (Addr × Obj)} {σ : L2.St} {H : Hp} {s : Shared}
theorem same_table {P c' : Addr} {pos : Pos} {q : Str} {ps : Array Value} (hP : H P = some (.tbl ps)) (ht : TriplesOk ps.toList) (hk : ∀ (pos : Pos) (cv : Value), codeAmong pos ps.toList = some cv → ∃ c q, cv = .ref c ∧ H c = some (CodO c q)) (nC : H c' = none) :
    Same H (upd (upd H P (.tbl (ps ++ #[rawInt pos.line, rawInt pos.col, .ref c']))) c' (LamX.CodeO c' q)) := by
  have nPc : P ≠ c' := ne_of_none hP nC
  have st : ∀ b o, H b = some o → NT o → upd (upd H P (.tbl (ps ++ #[rawInt pos.line, rawInt pos.col, .ref c']))) c' (LamX.CodeO c' q) b = some o := fun b o e n => by
    have nb : b ≠ P := by
      rintro rfl
      rw [hP] at e
      exact n ps (Option.some.inj e).symm
    rw [upd_ne (ne_of_none e nC), upd_ne nb]
    exact e
  refine ⟨st, fun P2 t => ?_, fun b e => ?_⟩
  · obtain ⟨ps2, a, b, k⟩ := t
    by_cases hb : P2 = P
    · subst hb
      rw [hP] at a
      cases a
      have eL : (ps ++ #[rawInt pos.line, rawInt pos.col, .ref c']).toList = ps.toList ++ [rawInt pos.line, rawInt pos.col, .ref c'] := by simp
      refine ⟨_, by rw [upd_ne nPc, upd_same], by rw [eL]; exact PySem.TriplesOk_snoc _ _ _ _ ht, fun p2 cv hc => ?_⟩
      rw [eL] at hc
      rcases LamX.among_app _ ht hc with z | z
      · obtain ⟨c0, q0, e1, e2⟩ := k p2 cv z
        exact ⟨c0, q0, e1, st _ _ e2 (nt_code _ _)⟩
      · exact ⟨c', q, z, upd_same⟩
    · refine ⟨ps2, by rw [upd_ne (ne_of_none a nC), upd_ne hb]; exact a, b, fun p2 cv hc => ?_⟩
      obtain ⟨c0, q0, e1, e2⟩ := k p2 cv hc
      exact ⟨c0, q0, e1, st _ _ e2 (nt_code _ _)⟩
  · by_cases h1 : b = c'
    · rw [h1]
      exact nC
    · rw [upd_ne h1] at e
      by_cases h2 : b = P
      · rw [h2, upd_same] at e
        cases e
      · rw [upd_ne h2] at e
        exact e
/-- the code object of a generator expression or a lambda is there or made -/
theorem gen_code {c P : Addr} {M : Model} {A : Around} {E : Value → Shared → Prop} {pos : Pos} {qn : Str} {scope : Scope} {Q : Value → Shared → Prop} (TB : LamX.TabB X.base X.mg c P) (hcode : X.env.code = .ref c) (I : Inv X pins σ H s) (hT : TabG H P)
    (hQ : ∀ code s' H', Inv X pins σ H' s' → Same H H' → (∀ b, b < s.heap.objs.size → H b = none → H' b = none) → s'.os = s.os → s'.gens = s.gens → s.heap.objs.size ≤ s'.heap.objs.size → (∀ b o, b ≠ P → s.heap.get? b = some o → s'.heap.get? b = some o) → Q code s') : wpAny M A (genexprCode X.env pos qn scope) Q E s := by
  obtain ⟨ps, hP, ht, hk⟩ := hT
  have e : s.heap.get? P = some { cls := .none, data := .fields ps } := I.hok P _ hP
  have cd : PySem.W.CodeHd s.heap c P := TB.code.keeps fun b u q => I.bk b u q
  cases hf : codeAmong pos ps.toList with
  | some cv => exact wpAny_genexprCode_hit hcode (cd.code e ht) hf (hQ cv s H I (Same.refl _) (fun _ _ z => z) rfl rfl (Nat.le_refl _) fun b o _ q => q)
  | none =>
    refine wpAny_genexprCodeX hcode (cd.code e ht) (cd.tab e) hf fun c' h' tk hx hge hlt hco hrec htab _ => ?_
    obtain ⟨c2, oc, vs, t, e2, hoc, hd, hv⟩ := hrec
    cases e2
    have nC : H c' = none := I.hok.fresh hge
    refine hQ _ _ _ (LamX.inv_table (t' := tk) I hP (fun b o hb q => hx b o hb q) htab.2 hge ⟨oc, vs, t, hoc, hd, hv⟩) (same_table hP ht hk nC) (fun b hb n => ?_) rfl rfl (Nat.le_trans hge (Nat.le_of_lt hlt)) fun b o hb q => hx b o hb q
    have n1 : b ≠ c' := by
      rintro rfl
      exact Nat.lt_irrefl _ (Nat.lt_of_lt_of_le hb hge)
    have n2 : b ≠ P := by
      rintro rfl
      rw [hP] at n
      cases n
    rw [upd_ne n1, upd_ne n2]
    exact n
theorem gen_start {scope : Scope} {own : List (Str × Nat)} {fp : List Addr} {code : Value} {B : Around} {a : Addr} {go : Obj} {G' : Array GenState} {t' : Nat} {h5 : Heap} {m0 : Str → Option Value} {env : Env} (I : Inv X pins σ H s) (ok : BlkOk X.N X.env.scope scope own) (hN : X.N.Nodup)
    (hfp : ∀ b ∈ fp, FpOk X pins H b ∧ b < s.heap.objs.size) (nc : ∀ y ∈ scope.names, y.2 ≠ .cell) (henv : env = genEnv scope (cloFrom X.env.cells scope.names []) s.heap.objs.size code builtinsNs X.env) (hB1 : X.calm = true → B.handled = none) (hB2 : B.frames = some (env :: X.stack))
    (kp : ∀ b o, s.heap.get? b = some o → h5.get? b = some o) (hns : h5.Ns s.heap.objs.size m0) (ha : s.heap.objs.size < a) (hgo : h5.get? a = some go) (hgd : ∀ v, go.data ≠ .cell v) (hbare : AllBare G') :
    Inv (gcx X s H env B fp [(a, go)]) [] (wipe σ (own.map (·.2))) H { s with heap := h5, gens := G', toks := t' } := by
  have hfree : ∀ y ∈ scope.names, y.2 = .free → ∃ c, X.env.cells.lookup y.1 = some c := fun y hy e => (ok.free y hy e).elim (fun k => I.ok.has _ (.inl k)) fun k => I.ok.has _ (.inr k)
  have hL : env.locals = s.heap.objs.size := by rw [henv]; rfl
  have hcl : env.cells = cloFrom X.env.cells scope.names [] := by rw [henv]; rfl
  have hsc : env.scope = scope := by rw [henv]; rfl
  have cm : ∀ {y c}, env.cells.lookup y = some c → X.env.cells.lookup y = some c ∧ c < s.heap.objs.size := fun {y c} e => by
    rw [hcl] at e
    rcases cloFrom_mem (PySem.mem_of_lookup e) with hm | ⟨h1, rfl⟩
    · cases hm
    · obtain ⟨c, hc⟩ := hfree _ h1 rfl
      rw [hc]
      obtain ⟨w, z⟩ := I.cell _ _ hc
      exact ⟨rfl, z.lt⟩
  have look : ∀ {y}, scope.names.lookup y = some .free → ∃ c, env.cells.lookup y = some c ∧ X.env.cells.lookup y = some c := fun {y} hl => by
    obtain ⟨c', e'⟩ := mem_lookup (cloFrom_has (cells := X.env.cells) (acc := []) (PySem.mem_of_lookup hl))
    rw [← hcl] at e'
    exact ⟨c', e', (cm e').1⟩
  have okB : (gcx X s H env B fp [(a, go)]).Ok := by
    refine ⟨I.ok.mod, by show env.scope.kind = _; rw [hsc]; exact ok.kind, by show env.globals = _; rw [henv]; exact I.ok.glob, by show env.builtins = _; rw [henv]; rfl, by show s.heap.objs.size ≤ env.locals; rw [hL]; exact Nat.le_refl _,
      fun y z c e1 e2 => I.ok.inj y z c (cm e1).1 (cm e2).1, fun y hy => ?_, fun y c z e => (by cases z), hB1, hB2, .inr ⟨rfl, by show env.frame = some env.locals; rw [henv]; rfl⟩, fun b hb => ⟨?_, fun y c e z => ?_⟩, I.bs, Nat.le_trans I.ok.bsz I.sz, fun b o e hb => ?_, fun b hb z => ?_, I.stack, I.stkFree⟩
    · show ∃ c, env.cells.lookup y = some c
      have hy' : scope.names.lookup y = some .cell ∨ scope.names.lookup y = some .free := by
        rw [← hsc]
        exact hy
      rcases hy' with hy | hy
      · exact absurd rfl (nc _ (PySem.mem_of_lookup hy))
      · obtain ⟨c, h1, _⟩ := look hy
        exact ⟨c, h1⟩
    · show b ≠ env.locals
      rw [hL]; exact Nat.ne_of_lt (hfp b hb).2
    · exact (hfp b hb).1.2.2.2.2.1 y c (cm e).1 z
    · rcases (hfp b hb).1.2.2.2.1 with z | z
      · exact I.ok.noex b o e z
      · exact absurd (Nat.lt_of_lt_of_le (Heap.lt_size e) (Nat.le_trans I.ok.bsz z)) (Nat.lt_irrefl _)
    · rcases List.mem_cons.mp (I.stkSub b z) with z | z
      · exact (hfp b hb).1.2.1 z
      · exact (hfp b hb).1.2.2.1 z
  refine ⟨okB, rfl, hbare, Un.kept kp, ⟨m0, by show Heap.Ns _ env.locals _; rw [hL]; exact hns, fun i y av e1 e2 e3 => ?_⟩, fun y c e => ?_, by show H env.locals = none; rw [hL]; exact I.hok.fresh (Nat.le_refl _), fun y c e => I.freeC y c (cm e).1, fun p hp => ?_, I.hok.kept kp, by rw [wipe_length]; exact I.len⟩
  · obtain ⟨e2, hne⟩ := wipe_some e2
    have e3 : Vis scope y := by
      rw [← hsc]
      exact e3
    have own_no : scope.names.lookup y = some .local ∨ scope.names.lookup y = some .cell → False := fun hh => by
      have hm : ∃ k, (y, k) ∈ scope.names ∧ (k = .local ∨ k = .cell) := hh.elim (fun z => ⟨_, PySem.mem_of_lookup z, .inl rfl⟩) fun z => ⟨_, PySem.mem_of_lookup z, .inr rfl⟩
      obtain ⟨k, hm, hk⟩ := hm
      rcases ok.own _ hm hk with e' | e'
      · obtain ⟨p, hp, hpy⟩ := List.mem_map.mp e'
        have q := ok.ix p hp
        have z : p.1 = y := hpy
        rw [z] at q
        exact hne (List.mem_map.mpr ⟨p, hp, nodup_ix hN q e1⟩)
      · exact e' (List.mem_of_getElem? e1)
    have hfr : scope.names.lookup y = some .free := by
      rcases e3 with e3 | e3 | e3
      · exact (own_no (.inl e3)).elim
      · exact (own_no (.inr e3)).elim
      · exact e3
    obtain ⟨m, hn, hl⟩ := I.loc
    have hvis : Vis X.env.scope y := (ok.free _ (PySem.mem_of_lookup hfr) rfl).elim (fun k => .inr (.inl k)) (fun k => .inr (.inr k))
    obtain ⟨w, r, q⟩ := hl i y av e1 e2 hvis
    obtain ⟨c, h1, h2⟩ := look hfr
    refine ⟨w, r, .inr ⟨.inr (by show env.scope.names.lookup y = _; rw [hsc]; exact hfr), c, h1, ?_⟩⟩
    rcases q with ⟨k, _⟩ | ⟨_, c', e', z⟩
    · have k : X.env.scope.names.lookup y = some .local := k
      rcases ok.free _ (PySem.mem_of_lookup hfr) rfl with k' | k' <;> rw [show X.env.scope.names.lookup y = _ from k'] at k <;> cases k
    · rw [h2] at e'; cases e'
      exact z.keeps kp
  · obtain ⟨w, z⟩ := I.cell y c (cm e).1
    exact ⟨w, z.keeps kp⟩
  · have hp' : p = (a, go) := by simpa using hp
    subst hp'
    have hle : s.heap.objs.size ≤ a := Nat.le_of_lt ha
    refine ⟨hgo, I.hok.fresh hle, by show a ≠ env.locals; rw [hL]; exact Nat.ne_of_gt ha, fun z => ?_, hgd⟩
    have z : a ∈ frs X.stack := z
    rcases List.mem_cons.mp (I.stkSub a z) with z | z
    · have q := I.lt
      rw [← z] at q
      exact absurd (Nat.lt_trans ha q) (Nat.lt_irrefl _)
    · exact I.nofs hle z
end
end PD

namespace PD
open PySem PySem.Spec PyProof.Rows L2
/-- the i-th item, as far as a number or a truth -/
def Fv (zs : List D) (i : Nat) (v : Value) : Prop := (∀ k, zs[i]? = some (.int k) → ∃ t, v = .int k t) ∧ ∀ b, zs[i]? = some (.bool b) → v = .bool b
def Kp (Sx : List Addr) (s0 s : Shared) : Prop := ∀ S ∈ Sx, s.heap.get? S = s0.heap.get? S
section
variable (Xg : Cx) (fp : List Addr) (tn : Nat → Heap → Prop) (σw : L2.St) (H4 : Hp) (Sx : List Addr) (zs : List D)
def GG (i : Nat) (s : Shared) : Prop := ∃ (pins : List (Addr × Obj)) (H' : Hp), pins.map (·.1) = Sx ∧ Inv Xg pins σw H' s ∧ Same H4 H' ∧ tn i s.heap ∧ ∀ b ∈ fp, H' b = none
def GF (s : Shared) : Prop := ∃ (pins : List (Addr × Obj)) (H' : Hp), pins.map (·.1) = Sx ∧ Inv Xg pins σw H' s ∧ Same H4 H'
def gP : Nat → Shared → Shared → Prop := fun n s₀ s₁ => n = 0 ∧ GF Xg σw H4 Sx s₁ ∧ Kp Sx s₀ s₁
def gR : GenEnd := fun n s₀ r s₁ => r = .ok .next ∧ gP Xg σw H4 Sx n s₀ s₁
def gY (N : Nat) : Protocol := fun m s₀ v s kap => ∃ i, i + m + 1 = N ∧ Fv zs i v ∧ GG Xg fp tn σw H4 Sx (i + 1) s ∧ Kp Sx s₀ s ∧ ∀ s'', GG Xg fp tn σw H4 Sx (i + 1) s'' → kap (.send .none) s''
/-- the generator g at a, behind i items -/
def GS (A : Around) (g N i : Nat) (s : Shared) : Prop := GG Xg fp tn σw H4 Sx i s ∧ ∃ gs : GenState, s.gens[g]? = some gs ∧ ∀ s'', GG Xg fp tn σw H4 Sx i s'' → gs.Goes (model Xg.prog Xg.w) A (gR Xg σw H4 Sx) (gY Xg fp tn σw H4 Sx zs N) (N - i) (.send .none) s''
end
theorem compD_at {asg : Asg} {ge : Rho → Res D} {r : Rho} : ∀ {ds zs : List D}, compD asg (fun _ => .ok true) ge r ds = .ok zs → zs.length = ds.length ∧ ∀ (i : Nat) (d : D), ds[i]? = some d → ∃ ps z, asg d = some ps ∧ ge (setsD r ps) = .ok z ∧ zs[i]? = some z
  | [], zs, h => by
    cases h
    exact ⟨rfl, fun i d e => by simp at e⟩
  | d :: ds, zs, h => by
    unfold compD at h
    cases ea : asg d with
    | none => rw [ea] at h; cases h
    | some ps =>
      rw [ea] at h
      simp only [quiet_ok, bind_ok, if_true] at h
      cases eg : ge (setsD r ps) with
      | ok z =>
        rw [eg] at h
        simp only [quiet_ok, bind_ok] at h
        cases ec : compD asg (fun _ => .ok true) ge r ds with
        | ok ws =>
          rw [ec] at h
          cases h
          obtain ⟨h1, h2⟩ := compD_at ec
          refine ⟨by simp [h1], fun i d' e => ?_⟩
          cases i with
          | zero =>
            cases e
            exact ⟨ps, z, ea, eg, rfl⟩
          | succ i =>
            obtain ⟨p, z', a, b, c⟩ := h2 i d' (by simpa using e)
            exact ⟨p, z', a, b, by simpa using c⟩
        | ex c => rw [ec] at h; cases h
        | no => rw [ec] at h; cases h
      | ex c => rw [eg] at h; cases h
      | no => rw [eg] at h; cases h
section
variable {Xg : Cx} {fp : List Addr} {tn : Nat → Heap → Prop} {σ0 : L2.St} {own : List Nat} {H4 : Hp} {Sx : List Addr} {zs ds : List D} {J : It} {it : Addr} {elt tg iter : Expr} {scope : Scope} {pos : Pos} {asg : Asg} {ge : Rho → Res D} {rw0 : Rho} {M : MS} {N : Nat} {A : Around}
/-- what stands about the generator while it lives -/
structure Gn (Xg : Cx) (fp : List Addr) (tn : Nat → Heap → Prop) (σ0 : L2.St) (own : List Nat) (H4 : Hp) (Sx : List Addr) (zs ds : List D) (J : It) (it : Addr) (elt tg : Expr) (asg : Asg) (ge : Rho → Res D) (rw0 : Rho) (M : MS) : Prop where
  calm : Xg.calm = true
  xe : Xg.xe = fun _ _ => False
  turn : Turn Xg.prog Xg.w Xg.K tg J fp it tn
  ex : Xg.ex = fp
  co : Xg.env.scope.isCoroutine = false
  pn : ∀ p ∈ Xg.pn, p.1 ∉ fp
  sx : ∀ S ∈ Sx, S ∉ fp
  hg : DG Xg tg asg
  ow : inOwn asg own
  he : DE Xg W0 elt ge
  en : En Xg.K M H4 (wipe σ0 own) rw0
  sv : Serves Xg.K M H4 J ds
  hz : compD asg (fun _ => .ok true) ge rw0 ds = .ok zs
theorem Gn.stat (G : Gn Xg fp tn σ0 own H4 Sx zs ds J it elt tg asg ge rw0 M) {pins : List (Addr × Obj)} {σ' : L2.St} {H' : Hp} {s' : Shared} (hp : pins.map (·.1) = Sx) (I : Inv Xg pins σ' H' s') (hn : ∀ b ∈ fp, H' b = none) : ∀ b ∈ fp, FpOk Xg pins H' b := fun b hb => by
  have hx : b ∈ Xg.ex := by rw [G.ex]; exact hb
  refine ⟨hn b hb, (I.ok.exf b hx).1, I.ok.exfs b hx, .inl hx, (I.ok.exf b hx).2, fun p hp2 z => ?_⟩
  rcases List.mem_append.mp hp2 with q | q
  · exact G.pn p q (z ▸ hb)
  · exact G.sx p.1 (by rw [← hp]; exact List.mem_map.mpr ⟨p, q, rfl⟩) (z ▸ hb)
theorem kp_of {pins : List (Addr × Obj)} {s0 s s' : Shared} {Xg : Cx} {σ σ' : L2.St} {H H' : Hp} (hp : pins.map (·.1) = Sx) (k : Kp Sx s0 s) (I : Inv Xg pins σ H s) (I' : Inv Xg pins σ' H' s') : Kp Sx s0 s' := fun S hS => by
  rw [← k S hS]
  obtain ⟨p, hm, e⟩ := List.mem_map.mp (show S ∈ pins.map (·.1) by rw [hp]; exact hS)
  have a := (I.pin p (List.mem_append_right _ hm)).1
  have b := (I'.pin p (List.mem_append_right _ hm)).1
  rw [e] at a b
  rw [a, b]
theorem gen_loop (G : Gn Xg fp tn σ0 own H4 Sx zs ds J it elt tg asg ge rw0 M) (hA : A.over (.compLoop (.GeneratorExp elt [⟨tg, iter, [], 0⟩] scope pos) 0 (.ref it) .none Xg.env) [] = Xg.A) (hN : ds.length = N) : ∀ (k i : Nat), i + k = N → ∀ (s₀ s : Shared), GG Xg fp tn (wipe σ0 own) H4 Sx i s → Kp Sx s₀ s →
    Seg (model Xg.prog Xg.w) A (gR Xg (wipe σ0 own) H4 Sx) (gY Xg fp tn (wipe σ0 own) H4 Sx zs N) k s₀ (.compLoop (.GeneratorExp elt [⟨tg, iter, [], 0⟩] scope pos) 0 (.ref it) .none Xg.env) ((model Xg.prog Xg.w).den (.compLoop (.GeneratorExp elt [⟨tg, iter, [], 0⟩] scope pos) 0 (.ref it) .none Xg.env)) [] s := by
  intro k
  induction k with
  | zero =>
    intro i hi s₀ s hG hk
    obtain ⟨pins, H', hp, I, sm, st, hn⟩ := hG
    show Seg _ A _ _ _ s₀ _ ((compTurn (.GeneratorExp elt [⟨tg, iter, [], 0⟩] scope pos) 0 (.ref it) .none Xg.env).onRaise (leaving Xg.env)) [] s
    rw [compTurn_gen, Sem.onRaise_eq_wrap]
    refine seg_bind_wrap (wpAny_standAt ?_)
    refine seg_bind_wrap ?_
    rw [hA]
    have stop := (G.sv i M H' sm (fun l z => .inl z) (G.en.same sm).live.has).2 (by omega)
    refine thn (G.turn.done Xg rfl rfl rfl G.calm i pins s _ H' _ I (G.stat hp I hn) st stop) fun r s1 ⟨hr, I1⟩ => ?_
    subst hr
    exact seg_end (.ok .next) ⟨rfl, rfl, ⟨pins, H', hp, I1, sm⟩, kp_of hp hk I I1⟩
  | succ k ih =>
    intro i hi s₀ s hG hk
    obtain ⟨pins, H', hp, I, sm, st, hn⟩ := hG
    have hlt : i < ds.length := by omega
    obtain ⟨ps, z, ea, eg, ez⟩ := (compD_at G.hz).2 i _ (List.getElem?_eq_getElem hlt)
    obtain ⟨go, yl⟩ := (G.sv i M H' sm (fun l z => .inl z) (G.en.same sm).live.has).1 _ (List.getElem?_eq_getElem hlt)
    show Seg _ A _ _ _ s₀ _ ((compTurn (.GeneratorExp elt [⟨tg, iter, [], 0⟩] scope pos) 0 (.ref it) .none Xg.env).onRaise (leaving Xg.env)) [] s
    rw [compTurn_gen, Sem.onRaise_eq_wrap]
    refine seg_bind_wrap (wpAny_standAt ?_)
    refine seg_bind_wrap ?_
    rw [hA]
    refine thn (G.turn.item Xg rfl rfl rfl G.calm i pins s _ H' _ I (G.stat hp I hn) st go) fun r s1 ⟨u, hr, h1⟩ => ?_
    subst hr
    refine seg_bind_wrap ?_
    rw [hA]
    refine thn h1 fun _ s2 ⟨x, H5, I5, rx, y5, st5, n5⟩ => ?_
    obtain ⟨s5, rp5⟩ := yl x H5 y5
    have sm5 := sm.trans s5
    have I5' := I5.pinned (G.stat hp I5 n5) (G.turn.obj _ _ st5)
    refine seg_bind_wrap ?_
    rw [hA]
    have nox : ∀ {α : Type} {t : Sem α} {Q Q' : α → Shared → Prop} {E : Value → Shared → Prop} {s : Shared}, wpAny (model Xg.prog Xg.w) Xg.A t Q Xg.xe s → (∀ a s, Q a s → Q' a s) → wpAny (model Xg.prog Xg.w) Xg.A t Q' E s := fun h hQ => by
      rw [G.xe] at h
      exact thnF h hQ
    refine nox (G.hg.run.run _ s2 _ H5 x u (fun st' H'' => ∃ vs, RpL Xg.K M H5 vs (ps.map (·.2)) ∧ st' = setsV (wipe σ0 own) (ps.map (·.1)) vs ∧ H5 = H'') I5' rx ⟨_, M, ps, rp5, ea, fun vs l => ⟨vs, l, rfl, rfl⟩⟩) fun _ s3 ⟨σ6, H6, I6, vs, l6, e6, eH⟩ => ?_
    subst e6 eH
    refine seg_bind_wrap ?_
    rw [hA]
    refine nox (pts_nil.run _ s3 _ H5 (fun b H'' => b = true ∧ H5 = H'') I6 ⟨rfl, rfl⟩) fun b s4 ⟨H7, I7, eb, eH⟩ => ?_
    subst eb eH
    simp only [if_true]
    have hy : ∀ v, yieldOut Xg.env v = yieldValue v := fun v => by simp only [yieldOut, G.co, Bool.false_eq_true, if_false]
    simp only [hy]
    rw [Sem.bind_eq_wrap', Sem.bind_eq_wrap', Sem.wrap_wrap, Sem.wrap_wrap]
    refine seg_wrap ?_
    rw [hA]
    have en5 := En.sets ps vs _ _ (G.en.same sm5) l6
    refine nox (G.he.run.run _ s4 _ H5 (fun v H'' => Same H5 H'' ∧ Rp Xg.K M H'' v z) I7 ⟨_, M, en5, by rw [eg]; exact fun v H'' s rv => ⟨s, rv⟩⟩) fun y s5 ⟨w, H8, I8, ry, s8, rp8⟩ => ?_
    have pin' : ∀ b ∈ fp, ∀ o, s2.heap.get? b = some o → s5.heap.get? b = some o ∧ H8 b = none := fun b hb o e =>
      let q := I8.pin (b, o) (List.mem_append_right _ (List.mem_append_right _ (mem_pinsAt hb e)))
      ⟨q.1, q.2.1⟩
    have hw : wipe (setsV (wipe σ0 own) (ps.map (·.1)) vs) own = wipe σ0 own := wipe_sets fun j hj => by
      obtain ⟨p, hp, e⟩ := List.mem_map.mp hj
      exact e ▸ G.ow _ _ ea p hp
    have I9 : Inv Xg pins (wipe σ0 own) H8 s5 := (I8.unpinned).weak (by rw [setsV_length]) fun j v e => by
      rw [← hw] at e
      exact (wipe_some e).1
    refine seg_at (seg_yield rfl rfl rfl ⟨i, by omega, ⟨fun n en => ?_, fun b eb => ?_⟩, ⟨pins, H8, hp, I9, sm5.trans s8, G.turn.keep _ _ _ st5 fun b hb o e => (pin' b hb o e).1, fun b hb => ?_⟩, kp_of hp hk I I9, fun s'' hg' => ?_⟩)
    · rw [ez] at en
      cases en
      cases rp8.weak.int_
      exact ry
    · rw [ez] at eb
      cases eb
      cases rp8.weak.bool_
      exact ry
    · obtain ⟨o, e, _⟩ := G.turn.obj _ _ st5 b hb
      exact (pin' b hb o e).2
    · exact seg_again rfl (ih (i + 1) (by omega) s'' s'' hg' fun _ _ => rfl)
theorem gen_begin (G : Gn Xg fp tn σ0 own H4 Sx zs ds J it elt tg asg ge rw0 M) (hA : A.over (.compLoop (.GeneratorExp elt [⟨tg, iter, [], 0⟩] scope pos) 0 (.ref it) .none Xg.env) [] = Xg.A) (hN : ds.length = N) (s₀ s : Shared) (hG : GG Xg fp tn (wipe σ0 own) H4 Sx 0 s) (hk : Kp Sx s₀ s) :
    Seg (model Xg.prog Xg.w) A (gR Xg (wipe σ0 own) H4 Sx) (gY Xg fp tn (wipe σ0 own) H4 Sx zs N) N s₀ (.compStart (.GeneratorExp elt [⟨tg, iter, [], 0⟩] scope pos) 0 (.ref it) .none Xg.env) ((model Xg.prog Xg.w).den (.compStart (.GeneratorExp elt [⟨tg, iter, [], 0⟩] scope pos) 0 (.ref it) .none Xg.env)) [] s := by
  have loop := gen_loop (iter := iter) (scope := scope) (pos := pos) (A := A) (N := N) G hA hN N 0 (Nat.zero_add _) s₀ s hG hk
  obtain ⟨pins, H', hp, I, sm, st, hn⟩ := hG
  show Seg _ A _ _ _ s₀ _ ((compStart (.GeneratorExp elt [⟨tg, iter, [], 0⟩] scope pos) 0 (.ref it) .none Xg.env).onRaise (leaving Xg.env)) [] s
  unfold compStart
  rw [Sem.onRaise_eq_wrap]
  show Seg _ A _ _ _ s₀ _ ((ask >>= _).wrap _ _ _ _) [] s
  refine seg_bind_wrap (wpAny_askSetting ?_)
  split
  · exact seg_again rfl loop
  · refine seg_bind_wrap (wpAny_rule ?_)
    show Seg _ A _ _ _ s₀ _ ((standAt iter.pos >>= _).wrap _ _ _ _) [] s
    exact seg_bind_wrap (wpAny_standAt (seg_bind_wrap (G.turn.self _ 0 s _ _ st (seg_again rfl loop))))
/-- the state with another generator table -/
theorem inv_gens {X : Cx} {pins : List (Addr × Obj)} {σ : L2.St} {H : Hp} {s : Shared} (I : Inv X pins σ H s) {G' : Array GenState} (hb : AllBare G') : Inv X pins σ H { s with gens := G' } :=
  I.call' (s' := { s with gens := G' }) (ch := []) rfl Un.refl I.hok hb fun b z => by simp at z
theorem GG.gens {i : Nat} {s : Shared} (h : GG Xg fp tn (wipe σ0 own) H4 Sx i s) {G' : Array GenState} (hb : AllBare G') : GG Xg fp tn (wipe σ0 own) H4 Sx i { s with gens := G' } := by
  obtain ⟨pins, H', hp, I, sm, st, hn⟩ := h
  exact ⟨pins, H', hp, inv_gens I hb, sm, st, hn⟩
theorem GG.bare {i : Nat} {s : Shared} (h : GG Xg fp tn (wipe σ0 own) H4 Sx i s) : AllBare s.gens := by
  obtain ⟨pins, H', hp, I, sm, st, hn⟩ := h
  exact I.bare
/-- one item is asked for -/
theorem gen_pull {a g : Addr} {go : Obj} {B : Around} {i : Nat} {s : Shared} {Q : Option Value → Shared → Prop} {E : Value → Shared → Prop} (hcalm : Xg.calm = true) (hpn : (a, go) ∈ Xg.pn) (hgo : ∃ nm qn, go.cls = .type "generator" ∧ go.data = .fields #[.int g 0, nm, qn] ∧ go.slots = #[])
    (hh : B.handled = none) (hd : B.depth < recursionLimit) (hi : i ≤ N) (h : GS Xg fp tn (wipe σ0 own) H4 Sx zs B.in1 g N i s)
    (hv : ∀ v s', i < N → Fv zs i v → GS Xg fp tn (wipe σ0 own) H4 Sx zs B.in1 g N (i + 1) s' → Kp Sx s s' → Q (some v) s') (he : ∀ s', i = N → GF Xg (wipe σ0 own) H4 Sx s' → Kp Sx s s' → Q none s') :
    wpAny (model Xg.prog Xg.w) B (pyNext (.ref a)) Q E s := by
  obtain ⟨hG, gs, hgs, goes⟩ := h
  have hG0 := hG
  obtain ⟨pins, H', hp, I, sm, st, hn⟩ := hG
  have hgen : s.heap.IsGen a g := by
    obtain ⟨nm, qn, h1, h2, h3⟩ := hgo
    exact ⟨go, nm, qn, (I.pin (a, go) (List.mem_append_left _ hpn)).1, h1, h2, h3⟩
  have run : GG Xg fp tn (wipe σ0 own) H4 Sx i (s.setGen g .running) := hG0.gens (allBare_setGen (x := .running) hG0.bare rfl)
  have hg0 : g + 1 ≤ s.gens.size := (Array.getElem?_eq_some_iff.mp hgs).1
  refine GenW.wpAny_gsz (n := g + 1) hg0 ?_
  refine wpAny_pyNext_genexpQ (P := gP Xg (wipe σ0 own) H4 Sx) (n := N - i) hh I.nolimit hd hgen hgs (goes _ run) (fun v s₁ gs' hb hy => ?_) (fun s₁ hp1 h' hk => ?_)
  · obtain ⟨j, hj, fv, gg, kp, kap⟩ := hy
    cases hk : N - i with
    | zero =>
      rw [hk] at kap
      exact (kap s₁ gg).elim
    | succ m =>
      rw [hk] at hj kap
      have ij : j = i := by omega
      subst ij
      have gg' : GG Xg fp tn (wipe σ0 own) H4 Sx (j + 1) (s₁.setGen g gs') := gg.gens (allBare_setGen (x := gs') gg.bare hb)
      intro hz
      refine hv v _ (by omega) fv ⟨gg', gs', ?_, fun s'' q => ?_⟩ kp
      · rw [GenW.setGen_size] at hz
        exact setGen_at hz
      · have e : N - (j + 1) = m := by omega
        rw [e]
        exact kap s'' q
  · obtain ⟨e0, ⟨pins1, H1, hp2, I1, sm1⟩, kp⟩ := hp1
    have gf : Inv Xg pins1 (wipe σ0 own) H1 { s₁.setGen g .finished with heap := h' } := by
      have J := inv_gens I1 (allBare_setGen (s := s₁) (g := g) (x := .finished) I1.bare rfl)
      exact J.kept (t' := s₁.toks) fun b o e => hk b o e
    exact fun _ => he _ (by omega) ⟨pins1, H1, hp2, gf, sm1⟩ (kp_of hp2 (s := s₁) kp I1 gf)
end
end PD

namespace PD
open PySem PySem.Spec PyProof.Rows L2
section
variable {Xg : Cx} {fp : List Addr} {tn : Nat → Heap → Prop} {σ0 : L2.St} {own : List Nat} {H4 : Hp} {Sx : List Addr} {zs ds : List D} {J : It} {it : Addr} {elt tg iter : Expr} {scope : Scope} {pos : Pos} {asg : Asg} {ge : Rho → Res D} {rw0 : Rho} {M : MS} {N : Nat} {A : Around}
/-- the side list S is written -/
theorem GS.put {S g i : Nat} {s : Shared} {o : Obj} {f : Obj → Obj} {t' : Nat} (G : Gn Xg fp tn σ0 own H4 [S] zs ds J it elt tg asg ge rw0 M) (hS1 : Xg.s_0.heap.objs.size ≤ S) (hS2 : ∀ p ∈ Xg.pn, p.1 ≠ S) (h : GS Xg fp tn (wipe σ0 own) H4 [S] zs A g N i s)
    (hn : (s.heap.update S f).get? S = some o) (ho : ∀ v, o.data ≠ .cell v) : GS Xg fp tn (wipe σ0 own) H4 [S] zs A g N i { s with heap := s.heap.update S f, toks := t' } := by
  obtain ⟨⟨pins, H', hp, I, sm, st, hn'⟩, gs, hgs, goes⟩ := h
  obtain ⟨p, rfl, hp1⟩ := List.map_eq_singleton_iff.mp hp
  obtain ⟨q1, q2, q3, q4, q5⟩ := I.pin p (List.mem_append_right _ (List.mem_singleton.mpr rfl))
  rw [hp1] at q1 q2 q3 q4
  have I0 : Inv Xg [] (wipe σ0 own) H' s := I.pins_of fun p hp => absurd hp (by simp)
  have kp : ∀ b u, b ≠ S → s.heap.get? b = some u → (s.heap.update S f).get? b = some u := fun b u hb e => (Heap.get?_update_other _ _ (Ne.symm hb)).trans e
  have I1 := I0.turned (it := S) (h' := s.heap.update S f) (t' := t') kp q2 q3 (.inr hS1) (fun x c e z => by
    obtain ⟨v, ob, e1, e2⟩ := I.cell x c e
    rw [z, q1] at e1
    cases e1
    exact q5 v e2) (fun p hp => hS2 p (by simpa using hp))
  refine ⟨⟨[(S, o)], H', rfl, I1.pins_of fun p hp => ?_, sm, G.turn.keep _ _ _ st fun b hb o e => kp b o (fun z => G.sx S (by simp) (z ▸ hb)) e, hn'⟩, gs, hgs, goes⟩
  have hp' : p = (S, o) := by simpa using hp
  subst hp'
  exact ⟨hn, q2, q3, q4, ho⟩
theorem gen_sum {S a g : Nat} {go : Obj} {B : Around} {R : Result → Shared → Prop} {val : Nat → Int} (G : Gn Xg fp tn σ0 own H4 [S] zs ds J it elt tg asg ge rw0 M) (hS1 : Xg.s_0.heap.objs.size ≤ S) (hS2 : ∀ p ∈ Xg.pn, p.1 ≠ S) (hpn : (a, go) ∈ Xg.pn)
    (hgo : ∃ nm qn, go.cls = .type "generator" ∧ go.data = .fields #[.int g 0, nm, qn] ∧ go.slots = #[]) (hh : B.handled = none) (hd : B.depth < recursionLimit) (hval : ∀ i, i < N → zs[i]? = some (.int (val i)))
    (hR : ∀ s' t', GF Xg (wipe σ0 own) H4 [S] s' → R (.ok (.ret (.int (preSum val N) t'))) s') : ∀ (k i : Nat) (s : Shared) (tA : Tok) (c : Nat) (st : Int), (st = 0 ∨ st = 2) → N - i = k → i ≤ N → GS Xg fp tn (wipe σ0 own) H4 [S] zs B.in1.in1 g N i s →
      s.heap.get? S = some { cls := .type "list", dict := none, data := .seq #[.int (preSum val i) tA] c, slots := #[] } → codeAny (model Xg.prog Xg.w) B (.builtin "sum.loop" ⟨[.ref a, .ref S, rawInt st, rawInt 0], []⟩) R s := by
  have noc : ∀ (x : Array Value) (c : Nat) (v : Option Value), (Data.seq x c) ≠ .cell v := fun x c v z => by cases z
  intro k
  induction k with
  | zero =>
    intro i s tA c st hst hk hi h hS
    refine codeAny_builtin F.entry_sum_loop ?_; rw [Around.under_plainId F.plain_sum_loop _]
    show wpAny _ B.in1 (seqItems? (.ref S) >>= _) _ _ s; refine wpAny_bind (wpAny_seqItems hS rfl ?_)
    show wpAny _ B.in1 (tryCatch (pyNext (.ref a)) _ >>= _) _ _ s
    refine wpAny_bind (wpAny_tryCatch (gen_pull G.calm hpn hgo hh hd hi h (fun v s' hlt _ _ _ => absurd hlt (by omega)) fun s' e gf _ => ?_))
    subst e
    exact wpAny_pure (hR s' tA gf)
  | succ k ih =>
    intro i s tA c st hst hk hi h hS
    refine codeAny_builtin F.entry_sum_loop ?_; rw [Around.under_plainId F.plain_sum_loop _]
    show wpAny _ B.in1 (seqItems? (.ref S) >>= _) _ _ s; refine wpAny_bind (wpAny_seqItems hS rfl ?_)
    show wpAny _ B.in1 (tryCatch (pyNext (.ref a)) _ >>= _) _ _ s
    refine wpAny_bind (wpAny_tryCatch (gen_pull G.calm hpn hgo hh hd hi h (fun v s' hlt fv hs kp => ?_) fun s' e _ _ => absurd e (by omega)))
    obtain ⟨t, rfl⟩ := fv.1 _ (hval i hlt)
    have hS' := (kp S (by simp)).trans hS
    rcases hst with rfl | rfl
    · show wpAny _ B.in1 (if (_ : Bool) = true then (mkInt (preSum val i + val i) >>= _) else _) _ _ _
      split
      · refine wpAny_bind (wpAny_mkInt ?_); show wpAny _ B.in1 (updateSeq S (fun _ => #[.int (preSum val i + val i) s'.toks]) >>= _) _ _ _
        refine wpAny_bind (wpAny_updateSeq hS' rfl (wpAny_pure ⟨plainId_quiet F.plain_sum_loop _, ?_⟩))
        have g1 := Heap.get?_update_self (Obj.mapSeq fun _ => #[Value.int (preSum val i + val i) s'.toks]) hS' rfl
        exact ih (i + 1) _ s'.toks _ 0 (.inl rfl) (by omega) hlt (GS.put (s := s') (t' := s'.toks + 1) G hS1 hS2 hs g1 (noc _ _)) g1
      · refine wpAny_bind (wpAny_rule (wpAny_bind (wpAny_attempt (wpAny_holding (wpAny_add_int ?_)))))
        show wpAny _ B.in1 (updateSeq S (fun _ => #[.int (preSum val i + val i) s'.toks]) >>= _) _ _ _; refine wpAny_bind (wpAny_updateSeq hS' rfl ?_)
        have g1 := Heap.get?_update_self (Obj.mapSeq fun _ => #[Value.int (preSum val i + val i) s'.toks]) hS' rfl
        have p1 := GS.put (s := s') (t' := s'.toks + 1) G hS1 hS2 hs g1 (noc _ _)
        refine wpAny_bind (wpAny_letGo (wpAny_bind (wpAny_updateSeq g1 rfl (wpAny_pure ⟨plainId_quiet F.plain_sum_loop _, ?_⟩))))
        have g2 := Heap.get?_update_self (Obj.mapSeq fun _ => #[Value.int (preSum val i + val i) s'.toks]) g1 rfl
        exact ih (i + 1) _ s'.toks _ 2 (.inr rfl) (by omega) hlt (p1.put (t' := s'.toks + 1) G hS1 hS2 g2 (noc _ _)) g2
    · show wpAny _ B.in1 ((holding [Value.int (val i) t] (binaryOp .Add (.int (preSum val i) tA) (.int (val i) t))).attempt >>= _) _ _ _; refine wpAny_bind (wpAny_attempt (wpAny_holding (wpAny_add_int ?_)))
      show wpAny _ B.in1 (updateSeq S (fun _ => #[.int (preSum val i + val i) s'.toks]) >>= _) _ _ _; refine wpAny_bind (wpAny_updateSeq hS' rfl ?_)
      have g1 := Heap.get?_update_self (Obj.mapSeq fun _ => #[Value.int (preSum val i + val i) s'.toks]) hS' rfl
      have p1 := GS.put (s := s') (t' := s'.toks + 1) G hS1 hS2 hs g1 (noc _ _)
      refine wpAny_bind (wpAny_letGo (wpAny_bind (wpAny_updateSeq g1 rfl (wpAny_pure ⟨plainId_quiet F.plain_sum_loop _, ?_⟩))))
      have g2 := Heap.get?_update_self (Obj.mapSeq fun _ => #[Value.int (preSum val i + val i) s'.toks]) g1 rfl
      exact ih (i + 1) _ s'.toks _ 2 (.inr rfl) (by omega) hlt (p1.put (t' := s'.toks + 1) G hS1 hS2 g2 (noc _ _)) g2
theorem gen_any {a g : Nat} {go : Obj} {B : Around} {R : Result → Shared → Prop} {tv : Nat → Bool} (G : Gn Xg fp tn σ0 own H4 [] zs ds J it elt tg asg ge rw0 M) (hpn : (a, go) ∈ Xg.pn)
    (hgo : ∃ nm qn, go.cls = .type "generator" ∧ go.data = .fields #[.int g 0, nm, qn] ∧ go.slots = #[]) (hh : B.handled = none) (hd : B.depth < recursionLimit) (hval : ∀ i, i < N → zs[i]? = some (.bool (tv i))) : ∀ (k i : Nat) (s : Shared), N - i = k → i ≤ N → GS Xg fp tn (wipe σ0 own) H4 [] zs B.in1.in1 g N i s →
      (∀ s', GF Xg (wipe σ0 own) H4 [] s' → R (.ok (.ret (.bool (((List.range N).drop i).any tv)))) s') → codeAny (model Xg.prog Xg.w) B (.builtin "any.loop" ⟨[.ref a], []⟩) R s := by
  intro k
  induction k with
  | zero =>
    intro i s hk hi h hR
    refine codeAny_builtin F.entry_any_loop ?_; rw [Around.under_plainId F.plain_any_loop _]; show wpAny _ B.in1 (pyNext (.ref a) >>= _) _ _ s
    refine wpAny_bind (gen_pull G.calm hpn hgo hh hd hi h (fun v s' hlt _ _ _ => absurd hlt (by omega)) fun s' e gf _ => wpAny_bind (wpAny_rule (wpAny_pure ?_)))
    have q := hR s' gf
    rw [List.drop_of_length_le (by simp; omega)] at q
    exact q
  | succ k ih =>
    intro i s hk hi h hR
    have hlt0 : i < N := by omega
    have hd0 : (List.range N).drop i = i :: (List.range N).drop (i + 1) := by
      rw [List.drop_eq_getElem_cons (by simpa using hlt0)]; simp
    refine codeAny_builtin F.entry_any_loop ?_; rw [Around.under_plainId F.plain_any_loop _]; show wpAny _ B.in1 (pyNext (.ref a) >>= _) _ _ s
    refine wpAny_bind (gen_pull G.calm hpn hgo hh hd hi h (fun v s' hlt fv hs kp => ?_) fun s' e _ _ => absurd e (by omega))
    cases fv.2 _ (hval i hlt)
    refine wpAny_bind (wpAny_holding (wpAny_truthy_bool (wpAny_bind (wpAny_letGo ?_))))
    cases hb : tv i with
    | false =>
      simp only [Bool.false_eq_true, if_false]
      refine wpAny_pure ⟨plainId_quiet F.plain_any_loop _, ih (i + 1) _ (by omega) hlt hs fun s'' gf => ?_⟩
      have q := hR s'' gf
      rw [hd0, List.any_cons, hb, Bool.false_or] at q
      exact q
    | true =>
      simp only [if_true]
      refine wpAny_bind (wpAny_rule (wpAny_pure ?_))
      obtain ⟨⟨pins, H', hp, I, sm, st, hn⟩, _⟩ := hs
      have q := hR s' ⟨pins, H', hp, I, sm⟩
      rw [hd0, List.any_cons, hb, Bool.true_or] at q
      exact q
end
end PD

namespace PD
open PySem PySem.Spec PyProof.Rows L2
theorem over_gen {A : Around} {elt tg iter : Expr} {ifs : List Expr} {scope : Scope} {pos : Pos} {it acc : Value} {env : Env} : A.over (.compLoop (.GeneratorExp elt [⟨tg, iter, ifs, 0⟩] scope pos) 0 it acc env) [] = A.deeper env := by
  first
    | rfl
    | (obtain ⟨a1, a2, a3, a4, a5⟩ := A; simp [Around.over, Around.deeper, marksOver, frameCount, unitsOf, envsOf, guardsOf, pushEnvs, pushGuards, Code.envs, Code.env?, Code.isFrame, Code.guards, Code.isGuard, Code.weight, Code.frames, Code.isCreation, Code.isCaller, Code.cUnits])
abbrev GE (elt tg iter : Expr) (scope : Scope) (pos : Pos) : Expr := .GeneratorExp elt [⟨tg, iter, [], 0⟩] scope pos
/-- a generator that has just been made in the state s4 -/
structure Mkd (X : Cx) (pins : List (Addr × Obj)) (σ : L2.St) (H : Hp) (own : List (Str × Nat)) (elt tg iter : Expr) (scope : Scope) (pos : Pos) (M : MS) (ds : List D) (s4 : Shared) (H4 : Hp) (fp : List Addr) (it : Addr) (tn : Nat → Heap → Prop) (J : It) (env : Env) (a g : Addr) (go : Obj) (s5 : Shared) : Prop where
  inv : Inv X pins σ H4 s4
  same : Same H H4
  turn : Turn X.prog X.w X.K tg J fp it tn
  tn0 : tn 0 s5.heap
  fpok : ∀ b ∈ fp, FpOk X pins H4 b ∧ b < s4.heap.objs.size
  sv : Serves X.K M H4 J ds
  hen : ∃ cl C code, env = genEnv scope cl C code builtinsNs X.env
  hgo : ∃ nm qn, go.cls = .type "generator" ∧ go.data = .fields #[.int g 0, nm, qn] ∧ go.slots = #[]
  lt : s4.heap.objs.size < a
  gen : s5.gens[g]? = some (.fresh (.compStart (GE elt tg iter scope pos) 0 (.ref it) .none env))
  ok : ∀ B : Around, B.handled = none → B.frames = some (env :: X.stack) → Inv (gcx X s4 H4 env B fp [(a, go)]) [] (wipe σ (own.map (·.2))) H4 s5
theorem Serves.same {K : PySem.W.Frag} {M : MS} {H H' : Hp} {J : It} {ds : List D} (h : Serves K M H J ds) (s : Same H H') : Serves K M H' J ds := fun i M2 H2 s2 n2 l2 =>
  h i M2 H2 (s.trans s2) (fun l m => (n2 l m).imp id fun e => s.d l e) l2
section
variable {X : Cx} {W : PWs} {c P : Addr} {own : List (Str × Nat)} {elt tg iter : Expr} {scope : Scope} {pos : Pos} {gl : Rho → Res (List D)} {asg : Asg} {ge : Rho → Res D} {M : MS} {r : Rho} {ds : List D}
theorem gen_made {pins : List (Addr × Obj)} {σ : L2.St} {H : Hp} {s : Shared} {Q : Value → Shared → Prop} (hc : X.calm = true) (hN : X.N.Nodup) (hroom : X.A.depth < recursionLimit) (TB : LamX.TabB X.base X.mg c P) (hcode : X.env.code = .ref c) (hT : IsTab X.K P) (hi : DI X W tg iter gl) (ok : BlkOk X.N X.env.scope scope own)
    (nc : ∀ y ∈ scope.names, y.2 ≠ .cell) (hco : scope.isCoroutine = false) (h0 : scope.names.lookup (".0" : Str) = some NameKind.local) (hs : ∀ v, genFold iter X.env v = pure v) (I : Inv X pins σ H s) (en : En X.K M H σ r) (hgl : gl r = .ok ds)
    (hQ : ∀ s4 H4 fp it tn J env a g go s5, Mkd X pins σ H own elt tg iter scope pos M ds s4 H4 fp it tn J env a g go s5 → Q (.ref a) s5) : wpAny (model X.prog X.w) X.A (eval (GE elt tg iter scope pos) X.env) Q X.xe s := by
  have hfree : ∀ y ∈ scope.names, y.2 = .free → ∃ c, X.env.cells.lookup y.1 = some c := fun y hy e => (ok.free y hy e).elim (fun k => I.ok.has _ (.inl k)) fun k => I.ok.has _ (.inr k)
  have hh := I.ok.hd hc
  refine wpAny_GeneratorExp_make hco (closure_ok hfree) nc h0 ok.kind hroom ?_ hs
  refine thn (hi.run.run pins s σ H (fun J H1 => Same H H1 ∧ Serves X.K M H1 J ds) I ⟨r, M, en, by rw [hgl]; exact fun J H1 q sv => ⟨q, sv M H1 (fun _ z => z) (fun b o n e => e)⟩⟩) fun xv s1 h1 => ?_
  refine thn h1 fun itv s2 h2 => ?_
  obtain ⟨it, fp, tn, J, H2, e, I2, T, st2, f2, sm, sv⟩ := h2
  subst e
  refine ⟨I2.nolimit, ?_⟩
  have tG : TabG H2 P := sm.t P (en.live.2 P hT)
  have hP : ∃ ps, H2 P = some (.tbl ps) := tG.elim fun ps z => ⟨ps, z.1⟩
  refine gen_code TB hcode I2 tG fun code s3 H3 I3 sm3 nn3 ho3 hg3 hsz3 hk3 => ?_
  have sz : ∀ b ∈ fp, b < s2.heap.objs.size := fun b hb => by
    obtain ⟨o, e, _⟩ := T.obj _ _ st2 b hb
    exact Heap.lt_size e
  have fne : ∀ b ∈ fp, b ≠ P := fun b hb z => by
    have q := (f2 b hb).1
    obtain ⟨ps, hP⟩ := hP
    rw [z, hP] at q
    cases q
  have f3 : ∀ b ∈ fp, FpOk X pins H3 b := fun b hb => ⟨nn3 b (sz b hb) (f2 b hb).1, (f2 b hb).2⟩
  have st3 : tn 0 s3.heap := T.keep _ _ _ st2 fun b hb o e => hk3 b o (fne b hb) e
  obtain ⟨bm, ob, e1, e2, e3, e4, e5, e6, e7, e8⟩ := TB.bm
  refine wpAny_builtinsFor (m := X.mg) (by rw [I3.ok.glob]; exact I3.mod.glob.keeps I3.bk) e1 e2 (I3.bk _ _ e5) e6 e7 e8 ?_
  intro h' hn' hs'
  have hsz : h'.objs.size = s3.heap.objs.size + 1 := by rw [hs'.1, Heap.size_push]
  have keep' : ∀ b o, s3.heap.get? b = some o → h'.get? b = some o := fun b o e => hs'.extBut b o (Nat.ne_of_lt (Heap.lt_size e)) (Heap.get?_push_of_some _ e)
  have keep5 : ∀ (go : Obj) (b : Addr) (o : Obj), s3.heap.get? b = some o → (h'.push go).get? b = some o := fun go b o e => Heap.get?_push_of_some _ (keep' b o e)
  refine hQ s3 H3 fp it tn J _ h'.objs.size s3.gens.size ⟨.type "generator", .none, .fields #[.int s3.gens.size 0, .str "<genexpr>" (s3.toks + 1), .str (X.env.qual ++ "<genexpr>") (s3.toks + 1 + 1)], #[]⟩ _ ⟨I3, sm.trans sm3, T, T.keep _ _ _ st3 fun b hb o e => keep5 _ b o e, fun b hb => ⟨f3 b hb, Nat.lt_of_lt_of_le (sz b hb) hsz3⟩, sv.same sm3, ⟨_, _, _, rfl⟩, (by exact ⟨_, _, rfl, rfl, rfl⟩), by rw [hsz]; exact Nat.lt_succ_self _, Array.getElem?_push_size .., fun B hB1 hB2 => ?_⟩
  exact gen_start (code := code) I3 ok hN (fun b hb => ⟨f3 b hb, Nat.lt_of_lt_of_le (sz b hb) hsz3⟩) nc rfl (fun _ => hB1) hB2 (keep5 _) (hn'.push _) (by rw [hsz]; exact Nat.lt_succ_self _) (Heap.get?_push_size _ rfl) (fun v z => by cases z) (I3.bare.push rfl)
/-- the elements in order -/
def genE (gl : Rho → Res (List D)) (asg : Asg) (ge : Rho → Res D) (own : List Nat) (r : Rho) : Res (List D) := (gl r).bind fun ds => (compD asg (fun _ => .ok true) ge (wipeR r own) ds).quiet
def sumG (gl : Rho → Res (List D)) (asg : Asg) (ge : Rho → Res D) (own : List Nat) (r : Rho) : Res D := (genE gl asg ge own r).bind fun zs => bSum (.list zs)
def boolsOf : List D → Option (List Bool)
  | [] => some []
  | .bool i :: ds => (boolsOf ds).map fun is => i :: is
  | _ :: _ => none
def anyG (gl : Rho → Res (List D)) (asg : Asg) (ge : Rho → Res D) (own : List Nat) (r : Rho) : Res D := (genE gl asg ge own r).bind fun zs => match boolsOf zs with
  | some bs => .ok (.bool (bs.any id))
  | none => .no
theorem intsOf_get : ∀ {ds : List D} {ns : List Int}, intsOf ds = some ns → ns.length = ds.length ∧ ∀ i, i < ds.length → ds[i]? = some (.int (ns.getD i 0))
  | [], _, h => by cases h; exact ⟨rfl, fun i z => by simp at z⟩
  | d :: ds, ns, h => by
    cases d <;> first
      | (cases h; done)
      | (rename_i j
         unfold intsOf at h
         cases e : intsOf ds with
         | none => rw [e] at h; cases h
         | some is =>
           rw [e] at h
           cases h
           obtain ⟨a, b⟩ := intsOf_get e
           refine ⟨by simp [a], fun i hi => ?_⟩
           cases i with
           | zero => rfl
           | succ i =>
             have := b i (by simpa using hi)
             simpa using this)
theorem boolsOf_get : ∀ {ds : List D} {ns : List Bool}, boolsOf ds = some ns → ns.length = ds.length ∧ ∀ i, i < ds.length → ds[i]? = some (.bool (ns.getD i false))
  | [], _, h => by cases h; exact ⟨rfl, fun i z => by simp at z⟩
  | d :: ds, ns, h => by
    cases d <;> first
      | (cases h; done)
      | (rename_i j
         unfold boolsOf at h
         cases e : boolsOf ds with
         | none => rw [e] at h; cases h
         | some is =>
           rw [e] at h
           cases h
           obtain ⟨a, b⟩ := boolsOf_get e
           refine ⟨by simp [a], fun i hi => ?_⟩
           cases i with
           | zero => rfl
           | succ i =>
             have := b i (by simpa using hi)
             simpa using this)
theorem preSum_take (ns : List Int) : ∀ n, n ≤ ns.length → preSum (fun i => ns.getD i 0) n = (ns.take n).sum
  | 0, _ => rfl
  | n + 1, h => by
    show preSum (fun i => ns.getD i 0) n + ns.getD n 0 = _
    rw [preSum_take ns n (by omega), List.take_succ_eq_append_getElem (by omega), List.sum_append]
    simp [List.getD_eq_getElem?_getD, List.getElem?_eq_getElem (show n < ns.length by omega)]
theorem any_range (bs : List Bool) : (List.range bs.length).any (fun i => bs.getD i false) = bs.any id := by
  rw [Bool.eq_iff_iff, List.any_eq_true, List.any_eq_true]
  constructor
  · rintro ⟨i, hi, h⟩
    have hl := List.mem_range.mp hi
    refine ⟨bs[i], List.getElem_mem hl, ?_⟩
    simpa [List.getD_eq_getElem?_getD, List.getElem?_eq_getElem hl] using h
  · rintro ⟨b, hb, h⟩
    obtain ⟨i, hl, e⟩ := List.getElem_of_mem hb
    refine ⟨i, List.mem_range.mpr hl, ?_⟩
    have h' : b = true := h
    rw [List.getD_eq_getElem?_getD, List.getElem?_eq_getElem hl, e, h']
    rfl
end
end PD

namespace PD
open PySem PySem.Spec PyProof.Rows L2
section
variable {X : Cx} {W : PWs} {c P : Addr} {own : List (Str × Nat)} {elt tg iter : Expr} {scope : Scope} {p pos gpos : Pos} {gl : Rho → Res (List D)} {asg : Asg} {ge : Rho → Res D} {M : MS} {r : Rho} {ds zs : List D} {kk : Nat}
/-- the iterable raises ahead of all -/
theorem gen_raises {pins : List (Addr × Obj)} {σ : L2.St} {H : Hp} {s : Shared} {Q : Value → Shared → Prop} {k : Nat} (hc : X.calm = true) (hroom : X.A.depth < recursionLimit) (hi : DI X W tg iter gl) (ok : BlkOk X.N X.env.scope scope own)
    (nc : ∀ y ∈ scope.names, y.2 ≠ .cell) (hco : scope.isCoroutine = false) (h0 : scope.names.lookup (".0" : Str) = some NameKind.local) (hs : ∀ v, genFold iter X.env v = pure v) (I : Inv X pins σ H s) (en : En X.K M H σ r) (hgl : gl r = .ex k) (hw : ∀ H', Same H H' → W k σ H') :
    wpAny (model X.prog X.w) X.A (eval (GE elt tg iter scope gpos) X.env) Q X.xe s := by
  have hfree : ∀ y ∈ scope.names, y.2 = .free → ∃ c, X.env.cells.lookup y.1 = some c := fun y hy e => (ok.free y hy e).elim (fun k => I.ok.has _ (.inl k)) fun k => I.ok.has _ (.inr k)
  refine wpAny_GeneratorExp_make hco (closure_ok hfree) nc h0 ok.kind hroom ?_ hs
  refine thn (hi.run.run pins s σ H (fun _ _ => False) I ⟨r, M, en, by rw [hgl]; exact hw⟩) fun xv s1 h1 => thn h1 fun itv s2 h2 => ?_
  obtain ⟨_, _, _, _, _, _, _, _, _, _, f⟩ := h2
  exact f.elim
/-- what a new generator stands for, S the lists beside it -/
theorem gen_gs {pins : List (Addr × Obj)} {σ : L2.St} {H : Hp} {s4 s5 s6 : Shared} {H4 : Hp} {fp : List Addr} {it a g : Addr} {tn : Nat → Heap → Prop} {J : It} {env : Env} {go : Obj} {pl : List (Addr × Obj)} (hr : Room (kk + 3) X.A) (hc : X.calm = true) (hco : scope.isCoroutine = false)
    (ho : inOwn asg (own.map (·.2))) (hg : ∀ (s : Shared) (H : Hp) (cl : List (Str × Addr)) (C : Addr) (code : Value) (B : Around) (fp : List Addr) (pn : List (Addr × Obj)), Room kk B → DG (gcx X s H (genEnv scope cl C code builtinsNs X.env) B fp pn) tg asg)
    (he : ∀ (s : Shared) (H : Hp) (cl : List (Str × Addr)) (C : Addr) (code : Value) (B : Around) (fp : List Addr) (pn : List (Addr × Obj)), Room kk B → DE (gcx X s H (genEnv scope cl C code builtinsNs X.env) B fp pn) W0 elt ge) (en : En X.K M H σ r)
    (mk : Mkd X pins σ H own elt tg iter scope gpos M ds s4 H4 fp it tn J env a g go s5) (hz : compD asg (fun _ => .ok true) ge (wipeR r (own.map (·.2))) ds = .ok zs)
    (k5 : ∀ b o, s5.heap.get? b = some o → s6.heap.get? b = some o) (hg6 : s6.gens = s5.gens) (hos : s6.os = s5.os) (hpl : ∀ q ∈ pl, s6.heap.get? q.1 = some q.2 ∧ s5.heap.objs.size ≤ q.1 ∧ ∀ v, q.2.data ≠ .cell v) :
    Gn (gcx X s4 H4 env (X.A.in1.in1.deeper env) fp [(a, go)]) fp tn σ (own.map (·.2)) H4 (pl.map (·.1)) zs ds J it elt tg asg ge (wipeR r (own.map (·.2))) M ∧
      GS (gcx X s4 H4 env (X.A.in1.in1.deeper env) fp [(a, go)]) fp tn (wipe σ (own.map (·.2))) H4 (pl.map (·.1)) zs X.A.in1.in1 g ds.length 0 s6 := by
  have hh := mk.inv.ok.hd hc
  have rB : Room kk (X.A.in1.in1.deeper env) := (hr.in1.in1).deeper env
  have fB : (X.A.in1.in1.deeper env).frames = some (env :: X.stack) := Around.frames_deeper mk.inv.ok.frames
  have I5 := mk.ok _ rB.hd fB
  have sz45 : s4.heap.objs.size ≤ s5.heap.objs.size := by
    have := I5.sz
    exact this
  have notfp : ∀ b : Addr, s4.heap.objs.size ≤ b → b ∉ fp := fun b hb hm => absurd (Nat.lt_of_lt_of_le (mk.fpok b hm).2 hb) (Nat.lt_irrefl _)
  obtain ⟨cl, C, code, henv⟩ := mk.hen
  have G : Gn (gcx X s4 H4 env (X.A.in1.in1.deeper env) fp [(a, go)]) fp tn σ (own.map (·.2)) H4 (pl.map (·.1)) zs ds J it elt tg asg ge (wipeR r (own.map (·.2))) M := by
    refine ⟨hc, rfl, mk.turn, rfl, by show env.scope.isCoroutine = false; rw [henv]; exact hco, fun q hq => ?_, fun S hS => ?_, by rw [henv]; exact hg _ _ _ _ _ _ _ _ (by rw [← henv]; exact rB), ho, by rw [henv]; exact he _ _ _ _ _ _ _ _ (by rw [← henv]; exact rB), (en.same mk.same).wipe _, mk.sv, hz⟩
    · have e : q = (a, go) := by simpa using hq
      rw [e]
      exact notfp a (Nat.le_of_lt mk.lt)
    · obtain ⟨q, hq, e⟩ := List.mem_map.mp hS
      exact e ▸ notfp q.1 (Nat.le_trans sz45 (hpl q hq).2.1)
  refine ⟨G, ⟨pl, H4, rfl, ?_, Same.refl _, mk.turn.keep _ _ _ mk.tn0 fun b _ o e => k5 b o e, fun b hb => (mk.fpok b hb).1.1⟩, .fresh (.compStart (GE elt tg iter scope gpos) 0 (.ref it) .none env), by rw [hg6]; exact mk.gen, fun s'' q => ⟨rfl, ?_⟩⟩
  · have J6 := I5.call' (s' := s6) (ch := []) hos (Un.kept k5) (I5.hok.kept k5) (by rw [hg6]; exact I5.bare) fun b z => by simp at z
    refine J6.pins_of fun q hq => ?_
    obtain ⟨a1, a2, a3⟩ := hpl q hq
    exact ⟨a1, I5.hok.fresh a2, Nat.ne_of_gt (Nat.lt_of_lt_of_le I5.lt a2), I5.nofs a2, a3⟩
  · rw [Nat.sub_zero]
    exact gen_begin G over_gen rfl s'' s'' q fun _ _ => rfl
/-- back in the def -/
theorem gen_back {pins : List (Addr × Obj)} {σ σ' : L2.St} {H : Hp} {s4 s5 s' : Shared} {H4 : Hp} {fp : List Addr} {it a g : Addr} {tn : Nat → Heap → Prop} {J : It} {env : Env} {go : Obj} {B : Around} {Sx : List Addr}
    (mk : Mkd X pins σ H own elt tg iter scope gpos M ds s4 H4 fp it tn J env a g go s5) (gf : GF (gcx X s4 H4 env B fp [(a, go)]) σ' H4 Sx s') : ∃ H', Inv X pins σ H' s' ∧ Same H H' := by
  obtain ⟨pl, H', _, I, sm⟩ := gf
  exact ⟨H', mk.inv.call' (ch := fp) I.os I.base I.hok I.bare (fun b hb => ⟨(mk.fpok b hb).1.2.2.2.1, (mk.fpok b hb).1.2.1, (mk.fpok b hb).1.2.2.2.2.1, (mk.fpok b hb).1.2.2.2.2.2⟩), mk.same.trans sm⟩
theorem de_anyG (hr : Room (kk + 3) X.A) (hc : X.calm = true) (hN : X.N.Nodup) (hm : X.mg "any" = none) (TB : LamX.TabB X.base X.mg c P) (hcode : X.env.code = .ref c) (hT : IsTab X.K P) (hi : DI X W tg iter gl) (ok : BlkOk X.N X.env.scope scope own)
    (nc : ∀ y ∈ scope.names, y.2 ≠ .cell) (hco : scope.isCoroutine = false) (h0 : scope.names.lookup (".0" : Str) = some NameKind.local) (ho : inOwn asg (own.map (·.2)))
    (hg : ∀ (s : Shared) (H : Hp) (cl : List (Str × Addr)) (C : Addr) (code : Value) (B : Around) (fp : List Addr) (pn : List (Addr × Obj)), Room kk B → DG (gcx X s H (genEnv scope cl C code builtinsNs X.env) B fp pn) tg asg)
    (he : ∀ (s : Shared) (H : Hp) (cl : List (Str × Addr)) (C : Addr) (code : Value) (B : Around) (fp : List Addr) (pn : List (Addr × Obj)), Room kk B → DE (gcx X s H (genEnv scope cl C code builtinsNs X.env) B fp pn) W0 elt ge)
    (hs : ∀ v, genFold iter X.env v = pure v := by intro _; rfl) (hgb : Gl X "any" := by rfl) (he1 : starEach [GE elt tg iter scope gpos] X.env = (false, eval (GE elt tg iter scope gpos) X.env) :: starEach [] X.env := by rfl) :
    DE X W (.Call (.Name "any" p) [GE elt tg iter scope gpos] [] pos) (anyG gl asg ge (own.map (·.2))) := by
  have hroom : X.A.depth < recursionLimit := by have := hr.dp; omega
  refine ⟨⟨fun pins s σ H Q I h => ?_⟩⟩
  obtain ⟨r, M, en, q⟩ := h
  refine wpAny_Call_Name_kw (ld_blt I hgb hm boot_any ?_)
  refine PyProof.Rows.callWith_builtin1 ?_ he1 (by rfl)
  rw [he1]
  show wpAny _ _ (spliced ((false, eval (GE elt tg iter scope gpos) X.env) :: backTo pos (starEach [] X.env))) _ _ s
  cases hgl : gl r with
  | ex k =>
    refine Calls.spliced_cons (gen_raises hc hroom hi ok nc hco h0 hs I en hgl ?_)
    unfold anyG genE at q
    rw [hgl] at q
    exact q
  | no =>
    unfold anyG genE at q
    rw [hgl] at q
    exact q.elim
  | ok ds =>
    unfold anyG genE at q
    rw [hgl] at q
    simp only [bind_ok] at q
    cases hz : compD asg (fun _ => .ok true) ge (wipeR r (own.map (·.2))) ds with
    | ex k => rw [hz] at q; exact q.elim
    | no => rw [hz] at q; exact q.elim
    | ok zs =>
      rw [hz] at q
      simp only [quiet_ok, bind_ok] at q
      cases hb : boolsOf zs with
      | none => rw [hb] at q; exact q.elim
      | some bs =>
        rw [hb] at q
        refine Calls.spliced_cons (gen_made hc hN hroom TB hcode hT hi ok nc hco h0 hs I en hgl fun s4 H4 fp it tn J env a g go s5 mk => Calls.spliced_nil ?_)
        obtain ⟨G, gs0⟩ := gen_gs (pl := []) (s6 := s5) hr hc hco ho hg he en mk hz (fun b o e => e) rfl rfl (fun q hq => absurd hq (by simp))
        have hh := I.ok.hd hc
        have zl := (compD_at hz).1
        obtain ⟨bl, bget⟩ := boolsOf_get hb
        refine call_function_tree F.kind_any F.plain_any F.entry_any (F.args_any1 _) ?_; unfold Builtin.«any»
        have hgen : s5.heap.IsGen a g := by
          obtain ⟨nm, qn, h1, h2, h3⟩ := mk.hgo
          obtain ⟨⟨pl, H', hp, I6, _⟩, _⟩ := gs0
          exact ⟨go, nm, qn, (I6.pin (a, go) (List.mem_append_left _ (List.mem_singleton.mpr rfl))).1, h1, h2, h3⟩
        refine wpAny_bind (m := oneArg "any" _) (wpAny_pure (wpAny_bind (wpAny_pyIter_gen hgen (wpAny_pure ⟨plainId_quiet F.plain_any_loop _, ?_⟩))))
        refine gen_any (B := X.A) (N := ds.length) (tv := fun i => bs.getD i false) G (List.mem_singleton.mpr rfl) mk.hgo hh hroom (fun i hi => bget i (by omega)) ds.length 0 s5 rfl (Nat.zero_le _) gs0 fun s' gf => ?_
        obtain ⟨H', I', sm⟩ := gen_back mk gf
        have e : ((List.range ds.length).drop 0).any (fun i => bs.getD i false) = bs.any id := by rw [List.drop_zero, ← any_range, bl, zl]
        rw [e]
        exact ⟨.bl _, H', I', rfl, q _ H' sm (.bl _)⟩
theorem de_sumG (hr : Room (kk + 3) X.A) (hc : X.calm = true) (hN : X.N.Nodup) (hm : X.mg "sum" = none) (TB : LamX.TabB X.base X.mg c P) (hcode : X.env.code = .ref c) (hT : IsTab X.K P) (hi : DI X W tg iter gl) (ok : BlkOk X.N X.env.scope scope own)
    (nc : ∀ y ∈ scope.names, y.2 ≠ .cell) (hco : scope.isCoroutine = false) (h0 : scope.names.lookup (".0" : Str) = some NameKind.local) (ho : inOwn asg (own.map (·.2)))
    (hg : ∀ (s : Shared) (H : Hp) (cl : List (Str × Addr)) (C : Addr) (code : Value) (B : Around) (fp : List Addr) (pn : List (Addr × Obj)), Room kk B → DG (gcx X s H (genEnv scope cl C code builtinsNs X.env) B fp pn) tg asg)
    (he : ∀ (s : Shared) (H : Hp) (cl : List (Str × Addr)) (C : Addr) (code : Value) (B : Around) (fp : List Addr) (pn : List (Addr × Obj)), Room kk B → DE (gcx X s H (genEnv scope cl C code builtinsNs X.env) B fp pn) W0 elt ge)
    (hs : ∀ v, genFold iter X.env v = pure v := by intro _; rfl) (hgb : Gl X "sum" := by rfl) (he1 : starEach [GE elt tg iter scope gpos] X.env = (false, eval (GE elt tg iter scope gpos) X.env) :: starEach [] X.env := by rfl) :
    DE X W (.Call (.Name "sum" p) [GE elt tg iter scope gpos] [] pos) (sumG gl asg ge (own.map (·.2))) := by
  have hroom : X.A.depth < recursionLimit := by have := hr.dp; omega
  refine ⟨⟨fun pins s σ H Q I h => ?_⟩⟩
  obtain ⟨r, M, en, q⟩ := h
  refine wpAny_Call_Name_kw (ld_blt I hgb hm PyProof.Rows.boot_sum ?_)
  refine PyProof.Rows.callWith_builtin1 ?_ he1 (by rfl)
  rw [he1]
  show wpAny _ _ (spliced ((false, eval (GE elt tg iter scope gpos) X.env) :: backTo pos (starEach [] X.env))) _ _ s
  cases hgl : gl r with
  | ex k =>
    refine Calls.spliced_cons (gen_raises hc hroom hi ok nc hco h0 hs I en hgl ?_)
    unfold sumG genE at q
    rw [hgl] at q
    exact q
  | no =>
    unfold sumG genE at q
    rw [hgl] at q
    exact q.elim
  | ok ds =>
    unfold sumG genE at q
    rw [hgl] at q
    simp only [bind_ok] at q
    cases hz : compD asg (fun _ => .ok true) ge (wipeR r (own.map (·.2))) ds with
    | ex k => rw [hz] at q; exact q.elim
    | no => rw [hz] at q; exact q.elim
    | ok zs =>
      rw [hz] at q
      simp only [quiet_ok, bind_ok] at q
      unfold bSum at q
      simp only at q
      cases hb : intsOf zs with
      | none => rw [hb] at q; exact q.elim
      | some ns =>
        rw [hb] at q
        refine Calls.spliced_cons (gen_made hc hN hroom TB hcode hT hi ok nc hco h0 hs I en hgl fun s4 H4 fp it tn J env a g go s5 mk => Calls.spliced_nil ?_)
        have hh := I.ok.hd hc
        have zl := (compD_at hz).1
        obtain ⟨bl, bget⟩ := intsOf_get hb
        have hgen : s5.heap.IsGen a g := by
          obtain ⟨nm, qn, h1, h2, h3⟩ := mk.hgo
          have I6 := mk.ok _ (((hr.in1.in1).deeper env).hd) (Around.frames_deeper mk.inv.ok.frames)
          exact ⟨go, nm, qn, (I6.pin (a, go) (List.mem_append_left _ (List.mem_singleton.mpr rfl))).1, h1, h2, h3⟩
        have I6 := mk.ok _ (((hr.in1.in1).deeper env).hd) (Around.frames_deeper mk.inv.ok.frames)
        refine call_function_tree F.kind_sum F.plain_sum F.entry_sum (F.args_sum1 _) ?_; unfold Builtin.«sum»; simp only [List.length_cons, List.length_nil]; rw [if_neg (by decide)]
        refine wpAny_bind (wpAny_of_eq (a := [none]) rfl ?_)
        refine wpAny_bind (wpAny_pyIter_gen hgen (wpAny_bind (wpAny_mkInt (wpAny_bind (wpAny_pure ?_)))))
        simp only [List.forIn_cons, List.forIn_nil]
        refine wpAny_bind (wpAny_bind (wpAny_bind (wpAny_isInstance (T := "int") (b := false) (typeIs_int _ _ _) PySem.sub_int_str ?_))); simp only [Bool.false_eq_true, if_false]
        refine wpAny_pure (wpAny_bind (wpAny_bind (wpAny_isInstance (T := "int") (b := false) (typeIs_int _ _ _) PySem.sub_int_bytes ?_))); simp only [Bool.false_eq_true, if_false]
        refine wpAny_pure (wpAny_bind (wpAny_bind (wpAny_isInstance (T := "int") (b := false) (typeIs_int _ _ _) PySem.sub_int_bytearray ?_))); simp only [Bool.false_eq_true, if_false]
        refine wpAny_pure (wpAny_pure (wpAny_bind (wpAny_newObj_type ?_)))
        refine wpAny_pure ⟨plainId_quiet F.plain_sum_loop _, ?_⟩
        have hlt : a < s5.heap.objs.size := by
          obtain ⟨o, nm, qn, e, _⟩ := hgen
          exact Heap.lt_size e
        obtain ⟨G, gs0⟩ := gen_gs (pl := [(s5.heap.objs.size, { cls := .type "list", dict := none, data := .seq #[.int 0 s5.toks] 0, slots := #[] })]) (s6 := { s5 with heap := s5.heap.push { cls := .type "list", dict := none, data := .seq #[.int 0 s5.toks] 0, slots := #[] }, toks := s5.toks + 1 })
          hr hc hco ho hg he en mk hz (fun b o e => Heap.get?_push_of_some _ e) rfl rfl (fun q hq => by
            have e := List.mem_singleton.mp hq
            subst e
            exact ⟨Heap.get?_push_size _ rfl, Nat.le_refl _, fun v z => by cases z⟩)
        refine gen_sum (B := X.A) (N := ds.length) (val := fun i => ns.getD i 0) (S := s5.heap.objs.size) G I6.sz (fun q hq => ?_) (List.mem_singleton.mpr rfl) mk.hgo hh hroom (fun i hi => bget i (by omega)) (fun s' t' gf => ?_) ds.length 0 _ s5.toks 0 0 (.inl rfl) rfl (Nat.zero_le _) gs0 (Heap.get?_push_size _ rfl)
        · have e : q = (a, go) := by simpa using hq
          rw [e]
          exact Nat.ne_of_lt hlt
        · obtain ⟨H', I', sm⟩ := gen_back mk gf
          have e : preSum (fun i => ns.getD i 0) ds.length = ns.sum := by
            rw [preSum_take ns _ (by omega), List.take_of_length_le (by omega)]
          rw [e]
          exact ⟨.int _, H', I', ⟨_, rfl⟩, q _ H' sm (.int _)⟩
end
end PD

namespace PD
open PySem PySem.Spec PyProof.Rows L2
section
variable {P : Program} {w : World} {K : PySem.W.Frag} {mg : Str → Option Value} {base : Heap} {N : List Str} {qual : Str} {st : Stmt} {f : Addr}
/-- def_ok, the def's code object known -/
theorem def_okT {x : Str} {fd : FuncData} {ps : List Str} {k : Nat} {fb : Rho → Out} {cs : Nat → Addr} {c : Addr} (F : Fun K x qual st f fd) (S : FnScope N ps (defScope st)) (T : ∃ (o : Obj) (fd' : FuncData), K.lookup f = some o ∧ o.data = .func fd' ∧ fd'.code = .ref c)
    (hb : ∀ (cdv : Value) (A : Around) (outer : List Env) (s : Shared) (H : Hp) (E : XK), cdv = .ref c → Room k (CxD P w K mg base N qual st f cdv A outer s H E).A → DSs (CxD P w K mg base N qual st f cdv A outer s H E) (WD cs E) (defBody st) fb) :
    FnOk P w K mg base (L2.CX P w) (k + 1) f fd ps (spD cs K ps.length (fnD fb N.length)) := by
  obtain ⟨oc, od, kV, doc, pm, an, cdv, ct, osl, rfl, lk, hcd⟩ := F.ex
  have ec : cdv = .ref c := by
    obtain ⟨o, fd', h1, h2, h3⟩ := T
    rw [lk] at h1
    cases h1
    cases h2
    exact h3
  refine fn_of lk hcd S (fun vs H Q E h => h.1) fun A outer s H vs Q E hr h => ⟨_, (hb cdv A outer s H E ec hr).run (Classical.choose h.2) H, ?_⟩
  obtain ⟨ds, live, l, q⟩ := Classical.choose_spec h.2
  have en := start_rep (N := N) live l
  refine ⟨_, _, ⟨en, Same.refl _, fun _ z => z, fun _ z => .inl z, en.len, fun i j l _ _ xs ys e => (own_none e).elim, fun i l _ xs e => (own_none e).elim, sta_none⟩, ?_⟩
  have q' : match outR (fb (ds.map Sl.val ++ List.replicate (N.length - ds.length) Sl.no)) with
    | .ok d => ∀ v H', Same H H' → Rp K (Classical.choose h.2) H' v d → Q v H'
    | .ex c => ∀ H', Same H H' → E (.ref (cs c)) none H'
    | .no => False := q
  revert q'
  cases fb (ds.map Sl.val ++ List.replicate (N.length - ds.length) Sl.no) with
  | nx r => exact fun q M2 st2 H2 t2 => q .non H2 t2.keep .non
  | rt d => exact fun q v H2 s2 rv => q v H2 s2 rv
  | ex c r => exact fun q M2 st2 H2 t2 => q H2 t2.keep
  | bk r => exact fun q => q.elim
  | ct r => exact fun q => q.elim
  | no => exact fun q => q
end
/-! ### tables at the law's start -/
def spC (K : PySem.W.Frag) (cs : List (Addr × Addr)) : Sp := fun vs H Q E => ∃ (a : Addr) (ns : List Int), vs = [.ref a] ∧ SqL K H a (ns.map V.int) ∧ ns.length ≤ 63 ∧ (∀ p ∈ cs, H p.2 = some (.tbl #[])) ∧ (∀ H', Q (.bl true) H') ∧ ∀ c d H', ¬ E c d H'
theorem fn_tabs {P : Program} {w : World} {K : PySem.W.Frag} {mg : Str → Option Value} {base : Heap} {k : Nat} {f : Addr} {fd : FuncData} {x : Str} {cs : List (Addr × Addr)} (F : FnOk P w K mg base (L2.CX P w) k f fd [x] (spT K)) (hI : ∀ P, IsTab K P → P ∈ cs.map (·.2)) :
    FnOk P w K mg base (L2.CX P w) k f fd [x] (spC K cs) :=
  F.imp fun vs H Q E ⟨a, ns, e, hs, hl, ht, hq, hE⟩ => by
    have tb : ∀ P, IsTab K P → TabG H P := fun P t => by
      obtain ⟨p, hp, e⟩ := List.mem_map.mp (hI P t)
      refine ⟨#[], e ▸ ht p hp, trivial, fun pos cv h => ?_⟩
      have h' : codeAmong pos [] = some cv := h
      unfold codeAmong at h'
      cases h'
    exact ⟨a, ns, e, hs, hl, tb, fun H' _ => hq H'⟩
/-- what the top left of a def's code object -/
def OwnT (mg : Str → Option Value) (h : Heap) (nm : Str) : Prop := ∃ a o fd c P, mg nm = some (.ref a) ∧ h.get? a = some o ∧ o.data = .func fd ∧ fd.code = .ref c ∧ h.IsCode c P #[] ∧ h.TableAt c P #[]
/-- one def's table: its code object at c, the table at Q -/
structure TabIn (K : PySem.W.Frag) (mg : Str → Option Value) (h : Heap) (nm : Str) (f c Q : Addr) : Prop where
  tab : TabAt K f c Q
  none_ : K.lookup Q = none
  hd : PySem.W.CodeHd h c Q
  at_ : h.get? Q = some { cls := .none, data := .fields #[] }
theorem tab_in {K : PySem.W.Frag} {mg : Str → Option Value} {h : Heap} {nm : Str} {f c Q : Addr} {o : Obj} {fd : FuncData} {e : Value} {dd : Option Addr} {vs : Array Value} {sl : Array (Option Value)} (X : K.In h) (own : OwnT mg h nm) (hm : mg nm = some (.ref f)) (h1 : K.lookup f = some o) (h2 : o.data = .func fd) (h3 : fd.code = .ref c)
    (h4 : K.lookup c = some ⟨e, dd, .fields vs, sl⟩) (h5 : vs[11]? = some (.ref Q)) (h6 : K.lookup Q = none) : TabIn K mg h nm f c Q := by
  obtain ⟨a', o', fd', c', P', g1, g2, g3, g4, g5, g6⟩ := own
  rw [hm] at g1
  cases g1
  rw [X f o h1] at g2
  cases g2
  rw [h2] at g3
  cases g3
  rw [h3] at g4
  cases g4
  have hd := PySem.W.CodeHd.of g5 g6
  obtain ⟨⟨oc, vc, e1, _, e3, e4⟩, hP⟩ := g6
  rw [X c _ h4] at e1
  cases e1
  cases e3
  rw [h5] at e4
  cases e4
  exact ⟨⟨o, fd, e, dd, vs, sl, h1, h2, h3, h4, h5⟩, h6, hd, hP⟩
theorem TabIn.only {K : PySem.W.Frag} {mg : Str → Option Value} {h : Heap} {nm : Str} {f c Q c' Q' : Addr} (t : TabIn K mg h nm f c Q) (a : TabAt K f c' Q') : Q' = Q := by
  obtain ⟨o, fd, e, dd, vs, sl, h1, h2, h3, h4, h5⟩ := t.tab
  obtain ⟨o', fd', e', dd', vs', sl', k1, k2, k3, k4, k5⟩ := a
  rw [h1] at k1
  cases k1
  rw [h2] at k2
  cases k2
  rw [h3] at k3
  cases k3
  rw [h4] at k4
  cases k4
  rw [h5] at k5
  cases k5
  rfl
theorem walk_tab {l : PySem.W.OpenLaw} {k : Nat} {q : Program} {loose : List Str} {XP : (Str → Option Value) → Heap → Prop} {YP : World → Heap → Prop} {d : DefRec} {K : Params → PySem.W.Frag} {x : Str}
    (hn : l.most = some 63) (hn2 : 63 ≤ sizeLine) (hdf : d.params.defaults = []) (hr : Room k callerA) (hY : ∀ (w : World) (h : Heap), YP w h → (K w.params).In h)
    (F : ∀ (w : World) (mg : Str → Option Value) (fa : Addr) (h : Heap), (K w.params).In h → h.Ns mainGlobals mg → mg d.name = some (.ref fa) → (∀ nm : Str, ((recsOf q).any fun e => e.name == nm) = true → OwnT mg h nm) →
      ∃ (cs : List (Addr × Addr)) (fd : FuncData), (∀ p ∈ cs, ∃ nm f, TabIn (K w.params) mg h nm f p.1 p.2) ∧ (∀ P, IsTab (K w.params) P → P ∈ cs.map (·.2)) ∧ (∀ (s : Shared) (u : Value), BindsTo s fd ⟨[u], []⟩ [(x, u)]) ∧
        ∀ base : Heap, (K w.params).In base → base.Ns mainGlobals mg → (∀ p ∈ cs, LamX.TabB base mg p.1 p.2) → FnOk l.prog w (K w.params) mg base (L2.CX l.prog w) k fa fd [x] (spT (K w.params))) :
    PySem.W.WalkO q loose XP YP l.row.toRowW d [] (fun f vs => PySem.call f vs) := by
  refine Att.attach_callB hn hdf fun w s₀ s₁ mg mb fa o pm cd doc a vs ns G Y ho hd hcd hmg hobj hints hlen hbits hg => ?_
  have KX := hY w _ Y
  obtain ⟨cs, fd, hT, hI, hb, hF⟩ := F w mg fa _ KX G.T.g hmg fun nm hnm => by
    obtain ⟨dL, hm, hn1⟩ := List.any_eq_true.mp hnm
    have hn2 : dL.name = nm := beq_iff_eq.mp hn1
    exact hn2 ▸ G.T.tab dL hm
  have tin : ∀ p ∈ cs, s₁.heap.get? p.2 = some { cls := .none, data := .fields #[] } ∧ (K w.params).lookup p.2 = none ∧ PySem.W.CodeHd s₁.heap p.1 p.2 := fun p hp => by
    obtain ⟨nm, f, t⟩ := hT p hp
    exact ⟨t.at_, t.none_, t.hd⟩
  exact LamX.law_callTs KX G.T.g G.T.b G.T.builtins G.T.nolimit hg (fun p hp => (tin p hp).1) (fun p hp => (tin p hp).2.1) (fun p hp => (tin p hp).2.2) G.T.bmain hobj hints (Nat.le_trans hlen hn2) hr (fun base h1 h2 h3 => fn_tabs (hF base h1 h2 h3) hI) hb
    (fun H hH hS => ⟨a, ns, rfl, hS, hlen, hH, fun _ => rfl, fun _ _ _ z => z⟩) fun H e s' h => by
      obtain ⟨_, _, _, _, _, _, _, _, _, _, _, _, z⟩ := h
      exact z
end PD

namespace PD
open PySem PySem.Spec PyProof.Rows L2
variable {K : PySem.W.Frag}
theorem serves_enumL {M M0 : MS} {H1 Hb : Hp} {a : Addr} {xs : List V} {ds : List D} (hS : ∀ H2, Same Hb H2 → SqL K H2 a xs) (hl : RpL K M H1 xs ds) (h0 : ∀ l, M0 l → M l) (hb : ∀ b o, ¬ M b → H1 b = some o → Hb b = some o) :
    Serves K M0 Hb (Ite K a) (enumD ds) := by
  intro i M2 H2 s2 n2 l2
  have r2 := hS H2 s2
  have lb : RpL K M0 Hb xs ds := RpL.to (fun b n _ z => n (h0 b z)) (fun b o n e _ => hb b o n e) ds xs hl
  have l2' : RpL K M2 H2 xs ds := RpL.to (fun b n ⟨o, e⟩ z => by
    rcases n2 b z with q | q
    · exact n q
    · rw [e] at q; cases q) (fun b o _ e nt => s2.k b o e nt) ds xs lb
  have len : (enumD ds).length = ds.length := by simp [enumD]
  refine ⟨fun d hd => ?_, fun hi => ⟨xs, r2, by rw [l2'.length, ← len]; exact hi⟩⟩
  unfold enumD at hd
  rw [List.getElem?_map, List.getElem?_zipIdx] at hd
  cases e : ds[i]? with
  | none => rw [e] at hd; cases hd
  | some z =>
    rw [e] at hd
    simp only [Option.map_some, Option.some.injEq, Nat.zero_add] at hd
    subst hd
    obtain ⟨v, hv, rv⟩ := l2'.get e
    refine ⟨⟨xs, v, r2, hv⟩, fun x H' ⟨T, y, e1, hT, e2, q⟩ => ?_⟩
    have z := q xs r2
    rw [hv] at z
    cases z
    subst e1 e2
    have sm : Same H2 (upd H2 T (.tup [.int (i : Nat), v])) := same_upd hT
    have nT : ¬ M2 T := fun z => by
      obtain ⟨o, e⟩ := l2 T z
      rw [hT] at e
      cases e
    exact ⟨sm, .tup nT (.inl upd_same) (.cons (.int _) (.one (rv.same sm)))⟩
section
variable {X : Cx} {W : PWs} {a : Expr} {g : Rho → Res D} {pos p : Pos}
def enL (g : Rho → Res D) (r : Rho) : Res (List D) := (g r).bind fun d => match d with
  | .list ds => .ok (enumD ds)
  | _ => .no
theorem di_enumL {tpos : Pos} {elts : List Expr} {kk : Nat} (hm : X.mg "enumerate" = none) (h : DE X W a g) (hg : Gl X "enumerate" := by rfl) (hs1 : starEach (a :: []) X.env = (false, eval a X.env) :: starEach [] X.env := by rfl) :
    DI X W (.Tuple elts kk tpos) (.Call (.Name "enumerate" p) [a] [] pos) (enL g) :=
  ⟨(pi_enum hg hm (pa_cons h.run pa_nil hs1) (hs1.trans (by rfl))).imp fun st H R ⟨r, M, en, q⟩ => by
    refine ⟨r, M, en, ?_⟩
    unfold enL at q
    cases hga : g r with
    | ex c => rw [hga] at q; exact q
    | no => rw [hga] at q; exact q
    | ok d =>
      rw [hga] at q
      cases d with
      | list ds =>
        intro v H1 s1 rv
        cases rv with
        | lst n r1 l1 => exact ⟨_, _, rfl, .inl r1, q _ H1 s1 fun M0 Hb h0 hb => serves_enumL (fun H2 s2 => .inl (rd_to (rd_to r1 (nt_lst _) fun o e _ => hb _ o n e) (nt_lst _) fun o e nt => s2.k _ o e nt)) l1 h0 hb⟩
        | kls r1 l1 => exact ⟨_, _, rfl, .inr r1, q _ H1 s1 fun M0 Hb h0 hb => serves_enumL (fun H2 s2 => .inr r1) l1 h0 hb⟩
      | none => exact q.elim
      | bool => exact q.elim
      | int => exact q.elim
      | str => exact q.elim
      | tuple => exact q.elim
      | dict => exact q.elim⟩
end
end PD

namespace PD
open PySem PySem.Spec PyProof.Rows L2
variable {K : PySem.W.Frag}

theorem units1 {A : Around} (h : A.units + 64 < cLine) : A.units + 1 < cLine := by omega
/-! ### which names have tables -/
theorem tabN_owed : (("owed" : Str)) ∈ tabNames := List.mem_cons_self
theorem tabN_billed : (("billed" : Str)) ∈ tabNames := List.mem_cons_of_mem _ List.mem_cons_self
theorem tabN_with_tariff : (("with_tariff" : Str)) ∈ tabNames := List.mem_cons_of_mem _ (List.mem_cons_of_mem _ List.mem_cons_self)
theorem tabN_cases {x : Str} (h : x ∈ tabNames) : x = "owed" ∨ x = "billed" ∨ x = "with_tariff" := by
  rcases List.mem_cons.mp h with h | h
  · exact .inl h
  · rcases List.mem_cons.mp h with h | h
    · exact .inr (.inl h)
    · rcases List.mem_cons.mp h with h | h
      · exact .inr (.inr h)
      · cases h
theorem ref_inj {a b : Addr} (h : some (some (Value.ref a)) = some (some (Value.ref b))) : a = b := by cases h; rfl
theorem ref_none {b : Addr} (h : (some none : Option (Option Value)) = some (some (Value.ref b))) : False := by cases h
/-! ### a dict of one's own: its keys, its values -/
def keyD : Key → D
  | .inl i => .int i
  | .inr x => .str x
def keyOf : D → Option Key
  | .int i => some (.inl i)
  | .str x => some (.inr x)
  | _ => none
theorem key_rp {M : MS} {H : Hp} (k : Key) : Rp K M H (kV k) (keyD k) := by
  cases k with
  | inl i => exact .int i
  | inr x => exact .str x
theorem key_rps {M : MS} {H : Hp} : ∀ ks : List Key, RpL K M H (ks.map kV) (ks.map keyD)
  | [] => .nil
  | k :: ks => .cons (key_rp k) (key_rps ks)
theorem key_is {M : MS} {H : Hp} {v : V} {d : D} {k : Key} (h : Rw K M H v d) (e : keyOf d = some k) : v = kV k := by
  cases d <;> first
    | (cases e; done)
    | skip
  · cases e
    exact h.int_
  · cases e
    exact h.str_
def hasK (ks : List Key) (k : Key) : Bool := ks.any fun j => decide (j = k)
def insK (ks : List Key) (k : Key) : List Key := if hasK ks k = true then ks else ks ++ [k]
def overV {α : Type} (k : Key) (v : α) : List Key → List α → List α
  | j :: ks, u :: vs => (if j = k then v else u) :: overV k v ks vs
  | _, vs => vs
def insV {α : Type} (ks : List Key) (vs : List α) (k : Key) (v : α) : List α := if hasK ks k = true then overV k v ks vs else vs ++ [v]
def valD {α : Type} : List Key → List α → Key → Option α
  | j :: ks, u :: vs, k => if j = k then some u else valD ks vs k
  | _, _, _ => none
theorem zip_any {α : Type} (k : Key) : ∀ (ks : List Key) (vs : List α), ks.length = vs.length → ((ks.zip vs).any fun kv => decide (kv.1 = k)) = hasK ks k
  | [], [], _ => rfl
  | [], _ :: _, h => by simp at h
  | _ :: _, [], h => by simp at h
  | j :: ks, u :: vs, h => by
    have ih := zip_any k ks vs (by simpa using h)
    unfold hasK at ih ⊢
    rw [List.zip_cons_cons, List.any_cons, List.any_cons, ih]
theorem zip_over (k : Key) (v : V) : ∀ (ks : List Key) (vs : List V), ks.length = vs.length → (ks.zip vs).map (fun kv => if kv.1 = k then (kv.1, v) else kv) = ks.zip (overV k v ks vs)
  | [], [], _ => rfl
  | [], _ :: _, h => by simp at h
  | _ :: _, [], h => by simp at h
  | j :: ks, u :: vs, h => by
    unfold overV
    rw [List.zip_cons_cons, List.map_cons, List.zip_cons_cons, zip_over k v ks vs (by simpa using h)]
    by_cases e : j = k
    · simp [e]
    · simp [e]
theorem zip_put {ks : List Key} {vs : List V} (k : Key) (v : V) (h : ks.length = vs.length) : putK (ks.zip vs) k v = (insK ks k).zip (insV ks vs k v) := by
  unfold putK insK insV
  rw [zip_any k ks vs h]
  by_cases e : hasK ks k = true
  · rw [if_pos e, if_pos e, if_pos e, zip_over k v ks vs h]
  · rw [if_neg e, if_neg e, if_neg e, List.zip_append h]
    rfl
theorem zip_val (k : Key) : ∀ (ks : List Key) (vs : List V), valV (ks.zip vs) k = valD ks vs k
  | [], vs => by rw [List.zip_nil_left] <;> rfl
  | _ :: _, [] => by rw [List.zip_nil_right] <;> rfl
  | j :: ks, u :: vs => by
    rw [List.zip_cons_cons]
    unfold valD
    by_cases e : j = k
    · rw [if_pos e]
      exact valV_pos e
    · rw [if_neg e, valV_neg e, zip_val k ks vs]
theorem zip_keys : ∀ (ks : List Key) (vs : List V), ks.length = vs.length → ((ks.zip vs).map fun kv => kV kv.1) = ks.map kV
  | [], _, _ => by rw [List.zip_nil_left] <;> rfl
  | _ :: _, [], h => by simp at h
  | j :: ks, u :: vs, h => by rw [List.zip_cons_cons, List.map_cons, List.map_cons, zip_keys ks vs (by simpa using h)]
theorem RpL.over {M : MS} {H : Hp} (k : Key) {v : V} {d : D} (r : Rp K M H v d) : ∀ (ks : List Key) {vs : List V} {ds : List D}, RpL K M H vs ds → RpL K M H (overV k v ks vs) (overV k d ks ds)
  | [], _, _, h => h
  | _ :: _, _, _, .nil => .nil
  | j :: ks, _, _, .cons a t => by
    unfold overV
    refine .cons ?_ (RpL.over k r ks t)
    by_cases e : j = k
    · rw [if_pos e, if_pos e]
      exact r
    · rw [if_neg e, if_neg e]
      exact a
theorem RpL.ins {M : MS} {H : Hp} (ks : List Key) (k : Key) {v : V} {d : D} {vs : List V} {ds : List D} (h : RpL K M H vs ds) (r : Rp K M H v d) : RpL K M H (insV ks vs k v) (insV ks ds k d) := by
  unfold insV
  by_cases e : hasK ks k = true
  · rw [if_pos e, if_pos e]
    exact h.over k r ks
  · rw [if_neg e, if_neg e]
    exact h.app (.one r)
theorem RpL.valK {M : MS} {H : Hp} (k : Key) {d : D} : ∀ (ks : List Key) {vs : List V} {ds : List D}, RpL K M H vs ds → PD.valD ks ds k = some d → ∃ v, PD.valD ks vs k = some v ∧ Rp K M H v d
  | [], _, _, _, e => by cases e
  | _ :: _, _, _, .nil, e => by cases e
  | j :: ks, _, _, .cons a t, e => by
    unfold PD.valD at e ⊢
    by_cases z : j = k
    · rw [if_pos z] at e ⊢
      cases e
      exact ⟨_, rfl, a⟩
    · rw [if_neg z] at e ⊢
      exact RpL.valK k ks t e
section
variable {X : Cx} {W : PWs} {e a b : Expr} {g gk : Rho → Res D} {pos p : Pos}
/-- x = {} -/
def dnwE (i : Nat) (r : Rho) : Out := .nx (r.set i (.dic [] []))
theorem ds_dnew {i : Nat} {x : Str} {pos' lpos : Pos} (hN : X.N.Nodup) (hi : X.N[i]? = some x) (hx : Loc X.env.scope x) (hs : swapsWith (.Dict [] [] lpos) (some (.Name x pos')) pos.line X.env = pure false := by rfl) (hf : X.fn x = true ∨ X.env.scope.names.lookup x = some .local := by first | exact .inl rfl | exact .inr rfl | assumption) :
    DS X W (.Assign [.Name x pos'] (.Dict [] [] lpos) pos) (dnwE i) :=
  ⟨fun M0 H0 => (ps_set hN hi hx pe_dnewK hs hf).imp fun E st H ⟨r, M, t, q⟩ => fun p hp => q _ _ _ (t.setBox (kk := .dic []) (vs := []) hp .nil)⟩
/-- x[k] = e -/
def dput1 (i : Nat) (d y : D) (r : Rho) : Out := match r[i]?, keyOf y with
  | some (.box (.dic ks) ds), some k => if ks.length = ds.length ∧ ks.length < 16777216 then .nx (r.set i (.dic (insK ks k) (insV ks ds k d))) else .no
  | _, _ => .no
def dgo (i : Nat) (gk : Rho → Res D) (d : D) (r : Rho) : Out := match r[i]? with
  | some (.box (.dic _) _) => vThen gk (fun y => dput1 i d y) r
  | _ => .no
def dputE (i : Nat) (gk g : Rho → Res D) : Rho → Out := vThen g fun d => dgo i gk d
theorem dput_no {M0 : MS} {H0 : Hp} {i : Nat} {d : D} {r : Rho} {o : Option Sl} {E : Ends} (h : r[i]? = o) (n : ∀ ks ds, o ≠ some (.dic ks ds)) (q : DemS K W M0 H0 E (dgo i gk d r)) : False := by
  unfold dgo at q
  subst h
  split at q
  · rename_i h
    exact n _ _ h
  · exact q
theorem ds_dput {i : Nat} {x : Str} {np spos : Pos} (hu : X.A.units + 1 < cLine) (hv : PE X (.Name x np) (tVar i)) (hb : X.N[i]? = some x) (hk : DW X W b gk) (he : DE X W e g) (hs : swapsWith e (some (.Subscript (.Name x np) b spos)) pos.line X.env = pure false := by rfl) :
    DS X W (.Assign [.Subscript (.Name x np) b spos] e pos) (dputE i gk g) :=
  ⟨fun M0 H0 => (ps_dput hu hv hk.run he.run hs).imp fun E st H ⟨r, M, t, q⟩ => by
    refine vthen_ok (R := Rp) t q fun d v H1 s1 t1 rv q1 => ?_
    cases hz : r[i]? with
    | none => exact (dput_no hz (fun ks ds e => by cases e) q1).elim
    | some z =>
      cases z with
      | no => exact (dput_no hz (fun ks ds e => by cases e) q1).elim
      | exc a => exact (dput_no hz (fun ks ds e => by cases e) q1).elim
      | sta => exact (dput_no hz (fun ks ds e => by cases e) q1).elim
      | val d => exact (dput_no hz (fun ks ds e => by cases e) q1).elim
      | box kk xs =>
        cases kk with
        | lst => exact (dput_no hz (fun ks ds e => by cases e) q1).elim
        | dic ks =>
          obtain ⟨l, vs, e1, m, hH, rl⟩ := t1.en.slot i _ hz
          unfold dgo at q1
          rw [hz] at q1
          refine ⟨_, e1, vthen_ok (R := Rw) t1 q1 fun y yv H2 s2 t2 ry q2 => ?_⟩
          unfold dput1 at q2
          rw [hz] at q2
          cases ek : keyOf y with
          | none => rw [ek] at q2; exact q2.elim
          | some k =>
            rw [ek] at q2
            simp only at q2
            by_cases hc : ks.length = xs.length ∧ ks.length < 16777216
            · rw [if_pos hc] at q2
              have hl : ks.length = vs.length := by rw [rl.length]; exact hc.1
              have hH2 : H2 l = some (.dK (ks.zip vs)) := s2.k _ _ hH (nt_dK _)
              refine ⟨l, upd H2 l (.dK (putK (ks.zip vs) k v)), rfl, ?_, ?_⟩
              · rw [key_is ry ek]
                exact DPut.k hH2 (by rw [List.length_zip, ← hl, Nat.min_self, sizeLine_eq]; exact hc.2)
              · rw [zip_put k v hl]
                exact q2 M st _ (t2.put (k2 := .dic (insK ks k)) hz e1 ((rl.same s2).ins ks k (rv.same s2)))
            · rw [if_neg hc] at q2
              exact q2.elim⟩
/-- x[k] -/
def dgetE (i : Nat) (gk : Rho → Res D) (r : Rho) : Res D := match r[i]? with
  | some (.box (.dic ks) ds) => if ks.length = ds.length then (gk r).bind fun y => match keyOf y with
    | some k => match valD ks ds k with
      | some d => .ok d
      | none => .no
    | none => .no else .no
  | _ => .no
theorem de_dget {i : Nat} {x : Str} {np : Pos} (hu : X.A.units + 1 < cLine) (hv : PE X (.Name x np) (tVar i)) (hk : DW X W b gk) (hs : NoSl b := by exact fun _ _ => rfl) : DE X W (.Subscript (.Name x np) b pos) (dgetE i gk) :=
  ⟨(pe_dget hu hv hk.run hs).imp fun st H Q ⟨r, M, en, q⟩ => by
    unfold dgetE at q
    cases hz : r[i]? with
    | none => rw [hz] at q; exact q.elim
    | some z =>
      rw [hz] at q
      cases z with
      | no => exact q.elim
      | exc a => exact q.elim
      | sta => exact q.elim
      | val d => exact q.elim
      | box kk xs =>
        cases kk with
        | lst => exact q.elim
        | dic ks =>
          obtain ⟨l, vs, e1, m, hH, rl⟩ := en.slot i _ hz
          simp only at q
          by_cases hc : ks.length = xs.length
          · rw [if_pos hc] at q
            refine ⟨_, e1, r, M, en, Dem.then (R := Rp) (Ra := Rw) en q fun y yv H2 _ s2 en2 ry q2 => ?_⟩
            cases ek : keyOf y with
            | none => rw [ek] at q2; exact q2.elim
            | some k =>
              rw [ek] at q2
              simp only at q2
              cases ev : valD ks xs k with
              | none => rw [ev] at q2; exact q2.elim
              | some d =>
                rw [ev] at q2
                obtain ⟨v, h1, h2⟩ := (rl.same s2).valK k ks ev
                refine ⟨l, v, rfl, ?_, q2 v H2 (Same.refl _) h2⟩
                rw [key_is ry ek, ← h1, ← zip_val]
                exact DGet.k (s2.k _ _ hH (nt_dK _))
          · rw [if_neg hc] at q
            exact q.elim⟩
/-- list(x) -/
def dkeyE (i : Nat) (r : Rho) : Res D := match r[i]? with
  | some (.box (.dic ks) ds) => if ks.length = ds.length then .ok (.list (ks.map keyD)) else .no
  | _ => .no
theorem de_dkeys {i : Nat} {x : Str} {np : Pos} (hc : X.calm = true) (hm : X.mg "list" = none) (hv : PE X (.Name x np) (tVar i)) (hg : Gl X "list" := by rfl)
    (he : starEach (.Name x np :: []) X.env = (false, eval (.Name x np) X.env) :: starEach [] X.env := by rfl) (hpl : (backTo pos (starEach [] X.env)).any (·.1) = false := by rfl) : DE X W (.Call (.Name "list" p) [.Name x np] [] pos) (dkeyE i) :=
  ⟨(pe_callTy (call_list_dK hc) hg hm PyProof.Rows.boot_list (pa_cons hv pa_nil he) (by decide) (by decide) he hpl).imp fun st H Q ⟨r, M, en, q⟩ => by
    unfold dkeyE at q
    cases hz : r[i]? with
    | none => rw [hz] at q; exact q.elim
    | some z =>
      rw [hz] at q
      cases z with
      | no => exact q.elim
      | exc a => exact q.elim
      | sta => exact q.elim
      | val d => exact q.elim
      | box kk xs =>
        cases kk with
        | lst => exact q.elim
        | dic ks =>
          obtain ⟨l, vs, e1, m, hH, rl⟩ := en.slot i _ hz
          simp only at q
          by_cases hc : ks.length = xs.length
          · rw [if_pos hc] at q
            refine ⟨_, e1, l, ks.zip vs, rfl, hH, fun p hp => ?_⟩
            rw [zip_keys ks vs (by rw [rl.length]; exact hc)]
            exact q _ _ (same_upd hp) (.lst (en.fresh hp) (.inl upd_same) (key_rps ks))
          · rw [if_neg hc] at q
            exact q.elim⟩
/-- sorted(x), x a list of whole numbers -/
def sortI (ns : List Int) : List Int := ns.mergeSort fun a b => decide (a ≤ b)
theorem sortI_perm (ns : List Int) : (sortI ns).Perm ns := List.mergeSort_perm _ _
theorem sortI_le (ns : List Int) : (sortI ns).Pairwise (· ≤ ·) := by
  have h := List.pairwise_mergeSort (le := fun a b : Int => decide (a ≤ b)) (fun a b c h1 h2 => by simp only [decide_eq_true_eq] at *; omega) (fun a b => by simp only [Bool.or_eq_true, decide_eq_true_eq]; omega) ns
  exact h.imp fun z => of_decide_eq_true z
theorem sortI_eq {ns ns' : List Int} (h1 : ns'.Perm ns) (h2 : ns'.Pairwise (· ≤ ·)) : ns' = sortI ns :=
  List.Perm.eq_of_pairwise (fun a b _ _ x y => Int.le_antisymm x y) h2 (sortI_le ns) (h1.trans (sortI_perm ns).symm)
def bSortI : D → Res D
  | .list ds => match intsOf ds with
    | some ns => .ok (.list ((sortI ns).map .int))
    | none => .no
  | _ => .no
theorem ints_rp {M : MS} {H : Hp} : ∀ ns : List Int, RpL K M H (ns.map V.int) (ns.map .int)
  | [] => .nil
  | i :: ns => .cons (.int i) (ints_rp ns)
theorem opc_sortI : OpC1 K W (rSortedI K) bSortI := by
  intro M st rh H x d Q en rx q
  cases d with
  | list ds =>
    obtain ⟨a, xs, rfl, rr, l⟩ := rx.lst_
    unfold bSortI at q
    simp only at q
    cases ei : intsOf ds with
    | none => rw [ei] at q; exact q.elim
    | some ns =>
      rw [ei] at q
      have z := intsOf_ok l ei
      subst z
      refine ⟨a, ns, rfl, rr, fun ns' p h1 h2 hp => ?_⟩
      rw [sortI_eq h1 h2]
      exact q _ _ (same_upd hp) (.lst (en.fresh hp) (.inl upd_same) (ints_rp _))
  | tuple ds => exact q.elim
  | none => exact q.elim
  | bool => exact q.elim
  | int => exact q.elim
  | str => exact q.elim
  | dict => exact q.elim
theorem de_sortI {ga : Rho → Res D} (hm : X.mg "sorted" = none) (ha : DW X W a ga) (hg : Gl X "sorted" := by rfl)
    (he : starEach (a :: []) X.env = (false, eval a X.env) :: starEach [] X.env := by rfl) (hpl : (backTo pos (starEach [] X.env)).any (·.1) = false := by rfl) : DE X W (.Call (.Name "sorted" p) [a] [] pos) (then1 ga bSortI) :=
  de_b1 cr_sortedI opc_sortI hm PyProof.Rows.boot_sorted ha hg (by decide) (by decide) he hpl
end
end PD

namespace PD
open PySem PySem.Spec PyProof.Rows L2

/-! ### tariffs -/
structure Tar where
  day : Int
  st : Int
  low : Int
  lim : Int
  high : Int
def Tar.dat (t : Tar) : D := .tuple [.int t.day, .int t.st, .int t.low, .int t.lim, .int t.high]
structure Tar.ok (t : Tar) : Prop where
  d : 0 ≤ t.day ∧ t.day ≤ 2000
  s : 0 ≤ t.st ∧ t.st < 2147483647
  l : 0 ≤ t.low ∧ t.low ≤ 1000000000
  m : 0 ≤ t.lim ∧ t.lim ≤ 1000000000000
  h : 0 ≤ t.high ∧ t.high ≤ 1000000000
def tarsD (ts : List Tar) : List D := ts.map Tar.dat
def tarOn : List Tar → Option Tar → Int → Option Tar
  | [], f, _ => f
  | t :: ts, f, day => tarOn ts (if t.day ≤ day then some t else f) day
def tarO : Option Tar → D
  | none => .none
  | some t => t.dat
def costOf : Option Tar → Int → Int
  | none, _ => 0
  | some t, u => t.st + t.low * (if t.lim < u then t.lim else u) + t.high * (u - (if t.lim < u then t.lim else u))
theorem tarOn_mem {day : Int} {t : Tar} : ∀ (ts : List Tar) (f : Option Tar), tarOn ts f day = some t → t ∈ ts ∨ f = some t
  | [], f, h => .inr h
  | u :: ts, f, h => by
    rcases tarOn_mem ts _ h with h | h
    · exact .inl (List.mem_cons_of_mem _ h)
    · split at h
      · cases h
        exact .inl List.mem_cons_self
      · exact .inr h
theorem tar_0 (t : Tar) : qIx t.dat (.int 0) = .ok (.int t.day) := qIx_at rfl rfl
theorem tar_1 (t : Tar) : qIx t.dat (.int 1) = .ok (.int t.st) := qIx_at rfl rfl
theorem tar_2 (t : Tar) : qIx t.dat (.int 2) = .ok (.int t.low) := qIx_at rfl rfl
theorem tar_3 (t : Tar) : qIx t.dat (.int 3) = .ok (.int t.lim) := qIx_at rfl rfl
theorem tar_4 (t : Tar) : qIx t.dat (.int 4) = .ok (.int t.high) := qIx_at rfl rfl
/-! ### what is owed -/
def dayC (ts : List Tar) (gs : List St3) (day : Int) : Int := costOf (tarOn ts none day) (useAt gs 0 day)
def sumC (ts : List Tar) (gs : List St3) (lo : Int) : Nat → Int
  | 0 => 0
  | n + 1 => sumC ts gs lo n + dayC ts gs (lo + (n : Nat))
def costL (ts : List Tar) (gs : List St3) (lo : Int) (n : Nat) : List D := (List.range n).map fun j => .int (dayC ts gs (lo + (j : Nat)))
theorem costL_ints (ts : List Tar) (gs : List St3) (lo : Int) : ∀ n : Nat, ∃ ns, intsOf (costL ts gs lo n) = some ns ∧ ns.sum = sumC ts gs lo n
  | 0 => ⟨[], rfl, rfl⟩
  | n + 1 => by
    obtain ⟨ns, h1, h2⟩ := costL_ints ts gs lo n
    refine ⟨ns ++ [dayC ts gs (lo + (n : Nat))], ?_, ?_⟩
    · have e : costL ts gs lo (n + 1) = costL ts gs lo n ++ [.int (dayC ts gs (lo + (n : Nat)))] := by simp [costL, List.range_succ]
      rw [e]
      exact intsOf_app _ _ _ h1
    · rw [List.sum_append, h2]
      simp [sumC]
theorem sum_costL (ts : List Tar) (gs : List St3) (lo : Int) (n : Nat) : bSum (.list (costL ts gs lo n)) = .ok (.int (sumC ts gs lo n)) := by
  obtain ⟨ns, h1, h2⟩ := costL_ints ts gs lo n
  unfold bSum
  simp only
  rw [h1, ← h2]
theorem compD_each {asg : Asg} {G : Rho → Res Bool} {F : Rho → Res D} {r : Rho} : ∀ (ds zs : List D), ds.length = zs.length →
    (∀ (i : Nat) (d z : D), ds[i]? = some d → zs[i]? = some z → ∃ ps, asg d = some ps ∧ G (setsD r ps) = .ok true ∧ F (setsD r ps) = .ok z) → compD asg G F r ds = .ok zs
  | [], [], _, _ => rfl
  | [], _ :: _, h, _ => by simp at h
  | _ :: _, [], h, _ => by simp at h
  | d :: ds, z :: zs, h, st => by
    obtain ⟨ps, e1, e2, e3⟩ := st 0 d z rfl rfl
    have ih := compD_each (G := G) (F := F) ds zs (by simpa using h) fun i d z h1 h2 => st (i + 1) d z (by simpa using h1) (by simpa using h2)
    unfold compD
    rw [e1]
    simp only
    rw [e2, e3, ih]
    rfl
theorem enumU_get (gs : List St3) (lo : Int) (n i : Nat) : (enumD (useL gs lo n))[i]? = if i < n then some (.tuple [.int (i : Nat), .int (useAt gs 0 (lo + (i : Nat)))]) else none := by
  rw [enumD_get]
  by_cases h : i < n
  · rw [if_pos h]
    simp [useL, h]
  · rw [if_neg h]
    simp [useL, h]
theorem costL_get (ts : List Tar) (gs : List St3) (lo : Int) (n i : Nat) : (costL ts gs lo n)[i]? = if i < n then some (.int (dayC ts gs (lo + (i : Nat)))) else none := by
  by_cases h : i < n
  · rw [if_pos h]
    simp [costL, h]
  · rw [if_neg h]
    simp [costL, h]
/-! ### tariffs put into a dict, by their days -/
def putT (es : List Tar) (t : Tar) : List Tar := if (es.any fun e => decide (e.day = t.day)) = true then es.map fun e => if e.day = t.day then t else e else es ++ [t]
def dayK (es : List Tar) : List Key := es.map fun t => .inl t.day
theorem has_dayK (es : List Tar) (d : Int) : hasK (dayK es) (.inl d) = es.any fun e => decide (e.day = d) := by
  unfold hasK dayK
  rw [List.any_map]
  congr
  funext e
  simp
theorem ins_dayK (es : List Tar) (t : Tar) : insK (dayK es) (.inl t.day) = dayK (putT es t) := by
  unfold insK putT
  rw [has_dayK]
  by_cases h : (es.any fun e => decide (e.day = t.day)) = true
  · rw [if_pos h, if_pos h]
    unfold dayK
    rw [List.map_map]
    refine List.map_congr_left fun e _ => ?_
    by_cases z : e.day = t.day
    · simp [z]
    · simp [z]
  · rw [if_neg h, if_neg h]
    simp [dayK]
theorem over_dayK (t : Tar) : ∀ es : List Tar, overV (.inl t.day) t.dat (dayK es) (tarsD es) = tarsD (es.map fun e => if e.day = t.day then t else e)
  | [] => rfl
  | e :: es => by
    have ih := over_dayK t es
    show (if (Sum.inl e.day : Key) = .inl t.day then t.dat else e.dat) :: overV (.inl t.day) t.dat (dayK es) (tarsD es) = _
    rw [ih]
    by_cases z : e.day = t.day
    · simp [z, tarsD]
    · simp [z, tarsD]
theorem ins_tars (es : List Tar) (t : Tar) : insV (dayK es) (tarsD es) (.inl t.day) t.dat = tarsD (putT es t) := by
  unfold insV putT
  rw [has_dayK]
  by_cases h : (es.any fun e => decide (e.day = t.day)) = true
  · rw [if_pos h, if_pos h, over_dayK]
  · rw [if_neg h, if_neg h]
    simp [tarsD]
theorem putT_len (es : List Tar) (t : Tar) : (putT es t).length ≤ es.length + 1 := by
  unfold putT
  split <;> simp
theorem putT_ok {es : List Tar} {t : Tar} (h : ∀ e ∈ es, e.ok) (ht : t.ok) : ∀ e ∈ putT es t, e.ok := fun e he => by
  unfold putT at he
  split at he
  · obtain ⟨u, hu, z⟩ := List.mem_map.mp he
    subst z
    split
    · exact ht
    · exact h u hu
  · rcases List.mem_append.mp he with he | he
    · exact h e he
    · cases List.mem_singleton.mp he
      exact ht
theorem putT_nodup {es : List Tar} {t : Tar} (h : (es.map Tar.day).Nodup) : ((putT es t).map Tar.day).Nodup := by
  unfold putT
  split
  · rename_i c
    rw [List.map_map]
    have e : es.map (Tar.day ∘ fun e => if e.day = t.day then t else e) = es.map Tar.day := List.map_congr_left fun e _ => by
      by_cases z : e.day = t.day
      · simp [z]
      · simp [z]
    rw [e]
    exact h
  · rename_i c
    rw [List.map_append, List.nodup_append]
    refine ⟨h, by simp, fun a ha b hb => ?_⟩
    simp only [List.map_cons, List.map_nil, List.mem_singleton] at hb
    obtain ⟨e, he, rfl⟩ := List.mem_map.mp ha
    rintro z
    exact c (List.any_eq_true.mpr ⟨e, he, by simp [z, hb]⟩)
theorem val_dayK (d : Int) : ∀ es : List Tar, d ∈ es.map Tar.day → ∃ t ∈ es, t.day = d ∧ valD (dayK es) (tarsD es) (.inl d) = some t.dat
  | [], h => by simp at h
  | e :: es, h => by
    by_cases z : e.day = d
    · refine ⟨e, List.mem_cons_self, z, ?_⟩
      show (if (Sum.inl e.day : Key) = .inl d then some e.dat else valD (dayK es) (tarsD es) (.inl d)) = _
      rw [if_pos (by rw [z])]
    · have h' : d ∈ es.map Tar.day := by
        rw [List.map_cons] at h
        rcases List.mem_cons.mp h with h | h
        · exact absurd h.symm z
        · exact h
      obtain ⟨t, h1, h2, h3⟩ := val_dayK d es h'
      refine ⟨t, List.mem_cons_of_mem _ h1, h2, ?_⟩
      show (if (Sum.inl e.day : Key) = .inl d then some e.dat else valD (dayK es) (tarsD es) (.inl d)) = _
      rw [if_neg (by intro y; cases y; exact z rfl)]
      exact h3
theorem ix_any (L : List Int) {j : Int} (h0 : 0 ≤ j) (h1 : j < (L.length : Nat)) : ∃ v ∈ L, qIx (.list (L.map PyData.int)) (.int j) = .ok (.int v) := by
  have hj : j.toNat < L.length := by omega
  refine ⟨L[j.toNat], List.getElem_mem hj, qIx_at rfl ?_⟩
  have e := atI_cast (L.map PyData.int) j.toNat
  rw [show ((j.toNat : Nat) : Int) = j by omega] at e
  rw [e, List.getElem?_map, List.getElem?_eq_getElem hj]
  rfl
end PD

namespace PD
open PySem PySem.Spec PyProof.Rows L2

/-! ### bills: a day, an amount -/
abbrev Bil := Int × Int
def billD (b : Bil) : D := .tuple [.int b.1, .int b.2]
def billsD (bs : List Bil) : List D := bs.map billD
def sumB (bs : List Bil) : Int := (bs.map fun b => b.2).sum
def lastB (bs : List Bil) : Int := match bs.getLast? with
  | some b => b.1
  | none => 0
theorem bill_0 (b : Bil) : qIx (billD b) (.int 0) = .ok (.int b.1) := qIx_at rfl rfl
theorem bill_1 (b : Bil) : qIx (billD b) (.int 1) = .ok (.int b.2) := qIx_at rfl rfl
theorem intsOf_ints : ∀ L : List Int, intsOf (L.map PyData.int) = some L
  | [] => rfl
  | i :: L => by
    show (intsOf (L.map PyData.int)).map (fun is => i :: is) = _
    rw [intsOf_ints L]
    rfl
theorem bSum_ints (L : List Int) : bSum (.list (L.map PyData.int)) = .ok (.int L.sum) := by
  unfold bSum
  simp only
  rw [intsOf_ints]
theorem sumB_app (bs : List Bil) (b : Bil) : sumB (bs ++ [b]) = sumB bs + b.2 := by simp [sumB]
theorem lastB_app (bs : List Bil) (b : Bil) : lastB (bs ++ [b]) = b.1 := by simp [lastB]
theorem lay_tupleD {n : Nat} {ds : List D} (h : ∀ d ∈ ds, Lay n d) : Lay (n + 1) (.tuple ds) := by
  obtain ⟨a, b⟩ := lay_all h
  exact ⟨by rw [PyData.canLay0]; exact a, by rw [PyData.depth]; omega⟩
theorem lay_bill (b : Bil) : Lay 1 (billD b) := lay_tupleD fun d hd => by
  simp only [List.mem_cons, List.not_mem_nil, or_false] at hd
  rcases hd with rfl | rfl
  · exact lay_int _
  · exact lay_int _
theorem lay_bills (bs : List Bil) : Lay 2 (.tuple (billsD bs)) := lay_tupleD fun d hd => by
  obtain ⟨b, _, rfl⟩ := List.mem_map.mp hd
  exact lay_bill b
theorem cut_front {α : Type} (xs : List α) (x : α) : cutD (xs ++ [x]) none (some (-1)) = xs := by
  unfold cutD
  have e : HT.sIx (xs ++ [x]).length (xs ++ [x]).length (some (-1)) = xs.length := by
    show (if (-1 : Int) < 0 then ((-1 : Int) + ((xs ++ [x]).length : Nat)).toNat else min (-1 : Int).toNat (xs ++ [x]).length) = xs.length
    rw [if_pos (by decide), List.length_append, List.length_singleton]
    omega
  rw [e, HT.sIx_none]
  simp
theorem Rest.take {t : St3} {es : List Ent} (h : Rest t es) (n : Nat) : Rest t (es.take n) :=
  ⟨h.pos, h.day, h.days.sublist (List.take_sublist _ _), fun e he => h.late e (List.mem_of_mem_take he), fun e he => h.fit e (List.mem_of_mem_take he)⟩
theorem log_small {x : Int} (h : -(2 ^ 60) ≤ x ∧ x ≤ 2 ^ 60) : x.natAbs.log2 < 1920 := by
  by_cases z : x.natAbs = 0
  · rw [z]
    decide
  · have := (Nat.log2_lt z (k := 64)).mpr (by omega)
    omega
end PD

namespace PD
open PySem PySem.Spec PyProof.Rows L2
section
variable {prog : Program} {w : World} {A : Around} {E : Value → Shared → Prop} {s : Shared}
/-- the items of a tuple, taken -/
theorem collect_tup {l : Addr} {vs : List Value} {Q : List Value → Shared → Prop} (hl : IsTup s.heap l vs.toArray) (hsz : vs.length ≤ sizeLine)
    (h : Q vs { s with heap := (s.heap.push (seqObj "list" #[] 0)).update s.heap.objs.size (Obj.mapSeq (· ++ vs.toArray)) }) : wpAny (model prog w) A (collect (.ref l)) Q E s := by
  obtain ⟨o, ho, hc, n, hd⟩ := hl
  have ho' : (s.heap.push (seqObj "list" #[] 0)).get? l = some o := Heap.get?_push_of_some _ ho; unfold collect
  refine wpAny_bind (wpAny_runValue (codeAny_builtin entry_proto_collect' ?_)); show wpAny _ _ (do again (.builtin "list.__iadd__" ⟨[← newList [], .ref l], []⟩)) _ _ s
  refine wpAny_bind (wpAny_newList (wpAny_pure ⟨Code.quiet_builtin _ (by decide +kernel), codeAny_builtin entry_list_iadd' ?_⟩)); show wpAny _ _ (Builtin.List.listExtendWith (.ref s.heap.objs.size) (.ref l) (.ref s.heap.objs.size)) _ _ { s with heap := s.heap.push (seqObj "list" #[] 0) }
  unfold Builtin.List.listExtendWith; refine wpAny_bind (wpAny_typeOf (T := "tuple") ⟨o, ho', hc⟩ ?_)
  rw [if_pos (by have ht : (Value.type "tuple" == Value.type "tuple") = true := by rfl
                 rw [ht]; simp)]
  refine wpAny_bind (listItems_at ho' hd (wpAny_bind (listItems_at (xs := #[]) (n := 0) (Heap.get?_push_size _ rfl) rfl ?_)))
  rw [if_neg (by simp)]; refine wpAny_bind (listUpdate_at (xs := #[]) (n := 0) (Heap.get?_push_size _ rfl) rfl (wpAny_pure ?_) (Nat.zero_le _) (by show (#[] ++ vs.toArray).size ≤ sizeLine + 1; simp only [Array.size_append, List.size_toArray, List.length_nil]; omega))
  show wpAny (model prog w) A (do
    let o ← load s.heap.objs.size
    match o.data with
    | .seq xs _ => pure xs.toList
    | _ => unsupported "internal:collect") Q E { s with heap := (s.heap.push (seqObj "list" #[] 0)).update s.heap.objs.size (Obj.mapSeq (· ++ vs.toArray)) }
  refine wpAny_bind (wpAny_load (get?_update_seq (Heap.get?_push_size _ rfl) _) ?_); show wpAny _ _ (pure ((#[] : Array Value) ++ vs.toArray).toList) Q E _
  have e : ((#[] : Array Value) ++ vs.toArray).toList = vs := by simp
  rw [e]
  exact wpAny_pure h
/-- sorted of a tuple is the sort of a new list -/
theorem sorted_tup {l : Addr} {vs : List Value} {kw : List (Str × Value)} {Q : Value → Shared → Prop} (hl : IsTup s.heap l vs.toArray) (hL : vs.length ≤ sizeLine) (ha1 : argsOk "sorted" ⟨[.ref l], kw⟩) (ha2 : ∀ x, argsOk "list.sort" ⟨[.ref x], kw⟩)
    (body : ∀ E' : Value → Shared → Prop, wpAny (model prog w) A.in1.in1 (Builtin.«list.sort» ⟨[.ref (s.heap.objs.size + 1)], kw⟩) (fun f s' => f = .done (.ret .none) ∧ Q (.ref (s.heap.objs.size + 1)) s') E' { s with heap := PySem.W.copyHeap s.heap vs }) :
    wpAny (model prog w) A (call (.builtin "sorted") [.ref l] kw) Q E s := by
  have hsz : ((s.heap.push (seqObj "list" #[] 0)).update s.heap.objs.size (Obj.mapSeq (· ++ vs.toArray))).objs.size = s.heap.objs.size + 1 := by rw [Heap.size_update, size_push']
  refine call_function_entry_kw kind_sorted plain_sorted entry_sorted ha1 ?_; unfold Builtin.«sorted»
  refine wpAny_bind (m := checkCount "sorted" 1 1 _) (wpAny_pure (wpAny_bind (collect_tup hl hL (wpAny_bind (wpAny_newList ?_ hL))))); show wpAny _ _ _ _ _ { s with heap := PySem.W.copyHeap s.heap vs }
  rw [hsz]; refine wpAny_bind (wpAny_holding (wpAny_call_entry_kw slot_list_sort ⟨_, PySem.W.copyHeap_at s.heap vs, rfl⟩ entry_list_sort ?_ (ha2 _)))
  refine wpAny_mono (body _) (fun f s' hf => ?_) fun _ _ e => e
  obtain ⟨e, hq⟩ := hf
  subst e
  exact ⟨_, rfl, wpAny_pure ⟨_, rfl, hq⟩⟩
/-- x[0], x a local name that holds a tuple -/
theorem lam_item {env : Env} {x : Str} {m : Str → Option Value} {a : Addr} {its : Array Value} {u : Value} {p1 p2 pos : Pos} {kd : Nat} (hk : env.scope.kind = .function) (hl : env.kindOf x = some .local) (hn : s.heap.Ns env.locals m) (hm : m x = some (.ref a)) (ht : IsTup s.heap a its) (hu : its[0]? = some u) (hz : its.size ≤ sizeLine) (hd : (x == ("__debug__" : Str)) = false) :
    wpAny (model prog w) A (eval (.Subscript (.Name x p1) (.Constant (.int 0) kd p2) pos) env) (fun v s' => v = u ∧ s' = { s with toks := s.toks + 1 }) E s := by
  refine Subscript_ (wpAny_Name (wpAny_loadName_local hk hl hn hm (wpAny_Constant_int ?_)) hd)
  have h1 : 0 < its.size := by
    have := (Array.getElem?_eq_some_iff.mp hu).1
    exact this
  have l63 := line63
  exact subscriptTail_builtinR (x := u) (T := "tuple") (s := { s with toks := s.toks + 1 }) ht.typeIs slot_tuple_getitem.lookup (getItem_tuple (j := 0) (Q := fun r s' => r = u ∧ (r = u ∧ s' = { s with toks := s.toks + 1 })) ht (by omega) (by omega) (by unfold seqIndex?; simp [h1]) hu ⟨rfl, rfl, rfl⟩)
/-- a call of a lambda: its code object bears any name -/
theorem call_lam {R : Result → Shared → Prop} {a : Addr} {args : Args} {o : Obj} {fd : FuncData} {body : Expr} {q : Str} (hroom : A.depth < recursionLimit) (ho : s.heap.get? a = some o) (hf : o.data = .func fd) (hco : fd.scope.isCoroutine = false) (hgen : fd.scope.isGenerator = false) (hbody : fd.body = .expr body) (hcd : s.heap.CodeRec fd.code q)
    (h : wpAny (model prog w) A.in1 (bindArgs fd args) (fun binds s₁ => wpAny (model prog w) A.in1 (newFunctionEnv fd.scope fd.globals fd.closure binds (q ++ ".<locals>.") (some a) fd.code none fd.builtins) (fun env s₂ => s₂.heap.NoLimit ∧ codeAny (model prog w) A (.expr body env) R s₂) (fun e s' => R (.error e) s') s₁) (fun e s' => R (.error e) s') s) :
    codeAny (model prog w) A (.call (.ref a) args) R s := by
  obtain ⟨c, oc, vs, tq, hc, hoc, hdc, hq⟩ := hcd
  rw [hc] at h
  refine codeAny_of_tree ?_; show wpAny _ A.in1 (callAny (.ref a) args) _ _ s
  simp only [callAny]; refine wpAny_bind (wpAny_load ho ?_)
  simp only [hf, callFunction, hco, hgen, hbody, hc]; refine wpAny_bind (m := field (.ref c) 1) (wpAny_field hoc hdc hq (wpAny_bind (wpAny_pure (wpAny_bind (wpAny_mono h (fun binds s₁ h₁ => ?_) fun _ _ z => z)))))
  exact wpAny_bind (wpAny_mono h₁ (fun env s₂ h₂ => wpAny_bind (wpAny_enterFrame h₂.1 hroom (wpAny_pure ⟨rfl, h₂.2⟩))) fun _ _ z => z)
/-- what the lambda told: told[0] gives of a tuple -/
theorem key_turn {f c' a : Addr} {nm qual q x : Str} {params : Arguments} {scope : Scope} {clos : List (Str × Addr)} {pm ctv : Value} {p1 p2 pos : Pos} {kd : Nat} {its : Array Value} {i : Int} {t : Tok} {h : Heap} {tk : Nat}
    (hroom : A.depth < recursionLimit) (of : h.get? f = some (PySem.W.kla_obj nm qual params (.Subscript (.Name x p1) (.Constant (.int 0) kd p2) pos) scope clos pm c' ctv)) (hc : h.CodeRec (.ref c') q) (ht : IsTup h a its) (hu : its[0]? = some (.int i t)) (hz : its.size ≤ sizeLine) (hn : h.NoLimit)
    (hbind : ∀ v : Value, bindArgs (PySem.W.kla_fn nm qual params (.Subscript (.Name x p1) (.Constant (.int 0) kd p2) pos) scope clos pm (.ref c') ctv) ⟨[v], []⟩ = pure [(x, v)]) (hx : scope.names.lookup x = some .local) (hk : scope.kind = .function) (hco : scope.isCoroutine = false) (hgen : scope.isGenerator = false) (hcell : ∀ y ∈ scope.names, y.2 ≠ .cell) (hd : (x == ("__debug__" : Str)) = false) :
    wpAny (model prog w) A (call (.ref f) [.ref a]) (PySem.W.KeyPure (.int i) { s with heap := h, toks := tk }) (fun _ _ => False) { s with heap := h, toks := tk } := by
  refine wpAny_call (call_lam (q := q) hroom of rfl hco hgen rfl hc ?_)
  rw [hbind]
  refine wpAny_pure (wpAny_newFunctionEnv hcell (fun y hy => ?_) (fun h₁ hns hsb => ⟨?_, ?_⟩) hk)
  · cases List.mem_singleton.mp hy
    exact hx
  · exact hn.fresh _ hsb
  · have kp : ∀ b o, h.get? b = some o → h₁.get? b = some o := fun b o e => hsb.extBut b o (Nat.ne_of_lt (Heap.lt_size e)) (Heap.get?_push_of_some _ e)
    obtain ⟨o, e1, e2, e3⟩ := ht
    refine PySem.W.kla_codeExpr (wpAny_mono (lam_item (x := x) (m := fun y => ([(x, Value.ref a)] : List (Str × Value)).reverse.lookup y) (a := a) (its := its) (u := .int i t) hk hx hns (by simp) ⟨o, kp _ _ e1, e2, e3⟩ hu hz hd) (fun v s' hv => ?_) fun e s' he => he)
    obtain ⟨rfl, rfl⟩ := hv
    exact ⟨h₁, _, rfl, kp, .int _ _⟩
end
end PD

namespace PD
open PySem PySem.Spec PyProof.Rows L2
section
variable {X : Cx} {pins : List (Addr × Obj)} {σ : L2.St} {H : Hp} {s : Shared}
/-- a lambda is made: its code object is new, or one that the table tells -/
theorem lam_made {c P : Addr} {params : Arguments} {body : Expr} {scope : Scope} {pos : Pos} {E : Value → Shared → Prop} {Q : Value → Shared → Prop} (I : Inv X pins σ H s) (TB : LamX.TabB X.base X.mg c P) (hcode : X.env.code = .ref c) (hT : TabG H P) (hdef : defaultsOf params X.env = ([], []))
    (hfree : ∀ y ∈ scope.names, y.2 = .free → ∃ c, X.env.cells.lookup y.1 = some c)
    (h : ∀ (f c' : Addr) (q : Str) (pm ctv : Value) (H1 : Hp) (s' : Shared), Inv X pins σ H1 s' → Same H H1 → (∃ qual clos, s'.heap.get? f = some (PySem.W.kla_obj "<lambda>" qual params body scope clos pm c' ctv)) → s'.heap.CodeRec (.ref c') q → Q (.ref f) s') :
    wpAny (model X.prog X.w) X.A (eval (.Lambda params body scope pos) X.env) Q E s := by
  obtain ⟨ps, hP, ht, hk⟩ := hT
  have bP : s.heap.BuiltinsAt X.mg P := TB.bm.keeps I.bk
  have hP' : s.heap.get? P = some { cls := .none, data := .fields ps } := I.hok P _ hP
  refine PySem.W.kla_eval hdef ?_
  cases hc : codeAmong pos ps.toList with
  | some cv =>
    obtain ⟨c', q, e, hq⟩ := hk pos cv hc
    subst e
    refine PySem.W.kla_makeFunctionHit (mg := X.mg) (c := c) (P := P) (ps := ps) (closure_ok hfree) I.ok.glob (I.mod.glob.keeps I.bk) hcode (TB.code.keeps I.bk) hP' ht hc bP fun ctv h' tk hx hsz => ?_
    have kp : ∀ b o, s.heap.get? b = some o → (h'.push (PySem.W.kla_obj "<lambda>" (X.env.qual ++ "<lambda>") params body scope (cloFrom X.env.cells scope.names []) ((X.mg "__name__").getD .none) c' ctv)).get? b = some o := fun b o e => Heap.get?_push_of_some _ (hx b o e)
    obtain ⟨⟨oc, vs, t, hoc, hdc, hvc⟩, _, _⟩ := I.hok c' _ hq
    exact h h'.objs.size c' q _ ctv H _ (I.kept kp) (Same.refl H) ⟨_, _, Heap.get?_push_size _ rfl⟩ ⟨c', oc, vs, t, rfl, kp _ _ hoc, hdc, hvc⟩
  | none =>
    refine PySem.W.kla_makeFunction (mg := X.mg) (c := c) (P := P) (ps := ps) (closure_ok hfree) I.ok.glob (I.mod.glob.keeps I.bk) hcode (TB.code.keeps I.bk) hP' ht hc TB.gP bP fun c' ctv h' tk hx hge hlt hrec htb => ?_
    obtain ⟨c2, oc, vs, t, e2, hoc, hd, hv⟩ := id hrec
    cases e2
    have nC : H c' = none := I.hok.fresh hge
    refine h h'.objs.size c' (X.env.qual ++ "<lambda>") ((X.mg "__name__").getD .none) ctv _ _ (LamX.inv_table (t' := tk) (h' := h'.push (PySem.W.kla_obj "<lambda>" (X.env.qual ++ "<lambda>") params body scope (cloFrom X.env.cells scope.names []) ((X.mg "__name__").getD .none) c' ctv)) I hP (fun b o hb e => Heap.get?_push_of_some _ (hx b o hb e)) (Heap.get?_push_of_some _ htb) hge ⟨oc, vs, t, Heap.get?_push_of_some _ hoc, hd, hv⟩) (same_table hP ht hk nC) ⟨_, _, Heap.get?_push_size _ rfl⟩ (hrec.push _)
/-- the first item of a row -/
def firstD : D → D
  | .tuple (d :: _) => d
  | _ => .none
def isRow : D → Bool
  | .tuple (.int _ :: _) => true
  | _ => false
def sortF (ds : List D) : List D := ds.mergeSort (PySem.W.dataLe false firstD)
/-- sorted(t, key=lambda x: x[0]), t a tuple of rows -/
def bSortF : D → Res D
  | .tuple ds => if ds.all isRow = true ∧ ds.length ≤ 16777216 then .ok (.list (sortF ds)) else .no
  | _ => .no
theorem RpL.pairs {K : PySem.W.Frag} {M : MS} {H : Hp} : ∀ ps : List (V × D), (∀ p ∈ ps, Rp K M H p.1 p.2) → RpL K M H (ps.map (·.1)) (ps.map (·.2))
  | [], _ => .nil
  | p :: ps, h => .cons (h p List.mem_cons_self) (RpL.pairs ps fun q hq => h q (List.mem_cons_of_mem _ hq))
theorem RpL.zipped {K : PySem.W.Frag} {M : MS} {H : Hp} : ∀ {vs : List V} {ds : List D}, RpL K M H vs ds → ∀ p ∈ vs.zip ds, Rp K M H p.1 p.2
  | _, _, .nil, p, hp => by simp at hp
  | _, _, .cons a t, p, hp => by
    rw [List.zip_cons_cons] at hp
    rcases List.mem_cons.mp hp with e | hp
    · subst e
      exact a
    · exact t.zipped p hp
/-- a value of a row: its address, its items -/
def RowAt (h : Heap) (u : Value) (p : V × D) : Prop := RelV p.1 u ∧ ∃ a its i t, u = .ref a ∧ IsTup h a its ∧ its[0]? = some (.int i t) ∧ its.size ≤ sizeLine ∧ firstD p.2 = .int i
theorem rows_at {M : MS} (I : Inv X pins σ H s) : ∀ {vs : List V} {us : List Value} {ds : List D}, Vals vs us → RpL X.K M H vs ds → ds.all isRow = true → PySem.W.EachIs (RowAt s.heap) us (vs.zip ds)
  | _, _, _, .nil, .nil, _ => .nil
  | v :: vs, u :: us, d :: ds, .cons r rs, .cons a t, h => by
    rw [List.all_cons, Bool.and_eq_true] at h
    refine .cons ?_ (rows_at I rs t h.2)
    have h1 := h.1
    unfold isRow at h1
    split at h1
    · rename_i i ds'
      cases a with
      | tup n rd l =>
        cases l with
        | cons a1 l1 =>
          cases a1
          obtain rfl := (show u = Value.ref _ from r)
          obtain ⟨its, rv, pl, hz⟩ := I.tuple (.inl rd)
          cases rv with
          | cons r0 rs0 =>
            obtain ⟨t0, rfl⟩ := (show ∃ t, _ = Value.int i t from r0)
            have rl := rs0.length
            refine ⟨rfl, _, _, i, t0, rfl, pl, by simp, ?_, rfl⟩
            rw [List.size_toArray, List.length_cons, ← rl]
            simpa using hz
    · cases h1
theorem each_len {α β : Type} {R : α → β → Prop} : ∀ {as : List α} {bs : List β}, PySem.W.EachIs R as bs → as.length = bs.length
  | _, _, .nil => rfl
  | _, _, .cons _ t => by simp [each_len t]
theorem each_vals {h : Heap} : ∀ {us : List Value} {ps : List (V × D)}, PySem.W.EachIs (RowAt h) us ps → Vals (ps.map (·.1)) us
  | _, _, .nil => .nil
  | _, _, .cons a t => .cons a.1 (each_vals t)
end
end PD

namespace PD
open PySem PySem.Spec PyProof.Rows L2
theorem row_first {d : D} (h : isRow d = true) : ∃ i, firstD d = .int i := by
  unfold isRow at h
  split at h
  · exact ⟨_, rfl⟩
  · cases h
theorem zip_row {xs : List V} {ds : List D} (h : ds.all isRow = true) : ∀ p ∈ xs.zip ds, ∃ i, firstD p.2 = .int i := fun p hp => row_first (List.all_eq_true.mp h _ (List.of_mem_zip hp).2)
section
variable {X : Cx} {W : PWs} {a : Expr} {ga : Rho → Res D} {pos p : Pos}
theorem de_sortK {k : Nat} {c P : Addr} {params : Arguments} {scope : Scope} {x : Str} {lpos kpos p1 p2 bpos : Pos} {kd : Nat} (hr : Room k X.A) (hm : X.mg "sorted" = none) (TB : LamX.TabB X.base X.mg c P) (hcode : X.env.code = .ref c) (hT : IsTab X.K P) (ha : DW X W a ga)
    (hx : scope.names.lookup x = some .local) (hk : scope.kind = .function) (hco : scope.isCoroutine = false) (hgen : scope.isGenerator = false) (hcell : ∀ y ∈ scope.names, y.2 ≠ .cell ∧ y.2 ≠ .free) (hd : (x == ("__debug__" : Str)) = false)
    (hbind : ∀ (v : Value) (nm qual : Str) (clos : List (Str × Addr)) (pm cd ctv : Value), bindArgs (PySem.W.kla_fn nm qual params (.Subscript (.Name x p1) (.Constant (.int 0) kd p2) bpos) scope clos pm cd ctv) ⟨[v], []⟩ = pure [(x, v)])
    (hdef : defaultsOf params X.env = ([], []) := by rfl) (hg : Gl X "sorted" := by rfl)
    (he0 : starEach (a :: []) X.env = (false, eval a X.env) :: starEach [] X.env := by rfl) (he : backTo pos (starEach (a :: []) X.env) = (false, eval a X.env) :: backTo pos (starEach [] X.env) := by rfl) (hpl : (backTo pos (starEach (a :: []) X.env)).any (·.1) = false := by rfl)
    (hall : (backToKw pos (keywordEach [⟨some "key", .Lambda params (.Subscript (.Name x p1) (.Constant (.int 0) kd p2) bpos) scope lpos, kpos⟩] X.env)).all (·.1.isSome) = true := by rfl) (hnone : (backToKw pos (keywordEach [⟨some "key", .Lambda params (.Subscript (.Name x p1) (.Constant (.int 0) kd p2) bpos) scope lpos, kpos⟩] X.env)).any (·.1.isNone) = false := by rfl)
    (hks : (backToKw pos (keywordEach [⟨some "key", .Lambda params (.Subscript (.Name x p1) (.Constant (.int 0) kd p2) bpos) scope lpos, kpos⟩] X.env)).filterMap (·.1) = [Str.ofString "key"] := by rfl) :
    DE X W (.Call (.Name "sorted" p) [a] [⟨some "key", .Lambda params (.Subscript (.Name x p1) (.Constant (.int 0) kd p2) bpos) scope lpos, kpos⟩] pos) (then1 ga bSortF) := by
  refine ⟨⟨fun pins s st H Q I ⟨r, M, en, q⟩ => ?_⟩⟩
  refine wpAny_Call_Name_kw (ld_blt I hg hm PyProof.Rows.boot_sorted ?_ (by decide) (by decide))
  refine PyProof.Rows.callWith_kw (thn ((pa_cons ha.run pa_nil he0).run pos pins s st H (fun vs H1 => ∃ v d, vs = [v] ∧ En X.K M H1 st r ∧ Rw X.K M H1 v d ∧ Dem X.K Rp W M st H1 (bSortF d) Q) I ⟨r, M, en, Dem.then (R := Rp) (Ra := Rw) en q fun d v H1 _ s1 en1 r1 q1 => ⟨v, d, rfl, en1, r1, q1⟩⟩) fun us s1 ⟨vs, H1, I1, r1, v, d, ev, en1, rd, q1⟩ => ?_) he hpl hall hnone
  rw [hks]
  subst ev
  obtain ⟨u, rfl, ru⟩ := r1.one
  refine wpAny_evalAll_cons (wpAny_bind (lam_made I1 TB hcode (en1.live.2 P hT) hdef (fun y hy e => absurd e (hcell y hy).2) fun f c' q pm ctv H2 s2 I2 sm2 of hc => wpAny_bind (wpAny_standAt (wpAny_pure (wpAny_evalAll_nil ?_)))))
  cases d <;> first
    | exact q1.elim
    | skip
  rename_i ds
  unfold bSortF at q1
  simp only at q1
  by_cases hrow : ds.all isRow = true ∧ ds.length ≤ 16777216
  rotate_left
  · rw [if_neg hrow] at q1
    exact q1.elim
  rw [if_pos hrow] at q1
  have en2 := en1.same sm2
  obtain ⟨a1, xs, rfl, rr, rl, nM⟩ := (rd.same sm2).tup_
  obtain rfl := (show u = Value.ref a1 from ru)
  obtain ⟨its, rv, pl, hz⟩ := I2.tuple (.inl rr)
  have hlx := rl.length
  have hli := rv.length
  have e := rows_at I2 rv rl hrow.1
  have hL : its.length ≤ sizeLine := by rw [← hli]; exact hz
  obtain ⟨qual, clos, of⟩ := of
  show wpAny _ _ (call (.builtin "sorted") [.ref a1] [(Str.ofString "key", .ref f)]) _ _ _
  have up : ∀ {g : Heap}, PySem.W.KeepsBut (s2.heap.objs.size + 1) (PySem.W.copyHeap s2.heap its) g → ∀ b o, s2.heap.get? b = some o → g.get? b = some o := fun {g} kp b o z => kp b o (Nat.ne_of_lt (Nat.lt_succ_of_lt (Heap.lt_size z))) (PySem.W.copyHeap_old z)
  refine sorted_tup pl hL (ksk_s1 _ _) (fun _ => ksk_l1 _ _) fun E' => ?_
  rw [ksk_t1]
  have zl : (xs.zip ds).length = its.length := by rw [List.length_zip, hlx, Nat.min_self, ← hlx, hli]
  refine PySem.W.keyH_tree (kz := (xs.zip ds).map fun p => firstD p.2) (s := { s2 with heap := PySem.W.copyHeap s2.heap its }) (PySem.W.copyHeap_at s2.heap its) (by rw [List.length_map]; exact zl) hL (fun d hd d' hd' => ?_) (.inr fun d hd => ?_) (fun d hd => ?_)
    (PySem.W.keyH_turns (s := { s2 with heap := PySem.W.copyHeap s2.heap its }) (R := RowAt s2.heap) e fun v p hR hp h tk kp => ?_) fun h' tk out c kp hD ko => ⟨rfl, ?_⟩
  · obtain ⟨p, hp, rfl⟩ := List.mem_map.mp hd
    obtain ⟨p', hp', rfl⟩ := List.mem_map.mp hd'
    obtain ⟨i, e1⟩ := zip_row hrow.1 p hp
    obtain ⟨j, e2⟩ := zip_row hrow.1 p' hp'
    rw [e1, e2]
    simp [PySem.W.alike]
  · obtain ⟨p, hp, rfl⟩ := List.mem_map.mp hd
    obtain ⟨i, e1⟩ := zip_row hrow.1 p hp
    rw [e1]
    exact ⟨(by intro z; cases z), (by intro xs z; cases z)⟩
  · obtain ⟨p, hp, rfl⟩ := List.mem_map.mp hd
    obtain ⟨i, e1⟩ := zip_row hrow.1 p hp
    rw [e1]
    have := hr.un
    simp only [PyData.depth, Around.in1_units]
    omega
  · obtain ⟨_, a2, its2, i, t, rfl, t2, u2, z2, f2⟩ := hR
    simp only
    rw [f2]
    have k2 := up kp
    obtain ⟨o2, x1, x2, x3⟩ := t2
    exact key_turn (s := { s2 with heap := PySem.W.copyHeap s2.heap its }) (by have := hr.dp; simp only [Around.in1_depth]; omega) (k2 _ _ of) (hc.keeps k2) ⟨o2, k2 _ _ x1, x2, x3⟩ u2 z2 (I2.nolimit.keeps k2) (fun v => hbind v _ _ _ _ _ _) hx hk hco hgen (fun y hy => (hcell y hy).1) hd
  · have eo := PySem.W.keyedOut_each (fun p : V × D => firstD p.2) ko e
    have lo := each_len eo
    have fr : H2 (s2.heap.objs.size + 1) = none := I2.hok.fresh (Nat.le_succ _)
    have ed : ((xs.zip ds).mergeSort (PySem.W.dataLe false fun p => firstD p.2)).map (·.2) = sortF ds := by
      rw [List.map_mergeSort (r := PySem.W.dataLe false fun p : V × D => firstD p.2) (s := PySem.W.dataLe false firstD) (f := fun p : V × D => p.2) (fun _ _ _ _ => rfl)]
      have z : (xs.zip ds).map (·.2) = ds := by
        rw [List.map_snd_zip]
        omega
      rw [z]
      rfl
    have rp : RpL X.K M H2 (((xs.zip ds).mergeSort (PySem.W.dataLe false fun p => firstD p.2)).map (·.1)) (sortF ds) := by
      rw [← ed]
      exact RpL.pairs _ fun p hp => rl.zipped p ((List.mergeSort_perm _ _).mem_iff.mp hp)
    have ol : (((xs.zip ds).mergeSort (PySem.W.dataLe false fun p => firstD p.2)).map (·.1)).length ≤ sizeLine := by
      rw [List.length_map, (List.mergeSort_perm _ _).length_eq, zl]
      exact hL
    exact ⟨.ref _, upd H2 (s2.heap.objs.size + 1) (.lst _), I2.laid (t' := tk) (up kp) (Nat.le_succ _) ⟨ol, out, c, each_vals eo, hD⟩, rfl, q1 _ _ (sm2.trans (same_upd fr)) (.lst (en2.fresh fr) (.inl upd_same) (rp.same (same_upd fr)))⟩
end
end PD

namespace PD
open PySem PySem.Spec PyProof.Rows L2
/-- a row of whole numbers -/
def isInts : D → Bool
  | .tuple (d :: ds) => (intsOf (d :: ds)).isSome
  | _ => false
theorem intsOf_eq : ∀ {ds : List D} {ns : List Int}, intsOf ds = some ns → ds = ns.map PyData.int
  | [], _, e => by cases e; rfl
  | d :: ds, ns, e => by
    cases d <;> first
      | (cases e; done)
      | skip
    rename_i i
    have e' : (intsOf ds).map (fun is => i :: is) = some ns := e
    cases ei : intsOf ds with
    | none => rw [ei] at e'; cases e'
    | some ms =>
      rw [ei] at e'
      cases e'
      rw [intsOf_eq ei]
      rfl
theorem ints_row {d : D} (h : isInts d = true) : ∃ (i : Int) (ns : List Int), d = .tuple ((i :: ns).map PyData.int) := by
  unfold isInts at h
  split at h
  · rename_i d ds
    cases ei : intsOf (d :: ds) with
    | none => rw [ei] at h; cases h
    | some ns =>
      have e := intsOf_eq ei
      cases ns with
      | nil => cases e
      | cons i ns => exact ⟨i, ns, by rw [e]⟩
  · cases h
theorem row_lay {ns : List Int} : Lay 1 (.tuple (ns.map PyData.int)) := lay_tupleD fun d hd => by
  obtain ⟨i, _, rfl⟩ := List.mem_map.mp hd
  exact lay_int i
def sortT (ds : List D) : List D := ds.mergeSort (PySem.W.dataLe false fun d => d)
/-- sorted(x), x a list of rows of whole numbers -/
def bSortT : D → Res D
  | .list ds => if ds.all isInts = true then .ok (.list (sortT ds)) else .no
  | _ => .no
def rSortT (K : PySem.W.Frag) : List V → Hp → VK → Prop := fun xs H Q => ∃ (a : Addr) (vs : List V) (ds : List D), xs = [.ref a] ∧ SqL K H a vs ∧ DpAll K H vs ds ∧ vs.length = ds.length ∧ ds.all isInts = true ∧
  ∀ p, H p = none → Q (.ref p) (upd H p (.lst (((vs.zip ds).mergeSort (PySem.W.dataLe false fun b : V × D => b.2)).map (·.1))))
section
variable {X : Cx}
theorem each_reads {pins : List (Addr × Obj)} {σ : L2.St} {H : Hp} {s : Shared} (I : Inv X pins σ H s) : ∀ {vs : List V} {us : List Value} {ds : List D}, Vals vs us → DpAll X.K H vs ds →
    PySem.W.EachIs (fun u (p : V × D) => RelV p.1 u) us (vs.zip ds) ∧ PySem.W.EachIs (fun u (p : V × D) => ∃ as, Reads s.heap u p.2 as) us (vs.zip ds)
  | _, _, _, .nil, .nil => ⟨.nil, .nil⟩
  | v :: vs, u :: us, d :: ds, .cons r rs, .cons a t => by
    obtain ⟨e1, e2⟩ := each_reads I rs t
    exact ⟨.cons r e1, .cons (Dp.reads I d v u a r) e2⟩
theorem each_vals2 : ∀ {us : List Value} {ps : List (V × D)}, PySem.W.EachIs (fun u (p : V × D) => RelV p.1 u) us ps → Vals (ps.map (·.1)) us
  | _, _, .nil => .nil
  | _, _, .cons a t => .cons a (each_vals2 t)
theorem cr_sortT (hu : X.A.units + 64 < cLine) : CallR X (.builtin "sorted") (rSortT X.K) := by
  intro pins s σ H xs us Q I r h
  obtain ⟨a, vs, ds, rfl, hs, dp, hlen, hi, q⟩ := h
  obtain ⟨its, rv, hl, hz⟩ := I.list hs
  rw [Vals.ref1 r]
  have hli := rv.length
  have zl : (vs.zip ds).length = vs.length := by rw [List.length_zip, ← hlen, Nat.min_self]
  obtain ⟨e1, e2⟩ := each_reads I rv dp
  have row : ∀ p ∈ vs.zip ds, ∃ (i : Int) (ns : List Int), p.2 = .tuple ((i :: ns).map PyData.int) := fun p hp => ints_row (List.all_eq_true.mp hi _ (List.of_mem_zip hp).2)
  refine PySem.W.sorted_data (enc := fun p : V × D => p.2) hl.isList e1 e2 (fun d hd d' hd' => ?_) (.inl fun d hd => ?_) (by rw [zl]; exact hz) (fun p hp => ?_) fun out ho eo => ?_
  · obtain ⟨p, hp, rfl⟩ := List.mem_map.mp hd
    obtain ⟨p', hp', rfl⟩ := List.mem_map.mp hd'
    obtain ⟨i, ns, h1⟩ := row p hp
    obtain ⟨j, ms, h2⟩ := row p' hp'
    rw [h1, h2, PySem.W.alike]
    exact PySem.W.alike_ints _ _
  · obtain ⟨p, hp, rfl⟩ := List.mem_map.mp hd
    obtain ⟨i, ns, h1⟩ := row p hp
    exact ⟨_, _, h1⟩
  · obtain ⟨i, ns, h1⟩ := row p hp
    have l := (row_lay (ns := i :: ns)).2
    show X.A.units + 2 + p.2.depth < cLine
    rw [h1]
    omega
  · obtain ⟨ep, he'⟩ := PyProof.Rows.sortedAll_at s.heap its out.toArray
    have ol : (((vs.zip ds).mergeSort (PySem.W.dataLe false fun b : V × D => b.2)).map (·.1)).length ≤ sizeLine := by
      rw [List.length_map, (List.mergeSort_perm _ _).length_eq, zl]
      exact hz
    exact ⟨.ref _, upd H (s.heap.objs.size + 1) (.lst _), I.laid (t' := s.toks) (fun _ _ => PyProof.Rows.sortedAll_old) (Nat.le_succ _) ⟨ol, out, ep, each_vals2 eo, he'⟩, rfl, q _ (I.hok.fresh (Nat.le_succ _))⟩
end
section
variable {K : PySem.W.Frag} {X : Cx} {W : PWs} {a : Expr} {ga : Rho → Res D} {pos p : Pos}
theorem opc_sortT : OpC1 K W (rSortT K) bSortT := by
  intro M st rh H x d Q en rx q
  cases d <;> first
    | exact q.elim
    | skip
  rename_i ds
  obtain ⟨a, xs, rfl, rr, l⟩ := rx.lst_
  unfold bSortT at q
  simp only at q
  by_cases hi : ds.all isInts = true
  · rw [if_pos hi] at q
    refine ⟨a, xs, ds, rfl, rr, RpL.dp ds xs l, l.length, hi, fun p hp => q _ _ (same_upd hp) (.lst (en.fresh hp) (.inl upd_same) (RpL.same ?_ (same_upd hp)))⟩
    have ed : ((xs.zip ds).mergeSort (PySem.W.dataLe false fun b : V × D => b.2)).map (·.2) = sortT ds := by
      rw [List.map_mergeSort (r := PySem.W.dataLe false fun b : V × D => b.2) (s := PySem.W.dataLe false fun d : D => d) (f := fun b : V × D => b.2) (fun _ _ _ _ => rfl)]
      have z : (xs.zip ds).map (·.2) = ds := by
        rw [List.map_snd_zip]
        have := l.length
        omega
      rw [z]
      rfl
    rw [← ed]
    exact RpL.pairs _ fun p hp => l.zipped p ((List.mergeSort_perm _ _).mem_iff.mp hp)
  · rw [if_neg hi] at q
    exact q.elim
theorem de_sortT (hu : X.A.units + 64 < cLine) (hm : X.mg "sorted" = none) (ha : DW X W a ga) (hg : Gl X "sorted" := by rfl)
    (he : starEach (a :: []) X.env = (false, eval a X.env) :: starEach [] X.env := by rfl) (hpl : (backTo pos (starEach [] X.env)).any (·.1) = false := by rfl) : DE X W (.Call (.Name "sorted" p) [a] [] pos) (then1 ga bSortT) :=
  de_b1 (cr_sortT hu) opc_sortT hm PyProof.Rows.boot_sorted ha hg (by decide) (by decide) he hpl
end
end PD

namespace PD
open PySem PySem.Spec PyProof.Rows L2
/-! ### tariffs, sorted by their days -/
def tarSort (ts : List Tar) : List Tar := ts.mergeSort fun a b => decide (a.day ≤ b.day)
theorem tarSort_perm (ts : List Tar) : (tarSort ts).Perm ts := List.mergeSort_perm _ _
theorem tarSort_le (ts : List Tar) : (tarSort ts).Pairwise fun a b => a.day ≤ b.day := by
  have h := List.pairwise_mergeSort (le := fun a b : Tar => decide (a.day ≤ b.day)) (fun a b c h1 h2 => by simp only [decide_eq_true_eq] at *; omega) (fun a b => by simp only [Bool.or_eq_true, decide_eq_true_eq]; omega) ts
  exact h.imp fun z => of_decide_eq_true z
theorem tarSort_asc {ts : List Tar} (h : (ts.map Tar.day).Nodup) : ((tarSort ts).map Tar.day).Pairwise (· < ·) := by
  have n : ((tarSort ts).map Tar.day).Nodup := ((tarSort_perm ts).map Tar.day).nodup_iff.mpr h
  have p : ((tarSort ts).map Tar.day).Pairwise (· ≤ ·) := List.pairwise_map.mpr (tarSort_le ts)
  exact (List.pairwise_and_iff.mpr ⟨p, n⟩).imp fun z => by omega
theorem tarSort_ok {ts : List Tar} (h : ∀ t ∈ ts, t.ok) : ∀ t ∈ tarSort ts, t.ok := fun t ht => h t ((tarSort_perm ts).mem_iff.mp ht)
theorem day_inj : ∀ {ts : List Tar} {a b : Tar}, (ts.map Tar.day).Nodup → a ∈ ts → b ∈ ts → a.day = b.day → a = b
  | [], _, _, _, h, _, _ => by cases h
  | t :: ts, a, b, n, ha, hb, e => by
    rw [List.map_cons, List.nodup_cons] at n
    rcases List.mem_cons.mp ha with h1 | h1
    · rcases List.mem_cons.mp hb with h2 | h2
      · rw [h1, h2]
      · exact absurd (List.mem_map.mpr ⟨b, h2, by rw [← e, h1]⟩) n.1
    · rcases List.mem_cons.mp hb with h2 | h2
      · exact absurd (List.mem_map.mpr ⟨a, h1, by rw [e, h2]⟩) n.1
      · exact day_inj n.2 h1 h2 e
/-- a list of tariffs of different days, sorted in whatever way that goes by the days, is the one -/
theorem tarSort_uniq {ts us : List Tar} (n : (ts.map Tar.day).Nodup) (p : us.Perm ts) (s : us.Pairwise fun a b => a.day ≤ b.day) : us = tarSort ts := by
  refine List.Perm.eq_of_pairwise (le := fun a b : Tar => a.day ≤ b.day) (fun a b ha hb h1 h2 => ?_) s (tarSort_le ts) (p.trans (tarSort_perm ts).symm)
  have ha' := p.mem_iff.mp ha
  have hb' := (tarSort_perm ts).mem_iff.mp hb
  have e : a.day = b.day := Int.le_antisymm h1 h2
  clear ha hb h1 h2 s p
  exact day_inj n ha' hb' e
theorem sortF_tars (ts : List Tar) : sortF (tarsD ts) = tarsD (tarSort ts) := by
  unfold sortF tarsD tarSort
  refine (List.map_mergeSort (r := fun a b : Tar => decide (a.day ≤ b.day)) (s := PySem.W.dataLe false firstD) (f := Tar.dat) fun a _ b _ => ?_).symm
  have e := congrFun (congrFun (PySem.W.dataLe_int (fun t : Tar => t.day)) a) b
  exact e.symm
theorem dataLe_tar {a b : Tar} (h : a.day ≠ b.day) (l : PySem.W.dataLe false (fun d : D => d) a.dat b.dat = true) : a.day ≤ b.day := by
  have z : (!PySem.W.dataLt b.dat a.dat) = true := l
  unfold Tar.dat at z
  rw [PySem.W.dataLt_tuple, PySem.W.dataLt_cons (by simp [PySem.W.alike]), if_neg (by simp [PyData.eqv]; exact fun q => h q.symm), PySem.W.dataLt_int] at z
  simpa using z
theorem sortT_tars {ts : List Tar} (n : (ts.map Tar.day).Nodup) : sortT (tarsD ts) = tarsD (tarSort ts) := by
  have e : sortT (tarsD ts) = tarsD (ts.mergeSort (PySem.W.dataLe false Tar.dat)) := by
    unfold sortT tarsD
    exact (List.map_mergeSort (r := PySem.W.dataLe false Tar.dat) (s := PySem.W.dataLe false fun d : D => d) (f := Tar.dat) fun a _ b _ => rfl).symm
  rw [e]
  congr 1
  have tl : PySem.W.TotalLe (PySem.W.dataLe false Tar.dat) := PySem.W.sortLe_total _ _ _
  have pm := List.mergeSort_perm ts (PySem.W.dataLe false Tar.dat)
  have pw := List.pairwise_mergeSort (le := PySem.W.dataLe false Tar.dat) (fun a b c h1 h2 => tl.trans a b c h1 h2) (fun a b => by rw [Bool.or_eq_true]; exact tl.total a b) ts
  refine tarSort_uniq n pm ?_
  have nd : ((ts.mergeSort (PySem.W.dataLe false Tar.dat)).map Tar.day).Nodup := (pm.map Tar.day).nodup_iff.mpr n
  have nd2 : (ts.mergeSort (PySem.W.dataLe false Tar.dat)).Pairwise fun a b => a.day ≠ b.day := List.pairwise_map.mp nd
  exact (List.pairwise_and_iff.mpr ⟨pw, nd2⟩).imp fun z => dataLe_tar z.2 z.1
theorem tars_rows (ts : List Tar) : (tarsD ts).all isRow = true := by
  unfold tarsD
  rw [List.all_map]
  exact List.all_eq_true.mpr fun t _ => rfl
theorem tars_ints (ts : List Tar) : (tarsD ts).all isInts = true := by
  unfold tarsD
  rw [List.all_map]
  exact List.all_eq_true.mpr fun t _ => rfl
theorem eq_int (i j : Int) : qEq (.int i) (.int j) = .ok (.bool (decide (i = j))) := by
  rw [qEq_lay (lay_int (n := 0) i) (lay_int (n := 0) j)]
  simp only [PyData.eqv]
  by_cases h : i = j <;> simp [h]
theorem boolsOf_map : ∀ bs : List Bool, boolsOf (bs.map PyData.bool) = some bs
  | [] => rfl
  | b :: bs => by
    show (boolsOf (bs.map PyData.bool)).map (fun is => b :: is) = _
    rw [boolsOf_map bs]
    rfl
theorem lay_tar (t : Tar) : Lay 1 t.dat := row_lay (ns := [t.day, t.st, t.low, t.lim, t.high])
theorem lay_tars (ts : List Tar) : Lay 2 (.list (tarsD ts)) := lay_list fun d hd => by
  obtain ⟨t, _, rfl⟩ := List.mem_map.mp hd
  exact lay_tar t
theorem lay_tarO (o : Option Tar) : Lay 1 (tarO o) := by
  cases o with
  | none => exact lay_none
  | some t => exact lay_tar t
end PD

namespace PD
open PySem PySem.Spec PyProof.Rows L2
/-! ### several except clauses without names -/
abbrev Hd := (Nat → Bool) × (Nat → Rho → Out)
def pickM : List Hd → Nat → Rho → Out
  | [], c, r => .ex c r
  | h :: t, c, r => if h.1 c then (h.2 c r).flat else pickM t c r
def tryM (f : Rho → Out) (hs : List Hd) (r : Rho) : Out := match f r with
  | .ex c r2 => pickM hs c r2
  | o => o
section
variable {X : Cx} {W : PWs} {cs : Nat → Addr} {pos : Pos} {f : Rho → Out}
def tsOf (K : PySem.W.Frag) (cs : Nat → Addr) (su : Nat → Rho → Out) : Addr → Value → Option Addr → TS := fun a cls d E st H => ∃ c, cls = .ref (cs c) ∧ d = none ∧ ∃ M0 H0, tS K W0 M0 H0 (su c) E st H
inductive DHds (X : Cx) (cs : Nat → Addr) : List ExceptHandler → List Hd → List (Value × (Addr → Value → Option Addr → TS)) → Prop
  | nil : DHds X cs [] [] []
  | cons {x : Str} {C : Value} {hd : Nat → Bool} {su : Nat → Rho → Out} {b0 : Stmt} {suite : List Stmt} {np pos' : Pos} {hds : List ExceptHandler} {l : List Hd} {L : List (Value × (Addr → Value → Option Addr → TS))} (hc : L2.Names X x C) (hm : ∀ c, PySem.W.exmOne X.K (.ref (cs c)) C = some (hd c))
      (hsu : ∀ (c : Nat) (a : Addr) (oe : Obj) (pn : List (Addr × Obj)), Zc (.ref (cs c)) none oe → (∃ vs, oe.data = .fields vs) → DSs (X.suite a ((a, oe) :: pn)) W0 (b0 :: suite) (su c)) (r : DHds X cs hds l L) :
      DHds X cs (.ExceptHandler (some (.Name x np)) none (b0 :: suite) pos' :: hds) ((hd, su) :: l) ((C, tsOf X.K cs su) :: L)
theorem DHds.ok {hds : List ExceptHandler} {l : List Hd} {L : List (Value × (Addr → Value → Option Addr → TS))} (h : DHds X cs hds l L) : HdsOk X hds L := by
  induction h with
  | nil => exact .nil
  | cons hc hm hsu r ih =>
    refine .cons hc (fun a oe cls d pn hz hf => ⟨fun pins s st H E I z => ?_⟩) ih
    obtain ⟨c, e1, e2, M0, H0, q⟩ := z
    subst e1 e2
    exact ((hsu c a oe pn hz hf).run M0 H0).run pins s st H E I q
theorem pick_ok {M0 M2 : MS} {H0 H2 : Hp} {E : Ends} {c : Nat} {r : Rho} {st2 : Sg} (t2 : Sts X.K M0 H0 M2 H2 st2 r) {hds : List ExceptHandler} {l : List Hd} {L : List (Value × (Addr → Value → Option Addr → TS))} (h : DHds X cs hds l L) (q : DemS X.K W M0 H0 E (pickM l c r)) :
    wMany X.K (lft cs W) E L (.ref (cs c)) none st2 H2 := by
  induction h with
  | nil => exact ⟨c, rfl, rfl, q M2 st2 H2 t2⟩
  | @cons x C hd su b0 suite np pos' hds l L hc hm hsu r' ih =>
    have q' : DemS X.K W M0 H0 E (if hd c then (su c r).flat else pickM l c r) := q
    refine ⟨hd c, hm c, fun e a ha => ⟨c, rfl, rfl, M0, H0, r, M2, t2, ?_⟩, fun e => ?_⟩
    · rw [if_pos e] at q'
      revert q'
      cases su c r with
      | nx r3 => exact fun q => q
      | bk r3 => exact fun q => q
      | ct r3 => exact fun q => q
      | rt d => exact fun q => q
      | ex c3 r3 => exact fun q => q.elim
      | no => exact fun q => q
    · rw [e] at q'
      exact ih q'
theorem ds_try_many {body : List Stmt} {h0 : ExceptHandler} {hds : List ExceptHandler} {l : List Hd} {L : List (Value × (Addr → Value → Option Addr → TS))} (hs : X.stack = X.env :: X.outer) (hf : X.env.frame = some X.env.locals) (tk : Takes X (lft cs W))
    (hb : ∀ (W : PWs) (pn : List (Addr × Obj)) (xe : Value → Shared → Prop), Takes (X.tr pn xe) (lft cs W) → PassesOwn (model X.prog X.w) X.A X.env xe → DSs (X.tr pn xe) W body f)
    (hh : DHds X cs (h0 :: hds) l L) : DS X W (.Try body (h0 :: hds) [] [] pos) (tryM f l) := by
  refine ⟨fun M0 H0 => (ps_try_many (tb := fun WW E st H => ∃ (M0 : MS) (H0 : Hp) (W' : PWs), (∀ c st H, W' c st H → WW (.ref (cs c)) none st H) ∧ tS X.K W' M0 H0 f E st H) hs hf tk (fun WW pn xe tk' po => ⟨fun pins s st H E I z => ?_⟩) hh.ok).imp fun E st H z => ?_⟩
  · obtain ⟨M0, H0, W', hW, q⟩ := z
    exact ((hb W' pn xe (tk'.imp fun cls d st H ⟨c, e1, e2, z⟩ => by subst e1 e2; exact hW c st H z) po).run M0 H0).run pins s st H E I q
  · obtain ⟨r, M, t, q⟩ := z
    refine ⟨M0, H0, fun c st H => wMany X.K (lft cs W) E L (.ref (cs c)) none st H, fun _ _ _ z => z, r, M, t, ?_⟩
    unfold tryM at q
    revert q
    cases f r with
    | nx r2 => exact fun q => q
    | bk r2 => exact fun q => q
    | ct r2 => exact fun q => q
    | rt d => exact fun q => q
    | no => exact fun q => q
    | ex c r2 => exact fun q M2 st2 H2 t2 => pick_ok t2 hh q
end
end PD

namespace PD
open PySem PySem.Spec PyProof.Rows L2
/-! ### deeds, and what stands between them -/
abbrev sTariff : Str := PySem.Str.ofString "tariff"
abbrev sBill : Str := PySem.Str.ofString "bill"
abbrev sStrike : Str := PySem.Str.ofString "strike"
abbrev sDone : Str := PySem.Str.ofString "done"
abbrev sCounts : Str := PySem.Str.ofString "counts"
abbrev sDoubted : Str := PySem.Str.ofString "doubted"
abbrev sNoMeter : Str := PySem.Str.ofString "no meter"
inductive Dd where
  | tar (t : Tar) | ent (e : Ent) | bill (d : Int) | strike (d : Int)
def Ent.deed : Ent → D
  | .start d s v => .tuple [.str sStart, .int d, .int s, .int v]
  | .read d v _ => .tuple [.str sRead, .int d, .int v]
  | .change d v s w => .tuple [.str sChange, .int d, .int v, .int s, .int w]
def Tar.deed (t : Tar) : D := .tuple [.str sTariff, .int t.day, .int t.st, .int t.low, .int t.lim, .int t.high]
def billDeed (d : Int) : D := .tuple [.str sBill, .int d]
def strikeDeed (d : Int) : D := .tuple [.str sStrike, .int d]
def Dd.dat : Dd → D
  | .tar t => t.deed
  | .ent e => e.deed
  | .bill d => billDeed d
  | .strike d => strikeDeed d
def Dd.isBill : Dd → Bool
  | .bill _ => true
  | _ => false
def deedsD (ds : List Dd) : List D := ds.map Dd.dat
structure PSt where
  es : List Ent
  ts : List Tar
  bs : List Bil
def PSt.dat (s : PSt) : D := .tuple [hist s.es, .tuple (tarsD s.ts), .tuple (billsD s.bs)]
/-! ### histories -/
def Hst (es : List Ent) : Prop := ∃ d z w r, es = .start d z w :: r ∧ Rest (d, z, w) r ∧ d ≤ 1000000 ∧ r.length ≤ 100
def gapsOf (m : Int) : List Ent → List St3
  | .start d z w :: r => gap m (d, z, w) r
  | _ => []
def day0 : List Ent → Int
  | e :: _ => e.day
  | [] => 0
def owes (m : Int) (es : List Ent) (ts : List Tar) (d : Int) : Int := sumC ts (gapsOf m es) (day0 es) (d - day0 es).toNat
theorem Rest.snoc {t : St3} {es : List Ent} {e : Ent} (h : Rest t es) (hl : ∀ f ∈ es, f.day < e.day) (h1 : t.1 < e.day ∧ e.day ≤ 1000000) (hf : e.later) : Rest t (es ++ [e]) := by
  refine ⟨h.pos, h.day, ?_, fun f hf' => ?_, fun f hf' => ?_⟩
  · rw [List.pairwise_append]
    refine ⟨h.days, by simp, fun a ha b hb => ?_⟩
    cases List.mem_singleton.mp hb
    exact hl a ha
  · rcases List.mem_append.mp hf' with z | z
    · exact h.late f z
    · cases List.mem_singleton.mp z
      exact h1
  · rcases List.mem_append.mp hf' with z | z
    · exact h.fit f z
    · cases List.mem_singleton.mp z
      exact hf
theorem Rest.below_last {t : St3} : ∀ {es : List Ent} {l : Ent}, Rest t es → es.getLast? = some l → ∀ f ∈ es, f.day ≤ l.day
  | [], _, _, h, _, _ => by cases h
  | [a], l, _, h, f, hf => by
    cases h
    cases List.mem_singleton.mp hf
    exact Int.le_refl _
  | a :: b :: es, l, r, h, f, hf => by
    have h' : (b :: es).getLast? = some l := by simpa [List.getLast?_cons] using h
    have ih := Rest.below_last r.skip h'
    rcases List.mem_cons.mp hf with rfl | hf
    · have h1 := (List.pairwise_cons.mp r.days).1 b List.mem_cons_self
      have h2 := ih b List.mem_cons_self
      omega
    · exact ih f hf
theorem Hst.last {es : List Ent} (h : Hst es) : ∃ l, es.getLast? = some l ∧ (∀ f ∈ es, f.day ≤ l.day) ∧ 0 ≤ l.day ∧ l.day ≤ 1000000 := by
  obtain ⟨d, z, w, r, rfl, hr, hd, _⟩ := h
  cases hl : r.getLast? with
  | none =>
    have e : r = [] := List.getLast?_eq_none_iff.mp hl
    subst e
    exact ⟨_, rfl, fun f hf => by cases List.mem_singleton.mp hf; exact Int.le_refl _, hr.day, hd⟩
  | some l =>
    have hb := hr.below_last hl
    have hm := List.mem_of_getLast? hl
    have h1 := hr.late l hm
    have h0 := hr.day
    refine ⟨l, by simp [List.getLast?_cons, hl], fun f hf => ?_, by simp only at h1; omega, by omega⟩
    rcases List.mem_cons.mp hf with rfl | hf
    · simp only [Ent.day] at h1 ⊢
      omega
    · exact hb f hf
theorem Hst.snoc {es : List Ent} {e l : Ent} (h : Hst es) (hl : es.getLast? = some l) (h1 : l.day < e.day) (h2 : e.day ≤ 1000000) (hf : e.later) (hn : es.length ≤ 100) : Hst (es ++ [e]) := by
  obtain ⟨l', e1, hb, _, _⟩ := h.last
  rw [hl] at e1
  cases e1
  obtain ⟨d, z, w, r, rfl, hr, hd, _⟩ := h
  have h0 : d ≤ l.day := hb (.start d z w) List.mem_cons_self
  exact ⟨d, z, w, r ++ [e], rfl, hr.snoc (fun f hf => by have := hb f (List.mem_cons_of_mem _ hf); omega) ⟨by simp only; omega, h2⟩ hf, hd, by simp at hn ⊢; omega⟩
theorem size_bound {es : List Ent} (h : ∀ e ∈ es, e.later) : ∀ c : Int, 0 < c ∧ c ≤ 1000000000000 → 0 < lastSize c es ∧ lastSize c es ≤ 1000000000000 := by
  induction es with
  | nil => exact fun c hc => hc
  | cons e es ih =>
    intro c hc
    have he := h e List.mem_cons_self
    refine ih (fun f hf => h f (List.mem_cons_of_mem _ hf)) (e.size c) ?_
    cases e with
    | start => exact he.elim
    | read => exact hc
    | change d v s w => exact he
theorem Hst.size {es : List Ent} (h : Hst es) : 0 < lastSize 0 es ∧ lastSize 0 es ≤ 1000000000000 := by
  obtain ⟨d, z, w, r, rfl, hr, _⟩ := h
  exact size_bound hr.fit z hr.pos
theorem Hst.head {es : List Ent} (h : Hst es) : OkHead es := by
  obtain ⟨d, z, w, r, rfl, hr, _⟩ := h
  intro e he
  cases he
  rfl
theorem Hst.ne {es : List Ent} (h : Hst es) : es ≠ [] := by
  obtain ⟨d, z, w, r, rfl, _⟩ := h
  simp
theorem gap_mark (m : Int) (d v : Int) (b : List Ent) : ∀ (a : List Ent) (t : St3), gap m t (a ++ .read d v true :: b) = gap m t (a ++ b)
  | [], t => by
    show (if Ent.cnt m t (.read d v true) then _ else gap m t b) = gap m t b
    rw [if_neg (by rw [cnt_read]; simp)]
  | e :: a, t => by
    show (if e.cnt m t then (t.1, e.day, e.use t) :: gap m (e.beh t) (a ++ .read d v true :: b) else gap m t (a ++ .read d v true :: b)) = (if e.cnt m t then (t.1, e.day, e.use t) :: gap m (e.beh t) (a ++ b) else gap m t (a ++ b))
    rw [gap_mark m d v b a, gap_mark m d v b a]
theorem owes_mark (m : Int) {a : List Ent} (ha : a ≠ []) (d v : Int) (b : List Ent) (ts : List Tar) (day : Int) : owes m (a ++ .read d v true :: b) ts day = owes m (a ++ b) ts day := by
  cases a with
  | nil => exact absurd rfl ha
  | cons e a =>
    cases e with
    | start d z w =>
      have g := gap_mark m (b := b) (d := d) (v := v) a
      unfold owes gapsOf day0
      simp only [List.cons_append]
      rw [gap_mark]
    | read => rfl
    | change => rfl
/-! ### answers -/
def Aok (d : D) : Prop := d = .str sDone ∨ d = .str sCounts ∨ d = .str sDoubted ∨ d = .str sNoMeter ∨ ∃ i, d = .int i
theorem Aok.flat {d : D} (h : Aok d) : flatD d = true := by
  rcases h with rfl | rfl | rfl | rfl | ⟨i, rfl⟩ <;> rfl
def isNM (d : D) : Bool := PyData.eqv d (.str sNoMeter)
def cntNM (as : List D) : Nat := as.countP isNM
theorem nm_done : isNM (.str sDone) = false := by decide +kernel
theorem nm_counts : isNM (.str sCounts) = false := by decide +kernel
theorem nm_doubted : isNM (.str sDoubted) = false := by decide +kernel
theorem nm_self : isNM (.str sNoMeter) = true := by decide +kernel
theorem nm_int (i : Int) : isNM (.int i) = false := rfl
/-! ### rows that may be done one after the other, the bills aside -/
def TOk (ts : List Tar) : Prop := (∀ t ∈ ts, t.ok) ∧ (ts.map Tar.day).Pairwise (· < ·) ∧ ts.length ≤ 100
def EOk (es : List Ent) : Prop := es = [] ∨ Hst es
inductive Okr : List Ent → List Tar → List Dd → List Ent → List Tar → Prop
  | nil {es : List Ent} {ts : List Tar} : Okr es ts [] es ts
  | tar {es es' : List Ent} {ts ts' : List Tar} {R : List Dd} {t : Tar} (h : TOk (ts ++ [t])) (r : Okr es (ts ++ [t]) R es' ts') : Okr es ts (.tar t :: R) es' ts'
  | start {es' : List Ent} {ts ts' : List Tar} {R : List Dd} {d z w : Int} (hd : 0 ≤ d ∧ d ≤ 1000000) (hz : 0 < z ∧ z ≤ 1000000000000) (hw : 0 ≤ w ∧ w < z) (r : Okr [.start d z w] ts R es' ts') : Okr [] ts (.ent (.start d z w) :: R) es' ts'
  | read {es es' : List Ent} {ts ts' : List Tar} {R : List Dd} {d v : Int} {x : Bool} {l : Ent} (hs : Hst es) (hl : es.getLast? = some l) (hd : l.day < d ∧ d ≤ 1000000) (hv : 0 ≤ v ∧ v < lastSize 0 es) (hn : es.length ≤ 90) (r : Okr (es ++ [.read d v false]) ts R es' ts') : Okr es ts (.ent (.read d v x) :: R) es' ts'
  | change {es es' : List Ent} {ts ts' : List Tar} {R : List Dd} {d v z w : Int} {l : Ent} (hs : Hst es) (hl : es.getLast? = some l) (hd : l.day < d ∧ d ≤ 1000000) (hv : 0 ≤ v ∧ v < lastSize 0 es) (hz : 0 < z ∧ z ≤ 1000000000000) (hw : 0 ≤ w ∧ w < z) (hn : es.length ≤ 90) (r : Okr (es ++ [.change d v z w]) ts R es' ts') : Okr es ts (.ent (.change d v z w) :: R) es' ts'
theorem Okr.app {es es1 es2 : List Ent} {ts ts1 ts2 : List Tar} {R R2 : List Dd} (h : Okr es ts R es1 ts1) (h2 : Okr es1 ts1 R2 es2 ts2) : Okr es ts (R ++ R2) es2 ts2 := by
  induction h with
  | nil => exact h2
  | tar h r ih => exact .tar h (ih h2)
  | start hd hz hw r ih => exact .start hd hz hw (ih h2)
  | read hs hl hd hv hn r ih => exact .read hs hl hd hv hn (ih h2)
  | change hs hl hd hv hz hw hn r ih => exact .change hs hl hd hv hz hw hn (ih h2)
/-- the rows R with bills for rising days behind some of them -/
inductive Weave : Int → List Dd → List Dd → Int → Prop
  | nil {d : Int} : Weave d [] [] d
  | row {d d1 : Int} {x : Dd} {R R' : List Dd} (h : Weave d R R' d1) : Weave d (x :: R) (x :: R') d1
  | bill {d d1 g : Int} {x : Dd} {R R' : List Dd} (hg : 0 ≤ g ∧ g ≤ 11) (h : Weave (d + g) R R' d1) : Weave d (x :: R) (x :: .bill (d + g) :: R') d1
theorem Weave.le {d d1 : Int} {R R' : List Dd} (h : Weave d R R' d1) : d ≤ d1 ∧ d1 ≤ d + 11 * (R.length : Int) ∧ R'.length ≤ 2 * R.length := by
  induction h with
  | nil => simp
  | row h ih => simp only [List.length_cons]; omega
  | bill hg h ih => simp only [List.length_cons]; omega
theorem tarSort_snoc {ts : List Tar} {t : Tar} (h : TOk (ts ++ [t])) : tarSort (ts ++ [t]) = ts ++ [t] := by
  have p : ((ts ++ [t]).map Tar.day).Pairwise (· < ·) := h.2.1
  refine (tarSort_uniq (p.imp fun z => by omega) (List.Perm.refl _) ?_).symm
  exact (List.pairwise_map.mp p).imp fun z => by omega
theorem TOk.fresh {ts : List Tar} {t : Tar} (h : TOk (ts ++ [t])) : (ts.any fun u => decide (u.day = t.day)) = false := by
  rw [List.any_eq_false]
  intro u hu
  have p := h.2.1
  rw [List.map_append, List.pairwise_append] at p
  have := p.2.2 u.day (List.mem_map.mpr ⟨u, hu, rfl⟩) t.day (by simp)
  simp
  omega
theorem TOk.front {ts : List Tar} {t : Tar} (h : TOk (ts ++ [t])) : TOk ts := by
  refine ⟨fun u hu => h.1 u (List.mem_append_left _ hu), ?_, by have := h.2.2; simp at this; omega⟩
  have p := h.2.1
  rw [List.map_append, List.pairwise_append] at p
  exact p.1
end PD

namespace PD
open PySem PySem.Spec PyProof.Rows L2
section
variable {K : PySem.W.Frag} {M0 M : MS} {H0 H H2 : Hp} {st : Sg} {r : Rho}
/-- a list that somebody has made for the slot -/
theorem Sts.adopt (s : Sts K M0 H0 M H st r) {i : Nat} {p : Addr} {vs : List V} {ds : List D} (q : Same H H2) (hp : H p = none) (h2 : H2 p = some (.lst vs)) (h : RpL K (fun l => M l ∨ l = p) H2 vs ds) :
    Sts K M0 H0 (fun l => M l ∨ l = p) H2 (st.set i (some (.ref p))) (r.set i (.own ds)) := by
  have fr : ¬ M p := s.en.fresh hp
  have grow : ∀ {a : Addr}, ¬ M a → (∃ o, H a = some o) → ¬ (M a ∨ a = p) := fun {a} n ⟨o, e⟩ z => z.elim n fun q => by rw [q, hp] at e; cases e
  have up : ∀ {v : V} {d : D}, Rp K M H v d → Rp K (fun l => M l ∨ l = p) H2 v d := fun {v d} z => Rp.to (fun a n e => grow n e) (fun a o _ e n => q.k a o e n) d v z
  have upL : ∀ {v : List V} {d : List D}, RpL K M H v d → RpL K (fun l => M l ∨ l = p) H2 v d := fun {v d} z => RpL.to (fun a n e => grow n e) (fun a o _ e n => q.k a o e n) d v z
  have un : ∀ {j : Nat} {z : Option V}, j ≠ i → (st.set i (some (.ref p)))[j]? = some z → st[j]? = some z := fun {j z} n e => by
    rw [List.getElem?_set_ne (Ne.symm n)] at e
    exact e
  have at_i : ∀ {l : Addr}, i < st.length → (st.set i (some (.ref p)))[i]? = some (some (.ref l)) → l = p := fun {l} hi e => by
    rw [List.getElem?_set_self hi] at e
    cases e
    rfl
  have ne : ∀ {j : Nat} {k : Kd} {xs : List D} {l : Addr}, r[j]? = some (.box k xs) → st[j]? = some (some (.ref l)) → l ≠ p := fun {j k xs l} e1 e2 z => by
    obtain ⟨l', vs', e3, m, hl, _⟩ := s.en.slot j _ e1
    rw [e2] at e3
    cases e3
    exact fr (z ▸ m)
  refine ⟨⟨⟨fun l z => ?_, fun P t => q.t P (s.en.live.2 P t)⟩, fun j z e => ?_, by rw [List.length_set, List.length_set]; exact s.len⟩, s.keep.trans q, fun l z => .inl (s.sub l z), fun l z => ?_, by rw [List.length_set, List.length_set]; exact s.len, fun a b l k k2 xs ys h1 h2 h3 h4 => ?_, fun a l k xs h1 h2 => ?_,
    s.sta.box i p (fun j s n e => by rw [List.getElem?_set_ne (Ne.symm n)] at e; exact e) (fun j v n e => un n e) (fun z e A h ts bs => by
      rcases set_get e with ⟨_, q, _⟩ | q
      · subst q
        exact fun e => by cases e
      · exact absurd rfl q.1) (fun l ⟨k, xs, e⟩ e2 => by
      rcases set_get e with ⟨_, _, hi⟩ | q
      · exact at_i (by rw [s.len]; exact hi) e2
      · exact absurd rfl q.1) (fun j A h ts bs _ e z => by
      obtain ⟨o, q⟩ := (s.en.slot j _ e).2.there z
      rw [hp] at q
      cases q)⟩
  · rcases z with z | z
    · obtain ⟨k, us, e⟩ := s.en.live.1 l z
      exact ⟨k, us, q.k _ _ e (k.nt us)⟩
    · subst z
      exact ⟨.lst, _, h2⟩
  · rcases set_get e with ⟨rfl, rfl, hj⟩ | ⟨hj, e⟩
    · have hj' : j < st.length := by rw [s.len]; exact hj
      exact ⟨p, vs, by rw [List.getElem?_set_self hj'], .inr rfl, h2, h⟩
    · have z' := s.en.slot j z e
      rw [List.getElem?_set_ne (Ne.symm hj)]
      cases z with
      | no => exact trivial
      | exc a => exact z'
      | val d =>
        obtain ⟨v, e1, q1⟩ := z'
        exact ⟨v, e1, up q1⟩
      | box k2 xs =>
        obtain ⟨l, ws, e1, m, hl, q1⟩ := z'
        exact ⟨l, ws, e1, .inl m, q.k _ _ hl (k2.nt ws), upL q1⟩
      | sta A h' ts bs => exact ⟨z'.1, z'.2.to (fun a n e => grow n e) (fun a o _ e n => q.k a o e n) fun l z => ⟨.inl (z'.2.m l z), fun o e n => q.k l o e n⟩⟩
  · rcases z with z | z
    · exact s.new l z
    · subst z
      exact .inr (s.keep.d _ hp)
  · rcases set_get h1 with ⟨rfl, q1, hi⟩ | ⟨n1, e1⟩
    · have hi' : a < st.length := by rw [s.len]; exact hi
      have z := at_i hi' h3
      rcases set_get h2 with ⟨rfl, q2, _⟩ | ⟨n2, e2⟩
      · rfl
      · exact absurd z (ne e2 (un n2 h4))
    · rcases set_get h2 with ⟨rfl, q2, hi⟩ | ⟨n2, e2⟩
      · have hi' : b < st.length := by rw [s.len]; exact hi
        exact absurd (at_i hi' h4) (ne e1 (un n1 h3))
      · exact s.dis a b l k k2 xs ys e1 e2 (un n1 h3) (un n2 h4)
  · rcases set_get h1 with ⟨rfl, q1, hi⟩ | ⟨n1, e1⟩
    · have hi' : a < st.length := by rw [s.len]; exact hi
      have z := at_i hi' h2
      subst z
      exact fun m => fr (s.sub _ m)
    · exact s.own0 a l k xs e1 (un n1 h2)
end
/-! ### x = a + b of two lists: a list of one's own -/
section
variable {X : Cx} {W : PWs} {a b : Expr} {ga gb : Rho → Res D} {pos p : Pos} {s : Stmt} {ss : List Stmt} {f f2 : Rho → Out}
def catE (i : Nat) (ga gb : Rho → Res D) : Rho → Out := vThen ga fun d => vThen gb fun e r => match d, e with
  | .list xs, .list ys => if xs.length + ys.length ≤ 16777216 then .nx (r.set i (.own (xs ++ ys))) else .no
  | _, _ => .no
theorem ds_cat {i : Nat} {x : Str} {pos' bp : Pos} (hN : X.N.Nodup) (hi : X.N[i]? = some x) (hx : Loc X.env.scope x) (ha : DW X W a ga) (hb : DW X W b gb) (hs : swapsWith (.BinOp a .Add b bp) (some (.Name x pos')) pos.line X.env = pure false := by rfl) (hf : X.fn x = true ∨ X.env.scope.names.lookup x = some .local := by first | exact .inl rfl | exact .inr rfl | assumption) :
    DS X W (.Assign [.Name x pos'] (.BinOp a .Add b bp) pos) (catE i ga gb) :=
  ⟨fun M0 H0 => (ps_set hN hi hx (pe_op op_plus ha.run hb.run) hs hf).imp fun E st H ⟨r, M, t, q⟩ => by
    refine vthen_ok (R := Rw) t q fun d v H1 s1 t1 rd q1 => ?_
    refine vthen_ok (R := Rw) t1 q1 fun e u H2 s2 t2 re q2 => ?_
    cases d <;> first
      | exact q2.elim
      | skip
    cases e <;> first
      | exact q2.elim
      | skip
    rename_i xs ys
    obtain ⟨a1, vs, rfl, rr, l⟩ := (rd.same s2).lst_
    obtain ⟨b1, us, rfl, rr2, l2⟩ := re.lst_
    simp only at q2
    by_cases hc : xs.length + ys.length ≤ 16777216
    · rw [if_pos hc] at q2
      exact .inr (.inr ⟨a1, b1, vs, us, rfl, rfl, rr, rr2, by rw [l.length, l2.length, sizeLine_eq]; exact hc, fun p hp => q2 _ _ _ (t2.setOwn hp (l.app l2))⟩)
    · rw [if_neg hc] at q2
      exact q2.elim⟩
/-! ### defs that end in `return x, y`, x a list of their own, y a whole number -/
def RetO (K : PySem.W.Frag) (M0 : MS) (H0 H' : Hp) (v : V) (xs : List D) (y : Int) : Prop := Same H0 H' ∧ ∃ (t l : Addr) (vs : List V), v = .ref t ∧ H' t = some (.tup [.ref l, .int y]) ∧ H0 l = none ∧ H' l = some (.lst vs) ∧ RpL K (fun b => M0 b ∨ b = l) H' vs xs
def DemSO (K : PySem.W.Frag) (W : PWs) (M0 : MS) (H0 : Hp) (E : Ends) (i j : Nat) : Out → Prop
  | .nx r => match r[i]?, r[j]? with
    | some (.box .lst xs), some (.val (.int y)) => ∀ v H', RetO K M0 H0 H' v xs y → E.rt v H'
    | _, _ => False
  | .ex c r => ∀ M st H, Sts K M0 H0 M H st r → W c st H
  | _ => False
def tSO (K : PySem.W.Frag) (W : PWs) (M0 : MS) (H0 : Hp) (i j : Nat) (f : Rho → Out) : TS := fun E st H => ∃ r M, Sts K M0 H0 M H st r ∧ DemSO K W M0 H0 E i j (f r)
structure DSO (X : Cx) (W : PWs) (ss : List Stmt) (i j : Nat) (f : Rho → Out) : Prop where
  run : ∀ M0 H0, PSs X ss (tSO X.K W M0 H0 i j f)
theorem dso_cons {i j : Nat} (h1 : DS X W s f) (h2 : DSO X W ss i j f2) : DSO X W (s :: ss) i j (sqf f f2) := ⟨fun M0 H0 => (pss_cons (h1.run M0 H0) (h2.run M0 H0)).imp fun E st H ⟨r, M, t, q⟩ => ⟨r, M, t, by
  unfold sqf at q
  revert q
  cases f r with
  | nx r2 => exact fun q M2 st2 H2 t2 => ⟨r2, M2, t2, q⟩
  | rt d => exact fun q => q.elim
  | bk r2 => exact fun q => q.elim
  | ct r2 => exact fun q => q.elim
  | ex c r2 => exact fun q => q
  | no => exact fun q => q.elim⟩⟩
theorem dso_ret {i j kk : Nat} {x y : Str} {p1 p2 tp : Pos} (h1 : PE X (.Name x p1) (tVar i)) (h2 : PE X (.Name y p2) (tVar j)) (he : starEach (.Name x p1 :: [.Name y p2]) X.env = (false, eval (.Name x p1) X.env) :: starEach [.Name y p2] X.env := by rfl) (he2 : starEach (.Name y p2 :: []) X.env = (false, eval (.Name y p2) X.env) :: starEach [] X.env := by rfl) :
    DSO X W [.Return (some (.Tuple [.Name x p1, .Name y p2] kk tp)) pos] i j .nx :=
  ⟨fun M0 H0 => (pss_cons (ps_ret (pe_tup (pa_cons h1 (pa_cons h2 pa_nil he2) he))) pss_nil).imp fun E st H ⟨r, M, t, q⟩ => by
    have q' : match r[i]?, r[j]? with
      | some (.box .lst xs), some (.val (.int y)) => ∀ v H', RetO X.K M0 H0 H' v xs y → E.rt v H'
      | _, _ => False := q
    split at q'
    · rename_i xs y e1 e2
      obtain ⟨l, vs, s1, m, hl, rl⟩ := t.en.slot i _ e1
      obtain ⟨v, s2, rv⟩ := t.en.slot j _ e2
      cases rv
      refine ⟨_, s1, _, s2, ?_⟩
      refine ⟨by rw [sizeLine_eq]; simp, fun p hp => ?_⟩
      have h0 : H0 l = none := by
        rcases t.new l m with z | z
        · exact absurd z (t.own0 i l _ xs e1 s1)
        · exact z
      exact q' _ _ ⟨t.keep.trans (same_upd hp), p, l, vs, rfl, upd_same, h0, upd_same' hp _ _ hl, (rl.anti fun b z => z.elim (t.sub b) fun e => e ▸ m).same (same_upd hp)⟩
    · exact q'.elim⟩
def spO (cs : Nat → Addr) (K : PySem.W.Frag) (n i j : Nat) (f : List D → Out) : Sp := fun vs H Q E => vs.length = n ∧ ∃ (M0 : MS) (ds : List D), Lv K M0 H ∧ RpL K M0 H vs ds ∧ match f ds with
  | .nx r => (match r[i]?, r[j]? with
    | some (.box .lst xs), some (.val (.int y)) => ∀ v H', RetO K M0 H H' v xs y → Q v H'
    | _, _ => False)
  | .ex c _ => ∀ H', Same H H' → E (.ref (cs c)) none H'
  | _ => False
end
section
variable {P : Program} {w : World} {K : PySem.W.Frag} {mg : Str → Option Value} {base : Heap} {N : List Str} {qual : Str} {st : Stmt} {f : Addr}
theorem def_okO {x : Str} {fd : FuncData} {ps : List Str} {k i j : Nat} {fb : Rho → Out} {cs : Nat → Addr} (F : Fun K x qual st f fd) (S : FnScope N ps (defScope st))
    (hb : ∀ (cdv : Value) (A : Around) (outer : List Env) (s : Shared) (H : Hp) (E : XK), Room k (CxD P w K mg base N qual st f cdv A outer s H E).A → DSO (CxD P w K mg base N qual st f cdv A outer s H E) (WD cs E) (defBody st) i j fb) :
    FnOk P w K mg base (L2.CX P w) (k + 1) f fd ps (spO cs K ps.length i j (fnD fb N.length)) := by
  refine F.okX S (fun vs H Q E h => h.1) (fun cdv A outer s H vs Q E hr h => ⟨_, (hb cdv A outer s H E hr).run (Classical.choose h.2) H, ?_⟩)
  obtain ⟨ds, live, l, q⟩ := Classical.choose_spec h.2
  have en := start_rep (N := N) live l
  refine ⟨_, _, ⟨en, Same.refl _, fun _ z => z, fun _ z => .inl z, en.len, fun i j l _ _ xs ys e => (own_none e).elim, fun i l _ xs e => (own_none e).elim, sta_none⟩, ?_⟩
  have q' : match fb (ds.map Sl.val ++ List.replicate (N.length - ds.length) Sl.no) with
    | .nx r => (match r[i]?, r[j]? with
      | some (.box .lst xs), some (.val (.int y)) => ∀ v H', RetO K (Classical.choose h.2) H H' v xs y → Q v H'
      | _, _ => False)
    | .ex c _ => ∀ H', Same H H' → E (.ref (cs c)) none H'
    | _ => False := q
  revert q'
  cases fb (ds.map Sl.val ++ List.replicate (N.length - ds.length) Sl.no) with
  | nx r => exact fun q => q
  | rt d => exact fun q => q
  | ex c r => exact fun q M2 st2 H2 t2 => q H2 t2.keep
  | bk r => exact fun q => q
  | ct r => exact fun q => q
  | no => exact fun q => q
end
structure CalO (cs : Nat → Addr) (P : Program) (w : World) (K : PySem.W.Frag) (mg : Str → Option Value) (base : Heap) (k n i j : Nat) (x : Str) (fc : List D → Out) : Prop where
  ex : ∃ (f : Addr) (fd : FuncData) (ps : List Str), FnOk P w K mg base (L2.CX P w) k f fd ps (spO cs K n i j fc) ∧ mg x = some (.ref f) ∧ PySem.W.keepIn K (.ref f) = true ∧ Binds K fd ps []
section
variable {X : Cx} {W : PWs} {e : Expr} {es : List Expr} {gl : Rho → Res (List D)} {pos p : Pos}
/-- a, b = f(..): a is a list of one's own from here on -/
def asgO (i j ki kj : Nat) (gl : Rho → Res (List D)) (fc : List D → Out) : Rho → Out := lThen gl fun ds r => match fc ds with
  | .nx rr => (match rr[ki]?, rr[kj]? with
    | some (.box .lst xs), some (.val (.int y)) => .nx ((r.set i (.own xs)).set j (.val (.int y)))
    | _, _ => .no)
  | .ex c _ => .ex c r
  | _ => .no
theorem ds_asgO {i j ki kj k n kk : Nat} {fc : List D → Out} {x : Str} {cs : Nat → Addr} {tes : List Expr} {tp : Pos} (hc : X.calm = true) (hnm : Names X tes [i, j]) (tk : Takes X (lft cs W)) (C : CalO cs X.prog X.w X.K X.mg X.base k n ki kj x fc) (hr : Room k X.A)
    (ha : DL X W (e :: es) gl) (hn : n = es.length + 1 := by rfl) (hg : Gl X x := by rfl) (hdb : (x == ("__debug__" : Str)) = false := by decide) (he : starEach (e :: es) X.env = (false, eval e X.env) :: starEach es X.env := by rfl) (hpl : (backTo p (starEach es X.env)).any (·.1) = false := by rfl)
    {np : Pos} (hta : (assignEach tes X.env).length = [i, j].length := by rfl) (hst : (assignEach tes X.env).findIdx? (·.1) = none := by rfl)
    (hs : swapsWithSole [.Tuple tes kk tp] (.Call (.Name x np) (e :: es) [] p) pos.line X.env = pure false := by rfl) (hw : swappedStores [.Tuple tes kk tp] (.Call (.Name x np) (e :: es) [] p) X.env = pure none := by rfl)
    (h1 : (assignEach [.Tuple tes kk tp] X.env).map (·.2) = [assign (.Tuple tes kk tp) X.env] := by rfl) :
    DS X W (.Assign [.Tuple tes kk tp] (.Call (.Name x np) (e :: es) [] p) pos) (asgO i j ki kj gl fc) := by
  obtain ⟨f, fd, ps, F, hm, hk, hb⟩ := C.ex
  refine ⟨fun M0 H0 => (ps_asg (pe_callS F hr hg hm hk hb (fun st => passAt tk st) ha.run hdb he hpl) (pg_tup hc hnm.pgs hta hst) hs hw h1).imp fun E st H ⟨r, M, t, q⟩ => ?_⟩
  refine ⟨r, M, t.en, ?_⟩
  unfold asgO lThen at q
  cases hgl : gl r with
  | ex c => rw [hgl] at q; exact fun H1 s1 => q M st H1 (t.same s1)
  | no => rw [hgl] at q; exact q
  | ok ds =>
    rw [hgl] at q
    intro vs H1 s1 r1
    have t1 := t.same s1
    refine ⟨by rw [r1.length, ha.len r ds hgl, hn]; rfl, M, ds, t1.en.live, r1, ?_⟩
    revert q
    simp only [fold_ok]
    cases fc ds with
    | rt d => exact fun q => q
    | bk r2 => exact fun q => q
    | ct r2 => exact fun q => q
    | no => exact fun q => q
    | ex c r2 => exact fun q H' s' => ⟨c, rfl, rfl, q M st H' (t1.same s')⟩
    | nx rr =>
      intro q
      simp only at q ⊢
      split at q
      · rename_i xs y e1 e2
        intro v H2 ⟨s2, tt, l, us, ev, ht, hl0, hl, rl⟩
        subst ev
        exact ⟨tt, _, rfl, .inl (.inl ht), rfl, gNames_of rfl (q _ _ _ ((t1.adopt (i := i) s2 hl0 hl rl).set (.int y)))⟩
      · exact q.elim
end
end PD

namespace PD
open PySem PySem.Spec PyProof.Rows L2
/-! ### a drawn history as deeds -/
def Ent.unmark : Ent → Ent
  | .read d v _ => .read d v false
  | e => e
theorem Ent.unmark_day (e : Ent) : e.unmark.day = e.day := by cases e <;> rfl
theorem Ent.unmark_size (e : Ent) (s : Int) : e.unmark.size s = e.size s := by cases e <;> rfl
def Seq : Int → Int → List Ent → Prop
  | _, _, [] => True
  | l, s, e :: es => l < e.day ∧ e.day ≤ 1000000 ∧ e.fits s ∧ e.unmark = e ∧ Seq e.day (e.size s) es
theorem seq_of : ∀ (r : List Ent) (t : St3), Rest t r → Fits t.2.1 r → Seq t.1 t.2.1 (r.map Ent.unmark)
  | [], _, _, _ => trivial
  | e :: r, t, h, f => by
    have hl := h.late e List.mem_cons_self
    have ih := seq_of r (e.beh t) h.next f.2
    refine ⟨by rw [e.unmark_day]; exact hl.1, by rw [e.unmark_day]; exact hl.2, ?_, by cases e <;> rfl, ?_⟩
    · have f1 := f.1
      cases e with
      | start => exact f1.elim
      | read => exact f1
      | change => exact f1
    · rw [e.unmark_day, e.unmark_size]
      exact ih
theorem Seq.raise {l l' s : Int} {es : List Ent} (h : Seq l s es) (hl : ∀ e, es[0]? = some e → l' < e.day) : Seq l' s es := by
  cases es with
  | nil => trivial
  | cons e es => exact ⟨hl e rfl, h.2⟩
theorem Seq.split {s : Int} : ∀ {a b : List Ent} {l : Int}, Seq l s (a ++ b) → Seq l s a ∧ Seq ((a.getLast?.map Ent.day).getD l) (lastSize s a) b
  | [], b, l, h => ⟨trivial, h⟩
  | e :: a, b, l, h => by
    obtain ⟨h1, h2, h3, h4, h5⟩ := h
    obtain ⟨i1, i2⟩ := Seq.split (s := e.size s) h5
    refine ⟨⟨h1, h2, h3, h4, i1⟩, ?_⟩
    have e1 : (((e :: a).getLast?).map Ent.day).getD l = ((a.getLast?).map Ent.day).getD e.day := by
      rw [List.getLast?_cons]
      cases a.getLast? <;> rfl
    rw [e1]
    exact i2
theorem okr_seq : ∀ (r p : List Ent) (ts : List Tar) (l : Ent), Hst p → p.getLast? = some l → Seq l.day (lastSize 0 p) r → p.length + r.length ≤ 90 → Okr p ts (r.map Dd.ent) (p ++ r) ts ∧ Hst (p ++ r)
  | [], p, ts, l, hs, _, _, _ => by
    rw [List.append_nil]
    exact ⟨.nil, hs⟩
  | e :: r, p, ts, l, hs, hl, sq, hn => by
    obtain ⟨h1, h2, h3, h4, h5⟩ := sq
    have ll : (p ++ [e]).getLast? = some e := by simp
    have nl : p.length + 1 + r.length ≤ 90 := by simp at hn; omega
    have ap : p ++ e :: r = (p ++ [e]) ++ r := by simp
    cases e with
    | start => exact h3.elim
    | read d v x =>
      cases x with
      | true => cases h4
      | false =>
        have hs2 : Hst (p ++ [Ent.read d v false]) := hs.snoc hl h1 h2 trivial (by omega)
        obtain ⟨o, q⟩ := okr_seq r (p ++ [Ent.read d v false]) ts (.read d v false) hs2 ll (by rw [lastSize_app]; exact h5) (by simp; omega)
        rw [ap]
        exact ⟨.read hs hl ⟨h1, h2⟩ h3 (by omega) o, q⟩
    | change d v z w =>
      have hs2 : Hst (p ++ [Ent.change d v z w]) := hs.snoc hl h1 h2 ⟨by have := h3.2.1; omega, h3.2.1.2⟩ (by omega)
      obtain ⟨o, q⟩ := okr_seq r (p ++ [Ent.change d v z w]) ts (.change d v z w) hs2 ll (by rw [lastSize_app]; exact h5) (by simp; omega)
      rw [ap]
      exact ⟨.change hs hl ⟨h1, h2⟩ h3.1 ⟨by have := h3.2.1; omega, h3.2.1.2⟩ h3.2.2 (by omega) o, q⟩
theorem TOk.take {ts us : List Tar} (h : TOk (ts ++ us)) : TOk ts := by
  refine ⟨fun u hu => h.1 u (List.mem_append_left _ hu), ?_, by have := h.2.2; simp at this; omega⟩
  have p := h.2.1
  rw [List.map_append, List.pairwise_append] at p
  exact p.1
theorem okr_tars : ∀ (us ts : List Tar) (es : List Ent), TOk (ts ++ us) → Okr es ts (us.map Dd.tar) es (ts ++ us)
  | [], ts, es, _ => by
    rw [List.append_nil]
    exact .nil
  | u :: us, ts, es, h => by
    have e : ts ++ u :: us = (ts ++ [u]) ++ us := by simp
    rw [e] at h ⊢
    exact .tar h.take (okr_tars us (ts ++ [u]) es h)
theorem Rest.swap {t : St3} {d v : Int} {x y : Bool} {b : List Ent} : ∀ {a : List Ent}, Rest t (a ++ .read d v x :: b) → Rest t (a ++ .read d v y :: b) := fun {a} h => by
  refine ⟨h.pos, h.day, ?_, fun e he => ?_, fun e he => ?_⟩
  · have p := h.days
    rw [List.pairwise_append, List.pairwise_cons] at p ⊢
    refine ⟨p.1, ⟨p.2.1.1, p.2.1.2⟩, fun f hf g hg => ?_⟩
    rcases List.mem_cons.mp hg with rfl | hg
    · exact p.2.2 f hf (.read d v x) List.mem_cons_self
    · exact p.2.2 f hf g (List.mem_cons_of_mem _ hg)
  · rcases List.mem_append.mp he with z | z
    · exact h.late e (List.mem_append_left _ z)
    · rcases List.mem_cons.mp z with rfl | z
      · exact h.late (.read d v x) (List.mem_append_right _ List.mem_cons_self)
      · exact h.late e (List.mem_append_right _ (List.mem_cons_of_mem _ z))
  · rcases List.mem_append.mp he with z | z
    · exact h.fit e (List.mem_append_left _ z)
    · rcases List.mem_cons.mp z with rfl | z
      · exact trivial
      · exact h.fit e (List.mem_append_right _ (List.mem_cons_of_mem _ z))
theorem Hst.swap {p b : List Ent} {d v : Int} {x y : Bool} (hp : p ≠ []) (h : Hst (p ++ .read d v x :: b)) : Hst (p ++ .read d v y :: b) := by
  obtain ⟨d0, z, w, r, e, hr, hd, hn⟩ := h
  cases p with
  | nil => exact absurd rfl hp
  | cons f p =>
    have e' : f = .start d0 z w ∧ p ++ .read d v x :: b = r := by simpa using e
    obtain ⟨rfl, rfl⟩ := e'
    exact ⟨d0, z, w, p ++ .read d v y :: b, rfl, hr.swap, hd, by simp at hn ⊢; omega⟩
theorem weave_same : ∀ (R : List Dd) (d : Int), Weave d R R d
  | [], _ => .nil
  | _ :: R, d => .row (weave_same R d)
theorem no_bill {R : List Dd} (h : ∀ x ∈ R, x.isBill = false) : R.countP Dd.isBill = 0 := by
  rw [List.countP_eq_zero]
  intro x hx
  rw [h x hx]
  decide
end PD

namespace PD
open PySem PySem.Spec PyProof.Rows L2
theorem lc_each {i : Nat} {gl : Rho → Res (List D)} {F : Rho → Res D} {r : Rho} {own : List Nat} {ds zs : List D} (h1 : gl r = .ok ds) (hlen : ds.length = zs.length) (hl : ds.length < 16777216)
    (st : ∀ (k : Nat) (d z : D), ds[k]? = some d → zs[k]? = some z → F ((wipeR r own).set i (.val d)) = .ok z) : lcE gl (aName i) (fun _ => .ok true) F own r = .ok (.list zs) := by
  have c := compD_each (asg := aName i) (G := fun _ => .ok true) (F := F) (r := wipeR r own) ds zs hlen fun k d z a b => ⟨[(i, d)], rfl, rfl, st k d z a b⟩
  unfold lcE
  rw [h1, bind_ok, if_pos hl, c]
  rfl
def Dd.name : Dd → Str
  | .tar _ => sTariff
  | .ent e => e.name
  | .bill _ => sBill
  | .strike _ => sStrike
theorem Dd.at0 (x : Dd) : qIx x.dat (.int 0) = .ok (.str x.name) := by
  cases x with
  | tar t => exact qIx_at rfl rfl
  | bill d => exact qIx_at rfl rfl
  | strike d => exact qIx_at rfl rfl
  | ent e => cases e <;> exact qIx_at rfl rfl
theorem ok_bill : PyData.strOk sBill = true := by decide +kernel
theorem q_with_bill {x : Str} {b : Bool} (h : PyData.strOk x = true) (e : (x == sBill) = b) : qEq (.str x) (.str sBill) = .ok (.bool b) := by rw [qEq_str h ok_bill, e]
theorem Dd.qBill (x : Dd) : qEq (.str x.name) (.str sBill) = .ok (.bool x.isBill) := by
  cases x with
  | tar t => exact q_with_bill (x := sTariff) (b := false) (by decide +kernel) (by decide +kernel)
  | bill d => exact q_with_bill (x := sBill) (b := true) ok_bill (by decide +kernel)
  | strike d => exact q_with_bill (x := sStrike) (b := false) (by decide +kernel) (by decide +kernel)
  | ent e =>
    cases e with
    | start => exact q_with_bill (x := sStart) (b := false) ok_start (by decide +kernel)
    | read => exact q_with_bill (x := sRead) (b := false) ok_read (by decide +kernel)
    | change => exact q_with_bill (x := sChange) (b := false) ok_change (by decide +kernel)
theorem count_nm {as : List D} (h : ∀ a ∈ as, Aok a) : bCount (.list as) (.str sNoMeter) = .ok (.int (cntNM as : Nat)) := by
  unfold bCount
  simp only
  rw [if_pos ⟨rfl, List.all_eq_true.mpr fun a ha => (h a ha).flat⟩]
  rfl
theorem add_bill (R : List Dd) (d : Int) (hl : R.length < 9000) : pAdd (.list (deedsD R)) (.list [.tuple [.str sBill, .int d]]) = .ok (.list (deedsD (R ++ [.bill d]))) := by
  show (if (deedsD R).length + 1 ≤ 16777216 then Res.ok (PyData.list (deedsD R ++ [PyData.tuple [.str sBill, .int d]])) else .no) = _
  rw [if_pos (by simp [deedsD]; omega)]
  simp [deedsD, Dd.dat, billDeed]
theorem PSt.at2 (s : PSt) : qIx s.dat (.int 2) = .ok (.tuple (billsD s.bs)) := qIx_at rfl rfl
theorem rd_wiped {r : Rho} {i : Nat} {d : D} (h : i < r.length) : rd i ((wipeR r [i]).set i (.val d)) = .ok d := by
  unfold rd
  rw [List.getElem?_set_self (by rw [wipeR_length]; exact h)]
theorem rdw_wiped {r : Rho} {i : Nat} {d : D} (h : i < r.length) : rdw i ((wipeR r [i]).set i (.val d)) = .ok d := by
  unfold rdw
  rw [List.getElem?_set_self (by rw [wipeR_length]; exact h)]
theorem add_lists (R P : List Dd) (h : R.length + P.length < 9000) : pAdd (.list (deedsD R)) (.list (deedsD P)) = .ok (.list (deedsD (R ++ P))) := by
  show (if (deedsD R).length + (deedsD P).length ≤ 16777216 then Res.ok (PyData.list (deedsD R ++ deedsD P)) else .no) = _
  rw [if_pos (by simp [deedsD]; omega)]
  simp [deedsD]
theorem cut_deeds (R : List Dd) {n : Nat} (h : n ≤ R.length) : qCut (.list (deedsD R)) none (some (n : Int)) = .ok (.list (deedsD (R.take n))) := by
  show Res.ok (PyData.list (cutD (deedsD R) none (some (n : Int)))) = _
  rw [cut_to _ (by simp [deedsD]; exact h)]
  simp [deedsD]
theorem drop_deeds (R : List Dd) {n : Nat} (h : n ≤ R.length) : qCut (.list (deedsD R)) (some (n : Int)) none = .ok (.list (deedsD (R.drop n))) := by
  show Res.ok (PyData.list (cutD (deedsD R) (some (n : Int)) none)) = _
  rw [cut_from _ (by simp [deedsD]; exact h)]
  simp [deedsD]
theorem add_tariff (t : Tar) : pAdd (.tuple [.str sTariff]) t.dat = .ok t.deed := by
  show (if 1 + 5 ≤ 16777216 then Res.ok (PyData.tuple ([.str sTariff] ++ [.int t.day, .int t.st, .int t.low, .int t.lim, .int t.high])) else .no) = _
  rw [if_pos (by decide)]
  rfl
end PD

namespace PD
open PySem PySem.Spec PyProof.Rows L2
variable {K : PySem.W.Frag}
/-! ### a state: a dict of a value and of two lists -/
abbrev kHis : Key := .inr (PySem.Str.ofString "history")
abbrev kTar : Key := .inr (PySem.Str.ofString "tariffs")
abbrev kBil : Key := .inr (PySem.Str.ofString "bills")
theorem kne1 : ¬ kHis = kTar := by decide +kernel
theorem kne2 : ¬ kHis = kBil := by decide +kernel
theorem kne3 : ¬ kTar = kBil := by decide +kernel
theorem sget_h (u v w : V) : valV [(kHis, u), (kTar, v), (kBil, w)] kHis = some u := valV_pos rfl
theorem sget_t (u v w : V) : valV [(kHis, u), (kTar, v), (kBil, w)] kTar = some v := by
  rw [valV_neg kne1]
  exact valV_pos rfl
theorem sget_b (u v w : V) : valV [(kHis, u), (kTar, v), (kBil, w)] kBil = some w := by
  rw [valV_neg kne2, valV_neg kne3]
  exact valV_pos rfl
theorem sput_h (u v w z : V) : putK [(kHis, u), (kTar, v), (kBil, w)] kHis z = [(kHis, z), (kTar, v), (kBil, w)] := by
  unfold putK
  have e1 : ¬ kTar = kHis := fun e => kne1 e.symm
  have e2 : ¬ kBil = kHis := fun e => kne2 e.symm
  rw [if_pos (by rw [List.any_cons]; simp)]
  simp only [List.map_cons, List.map_nil, if_true, if_neg e1, if_neg e2]
theorem StaF.restate {M0 : MS} {st : Sg} {r : Rho} (f : StaF M0 st r) {j : Nat} {A : SA} {h h' : D} {ts bs ts' bs' : List D} (hj : r[j]? = some (.sta A h ts bs)) : StaF M0 st (r.set j (.sta A h' ts' bs')) := by
  have ns : ∀ {k : Nat} {B : SA} {d : D} {us vs : List D}, (r.set j (.sta A h' ts' bs'))[k]? = some (.sta B d us vs) → ∃ d us vs, r[k]? = some (.sta B d us vs) := fun {k B d us vs} e => by
    rcases set_get e with ⟨rfl, q, _⟩ | ⟨_, q⟩
    · cases q
      exact ⟨_, _, _, hj⟩
    · exact ⟨_, _, _, q⟩
  have nb : ∀ {k : Nat} {kd : Kd} {xs : List D}, (r.set j (.sta A h' ts' bs'))[k]? = some (.box kd xs) → r[k]? = some (.box kd xs) := fun {k kd xs} e => by
    rcases set_get e with ⟨_, q, _⟩ | ⟨_, q⟩
    · cases q
    · exact q
  refine ⟨fun a b B C d d' us vs us' vs' e1 e2 => ?_, fun a b l kd xs B d us vs e1 e2 e3 => ?_, fun a B d us vs l e z => ?_⟩
  · obtain ⟨_, _, _, q1⟩ := ns e1
    obtain ⟨_, _, _, q2⟩ := ns e2
    exact f.one _ _ _ _ _ _ _ _ _ _ q1 q2
  · obtain ⟨_, _, _, q3⟩ := ns e3
    exact f.off _ _ _ _ _ _ _ _ _ (nb e1) e2 q3
  · obtain ⟨_, _, _, q⟩ := ns e
    exact f.own _ _ _ _ _ _ q z
open Classical in
/-- H without the state -/
noncomputable def lessH (H : Hp) (A : SA) : Hp := fun b => if A.has b then none else H b
theorem less_of {H : Hp} {A : SA} {b : Addr} (n : ¬ A.has b) : lessH H A b = H b := by
  unfold lessH
  rw [if_neg n]
theorem less_at {H : Hp} {A : SA} {b : Addr} (n : A.has b) : lessH H A b = none := by
  unfold lessH
  rw [if_pos n]
theorem less_same {H : Hp} {A : SA} : Same (lessH H A) H := .of fun b o e => by
  by_cases n : A.has b
  · rw [less_at n] at e
    cases e
  · rw [less_of n] at e
    exact e
theorem StaAt.tab {M : MS} {H : Hp} {A : SA} {h : D} {ts bs : List D} (S : StaAt K M H A h ts bs) {P : Addr} (t : TabG H P) : TabG (lessH H A) P := by
  obtain ⟨ps, a, b, c⟩ := t
  refine ⟨ps, ?_, b, fun pos cv q => ?_⟩
  · rw [less_of fun z => ?_]
    · exact a
    · obtain ⟨k, vs, e⟩ := S.obj z
      rw [a] at e
      exact k.nb vs ps (Option.some.inj e).symm
  · obtain ⟨c', q', e1, e2⟩ := c pos cv q
    refine ⟨c', q', e1, ?_⟩
    rw [less_of fun z => ?_]
    · exact e2
    · obtain ⟨k, vs, e⟩ := S.obj z
      rw [e2] at e
      exact k.nc vs _ q' (Option.some.inj e).symm
section
variable {M0 M : MS} {H0 H H' : Hp} {st : Sg} {r : Rho}
/-- the state is another now, all else stays -/
theorem Sts.after (s : Sts K M0 H0 M H st r) {j : Nat} {A : SA} {h h' : D} {ts bs ts' bs' : List D} (hj : r[j]? = some (.sta A h ts bs)) (q : Same (lessH H A) H') (S : StaAt K M H' A h' ts' bs') :
    Sts K M0 H0 M H' st (r.set j (.sta A h' ts' bs')) := by
  obtain ⟨e0, S0⟩ := s.en.slot j _ hj
  have ls : ∀ b o, ¬ A.has b → H b = some o → NT o → H' b = some o := fun b o n e nt => q.k b o ((less_of n).trans e) nt
  have h0 : ∀ b, A.has b → H0 b = none := fun b z => by
    rcases s.new b (S0.m b z) with w | w
    · exact absurd w (s.sta.own j A h ts bs b hj z)
    · exact w
  have nb : ∀ {k : Nat} {kd : Kd} {xs : List D}, (r.set j (.sta A h' ts' bs'))[k]? = some (.box kd xs) → r[k]? = some (.box kd xs) := fun {k kd xs} e => by
    rcases set_get e with ⟨_, q, _⟩ | ⟨_, q⟩
    · cases q
    · exact q
  have up : ∀ {v : V} {d : D}, Rp K M H v d → Rp K M H' v d := fun {v d} w => Rp.to (fun a n _ => n) (fun a o n e nt => ls a o (fun z => n (S0.m a z)) e nt) d v w
  have upL : ∀ {v : List V} {d : List D}, RpL K M H v d → RpL K M H' v d := fun {v d} w => RpL.to (fun a n _ => n) (fun a o n e nt => ls a o (fun z => n (S0.m a z)) e nt) d v w
  refine ⟨⟨⟨fun l z => ?_, fun P t => q.t P (S0.tab (s.en.live.2 P t))⟩, fun k z e => ?_, by rw [List.length_set]; exact s.len⟩, ⟨fun b o e n => ?_, fun P t => q.t P (S0.tab (s.keep.t P t)), fun b e => ?_⟩, s.sub, s.new, by rw [List.length_set]; exact s.len,
    fun a b l k k2 xs ys h1 h2 h3 h4 => s.dis a b l k k2 xs ys (nb h1) (nb h2) h3 h4, fun a l k xs h1 h2 => s.own0 a l k xs (nb h1) h2, s.sta.restate hj⟩
  · by_cases n : A.has l
    · exact S.obj n
    · obtain ⟨k, vs, e⟩ := s.en.live.1 l z
      exact ⟨k, vs, ls l _ n e (k.nt vs)⟩
  · rcases set_get e with ⟨rfl, rfl, hk⟩ | ⟨hk, e⟩
    · exact ⟨e0, S⟩
    · have w := s.en.slot k z e
      cases z with
      | no => exact trivial
      | exc a => exact w
      | val d =>
        obtain ⟨v, e1, q1⟩ := w
        exact ⟨v, e1, up q1⟩
      | box k2 xs =>
        obtain ⟨l, us, e1, m, hl, q1⟩ := w
        exact ⟨l, us, e1, m, ls l _ (s.sta.off k j l _ _ A h ts bs e e1 hj) hl (k2.nt us), upL q1⟩
      | sta B d us vs => exact absurd (s.sta.one k j _ _ _ _ _ _ _ _ e hj) hk
  · have n1 : ¬ A.has b := fun z => by rw [h0 b z] at e; cases e
    exact ls b o n1 (s.keep.k b o e n) n
  · have e2 := q.d b e
    by_cases n : A.has b
    · exact h0 b n
    · rw [less_of n] at e2
      exact s.keep.d b e2
theorem less_upd {A : SA} {l : Addr} {o : HO} (h : A.has l) : Same (lessH H A) (upd H l o) := .of fun b u e => by
  by_cases n : A.has b
  · rw [less_at n] at e
    cases e
  · rw [less_of n] at e
    have ne : b ≠ l := fun z => n (z ▸ h)
    rw [upd_ne ne]
    exact e
theorem StaAt.kp {A : SA} {h : D} {ts bs : List D} (S : StaAt K M H A h ts bs) {l : Addr} {o : HO} (z : A.has l) : (∀ {v : V} {d : D}, Rp K M H v d → Rp K M (upd H l o) v d) ∧ ∀ {vs : List V} {ds : List D}, RpL K M H vs ds → RpL K M (upd H l o) vs ds := by
  have kp : ∀ (b : Addr) (u : HO), ¬ M b → H b = some u → upd H l o b = some u := fun b u n e => by
    have ne : b ≠ l := fun w => n (w ▸ S.m l z)
    rw [upd_ne ne]
    exact e
  exact ⟨fun {v d} q => Rp.to (fun a n _ => n) (fun a o n e _ => kp a o n e) d v q, fun {v d} q => RpL.to (fun a n _ => n) (fun a o n e _ => kp a o n e) d v q⟩
theorem StaAt.dif {A : SA} {h : D} {ts bs : List D} (S : StaAt K M H A h ts bs) : A.a ≠ A.t ∧ A.a ≠ A.b := by
  obtain ⟨vh, us, ws, e1, e2, e3, _⟩ := S.ex
  refine ⟨fun z => ?_, fun z => ?_⟩
  · rw [z, e2] at e1
    cases e1
  · rw [z, e3] at e1
    cases e1
theorem StaAt.putT {A : SA} {h : D} {ts bs : List D} (S : StaAt K M H A h ts bs) {us : List V} {v : V} {d : D} (hl : H A.t = some (.lst us)) (r1 : RpL K M H us ts) (rv : Rp K M H v d) : StaAt K M (upd H A.t (.lst (us ++ [v]))) A h (ts ++ [d]) bs := by
  obtain ⟨d1, d2⟩ := S.dif
  obtain ⟨kp, kpL⟩ := S.kp (l := A.t) (o := .lst (us ++ [v])) (.inr (.inl rfl))
  obtain ⟨vh, us', ws, e1, e2, e3, q1, q2, q3⟩ := S.ex
  exact ⟨S.ne, S.m, vh, us ++ [v], ws, (upd_ne d1).trans e1, upd_same, (upd_ne S.ne.symm).trans e3, kp q1, kpL (r1.app (.one rv)), kpL q3⟩
theorem StaAt.putB {A : SA} {h : D} {ts bs : List D} (S : StaAt K M H A h ts bs) {us : List V} {v : V} {d : D} (hl : H A.b = some (.lst us)) (r1 : RpL K M H us bs) (rv : Rp K M H v d) : StaAt K M (upd H A.b (.lst (us ++ [v]))) A h ts (bs ++ [d]) := by
  obtain ⟨d1, d2⟩ := S.dif
  obtain ⟨kp, kpL⟩ := S.kp (l := A.b) (o := .lst (us ++ [v])) (.inr (.inr rfl))
  obtain ⟨vh, us', ws, e1, e2, e3, q1, q2, q3⟩ := S.ex
  exact ⟨S.ne, S.m, vh, us', us ++ [v], (upd_ne d2).trans e1, (upd_ne S.ne).trans e2, upd_same, kp q1, kpL q2, kpL (r1.app (.one rv))⟩
theorem StaAt.putH {A : SA} {h d : D} {ts bs : List D} (S : StaAt K M H A h ts bs) {v : V} (rv : Rp K M H v d) : StaAt K M (upd H A.a (staO v A.t A.b)) A d ts bs := by
  obtain ⟨d1, d2⟩ := S.dif
  obtain ⟨kp, kpL⟩ := S.kp (l := A.a) (o := staO v A.t A.b) (.inl rfl)
  obtain ⟨vh, us, ws, e1, e2, e3, q1, q2, q3⟩ := S.ex
  exact ⟨S.ne, S.m, v, us, ws, upd_same, (upd_ne d1.symm).trans e2, (upd_ne d2.symm).trans e3, kp rv, kpL q2, kpL q3⟩
end
section
variable {X : Cx} {W : PWs} {e a b : Expr} {es : List Expr} {g : Rho → Res D} {pos p : Pos} {s : Stmt} {ss : List Stmt} {f f2 : Rho → Out}
/-! ### reading a state -/
def staH (i : Nat) (r : Rho) : Res D := match r[i]? with
  | some (.sta _ h _ _) => .ok h
  | _ => .no
def staT (i : Nat) (r : Rho) : Res D := match r[i]? with
  | some (.sta _ _ ts _) => .ok (.list ts)
  | _ => .no
def staB (i : Nat) (r : Rho) : Res D := match r[i]? with
  | some (.sta _ _ _ bs) => .ok (.list bs)
  | _ => .no
theorem de_sh {i j : Nat} {x : Str} {np kp : Pos} (hu : X.A.units + 1 < cLine) (hv : PE X (.Name x np) (tVar i)) (hs : NoSl (.Constant (.str (PySem.Str.ofString "history")) j kp) := by exact fun _ _ => rfl) : DE X W (.Subscript (.Name x np) (.Constant (.str (PySem.Str.ofString "history")) j kp) pos) (staH i) :=
  ⟨(pe_dget hu hv pe_str hs).imp fun st H Q ⟨r, M, en, q⟩ => by
    unfold staH at q
    split at q
    · rename_i A h ts bs hz
      obtain ⟨e1, S⟩ := en.slot i _ hz
      obtain ⟨vh, us, ws, e2, e3, e4, r1, r2, r3⟩ := S.ex
      exact ⟨_, e1, A.a, vh, rfl, (sget_h vh (.ref A.t) (.ref A.b)) ▸ DGet.k (k := kHis) e2, q _ H (Same.refl _) r1⟩
    · exact q.elim⟩
theorem dw_st {i j : Nat} {x : Str} {np kp : Pos} (hu : X.A.units + 1 < cLine) (hv : PE X (.Name x np) (tVar i)) (hs : NoSl (.Constant (.str (PySem.Str.ofString "tariffs")) j kp) := by exact fun _ _ => rfl) : DW X W (.Subscript (.Name x np) (.Constant (.str (PySem.Str.ofString "tariffs")) j kp) pos) (staT i) :=
  ⟨(pe_dget hu hv pe_str hs).imp fun st H Q ⟨r, M, en, q⟩ => by
    unfold staT at q
    split at q
    · rename_i A h ts bs hz
      obtain ⟨e1, S⟩ := en.slot i _ hz
      obtain ⟨vh, us, ws, e2, e3, e4, r1, r2, r3⟩ := S.ex
      exact ⟨_, e1, A.a, .ref A.t, rfl, (sget_t vh (.ref A.t) (.ref A.b)) ▸ DGet.k (k := kTar) e2, q _ H (Same.refl _) ⟨A.t, us, rfl, SqL.of e3, r2⟩⟩
    · exact q.elim⟩
theorem dw_sb {i j : Nat} {x : Str} {np kp : Pos} (hu : X.A.units + 1 < cLine) (hv : PE X (.Name x np) (tVar i)) (hs : NoSl (.Constant (.str (PySem.Str.ofString "bills")) j kp) := by exact fun _ _ => rfl) : DW X W (.Subscript (.Name x np) (.Constant (.str (PySem.Str.ofString "bills")) j kp) pos) (staB i) :=
  ⟨(pe_dget hu hv pe_str hs).imp fun st H Q ⟨r, M, en, q⟩ => by
    unfold staB at q
    split at q
    · rename_i A h ts bs hz
      obtain ⟨e1, S⟩ := en.slot i _ hz
      obtain ⟨vh, us, ws, e2, e3, e4, r1, r2, r3⟩ := S.ex
      exact ⟨_, e1, A.a, .ref A.b, rfl, (sget_b vh (.ref A.t) (.ref A.b)) ▸ DGet.k (k := kBil) e2, q _ H (Same.refl _) ⟨A.b, ws, rfl, SqL.of e4, r3⟩⟩
    · exact q.elim⟩
/-! ### s["x"].append(e), s["history"] = e -/
def apT (i : Nat) (d : D) (r : Rho) : Out := match r[i]? with
  | some (.sta A h ts bs) => if ts.length < 16777216 then .nx (r.set i (.sta A h (ts ++ [d]) bs)) else .no
  | _ => .no
def apB (i : Nat) (d : D) (r : Rho) : Out := match r[i]? with
  | some (.sta A h ts bs) => if bs.length < 16777216 then .nx (r.set i (.sta A h ts (bs ++ [d]))) else .no
  | _ => .no
def inS (i : Nat) (f : Rho → Out) (r : Rho) : Out := match r[i]? with
  | some (.sta _ _ _ _) => f r
  | _ => .no
theorem ds_apT {i j : Nat} {x : Str} {np kp sp apos cpos : Pos} (hu : X.A.units + 1 < cLine) (hv : PE X (.Name x np) (tVar i)) (he : DE X W e g)
    (hs0 : NoSl (.Constant (.str (PySem.Str.ofString "tariffs")) j kp) := by exact fun _ _ => rfl)
    (hfew : ((backTo cpos (starEach (e :: []) X.env)).all (fun x => !x.1) && (backToKw cpos (keywordEach [] X.env)).all (fun x => x.1.isSome)
      && decide ((e :: []).length + ([] : List Keyword).length + (if ([] : List Keyword).isEmpty then 0 else 1) < 30)) = true := by rfl)
    (hbase : attributeBase (.Subscript (.Name x np) (.Constant (.str (PySem.Str.ofString "tariffs")) j kp) sp) "append" X.env (eval (.Subscript (.Name x np) (.Constant (.str (PySem.Str.ofString "tariffs")) j kp) sp) X.env) = eval (.Subscript (.Name x np) (.Constant (.str (PySem.Str.ofString "tariffs")) j kp) sp) X.env := by rfl)
    (hline : (apos.endLine == cpos.line) = true := by rfl) (hs : starEach (e :: []) X.env = (false, eval e X.env) :: starEach [] X.env := by rfl) (hplain : (backTo cpos (starEach [] X.env)).any (·.1) = false := by rfl)
    (hsw : swapsWith (.Call (.Attribute (.Subscript (.Name x np) (.Constant (.str (PySem.Str.ofString "tariffs")) j kp) sp) "append" apos) [e] [] cpos) none pos.line X.env = pure false := by rfl) :
    DS X W (.Expr (.Call (.Attribute (.Subscript (.Name x np) (.Constant (.str (PySem.Str.ofString "tariffs")) j kp) sp) "append" apos) [e] [] cpos) pos) (inS i (vThen g (apT i))) :=
  ⟨fun M0 H0 => (ps_expr (pe_bm PySem.F.plainAttrs_list PySem.F.slot_list_append PySem.F.type_list_append mtr_append (pe_dget hu hv pe_str hs0) (pa_cons he.run pa_nil hs) hbase hfew hline hs hplain) hsw).imp fun E st H ⟨r, M, t, q⟩ => by
    unfold inS at q
    split at q
    · rename_i A h ts bs hz
      obtain ⟨e1, S⟩ := t.en.slot i _ hz
      obtain ⟨vh, us, ws, e2, e3, e4, r1, r2, r3⟩ := S.ex
      refine ⟨_, e1, A.a, .ref A.t, rfl, (sget_t vh (.ref A.t) (.ref A.b)) ▸ DGet.k (k := kTar) e2, ⟨.inl ⟨rfl, us, SqL.of e3⟩, ?_⟩⟩
      refine vthen_ok (R := Rp) t q fun d v H1 s1 t1 rd q1 => ?_
      unfold apT at q1
      rw [hz] at q1
      simp only at q1
      by_cases hc : ts.length < 16777216
      · rw [if_pos hc] at q1
        refine ⟨A.t, us, v, rfl, rfl, s1.lst e3, by rw [r2.length, sizeLine_eq]; exact hc, ?_⟩
        exact q1 M st _ (t1.after hz (less_upd (.inr (.inl rfl))) ((S.same s1).putT (s1.lst e3) (r2.same s1) rd))
      · rw [if_neg hc] at q1
        exact q1.elim
    · exact q.elim⟩
theorem ds_apB {i j : Nat} {x : Str} {np kp sp apos cpos : Pos} (hu : X.A.units + 1 < cLine) (hv : PE X (.Name x np) (tVar i)) (he : DE X W e g)
    (hs0 : NoSl (.Constant (.str (PySem.Str.ofString "bills")) j kp) := by exact fun _ _ => rfl)
    (hfew : ((backTo cpos (starEach (e :: []) X.env)).all (fun x => !x.1) && (backToKw cpos (keywordEach [] X.env)).all (fun x => x.1.isSome)
      && decide ((e :: []).length + ([] : List Keyword).length + (if ([] : List Keyword).isEmpty then 0 else 1) < 30)) = true := by rfl)
    (hbase : attributeBase (.Subscript (.Name x np) (.Constant (.str (PySem.Str.ofString "bills")) j kp) sp) "append" X.env (eval (.Subscript (.Name x np) (.Constant (.str (PySem.Str.ofString "bills")) j kp) sp) X.env) = eval (.Subscript (.Name x np) (.Constant (.str (PySem.Str.ofString "bills")) j kp) sp) X.env := by rfl)
    (hline : (apos.endLine == cpos.line) = true := by rfl) (hs : starEach (e :: []) X.env = (false, eval e X.env) :: starEach [] X.env := by rfl) (hplain : (backTo cpos (starEach [] X.env)).any (·.1) = false := by rfl)
    (hsw : swapsWith (.Call (.Attribute (.Subscript (.Name x np) (.Constant (.str (PySem.Str.ofString "bills")) j kp) sp) "append" apos) [e] [] cpos) none pos.line X.env = pure false := by rfl) :
    DS X W (.Expr (.Call (.Attribute (.Subscript (.Name x np) (.Constant (.str (PySem.Str.ofString "bills")) j kp) sp) "append" apos) [e] [] cpos) pos) (inS i (vThen g (apB i))) :=
  ⟨fun M0 H0 => (ps_expr (pe_bm PySem.F.plainAttrs_list PySem.F.slot_list_append PySem.F.type_list_append mtr_append (pe_dget hu hv pe_str hs0) (pa_cons he.run pa_nil hs) hbase hfew hline hs hplain) hsw).imp fun E st H ⟨r, M, t, q⟩ => by
    unfold inS at q
    split at q
    · rename_i A h ts bs hz
      obtain ⟨e1, S⟩ := t.en.slot i _ hz
      obtain ⟨vh, us, ws, e2, e3, e4, r1, r2, r3⟩ := S.ex
      refine ⟨_, e1, A.a, .ref A.b, rfl, (sget_b vh (.ref A.t) (.ref A.b)) ▸ DGet.k (k := kBil) e2, ⟨.inl ⟨rfl, ws, SqL.of e4⟩, ?_⟩⟩
      refine vthen_ok (R := Rp) t q fun d v H1 s1 t1 rd q1 => ?_
      unfold apB at q1
      rw [hz] at q1
      simp only at q1
      by_cases hc : bs.length < 16777216
      · rw [if_pos hc] at q1
        refine ⟨A.b, ws, v, rfl, rfl, s1.lst e4, by rw [r3.length, sizeLine_eq]; exact hc, ?_⟩
        exact q1 M st _ (t1.after hz (less_upd (.inr (.inr rfl))) ((S.same s1).putB (s1.lst e4) (r3.same s1) rd))
      · rw [if_neg hc] at q1
        exact q1.elim
    · exact q.elim⟩
def ptH (i : Nat) (d : D) (r : Rho) : Out := match r[i]? with
  | some (.sta A _ ts bs) => .nx (r.set i (.sta A d ts bs))
  | _ => .no
theorem ds_ptH {i j : Nat} {x : Str} {np kp spos : Pos} (hu : X.A.units + 1 < cLine) (hv : PE X (.Name x np) (tVar i)) (he : DE X W e g) (hs : swapsWith e (some (.Subscript (.Name x np) (.Constant (.str (PySem.Str.ofString "history")) j kp) spos)) pos.line X.env = pure false := by rfl) :
    DS X W (.Assign [.Subscript (.Name x np) (.Constant (.str (PySem.Str.ofString "history")) j kp) spos] e pos) (vThen g (ptH i)) :=
  ⟨fun M0 H0 => (ps_dput hu hv pe_str he.run hs).imp fun E st H ⟨r, M, t, q⟩ => by
    refine vthen_ok (R := Rp) t q fun d v H1 s1 t1 rv q1 => ?_
    unfold ptH at q1
    split at q1
    · rename_i A h ts bs hz
      obtain ⟨e1, S⟩ := t1.en.slot i _ hz
      obtain ⟨vh, us, ws, e2, e3, e4, r1, r2, r3⟩ := S.ex
      refine ⟨_, e1, A.a, _, rfl, DPut.k (k := kHis) (v := v) e2 (by rw [sizeLine_eq]; simp), ?_⟩
      rw [sput_h]
      exact q1 M st _ (t1.after hz (less_upd (.inl rfl)) (S.putH rv))
    · exact q1.elim⟩
end
end PD

namespace PD
open PySem PySem.Spec PyProof.Rows L2
variable {K : PySem.W.Frag}
/-! ### defs that are handed a state, and change it -/
inductive OutS where
  | nx (r : Rho) | rt (d : D) (r : Rho) | no
def OutS.seq : OutS → (Rho → OutS) → OutS
  | .nx r, k => k r
  | o, _ => o
@[simp] theorem seqS_nx (r : Rho) (k : Rho → OutS) : (OutS.nx r).seq k = k r := eq_of_heq HEq.rfl
@[simp] theorem seqS_rt (d : D) (r : Rho) (k : Rho → OutS) : (OutS.rt d r).seq k = .rt d r := eq_of_heq HEq.rfl
@[simp] theorem seqS_no (k : Rho → OutS) : OutS.no.seq k = .no := eq_of_heq HEq.rfl
def Out.lift : Out → OutS
  | .nx r => .nx r
  | _ => .no
@[simp] theorem lift_nx (r : Rho) : (Out.nx r).lift = .nx r := eq_of_heq HEq.rfl
def DemX (K : PySem.W.Frag) (M0 : MS) (H0 : Hp) (E : Ends) : OutS → Prop
  | .nx r => ∀ M st H, Sts K M0 H0 M H st r → E.nx st H
  | .rt d r => ∀ M st H v, Sts K M0 H0 M H st r → Rp K M H v d → E.rt v H
  | .no => False
def tX (K : PySem.W.Frag) (M0 : MS) (H0 : Hp) (f : Rho → OutS) : TS := fun E st H => ∃ r M, Sts K M0 H0 M H st r ∧ DemX K M0 H0 E (f r)
structure DX (X : Cx) (s : Stmt) (f : Rho → OutS) : Prop where
  run : ∀ M0 H0, PS X s (tX X.K M0 H0 f)
structure DXs (X : Cx) (ss : List Stmt) (f : Rho → OutS) : Prop where
  run : ∀ M0 H0, PSs X ss (tX X.K M0 H0 f)
def sqS (f g : Rho → OutS) (r : Rho) : OutS := (f r).seq g
def upS (f : Rho → Out) (r : Rho) : OutS := (f r).lift
def ifS (gt : Rho → Res Bool) (f f2 : Rho → OutS) (r : Rho) : OutS := (gt r).fold (fun c => if c then f r else f2 r) (fun _ => .no) .no
def rtS (g : Rho → Res D) (r : Rho) : OutS := (g r).fold (fun d => .rt d r) (fun _ => .no) .no
section
variable {X : Cx} {W : PWs} {e a b c : Expr} {s : Stmt} {ss ss2 : List Stmt} {f : Rho → Out} {h h2 : Rho → OutS} {g : Rho → Res D} {gt : Rho → Res Bool} {pos p : Pos}
theorem dx_up (d : DS X W s f) : DX X s (upS f) := ⟨fun M0 H0 => (d.run M0 H0).imp fun E st H ⟨r, M, t, q⟩ => ⟨r, M, t, by
  unfold upS at q
  revert q
  cases f r with
  | nx r2 => exact fun q => q
  | rt d => exact fun q => q.elim
  | bk r2 => exact fun q => q.elim
  | ct r2 => exact fun q => q.elim
  | ex c r2 => exact fun q => q.elim
  | no => exact fun q => q.elim⟩⟩
theorem dxs_nil : DXs X [] .nx := ⟨fun M0 H0 => pss_nil.imp fun E st H ⟨r, M, t, q⟩ => q M st H t⟩
theorem dxs_cons (h1 : DX X s h) (h2' : DXs X ss h2) : DXs X (s :: ss) (sqS h h2) := ⟨fun M0 H0 => (pss_cons (h1.run M0 H0) (h2'.run M0 H0)).imp fun E st H ⟨r, M, t, q⟩ => ⟨r, M, t, by
  unfold sqS at q
  revert q
  cases h r with
  | nx r2 => exact fun q M2 st2 H2 t2 => ⟨r2, M2, t2, q⟩
  | rt d r2 => exact fun q => q
  | no => exact fun q => q⟩⟩
theorem dx_if (hc : DT X W c gt) (ha : DXs X ss h) (hb : DXs X ss2 h2) : DX X (.If c ss ss2 pos) (ifS gt h h2) :=
  ⟨fun M0 H0 => (ps_if hc.run (ha.run M0 H0) (hb.run M0 H0)).imp fun E st H ⟨r, M, t, q⟩ => by
    refine ⟨r, M, t.en, ?_⟩
    unfold ifS at q
    cases hg : gt r with
    | ex c => rw [hg] at q; exact q.elim
    | no => rw [hg] at q; exact q.elim
    | ok d =>
      rw [hg] at q
      intro H1 s1
      cases d with
      | true => exact ⟨r, M, t.same s1, q⟩
      | false => exact ⟨r, M, t.same s1, q⟩⟩
theorem dx_ret (he : DE X W e g) : DX X (.Return (some e) pos) (rtS g) :=
  ⟨fun M0 H0 => (ps_ret he.run).imp fun E st H ⟨r, M, t, q⟩ => by
    refine ⟨r, M, t.en, ?_⟩
    unfold rtS at q
    cases hg : g r with
    | ex c => rw [hg] at q; exact q.elim
    | no => rw [hg] at q; exact q.elim
    | ok d =>
      rw [hg] at q
      exact fun v H1 s1 rv => q M st H1 v (t.same s1) rv⟩
end
/-- what a def promises of the state at A -/
def RetS (K : PySem.W.Frag) (M : MS) (H : Hp) (A : SA) (Q : VK) : OutS → Prop
  | .rt d r => match (r[0]? : Option Sl) with
    | some (.sta B h ts bs) => B = A ∧ ∀ v H', Same (lessH H A) H' → StaAt K M H' A h ts bs → Rp K M H' v d → Q v H'
    | _ => False
  | _ => False
abbrev FnSt := SA → D → List D → List D → List D → OutS
def spS (K : PySem.W.Frag) (n : Nat) (fc : FnSt) : Sp := fun vs H Q E => vs.length = n ∧ ∃ (A : SA) (us : List V) (M : MS) (ds : List D) (h : D) (ts bs : List D), vs = .ref A.a :: us ∧ Lv K M H ∧ StaAt K M H A h ts bs ∧ RpL K M H us ds ∧ RetS K M H A Q (fc A h ts bs ds)
def fnS (fb : Rho → OutS) (n : Nat) : FnSt := fun A h ts bs ds => fb (.sta A h ts bs :: (ds.map Sl.val ++ List.replicate (n - 1 - ds.length) Sl.no))
section
variable {P : Program} {w : World} {mg : Str → Option Value} {base : Heap} {N : List Str} {qual : Str} {st : Stmt} {f : Addr}
theorem start_sta {M : MS} {H : Hp} {us : List V} {ds : List D} {A : SA} {h : D} {ts bs : List D} (hN : N.length ≠ 0) (live : Lv K M H) (S : StaAt K M H A h ts bs) (l : RpL K M H us ds) :
    En K M H (L2.start N (.ref A.a :: us)) (.sta A h ts bs :: (ds.map Sl.val ++ List.replicate (N.length - 1 - ds.length) Sl.no)) := by
  have e1 : L2.start N (.ref A.a :: us) = some (.ref A.a) :: L2.start N.tail us := by
    unfold L2.start
    rw [List.map_cons, List.cons_append, List.length_cons, List.length_tail]
    congr 3
    omega
  have en := start_rep (N := N.tail) live l
  rw [List.length_tail] at en
  rw [e1]
  refine ⟨live, fun i z e => ?_, by rw [List.length_cons, List.length_cons, en.len]⟩
  cases i with
  | zero =>
    cases e
    exact ⟨rfl, S⟩
  | succ i => exact en.slot i z (by simpa using e)
theorem fresh_nobox {A : SA} {h : D} {ts bs ds : List D} {n : Nat} {i : Nat} {k : Kd} {xs : List D} (e : (Sl.sta A h ts bs :: (ds.map Sl.val ++ List.replicate n Sl.no))[i]? = some (.box k xs)) : False := by
  cases i with
  | zero => cases e
  | succ i => exact own_none (by simpa using e)
theorem fresh_sta {A : SA} {h : D} {ts bs ds : List D} {n : Nat} {i : Nat} {B : SA} {d : D} {us vs : List D} (e : (Sl.sta A h ts bs :: (ds.map Sl.val ++ List.replicate n Sl.no))[i]? = some (.sta B d us vs)) : i = 0 ∧ B = A := by
  cases i with
  | zero =>
    cases e
    exact ⟨rfl, rfl⟩
  | succ i =>
    have z := (sta_none (M0 := fun _ => True) (st := []) (ds := ds) (n := n)).own i B d us vs B.a (by simpa using e) (.inl rfl)
    exact absurd trivial z
/-- THE RULE for a def that is handed a state -/
theorem def_okS {x : Str} {fd : FuncData} {ps : List Str} {k : Nat} {fb : Rho → OutS} (F : Fun K x qual st f fd) (S : FnScope N ps (defScope st)) (hN : N.length ≠ 0)
    (hb : ∀ (cdv : Value) (A : Around) (outer : List Env) (s : Shared) (H : Hp) (E : XK), Room k (CxD P w K mg base N qual st f cdv A outer s H E).A → DXs (CxD P w K mg base N qual st f cdv A outer s H E) (defBody st) fb) :
    FnOk P w K mg base (L2.CX P w) (k + 1) f fd ps (spS K ps.length (fnS fb N.length)) := by
  refine F.okX S (fun vs H Q E h => h.1) (fun cdv A outer s H vs Q E hr h => ?_)
  obtain ⟨hl, B, us, M, ds, h0, ts, bs, rfl, live, SA0, l, q⟩ := h
  refine ⟨_, (hb cdv A outer s H E hr).run (fun l => M l ∧ ¬ B.has l) (lessH H B), ?_⟩
  refine ⟨_, M, ⟨start_sta hN live SA0 l, less_same, fun _ z => z.1, fun b z => ?_, (start_sta hN live SA0 l).len, fun i j l _ _ xs ys e => (fresh_nobox e).elim, fun i l _ xs e => (fresh_nobox e).elim, ?_⟩, ?_⟩
  · by_cases n : B.has b
    · exact .inr (less_at n)
    · exact .inl ⟨z, n⟩
  · refine ⟨fun i j C D h h' ts bs ts' bs' e1 e2 => by rw [(fresh_sta e1).1, (fresh_sta e2).1], fun i j l kd xs C h ts bs e => (fresh_nobox e).elim, fun j C h ts bs l e z w => ?_⟩
    rw [(fresh_sta e).2] at z
    exact w.2 z
  · unfold fnS at q
    revert q
    cases fb (Sl.sta B h0 ts bs :: (ds.map Sl.val ++ List.replicate (N.length - 1 - ds.length) Sl.no)) with
    | nx r => exact fun q => q.elim
    | no => exact fun q => q.elim
    | rt d r =>
      intro q
      unfold RetS at q
      intro M2 st2 H2 v t2 rv
      have sub : ∀ (C : SA) (h : D) (ts bs : List D), r[0]? = some (.sta C h ts bs) → C = B → ∀ l, M l → M2 l := fun C h ts bs e ec l z => by
        by_cases n : B.has l
        · exact (t2.en.slot 0 _ e).2.m l (ec ▸ n)
        · exact t2.sub l ⟨z, n⟩
      simp only at q
      split at q
      · rename_i C h ts bs e
        obtain ⟨ec, q⟩ := q
        have sb := sub C h ts bs e ec
        subst ec
        exact q v H2 t2.keep ((t2.en.slot 0 _ e).2.anti sb SA0.m) (rv.anti sb)
      · exact q.elim
end
structure CalS (P : Program) (w : World) (K : PySem.W.Frag) (mg : Str → Option Value) (base : Heap) (k n : Nat) (x : Str) (fc : FnSt) : Prop where
  ex : ∃ (f : Addr) (fd : FuncData) (ps : List Str), FnOk P w K mg base (L2.CX P w) k f fd ps (spS K n fc) ∧ mg x = some (.ref f) ∧ PySem.W.keepIn K (.ref f) = true ∧ Binds K fd ps []
/-! ### calls -/
open Classical in
/-- the answer, and the slots behind the call -/
noncomputable def goS {α : Type} (j : Nat) (fc : FnSt) (k : D → Rho → α) (no : α) (ds : List D) (r : Rho) : α := match (r[j]? : Option Sl) with
  | some (.sta A h ts bs) => (match fc A h ts bs ds with
    | .rt d rr => (match (rr[0]? : Option Sl) with
      | some (.sta B h' ts' bs') => if B = A then k d (r.set j (.sta A h' ts' bs')) else no
      | _ => no)
    | _ => no)
  | _ => no
section
variable {X : Cx} {W : PWs} {e : Expr} {es : List Expr} {gl : Rho → Res (List D)} {pos p : Pos}
open Classical in
theorem goS_ok {α : Type} {j n : Nat} {fc : FnSt} {k : D → Rho → α} {no : α} {r : Rho} {M0 M : MS} {H0 H : Hp} {st : Sg} {us : List V} {ds : List D} {Pr : α → Prop} {Q : VK} {E : XK} {v0 : V} (t : Sts X.K M0 H0 M H st r) (h0 : st[j]? = some (some v0)) (l : RpL X.K M H us ds) (hn : us.length + 1 = n) (q : Pr (goS j fc k no ds r)) (hno : ¬ Pr no)
    (hk : ∀ d r2 v H', Pr (k d r2) → Sts X.K M0 H0 M H' st r2 → Rp X.K M H' v d → (∀ i z, i ≠ j → r[i]? = some z → r2[i]? = some z) → Q v H') : spS X.K n fc (v0 :: us) H Q E := by
  unfold goS at q
  split at q
  · rename_i A h ts bs hj
    obtain ⟨e0, S⟩ := t.en.slot j _ hj
    rw [h0] at e0
    cases e0
    split at q
    · rename_i d rr hf
      split at q
      · rename_i B h' ts' bs' hr
        by_cases hB : B = A
        · rw [if_pos hB] at q
          subst hB
          refine ⟨hn, B, us, M, ds, h, ts, bs, rfl, t.en.live, S, l, ?_⟩
          rw [hf]
          show match (rr[0]? : Option Sl) with
            | some (.sta C h ts bs) => C = B ∧ ∀ v H', Same (lessH H B) H' → StaAt X.K M H' B h ts bs → Rp X.K M H' v d → Q v H'
            | _ => False
          rw [hr]
          exact ⟨rfl, fun v H' s S' rv => hk d _ v H' q (t.after hj s S') rv fun i z n e => by rw [List.getElem?_set_ne (Ne.symm n)]; exact e⟩
        · rw [if_neg hB] at q
          exact absurd q hno
      · exact absurd q hno
    · exact absurd q hno
  · exact absurd q hno
/-- x.append(f(s, ..)) -/
noncomputable def appS (i j : Nat) (gl : Rho → Res (List D)) (fc : FnSt) (r : Rho) : Out := match (r[i]? : Option Sl), (r[j]? : Option Sl) with
  | some (.box .lst _), some (.sta _ _ _ _) => (gl r).fold (fun ds => goS j fc (fun d r => apnd i d r) .no ds r) (fun _ => .no) .no
  | _, _ => .no
theorem ds_appS {i j k n : Nat} {fc : FnSt} {x y z : Str} {np apos cpos zp xp cp : Pos} (hij : i ≠ j) {cs : Nat → Addr} (tk : Takes X (lft cs W)) (C : CalS X.prog X.w X.K X.mg X.base k n x fc) (hr : Room k X.A) (hv : PE X (.Name y np) (tVar i)) (hz : PE X (.Name z zp) (tVar j)) (ha : DL X W es gl) (hn : n = es.length + 1 := by rfl)
    (hg : Gl X x := by rfl) (hdb : (x == ("__debug__" : Str)) = false := by decide) (he : starEach (.Name z zp :: es) X.env = (false, eval (.Name z zp) X.env) :: starEach es X.env := by rfl) (hpl : (backTo cp (starEach es X.env)).any (·.1) = false := by rfl)
    (hfew : ((backTo cpos (starEach (.Call (.Name x xp) (.Name z zp :: es) [] cp :: []) X.env)).all (fun x => !x.1) && (backToKw cpos (keywordEach [] X.env)).all (fun x => x.1.isSome)
      && decide ((Expr.Call (.Name x xp) (.Name z zp :: es) [] cp :: []).length + ([] : List Keyword).length + (if ([] : List Keyword).isEmpty then 0 else 1) < 30)) = true := by rfl)
    (hbase : attributeBase (.Name y np) "append" X.env (eval (.Name y np) X.env) = eval (.Name y np) X.env := by rfl)
    (hline : (apos.endLine == cpos.line) = true := by rfl) (hs : starEach (.Call (.Name x xp) (.Name z zp :: es) [] cp :: []) X.env = (false, eval (.Call (.Name x xp) (.Name z zp :: es) [] cp) X.env) :: starEach [] X.env := by rfl) (hplain : (backTo cpos (starEach [] X.env)).any (·.1) = false := by rfl)
    (hsw : swapsWith (.Call (.Attribute (.Name y np) "append" apos) [.Call (.Name x xp) (.Name z zp :: es) [] cp] [] cpos) none pos.line X.env = pure false := by rfl) :
    DS X W (.Expr (.Call (.Attribute (.Name y np) "append" apos) [.Call (.Name x xp) (.Name z zp :: es) [] cp] [] cpos) pos) (appS i j gl fc) := by
  obtain ⟨f, fd, ps, F, hm, hk, hb⟩ := C.ex
  refine ⟨fun M0 H0 => (ps_expr (pe_bm PySem.F.plainAttrs_list PySem.F.slot_list_append PySem.F.type_list_append mtr_append hv (pa_cons (pe_callS F hr hg hm hk hb (fun st => passAt tk st) (pa_cons hz ha.run he) hdb he hpl) pa_nil hs) hbase hfew hline hs hplain) hsw).imp fun E st H ⟨r, M, t, q⟩ => ?_⟩
  unfold appS at q
  split at q
  · rename_i xs A h ts bs hi hj
    obtain ⟨l, vs, e1, m, hH, rv⟩ := t.en.slot i _ hi
    obtain ⟨e0, S⟩ := t.en.slot j _ hj
    refine ⟨_, e1, ⟨.inl ⟨rfl, vs, SqL.of hH⟩, ?_⟩⟩
    refine ⟨_, e0, r, M, t.en, ?_⟩
    cases hgl : gl r with
    | ex c => rw [hgl] at q; exact q.elim
    | no => rw [hgl] at q; exact q.elim
    | ok ds =>
      rw [hgl, fold_ok] at q
      intro us H1 s1 rl
      refine goS_ok (t.same s1) e0 rl (by rw [rl.length, ha.len r ds hgl, hn]) q (Pr := fun o => DemS X.K W M0 H0 E o) (fun z => z) fun d r2 v H' q2 t2 rv2 keep => ?_
      have hi2 := keep i _ hij hi
      obtain ⟨l2, vs2, e2, m2, hH2, rl2⟩ := t2.en.slot i _ hi2
      rw [e1] at e2
      cases e2
      unfold apnd at q2
      rw [hi2] at q2
      simp only at q2
      by_cases hc : xs.length < 16777216
      · rw [if_pos hc] at q2
        refine ⟨l, vs2, v, rfl, rfl, hH2, by rw [rl2.length, sizeLine_eq]; exact hc, ?_⟩
        exact q2 M st _ (t2.write hi2 e1 (rl2.app (.one rv2)))
      · rw [if_neg hc] at q2
        exact q2.elim
  · exact q.elim
/-- return f(s, ..) -/
noncomputable def rcS (j : Nat) (gl : Rho → Res (List D)) (fc : FnSt) (r : Rho) : OutS := match (r[j]? : Option Sl) with
  | some (.sta _ _ _ _) => (gl r).fold (fun ds => goS j fc (fun d r => .rt d r) .no ds r) (fun _ => .no) .no
  | _ => .no
theorem dx_rc {j k n : Nat} {fc : FnSt} {x z : Str} {zp xp cp : Pos} {cs : Nat → Addr} (tk : Takes X (lft cs W)) (C : CalS X.prog X.w X.K X.mg X.base k n x fc) (hr : Room k X.A) (hz : PE X (.Name z zp) (tVar j)) (ha : DL X W es gl) (hn : n = es.length + 1 := by rfl)
    (hg : Gl X x := by rfl) (hdb : (x == ("__debug__" : Str)) = false := by decide) (he : starEach (.Name z zp :: es) X.env = (false, eval (.Name z zp) X.env) :: starEach es X.env := by rfl) (hpl : (backTo cp (starEach es X.env)).any (·.1) = false := by rfl) :
    DX X (.Return (some (.Call (.Name x xp) (.Name z zp :: es) [] cp)) pos) (rcS j gl fc) := by
  obtain ⟨f, fd, ps, F, hm, hk, hb⟩ := C.ex
  refine ⟨fun M0 H0 => (ps_ret (pe_callS F hr hg hm hk hb (fun st => passAt tk st) (pa_cons hz ha.run he) hdb he hpl)).imp fun E st H ⟨r, M, t, q⟩ => ?_⟩
  unfold rcS at q
  split at q
  · rename_i A h ts bs hj
    obtain ⟨e0, S⟩ := t.en.slot j _ hj
    refine ⟨_, e0, r, M, t.en, ?_⟩
    cases hgl : gl r with
    | ex c => rw [hgl] at q; exact q.elim
    | no => rw [hgl] at q; exact q.elim
    | ok ds =>
      rw [hgl, fold_ok] at q
      intro us H1 s1 rl
      exact goS_ok (t.same s1) e0 rl (by rw [rl.length, ha.len r ds hgl, hn]) q (Pr := fun o => DemX X.K M0 H0 E o) (fun z => z) fun d r2 v H' q2 t2 rv2 _ => q2 M st H' v t2 rv2
  · exact q.elim
/-! ### calls with a list that still changes, whose answer is plain -/
def tAF (K : PySem.W.Frag) (W : PWs) (g : Rho → Res (List D)) : TA := fun st H Q => ∃ r M, En K M H st r ∧ (match g r with
  | .ok ds => ∀ vs H', Same H H' → RpL K (fun _ => False) H' vs ds → Q vs H'
  | .ex c => ∀ H', Same H H' → W c st H'
  | .no => False)
structure DF (X : Cx) (W : PWs) (es : List Expr) (g : Rho → Res (List D)) : Prop where
  run : PA X es (tAF X.K W g)
  len : ∀ r ds, g r = .ok ds → ds.length = es.length
theorem Rw.any {M : MS} {H : Hp} {v : V} {d : D} (h : Rw K M H v d) : Rp K (fun _ => False) H v d := by
  cases d with
  | list ds =>
    obtain ⟨a, xs, rfl, rr, l⟩ := h.lst_
    have l' : RpL K (fun _ => False) H xs ds := l.anti fun _ z => z.elim
    rcases rr with rr | rr
    · exact .lst (fun z => z) rr l'
    · exact .kls rr l'
  | none => exact (show Rp K M H v .none from h).anti fun _ z => z.elim
  | bool b => exact (show Rp K M H v (.bool b) from h).anti fun _ z => z.elim
  | int i => exact (show Rp K M H v (.int i) from h).anti fun _ z => z.elim
  | str x => exact (show Rp K M H v (.str x) from h).anti fun _ z => z.elim
  | tuple ds => exact (show Rp K M H v (.tuple ds) from h).anti fun _ z => z.elim
  | dict ds => cases (show Rp K M H v (.dict ds) from h)
variable {g : Rho → Res D} {e2 : Expr}
theorem df_nil : DF X W [] (fun _ => .ok []) := ⟨pa_nil.imp fun st H Q ⟨r, M, en, q⟩ => q [] H (Same.refl _) .nil, fun r ds e => by cases e; rfl⟩
theorem df_cons (h : DW X W e g) (hr : DF X W es gl) (hs : starEach (e :: es) X.env = (false, eval e X.env) :: starEach es X.env := by rfl) : DF X W (e :: es) (consA g gl) := by
  refine ⟨(pa_cons h.run hr.run hs).imp fun st H Q ⟨r, M, en, q⟩ => ⟨r, M, en, ?_⟩, fun r ds e => ?_⟩
  · unfold consA at q
    cases hg : g r with
    | ex c => rw [hg] at q; exact q
    | no => rw [hg] at q; exact q
    | ok d =>
      rw [hg] at q
      intro v H1 s1 rv
      refine ⟨r, M, en.same s1, ?_⟩
      simp only [bind_ok] at q
      cases hl : gl r with
      | ex c => rw [hl] at q; exact fun H2 s2 => q H2 (s1.trans s2)
      | no => rw [hl] at q; exact q
      | ok ds =>
        rw [hl] at q
        exact fun vs H2 s2 rl => q (v :: vs) H2 (s1.trans s2) (.cons (rv.any.same s2) rl)
  · unfold consA at e
    cases hg : g r with
    | ex c => rw [hg] at e; cases e
    | no => rw [hg] at e; cases e
    | ok d =>
      rw [hg] at e
      simp only [bind_ok] at e
      cases hl : gl r with
      | ex c => rw [hl] at e; cases e
      | no => rw [hl] at e; cases e
      | ok d2 =>
        rw [hl] at e
        cases e
        simp [hr.len r d2 hl]
def plainR : D → Res D := fun d => if flatD d = true then .ok d else .no
def callF (gl : Rho → Res (List D)) (fc : List D → Out) (r : Rho) : Res D := (gl r).bind fun ds => (outR (fc ds)).quiet.bind plainR
theorem flat_move {M M' : MS} {H : Hp} {v : V} {d : D} (h : Rp K M H v d) (f : flatD d = true) : Rp K M' H v d := by
  cases d with
  | none => cases h; exact .non
  | bool b => cases h; exact .bl _
  | int i => cases h; exact .int _
  | str x => cases h; exact .str _
  | list ds => cases f
  | tuple ds => cases f
  | dict ds => cases f
theorem de_callF {k n : Nat} {fc : List D → Out} {x : Str} {cs : Nat → Addr} (tk : Takes X (lft cs W)) (C : Cal cs X.prog X.w X.K X.mg X.base k n x fc) (hr : Room k X.A)
    (ha : DF X W (e :: es) gl) (hn : n = es.length + 1 := by rfl) (hg : Gl X x := by rfl) (hdb : (x == ("__debug__" : Str)) = false := by decide) (he : starEach (e :: es) X.env = (false, eval e X.env) :: starEach es X.env := by rfl) (hpl : (backTo pos (starEach es X.env)).any (·.1) = false := by rfl) :
    DE X W (.Call (.Name x p) (e :: es) [] pos) (callF gl fc) := by
  obtain ⟨f, fd, ps, F, hm, hk, hb⟩ := C.ex
  refine ⟨(pe_callS F hr hg hm hk hb (fun st => passAt tk st) ha.run hdb he hpl).imp fun st H Q ⟨r, M, en, q⟩ => ⟨r, M, en, ?_⟩⟩
  unfold callF at q
  cases hgl : gl r with
  | ex c => rw [hgl] at q; exact q
  | no => rw [hgl] at q; exact q
  | ok ds =>
    rw [hgl] at q
    simp only [bind_ok] at q
    intro vs H1 s1 rl
    refine ⟨by rw [rl.length, ha.len r ds hgl, hn]; rfl, fun _ => False, ds, ⟨fun l z => z.elim, (en.same s1).live.2⟩, rl, ?_⟩
    revert q
    cases outR (fc ds) with
    | ok d =>
      intro q v H' s' rv
      simp only [quiet_ok, bind_ok] at q
      unfold plainR at q
      by_cases hf : flatD d = true
      · rw [if_pos hf] at q
        exact q v H' (s1.trans s') (flat_move rv hf)
      · rw [if_neg hf] at q
        exact q.elim
    | ex c => exact fun q => q.elim
    | no => exact fun q => q.elim
end
end PD

namespace PD
open PySem PySem.Spec PyProof.Rows L2
/-! ### s = {"history": (), "tariffs": [], "bills": []} -/
def noSta (r : Rho) : Prop := ∀ (i : Nat) (A : SA) (h : D) (ts bs : List D), r[i]? ≠ some (.sta A h ts bs)
section
variable {K : PySem.W.Frag} {M0 M : MS} {H0 H H2 : Hp} {st : Sg} {r : Rho}
theorem Sts.adoptS (s : Sts K M0 H0 M H st r) {i : Nat} {A : SA} {h : D} {ts bs : List D} (ns : noSta r) (q : Same H H2) (hp : ∀ l, A.has l → H l = none) (S : StaAt K (fun l => M l ∨ A.has l) H2 A h ts bs) :
    Sts K M0 H0 (fun l => M l ∨ A.has l) H2 (st.set i (some (.ref A.a))) (r.set i (.sta A h ts bs)) := by
  have fr : ∀ l, A.has l → ¬ M l := fun l z => s.en.fresh (hp l z)
  have grow : ∀ {a : Addr}, ¬ M a → (∃ o, H a = some o) → ¬ (M a ∨ A.has a) := fun {a} n ⟨o, e⟩ z => z.elim n fun q => by rw [hp a q] at e; cases e
  have un : ∀ {j : Nat} {z : Option V}, j ≠ i → (st.set i (some (.ref A.a)))[j]? = some z → st[j]? = some z := fun {j z} n e => by
    rw [List.getElem?_set_ne (Ne.symm n)] at e
    exact e
  have nb : ∀ {k : Nat} {kd : Kd} {xs : List D}, (r.set i (.sta A h ts bs))[k]? = some (.box kd xs) → k ≠ i ∧ r[k]? = some (.box kd xs) := fun {k kd xs} e => by
    rcases set_get e with ⟨_, q, _⟩ | q
    · cases q
    · exact q
  have nst : ∀ {k : Nat} {B : SA} {d : D} {us vs : List D}, (r.set i (.sta A h ts bs))[k]? = some (.sta B d us vs) → k = i ∧ B = A := fun {k B d us vs} e => by
    rcases set_get e with ⟨e1, q, _⟩ | q
    · cases q
      exact ⟨e1, rfl⟩
    · exact absurd q.2 (ns _ _ _ _ _)
  refine ⟨⟨⟨fun l z => ?_, fun P t => q.t P (s.en.live.2 P t)⟩, fun j z e => ?_, by rw [List.length_set, List.length_set]; exact s.len⟩, s.keep.trans q, fun l z => .inl (s.sub l z), fun l z => ?_, by rw [List.length_set, List.length_set]; exact s.len,
    fun a b l k k2 xs ys h1 h2 h3 h4 => s.dis a b l k k2 xs ys (nb h1).2 (nb h2).2 (un (nb h1).1 h3) (un (nb h2).1 h4), fun a l k xs h1 h2 => s.own0 a l k xs (nb h1).2 (un (nb h1).1 h2),
    ⟨fun a b B C d d' us vs us' vs' e1 e2 => by rw [(nst e1).1, (nst e2).1], fun a b l kd xs B d us vs e1 e2 e3 z => ?_, fun a B d us vs l e z m => ?_⟩⟩
  · by_cases n : A.has l
    · exact S.obj n
    · rcases z with z | z
      · obtain ⟨k, us, e⟩ := s.en.live.1 l z
        exact ⟨k, us, q.k _ _ e (k.nt us)⟩
      · exact absurd z n
  · rcases set_get e with ⟨rfl, rfl, hj⟩ | ⟨hj, e⟩
    · have hj' : j < st.length := by rw [s.len]; exact hj
      exact ⟨by rw [List.getElem?_set_self hj'], S⟩
    · have z' := s.en.slot j z e
      rw [List.getElem?_set_ne (Ne.symm hj)]
      cases z with
      | no => exact trivial
      | exc a => exact z'
      | val d =>
        obtain ⟨v, e1, q1⟩ := z'
        exact ⟨v, e1, Rp.to (fun a n e => grow n e) (fun a o _ e n => q.k a o e n) d v q1⟩
      | box k2 xs =>
        obtain ⟨l, ws, e1, m, hl, q1⟩ := z'
        exact ⟨l, ws, e1, .inl m, q.k _ _ hl (k2.nt ws), RpL.to (fun a n e => grow n e) (fun a o _ e n => q.k a o e n) xs ws q1⟩
      | sta B d us vs => exact absurd e (ns _ _ _ _ _)
  · rcases z with z | z
    · exact s.new l z
    · exact .inr (s.keep.d _ (hp l z))
  · have e1' := nb e1
    obtain ⟨l', vs', e3', m, hl, _⟩ := s.en.slot a _ e1'.2
    rw [un e1'.1 e2] at e3'
    cases e3'
    rw [(nst e3).2] at z
    rw [hp _ z] at hl
    cases hl
  · rw [(nst e).2] at z
    exact fr l z (s.sub l m)
end
open Classical in
/-- the rest, wherever the state lies -/
noncomputable def newS (i : Nat) (f : Rho → Out) (r : Rho) : Out :=
  if noSta r then (if h : ∃ o, ∀ A : SA, f (r.set i (.sta A (.tuple []) [] [])) = o then choose h else .no) else .no
theorem newS_eq {i : Nat} {f : Rho → Out} {r : Rho} {o : Out} (n : noSta r) (h : ∀ A : SA, f (r.set i (.sta A (.tuple []) [] [])) = o) : newS i f r = o := by
  have ex : ∃ o, ∀ A : SA, f (r.set i (.sta A (.tuple []) [] [])) = o := ⟨o, h⟩
  unfold newS
  rw [if_pos n, dif_pos ex, ← Classical.choose_spec ex ⟨0, 0, 0⟩]
  exact h ⟨0, 0, 0⟩
theorem merge3 (u v w : V) : mergeK [] [(kHis, u), (kTar, v), (kBil, w)] = [(kHis, u), (kTar, v), (kBil, w)] := by
  have e1 : putK ([] : List (Key × V)) kHis u = [(kHis, u)] := rfl
  have e2 : putK [(kHis, u)] kTar v = [(kHis, u), (kTar, v)] := by
    unfold putK
    rw [if_neg (by rw [List.any_cons, List.any_nil]; simp only [Bool.or_false, decide_eq_true_eq]; exact kne1)]
    rfl
  have e3 : putK [(kHis, u), (kTar, v)] kBil w = [(kHis, u), (kTar, v), (kBil, w)] := by
    unfold putK
    rw [if_neg (by rw [List.any_cons, List.any_cons, List.any_nil]; simp only [Bool.or_false, Bool.or_eq_true, decide_eq_true_eq]; exact fun z => z.elim kne2 kne3)]
    rfl
  unfold mergeK
  rw [List.foldl_cons, List.foldl_cons, List.foldl_cons, List.foldl_nil, e1, e2, e3]
section
variable {X : Cx} {W : PWs} {ss : List Stmt} {f : Rho → Out} {pos p : Pos}
theorem ds_newS {i j1 j2 j3 jt : Nat} {x : Str} {pos' dp k1 k2 k3 tp l1 l2 : Pos} (hN : X.N.Nodup) (hi : X.N[i]? = some x) (hx : Loc X.env.scope x) (h : DSs X W ss f)
    (hs : swapsWith (.Dict [some (.Constant (.str (PySem.Str.ofString "history")) j1 k1), some (.Constant (.str (PySem.Str.ofString "tariffs")) j2 k2), some (.Constant (.str (PySem.Str.ofString "bills")) j3 k3)] [.Tuple [] jt tp, .List [] l1, .List [] l2] dp) (some (.Name x pos')) pos.line X.env = pure false := by rfl)
    (hf : X.fn x = true ∨ X.env.scope.names.lookup x = some .local := by first | exact .inl rfl | exact .inr rfl | assumption) :
    DSs X W (.Assign [.Name x pos'] (.Dict [some (.Constant (.str (PySem.Str.ofString "history")) j1 k1), some (.Constant (.str (PySem.Str.ofString "tariffs")) j2 k2), some (.Constant (.str (PySem.Str.ofString "bills")) j3 k3)] [.Tuple [] jt tp, .List [] l1, .List [] l2] dp) pos :: ss) (newS i f) :=
  ⟨fun M0 H0 => (pss_cons (ps_set hN hi hx (pe_disp (pps_cons pe_str (pe_tup pa_nil) (pps_cons pe_str (pe_lst pa_nil) (pps_cons pe_str (pe_lst pa_nil) pps_nil))) rfl rfl (fun z => by cases z) (by simp)) hs hf) (h.run M0 H0)).imp fun E st H ⟨r, M, t, q⟩ => by
    unfold newS at q
    by_cases ns : noSta r
    · rw [if_pos ns] at q
      by_cases ex : ∃ o, ∀ A : SA, f (r.set i (.sta A (.tuple []) [] [])) = o
      · rw [dif_pos ex] at q
        intro p hp
        refine ⟨by rw [sizeLine_eq]; decide, fun p1 hp1 => ?_⟩
        refine ⟨by rw [sizeLine_eq]; decide, fun p2 hp2 => ?_⟩
        refine ⟨by rw [sizeLine_eq]; decide, fun p3 hp3 => ?_⟩
        have n1 : p1 ≠ p := fun z => by rw [z, upd_same] at hp1; cases hp1
        rw [upd_ne n1] at hp1
        have n2 : p2 ≠ p1 := fun z => by rw [z, upd_same] at hp2; cases hp2
        rw [upd_ne n2] at hp2
        have n2' : p2 ≠ p := fun z => by rw [z, upd_same] at hp2; cases hp2
        rw [upd_ne n2'] at hp2
        have n3 : p3 ≠ p2 := fun z => by rw [z, upd_same] at hp3; cases hp3
        rw [upd_ne n3] at hp3
        have n3' : p3 ≠ p1 := fun z => by rw [z, upd_same] at hp3; cases hp3
        rw [upd_ne n3'] at hp3
        have n3'' : p3 ≠ p := fun z => by rw [z, upd_same] at hp3; cases hp3
        rw [upd_ne n3''] at hp3
        refine ⟨by rw [upd_ne n3''.symm, upd_ne n2'.symm, upd_ne n1.symm, upd_same], [(kHis, .ref p1), (kTar, .ref p2), (kBil, .ref p3)], rfl, by simp, ?_⟩
        rw [merge3]
        have hA : ∀ l, (SA.mk p p2 p3).has l → H l = none := fun l z => by
          rcases z with z | z | z
          · exact z ▸ hp
          · exact z ▸ hp2
          · exact z ▸ hp3
        have sm : Same H (upd (upd (upd (upd (upd H p (.dK [])) p1 (.tup [])) p2 (.lst [])) p3 (.lst [])) p (staO (.ref p1) p2 p3)) := .of fun b o e => by
          rw [upd_ne (ne_of_none e hp), upd_ne (ne_of_none e hp3), upd_ne (ne_of_none e hp2), upd_ne (ne_of_none e hp1), upd_ne (ne_of_none e hp)]
          exact e
        have nm : ¬ (M p1 ∨ (SA.mk p p2 p3).has p1) := fun z => by
          rcases z with z | z | z | z
          · exact t.en.fresh hp1 z
          · exact n1 z
          · exact n2 z.symm
          · exact n3' z.symm
        refine ⟨_, _, t.adoptS (i := i) (A := ⟨p, p2, p3⟩) (h := .tuple []) (ts := []) (bs := []) ns sm hA ⟨n3.symm, fun l z => .inr z, .ref p1, [], [], upd_same, ?_, ?_, .tup nm (.inl ?_) .nil, .nil, .nil⟩, ?_⟩
        · rw [upd_ne n2', upd_ne n3.symm, upd_same]
        · rw [upd_ne n3'', upd_same]
        · rw [upd_ne n1, upd_ne n3'.symm, upd_ne n2.symm, upd_same]
        · rw [Classical.choose_spec ex ⟨p, p2, p3⟩]
          exact q
      · rw [dif_neg ex] at q
        exact q.elim
    · rw [if_neg ns] at q
      exact q.elim⟩
end
/-! ### zip of two lists -/
section
variable {K : PySem.W.Frag} {X : Cx} {W : PWs} {a b : Expr} {ga gb : Rho → Res D} {pos p : Pos}
def zipD (ds es : List D) : List D := (ds.zip es).map fun p => .tuple [p.1, p.2]
theorem Rp.stay {M : MS} {H : Hp} {v : V} {ds : List D} (h : Rp K M H v (.list ds)) : ∃ a xs, v = .ref a ∧ SqL K H a xs ∧ RpL K M H xs ds ∧ ∀ (Hb H2 : Hp), (∀ b o, ¬ M b → H b = some o → Hb b = some o) → Same Hb H2 → SqL K H2 a xs := by
  cases h with
  | lst n r1 l1 => exact ⟨_, _, rfl, .inl r1, l1, fun Hb H2 hb s2 => .inl (rd_to (rd_to r1 (nt_lst _) fun o e _ => hb _ o n e) (nt_lst _) fun o e nt => s2.k _ o e nt)⟩
  | kls r1 l1 => exact ⟨_, _, rfl, .inr r1, l1, fun Hb H2 hb s2 => .inr r1⟩
theorem serves_zip {M M0 : MS} {H1 Hb : Hp} {a b : Addr} {xs ys : List V} {ds es : List D} (hS : ∀ H2, Same Hb H2 → SqL K H2 a xs) (hT : ∀ H2, Same Hb H2 → SqL K H2 b ys) (hl : RpL K M H1 xs ds) (hl2 : RpL K M H1 ys es) (h0 : ∀ l, M0 l → M l) (hb : ∀ b o, ¬ M b → H1 b = some o → Hb b = some o) :
    Serves K M0 Hb (Itz K a b) (zipD ds es) := by
  intro i M2 H2 s2 n2 l2
  have r2 := hS H2 s2
  have r3 := hT H2 s2
  have mv : ∀ {vs : List V} {qs : List D}, RpL K M H1 vs qs → RpL K M2 H2 vs qs := fun {vs qs} hl => by
    have lb : RpL K M0 Hb vs qs := RpL.to (fun b n _ z => n (h0 b z)) (fun b o n e _ => hb b o n e) qs vs hl
    exact RpL.to (fun b n ⟨o, e⟩ z => by
      rcases n2 b z with q | q
      · exact n q
      · rw [e] at q; cases q) (fun b o _ e nt => s2.k b o e nt) qs vs lb
  have lx := mv hl
  have ly := mv hl2
  have len : (zipD ds es).length = min ds.length es.length := by simp [zipD]
  refine ⟨fun d hd => ?_, fun hi => ⟨xs, ys, r2, r3, by rw [lx.length, ly.length]; rw [len] at hi; omega⟩⟩
  unfold zipD at hd
  rw [List.getElem?_map] at hd
  cases e : (ds.zip es)[i]? with
  | none => rw [e] at hd; cases hd
  | some z =>
    rw [e] at hd
    cases hd
    obtain ⟨e1, e2⟩ := List.getElem?_zip_eq_some.mp e
    obtain ⟨v, hv, rv⟩ := lx.get e1
    obtain ⟨u, hu, ru⟩ := ly.get e2
    refine ⟨⟨xs, ys, v, u, r2, r3, hv, hu⟩, fun x H' ⟨T, y, y', ex, hT, eH, q, q'⟩ => ?_⟩
    have z1 := q xs r2
    rw [hv] at z1
    cases z1
    have z2 := q' ys r3
    rw [hu] at z2
    cases z2
    subst ex eH
    have sm : Same H2 (upd H2 T (.tup [v, u])) := same_upd hT
    have nT : ¬ M2 T := fun z => by
      obtain ⟨o, e⟩ := l2 T z
      rw [hT] at e
      cases e
    exact ⟨sm, .tup nT (.inl upd_same) (.cons (rv.same sm) (.one (ru.same sm)))⟩
def zpE (ga gb : Rho → Res D) (r : Rho) : Res (List D) := (ga r).bind fun d => (gb r).bind fun e => match d, e with
  | .list ds, .list es => .ok (zipD ds es)
  | _, _ => .no
theorem di_zip {tpos : Pos} {elts : List Expr} {kk : Nat} (hm : X.mg "zip" = none) (ha : DE X W a ga) (hb : DE X W b gb) (hg : Gl X "zip" := by rfl) (hs1 : starEach (a :: [b]) X.env = (false, eval a X.env) :: starEach [b] X.env := by rfl) (hs2 : starEach (b :: []) X.env = (false, eval b X.env) :: starEach [] X.env := by rfl) (hpl : (backTo pos (starEach [b] X.env)).any (·.1) = false := by rfl) :
    DI X W (.Tuple elts kk tpos) (.Call (.Name "zip" p) [a, b] [] pos) (zpE ga gb) :=
  ⟨(pi_zip hg hm (pa_cons ha.run (pa_cons hb.run pa_nil hs2) hs1) hs1 hpl).imp fun st H R ⟨r, M, en, q⟩ => by
    refine ⟨r, M, en, ?_⟩
    unfold zpE at q
    cases hga : ga r with
    | ex c => rw [hga] at q; exact q
    | no => rw [hga] at q; exact q
    | ok d =>
      rw [hga] at q
      simp only [bind_ok] at q
      intro v H1 s1 rv
      refine ⟨r, M, en.same s1, ?_⟩
      cases hgb : gb r with
      | ex c => rw [hgb] at q; exact fun H2 s2 => q H2 (s1.trans s2)
      | no => rw [hgb] at q; exact q
      | ok e =>
        rw [hgb] at q
        simp only [bind_ok] at q
        intro u H2 s2 ru
        cases d <;> first
          | exact q.elim
          | skip
        cases e <;> first
          | exact q.elim
          | skip
        obtain ⟨a1, xs, rfl, hx, lx, sx⟩ := (rv.same s2).stay
        obtain ⟨b1, ys, rfl, hy, ly, sy⟩ := ru.stay
        exact ⟨a1, b1, xs, ys, rfl, hx, hy, q _ H2 (s1.trans s2) fun M0 Hb h0 hb => serves_zip (fun H3 s3 => sx Hb H3 hb s3) (fun H3 s3 => sy Hb H3 hb s3) lx ly h0 hb⟩⟩
end
end PD


namespace K11
open PySem PySem.Spec PyProof.Rows L2 PD
/-- the text's statements by their places -/
abbrev topS (i : Nat) : Stmt := PySem.Challenge.pw_metergap_k11_whole_plays.main.body.getD i (.Pass ⟨0, 0, 0, 0⟩)

/-- the built-in names that the text does not store -/
structure Bi (mg : Str → Option Value) : Prop where
  len : mg "len" = none
  enumerate : mg "enumerate" = none
  range : mg "range" = none
  min : mg "min" = none
  sum : mg "sum" = none
  any : mg "any" = none
  tuple : mg "tuple" = none
  sorted : mg "sorted" = none
  int : mg "int" = none
  max : mg "max" = none
  isinstance : mg "isinstance" = none
  str : mg "str" = none
  list : mg "list" = none
  zip : mg "zip" = none
  bool : mg "bool" = none
/-- is the class c one of those under C -/
def subC (c C : Nat) : Bool := (([[0], [0, 1], [0, 2], [0, 3], [0, 4], [0, 5]] : List (List Nat)).getD c [0]).contains C
/-- what the text says of its classes -/
structure Txt (K : PySem.W.Frag) (mg : Str → Option Value) (cs : Nat → Addr) : Prop where
  a_MeterError : ExcAt K mg "MeterError" (cs 0)
  a_NoMeter : ExcAt K mg "NoMeter" (cs 1)
  a_StandsAlready : ExcAt K mg "StandsAlready" (cs 2)
  a_NotLater : ExcAt K mg "NotLater" (cs 3)
  a_NoValue : ExcAt K mg "NoValue" (cs 4)
  a_NoReading : ExcAt K mg "NoReading" (cs 5)
  c : ∀ c, ExcC K (cs c)
  kitv : ∀ c, PySem.W.kitOne K (.ref (cs c)) (.type "ValueError") = some true
  exm_NoMeter : ∀ c, PySem.W.exmOne K (.ref (cs c)) (.ref (cs 1)) = some (subC c 1)
  exm_StandsAlready : ∀ c, PySem.W.exmOne K (.ref (cs c)) (.ref (cs 2)) = some (subC c 2)
  exm_NotLater : ∀ c, PySem.W.exmOne K (.ref (cs c)) (.ref (cs 3)) = some (subC c 3)
  exm_NoValue : ∀ c, PySem.W.exmOne K (.ref (cs c)) (.ref (cs 4)) = some (subC c 4)
  exm_NoReading : ∀ c, PySem.W.exmOne K (.ref (cs c)) (.ref (cs 5)) = some (subC c 5)
section
variable {P : Program} {w : World} {K : PySem.W.Frag} {mg : Str → Option Value} {base : Heap}
/-! ### _law_most_by -/
abbrev s__law_most_by : Stmt := topS 48
abbrev nm__law_most_by : List Str := ["_law_cell"]
theorem sc__law_most_by : FnScope nm__law_most_by ["_law_cell"] (defScope s__law_most_by) := ⟨rfl, rfl, rfl, by decide +kernel, rfl, by decide +kernel, by decide +kernel⟩
noncomputable def b__law_most_by : Rho → Out :=
  (sqf (sIf (thn1 (bin2 qEq (bin2 iMod (rdw 0) (fun _ => .ok (.int 8))) (fun _ => .ok (.int 7))) asB) (sqf (retE (bin2 iMod (bin2 iDiv (rdw 0) (fun _ => .ok (.int 8))) (bin2 pAdd (fun _ => .ok (.int 1000000000000)) (fun _ => .ok (.int 1))))) .nx) .nx) (sqf (retE (bin2 qIx (lstA (consA (fun _ => .ok (.int 0)) (consA (fun _ => .ok (.int 1)) (consA (fun _ => .ok (.int 3)) (consA (fun _ => .ok (.int 10)) (consA (fun _ => .ok (.int 40)) (consA (fun _ => .ok (.int 1000000000000)) (consA (fun _ => .ok (.int 100)) (fun _ => .ok []))))))))) (bin2 iMod (rdw 0) (fun _ => .ok (.int 8))))) .nx))
noncomputable def f__law_most_by : List D → Out := fnD b__law_most_by 1
theorem fo__law_most_by {cs : Nat → Addr} {f : Addr} {fd : FuncData} (F : Fun K "_law_most_by" "_law_most_by" s__law_most_by f fd) (B : Bi mg) :
    FnOk P w K mg base (L2.CX P w) 1 f fd ["_law_cell"] (spD cs K 1 f__law_most_by) := by
  refine def_ok (K := K) F sc__law_most_by (fun cdv A outer s H E hr => ?_)
  exact (ds_cons (ds_if (dt_eq (by exact hr.units) (de_mod (dw_var (pv 0)) de_int.weak).weak de_int.weak) (ds_cons (ds_ret (de_mod (de_div (dw_var (pv 0)) de_int.weak).weak (de_add (de_pow (by decide) (by decide)).weak de_int.weak).weak)) ds_nil) ds_nil) (ds_cons (ds_ret (de_at (de_lst (dl_cons de_int (dl_cons de_int (dl_cons de_int (dl_cons de_int (dl_cons de_int (dl_cons (de_pow (by decide) (by decide)) (dl_cons de_int dl_nil)))))))).weak (de_mod (dw_var (pv 0)) de_int.weak).weak)) ds_nil))
/-! ### check_day -/
abbrev s_check_day : Stmt := topS 38
abbrev nm_check_day : List Str := ["history", "day", "latest"]
theorem sc_check_day : FnScope nm_check_day ["history", "day"] (defScope s_check_day) := ⟨rfl, rfl, rfl, by decide +kernel, rfl, by decide +kernel, by decide +kernel⟩
noncomputable def b_check_day : Rho → Out :=
  (sqf (sIf (notT (thn1 (rdw 0) tru)) (sqf (fun r => .ex 1 r) .nx) .nx) (sqf (setE 2 (bin2 qIx (bin2 qIx (rdw 0) (then1 (fun _ => .ok (.int 1)) negI)) (fun _ => .ok (.int 1)))) (sqf (sIf (thn1 (bin2 (iCmp fun i j => decide (i ≤ j)) (rdw 1) (rdw 2)) asB) (sqf (rsE (msgI (rdw 1) (msgI (rdw 2) (fun _ => .ok true))) 3) .nx) .nx) .nx)))
noncomputable def f_check_day : List D → Out := fnD b_check_day 3
theorem fo_check_day {cs : Nat → Addr} {f : Addr} {fd : FuncData} (F : Fun K "check_day" "check_day" s_check_day f fd) (B : Bi mg) (T : Txt K mg cs) :
    FnOk P w K mg base (L2.CX P w) 1 f fd ["history", "day"] (spD cs K 2 f_check_day) := by
  refine def_ok (K := K) F sc_check_day (fun cdv A outer s H E hr => ?_)
  exact (ds_cons (ds_if (dt_not (dt_tru (dw_var (pv 0)))) (ds_cons (ds_raise rfl tk_of T.a_NoMeter) ds_nil) ds_nil) (ds_cons (ds_set (i := 2) sc_check_day.nd rfl (by first | exact Or.inl rfl | exact Or.inr rfl) (de_at (de_at (dw_var (pv 0)) (de_neg de_int.weak).weak).weak de_int.weak)) (ds_cons (ds_if (dt_le (dw_var (pv 1)) (dw_var (pv 2))) (ds_cons (ds_raiseF rfl tk_of T.a_NotLater (.str (by decide) (.int (dw_var (pv 1)) (.str (by decide) (.int (dw_var (pv 2)) (.nil (by decide))))))) ds_nil) ds_nil) ds_nil)))
/-! ### check_value -/
abbrev s_check_value : Stmt := topS 39
abbrev nm_check_value : List Str := ["size", "value"]
theorem sc_check_value : FnScope nm_check_value ["size", "value"] (defScope s_check_value) := ⟨rfl, rfl, rfl, by decide +kernel, rfl, by decide +kernel, by decide +kernel⟩
noncomputable def b_check_value : Rho → Out :=
  (sqf (sIf (thn1 (bin2 (iCmp fun i j => decide (j ≤ i)) (rdw 1) (rdw 0)) asB) (sqf (rsE (msgI (rdw 0) (msgI (rdw 1) (fun _ => .ok true))) 4) .nx) .nx) .nx)
noncomputable def f_check_value : List D → Out := fnD b_check_value 2
theorem fo_check_value {cs : Nat → Addr} {f : Addr} {fd : FuncData} (F : Fun K "check_value" "check_value" s_check_value f fd) (B : Bi mg) (T : Txt K mg cs) :
    FnOk P w K mg base (L2.CX P w) 1 f fd ["size", "value"] (spD cs K 2 f_check_value) := by
  refine def_ok (K := K) F sc_check_value (fun cdv A outer s H E hr => ?_)
  exact (ds_cons (ds_if (dt_ge (dw_var (pv 1)) (dw_var (pv 0))) (ds_cons (ds_raiseF rfl tk_of T.a_NoValue (.str (by decide) (.int (dw_var (pv 0)) (.str (by decide) (.int (dw_var (pv 1)) (.nil (by decide))))))) ds_nil) ds_nil) ds_nil)
/-! ### size_at -/
abbrev s_size_at : Stmt := topS 35
abbrev nm_size_at : List Str := ["history", "place", "at", "entry"]
theorem sc_size_at : FnScope nm_size_at ["history", "place"] (defScope s_size_at) := ⟨rfl, rfl, rfl, by decide +kernel, rfl, by decide +kernel, by decide +kernel⟩
noncomputable def lb_size_at_1 : Rho → Out :=
  (sqf (augE 2 (opI fun i j => i - j) (fun _ => .ok (.int 1))) .nx)
noncomputable def r_size_at_3 : Rho → Out :=
  (sqf (retE (ifV (thn1 (bin2 qEq (bin2 qIx (rdw 3) (fun _ => .ok (.int 0))) (fun _ => .ok (.str (PySem.Str.ofString "start")))) asB) (bin2 qIx (rdw 3) (fun _ => .ok (.int 2))) (bin2 qIx (rdw 3) (fun _ => .ok (.int 3))))) .nx)
noncomputable def r_size_at_2 : Rho → Out :=
  (sqf (setE 3 (bin2 qIx (rdw 0) (rdw 2))) r_size_at_3)
noncomputable def r_size_at_1 : Rho → Out :=
  (sqf (whileD (thn1 (bin2 qEq (bin2 qIx (bin2 qIx (rdw 0) (rdw 2)) (fun _ => .ok (.int 0))) (fun _ => .ok (.str (PySem.Str.ofString "read")))) asB) lb_size_at_1 1000) r_size_at_2)
noncomputable def b_size_at : Rho → Out :=
  (sqf (setE 2 (rd 1)) r_size_at_1)
noncomputable def f_size_at : List D → Out := fnD b_size_at 4
theorem fo_size_at {cs : Nat → Addr} {f : Addr} {fd : FuncData} (F : Fun K "size_at" "size_at" s_size_at f fd) (B : Bi mg) :
    FnOk P w K mg base (L2.CX P w) 1 f fd ["history", "place"] (spD cs K 2 f_size_at) := by
  refine def_ok (K := K) F sc_size_at (fun cdv A outer s H E hr => ?_)
  exact (ds_cons (ds_set (i := 2) sc_size_at.nd rfl (by first | exact Or.inl rfl | exact Or.inr rfl) (de_var (pv 1))) (ds_cons (ds_while 1000 po_of (dt_eq (by exact hr.units) (de_at (de_at (dw_var (pv 0)) (dw_var (pv 2))).weak de_int.weak).weak de_str.weak) (ds_cons (ds_aug (i := 2) sc_size_at.nd rfl (by first | exact Or.inl rfl | exact Or.inr rfl) de_int.weak ip_sub) ds_nil)) (ds_cons (ds_set (i := 3) sc_size_at.nd rfl (by first | exact Or.inl rfl | exact Or.inr rfl) (de_at (dw_var (pv 0)) (dw_var (pv 2)))) (ds_cons (ds_ret (de_if (dt_eq (by exact hr.units) (de_at (dw_var (pv 3)) de_int.weak).weak de_str.weak) (de_at (dw_var (pv 3)) de_int.weak) (de_at (dw_var (pv 3)) de_int.weak))) ds_nil))))
/-! ### size_now -/
abbrev s_size_now : Stmt := topS 36
abbrev nm_size_now : List Str := ["history"]
theorem sc_size_now : FnScope nm_size_now ["history"] (defScope s_size_now) := ⟨rfl, rfl, rfl, by decide +kernel, rfl, by decide +kernel, by decide +kernel⟩
noncomputable def b_size_now : Rho → Out :=
  (sqf (retE (callE (consA (rd 0) (consA (bin2 iSub (then1 (rdw 0) bLen) (fun _ => .ok (.int 1))) (fun _ => .ok []))) f_size_at)) .nx)
noncomputable def f_size_now : List D → Out := fnD b_size_now 1
theorem fo_size_now {cs : Nat → Addr} {f : Addr} {fd : FuncData} (F : Fun K "size_now" "size_now" s_size_now f fd) (B : Bi mg) (G_size_at : Cal cs P w K mg base 1 2 "size_at" f_size_at) :
    FnOk P w K mg base (L2.CX P w) 2 f fd ["history"] (spD cs K 1 f_size_now) := by
  refine def_ok (K := K) F sc_size_now (fun cdv A outer s H E hr => ?_)
  exact (ds_cons (ds_ret (de_callC tk_of G_size_at (by exact hr.mono (by decide)) (dl_cons (de_var (pv 0)) (dl_cons (de_sub (de_len B.len (dw_var (pv 0))).weak de_int.weak) dl_nil)))) ds_nil)
/-! ### read_on -/
abbrev s_read_on : Stmt := topS 32
abbrev nm_read_on : List Str := ["history", "day", "value"]
theorem sc_read_on : FnScope nm_read_on ["history", "day", "value"] (defScope s_read_on) := ⟨rfl, rfl, rfl, by decide +kernel, rfl, by decide +kernel, by decide +kernel⟩
noncomputable def b_read_on : Rho → Out :=
  (sqf (drpE (callE (consA (rd 0) (consA (rd 1) (fun _ => .ok []))) f_check_day)) (sqf (drpE (callE (consA (callE (consA (rd 0) (fun _ => .ok [])) f_size_now) (consA (rd 2) (fun _ => .ok []))) f_check_value)) (sqf (retE (bin2 pAdd (rdw 0) (tupA (consA (tupA (consA (fun _ => .ok (.str (PySem.Str.ofString "read"))) (consA (rd 1) (consA (rd 2) (consA (fun _ => .ok (.bool false)) (fun _ => .ok [])))))) (fun _ => .ok []))))) .nx)))
noncomputable def f_read_on : List D → Out := fnD b_read_on 3
theorem fo_read_on {cs : Nat → Addr} {f : Addr} {fd : FuncData} (F : Fun K "read_on" "read_on" s_read_on f fd) (B : Bi mg) (T : Txt K mg cs) (G_check_day : Cal cs P w K mg base 1 2 "check_day" f_check_day) (G_check_value : Cal cs P w K mg base 1 2 "check_value" f_check_value) (G_size_now : Cal cs P w K mg base 2 1 "size_now" f_size_now) :
    FnOk P w K mg base (L2.CX P w) 3 f fd ["history", "day", "value"] (spD cs K 3 f_read_on) := by
  refine def_ok (K := K) F sc_read_on (fun cdv A outer s H E hr => ?_)
  exact (ds_cons (ds_expr (de_callC tk_of G_check_day (by exact hr.mono (by decide)) (dl_cons (de_var (pv 0)) (dl_cons (de_var (pv 1)) dl_nil)))) (ds_cons (ds_expr (de_callC tk_of G_check_value (by exact hr.mono (by decide)) (dl_cons (de_callC tk_of G_size_now (by exact hr.mono (by decide)) (dl_cons (de_var (pv 0)) dl_nil)) (dl_cons (de_var (pv 2)) dl_nil)))) (ds_cons (ds_ret (de_add (dw_var (pv 0)) (de_tup (dl_cons (de_tup (dl_cons de_str (dl_cons (de_var (pv 1)) (dl_cons (de_var (pv 2)) (dl_cons de_bl dl_nil))))) dl_nil)).weak)) ds_nil)))
/-! ### gone -/
abbrev s_gone : Stmt := topS 1
abbrev nm_gone : List Str := ["size", "one", "other"]
theorem sc_gone : FnScope nm_gone ["size", "one", "other"] (defScope s_gone) := ⟨rfl, rfl, rfl, by decide +kernel, rfl, by decide +kernel, by decide +kernel⟩
noncomputable def b_gone : Rho → Out :=
  (sqf (retE (bin2 iMod (bin2 iSub (rdw 2) (rdw 1)) (rdw 0))) .nx)
noncomputable def f_gone : List D → Out := fnD b_gone 3
theorem fo_gone {cs : Nat → Addr} {f : Addr} {fd : FuncData} (F : Fun K "gone" "gone" s_gone f fd) (B : Bi mg) :
    FnOk P w K mg base (L2.CX P w) 1 f fd ["size", "one", "other"] (spD cs K 3 f_gone) := by
  refine def_ok (K := K) F sc_gone (fun cdv A outer s H E hr => ?_)
  exact (ds_cons (ds_ret (de_mod (de_sub (dw_var (pv 2)) (dw_var (pv 1))).weak (dw_var (pv 0)))) ds_nil)
/-! ### use_since -/
abbrev s_use_since : Stmt := topS 9
abbrev nm_use_since : List Str := ["standing", "entry"]
theorem sc_use_since : FnScope nm_use_since ["standing", "entry"] (defScope s_use_since) := ⟨rfl, rfl, rfl, by decide +kernel, rfl, by decide +kernel, by decide +kernel⟩
noncomputable def b_use_since : Rho → Out :=
  (sqf (retE (callE (consA (bin2 qIx (rdw 0) (fun _ => .ok (.int 1))) (consA (bin2 qIx (rdw 0) (fun _ => .ok (.int 2))) (consA (bin2 qIx (rdw 1) (fun _ => .ok (.int 2))) (fun _ => .ok [])))) f_gone)) .nx)
noncomputable def f_use_since : List D → Out := fnD b_use_since 2
theorem fo_use_since {cs : Nat → Addr} {f : Addr} {fd : FuncData} (F : Fun K "use_since" "use_since" s_use_since f fd) (B : Bi mg) (G_gone : Cal cs P w K mg base 1 3 "gone" f_gone) :
    FnOk P w K mg base (L2.CX P w) 2 f fd ["standing", "entry"] (spD cs K 2 f_use_since) := by
  refine def_ok (K := K) F sc_use_since (fun cdv A outer s H E hr => ?_)
  exact (ds_cons (ds_ret (de_callC tk_of G_gone (by exact hr.mono (by decide)) (dl_cons (de_at (dw_var (pv 0)) de_int.weak) (dl_cons (de_at (dw_var (pv 0)) de_int.weak) (dl_cons (de_at (dw_var (pv 1)) de_int.weak) dl_nil))))) ds_nil)
/-! ### is_counting -/
abbrev s_is_counting : Stmt := topS 7
abbrev nm_is_counting : List Str := ["standing", "entry", "most"]
theorem sc_is_counting : FnScope nm_is_counting ["standing", "entry", "most"] (defScope s_is_counting) := ⟨rfl, rfl, rfl, by decide +kernel, rfl, by decide +kernel, by decide +kernel⟩
noncomputable def b_is_counting : Rho → Out :=
  (sqf (sIf (thn1 (bin2 qNe (bin2 qIx (rdw 1) (fun _ => .ok (.int 0))) (fun _ => .ok (.str (PySem.Str.ofString "read")))) asB) (sqf (retE (fun _ => .ok (.bool true))) .nx) .nx) (sqf (sIf (thn1 (bin2 qIx (rdw 1) (fun _ => .ok (.int 3))) tru) (sqf (retE (fun _ => .ok (.bool false))) .nx) .nx) (sqf (retE (bin2 (iCmp fun i j => decide (i ≤ j)) (callE (consA (rd 0) (consA (rd 1) (fun _ => .ok []))) f_use_since) (bin2 iMul (rdw 2) (bin2 iSub (bin2 qIx (rdw 1) (fun _ => .ok (.int 1))) (bin2 qIx (rdw 0) (fun _ => .ok (.int 0))))))) .nx)))
noncomputable def f_is_counting : List D → Out := fnD b_is_counting 3
theorem fo_is_counting {cs : Nat → Addr} {f : Addr} {fd : FuncData} (F : Fun K "is_counting" "is_counting" s_is_counting f fd) (B : Bi mg) (G_use_since : Cal cs P w K mg base 2 2 "use_since" f_use_since) :
    FnOk P w K mg base (L2.CX P w) 3 f fd ["standing", "entry", "most"] (spD cs K 3 f_is_counting) := by
  refine def_ok (K := K) F sc_is_counting (fun cdv A outer s H E hr => ?_)
  exact (ds_cons (ds_if (dt_ne (by exact hr.units) (de_at (dw_var (pv 1)) de_int.weak).weak de_str.weak) (ds_cons (ds_ret de_bl) ds_nil) ds_nil) (ds_cons (ds_if (dt_tru (de_at (dw_var (pv 1)) de_int.weak).weak) (ds_cons (ds_ret de_bl) ds_nil) ds_nil) (ds_cons (ds_ret (de_le (de_callC tk_of G_use_since (by exact hr.mono (by decide)) (dl_cons (de_var (pv 0)) (dl_cons (de_var (pv 1)) dl_nil))).weak (de_mul (dw_var (pv 2)) (de_sub (de_at (dw_var (pv 1)) de_int.weak).weak (de_at (dw_var (pv 0)) de_int.weak).weak).weak).weak)) ds_nil)))
/-! ### standing_behind -/
abbrev s_standing_behind : Stmt := topS 8
abbrev nm_standing_behind : List Str := ["standing", "entry", "day", "size", "value", "first"]
theorem sc_standing_behind : FnScope nm_standing_behind ["standing", "entry"] (defScope s_standing_behind) := ⟨rfl, rfl, rfl, by decide +kernel, rfl, by decide +kernel, by decide +kernel⟩
noncomputable def mc1_standing_behind_0 : Rho → Out :=
  (sqf (retE (tupA (consA (rd 2) (consA (rd 3) (consA (rd 4) (fun _ => .ok [])))))) .nx)
noncomputable def mc1_standing_behind_1 : Rho → Out :=
  (sqf (retE (tupA (consA (rd 2) (consA (rd 3) (consA (rd 5) (fun _ => .ok [])))))) .nx)
noncomputable def mc1_standing_behind_2 : Rho → Out :=
  (sqf (retE (tupA (consA (rd 2) (consA (bin2 qIx (rdw 0) (fun _ => .ok (.int 1))) (consA (rd 4) (fun _ => .ok [])))))) .nx)
noncomputable def b_standing_behind : Rho → Out :=
  (sqf (sMatch (rd 1) [([.lit (PySem.Str.ofString "start"), .cap 2, .cap 3, .cap 4], mc1_standing_behind_0), ([.lit (PySem.Str.ofString "change"), .cap 2, .wild, .cap 3, .cap 5], mc1_standing_behind_1), ([.lit (PySem.Str.ofString "read"), .cap 2, .cap 4, .wild], mc1_standing_behind_2)]) .nx)
noncomputable def f_standing_behind : List D → Out := fnD b_standing_behind 6
theorem fo_standing_behind {cs : Nat → Addr} {f : Addr} {fd : FuncData} (F : Fun K "standing_behind" "standing_behind" s_standing_behind f fd) (B : Bi mg) :
    FnOk P w K mg base (L2.CX P w) 1 f fd ["standing", "entry"] (spD cs K 2 f_standing_behind) := by
  refine def_ok (K := K) F sc_standing_behind (fun cdv A outer s H E hr => ?_)
  exact (ds_cons (ds_match sc_standing_behind.nd rfl (de_var (pv 1)) (.cons (.lit (.cap (i := 2) rfl (by first | exact Or.inl rfl | exact Or.inr rfl) (by first | exact Or.inl rfl | exact Or.inr rfl) (.cap (i := 3) rfl (by first | exact Or.inl rfl | exact Or.inr rfl) (by first | exact Or.inl rfl | exact Or.inr rfl) (.cap (i := 4) rfl (by first | exact Or.inl rfl | exact Or.inr rfl) (by first | exact Or.inl rfl | exact Or.inr rfl) .nil)))) rfl rfl (by decide) (ds_cons (ds_ret (de_tup (dl_cons (de_var (pv 2)) (dl_cons (de_var (pv 3)) (dl_cons (de_var (pv 4)) dl_nil))))) ds_nil) (.cons (.lit (.cap (i := 2) rfl (by first | exact Or.inl rfl | exact Or.inr rfl) (by first | exact Or.inl rfl | exact Or.inr rfl) (.wild (.cap (i := 3) rfl (by first | exact Or.inl rfl | exact Or.inr rfl) (by first | exact Or.inl rfl | exact Or.inr rfl) (.cap (i := 5) rfl (by first | exact Or.inl rfl | exact Or.inr rfl) (by first | exact Or.inl rfl | exact Or.inr rfl) .nil))))) rfl rfl (by decide) (ds_cons (ds_ret (de_tup (dl_cons (de_var (pv 2)) (dl_cons (de_var (pv 3)) (dl_cons (de_var (pv 5)) dl_nil))))) ds_nil) (.cons (.lit (.cap (i := 2) rfl (by first | exact Or.inl rfl | exact Or.inr rfl) (by first | exact Or.inl rfl | exact Or.inr rfl) (.cap (i := 4) rfl (by first | exact Or.inl rfl | exact Or.inr rfl) (by first | exact Or.inl rfl | exact Or.inr rfl) (.wild .nil)))) rfl rfl (by decide) (ds_cons (ds_ret (de_tup (dl_cons (de_var (pv 2)) (dl_cons (de_at (dw_var (pv 0)) de_int.weak) (dl_cons (de_var (pv 4)) dl_nil))))) ds_nil) .nil)))) ds_nil)
/-! ### points -/
abbrev s_points : Stmt := topS 5
abbrev nm_points : List Str := ["history", "most", "found", "standing", "place", "entry"]
theorem sc_points : FnScope nm_points ["history", "most"] (defScope s_points) := ⟨rfl, rfl, rfl, by decide +kernel, rfl, by decide +kernel, by decide +kernel⟩
noncomputable def lb_points_1 : Rho → Out :=
  (sqf (sIf (thn1 (callE (consA (rd 3) (consA (rd 5) (consA (rd 1) (fun _ => .ok [])))) f_is_counting) tru) (sqf (apndE 2 (rd 4)) (sqf (setE 3 (callE (consA (rd 3) (consA (rd 5) (fun _ => .ok []))) f_standing_behind)) .nx)) .nx) .nx)
noncomputable def r_points_3 : Rho → Out :=
  (frz 2 (sqf (retE (rd 2)) .nx))
noncomputable def r_points_2 : Rho → Out :=
  (sqf (forE (enS (rd 0)) (aTup [4, 5]) lb_points_1) r_points_3)
noncomputable def r_points_1 : Rho → Out :=
  (sqf (setE 3 (fun _ => .ok .none)) r_points_2)
noncomputable def b_points : Rho → Out :=
  (sqf (lThen (fun _ => .ok []) fun ds r => .nx (r.set 2 (.own ds))) r_points_1)
noncomputable def f_points : List D → Out := fnD b_points 6
theorem fo_points {cs : Nat → Addr} {f : Addr} {fd : FuncData} (F : Fun K "points" "points" s_points f fd) (B : Bi mg) (G_is_counting : Cal cs P w K mg base 3 3 "is_counting" f_is_counting) (G_standing_behind : Cal cs P w K mg base 1 2 "standing_behind" f_standing_behind) :
    FnOk P w K mg base (L2.CX P w) 4 f fd ["history", "most"] (spD cs K 2 f_points) := by
  refine def_ok (K := K) F sc_points (fun cdv A outer s H E hr => ?_)
  exact (ds_cons (ds_own (i := 2) sc_points.nd rfl (by first | exact Or.inl rfl | exact Or.inr rfl) dl_nil) (ds_cons (ds_set (i := 3) sc_points.nd rfl (by first | exact Or.inl rfl | exact Or.inr rfl) de_non) (ds_cons (ds_for po_of rfl (di_enum B.enumerate (de_var (pv 0))) (dg_tup rfl (.cons (pg_name (i := 4) sc_points.nd rfl (by first | exact Or.inl rfl | exact Or.inr rfl)) rfl (.cons (pg_name (i := 5) sc_points.nd rfl (by first | exact Or.inl rfl | exact Or.inr rfl)) rfl Names.nil))) (ds_cons (ds_if (dt_tru (de_callC tk_of G_is_counting (by exact hr.mono (by decide)) (dl_cons (de_var (pv 3)) (dl_cons (de_var (pv 5)) (dl_cons (de_var (pv 1)) dl_nil)))).weak) (ds_cons (ds_append (pv 2) (de_var (pv 4))) (ds_cons (ds_set (i := 3) sc_points.nd rfl (by first | exact Or.inl rfl | exact Or.inr rfl) (de_callC tk_of G_standing_behind (by exact hr.mono (by decide)) (dl_cons (de_var (pv 3)) (dl_cons (de_var (pv 5)) dl_nil)))) ds_nil)) ds_nil) ds_nil)) (ds_frz 2 (ds_cons (ds_ret (de_var (pv 2))) ds_nil)))))
/-! ### spans -/
abbrev s_spans : Stmt := topS 6
abbrev nm_spans : List Str := ["history", "most", "found", "standing", "place", "entry"]
theorem sc_spans : FnScope nm_spans ["history", "most"] (defScope s_spans) := ⟨rfl, rfl, rfl, by decide +kernel, rfl, by decide +kernel, by decide +kernel⟩
noncomputable def lb_spans_1 : Rho → Out :=
  (sqf (setE 5 (bin2 qIx (rdw 0) (rdw 4))) (sqf (sIf (thn1 (then1 (rdw 3) fun d => .ok (.bool (!isN d))) asB) (sqf (apndE 2 (tupA (consA (bin2 qIx (rdw 3) (fun _ => .ok (.int 0))) (consA (bin2 qIx (rdw 5) (fun _ => .ok (.int 1))) (consA (callE (consA (rd 3) (consA (rd 5) (fun _ => .ok []))) f_use_since) (fun _ => .ok [])))))) .nx) .nx) (sqf (setE 3 (callE (consA (rd 3) (consA (rd 5) (fun _ => .ok []))) f_standing_behind)) .nx)))
noncomputable def r_spans_3 : Rho → Out :=
  (frz 2 (sqf (retE (rd 2)) .nx))
noncomputable def r_spans_2 : Rho → Out :=
  (sqf (forE (asS (callE (consA (rd 0) (consA (rd 1) (fun _ => .ok []))) f_points)) (aName 4) lb_spans_1) r_spans_3)
noncomputable def r_spans_1 : Rho → Out :=
  (sqf (setE 3 (fun _ => .ok .none)) r_spans_2)
noncomputable def b_spans : Rho → Out :=
  (sqf (lThen (fun _ => .ok []) fun ds r => .nx (r.set 2 (.own ds))) r_spans_1)
noncomputable def f_spans : List D → Out := fnD b_spans 6
theorem fo_spans {cs : Nat → Addr} {f : Addr} {fd : FuncData} (F : Fun K "spans" "spans" s_spans f fd) (B : Bi mg) (G_points : Cal cs P w K mg base 4 2 "points" f_points) (G_standing_behind : Cal cs P w K mg base 1 2 "standing_behind" f_standing_behind) (G_use_since : Cal cs P w K mg base 2 2 "use_since" f_use_since) :
    FnOk P w K mg base (L2.CX P w) 5 f fd ["history", "most"] (spD cs K 2 f_spans) := by
  refine def_ok (K := K) F sc_spans (fun cdv A outer s H E hr => ?_)
  exact (ds_cons (ds_own (i := 2) sc_spans.nd rfl (by first | exact Or.inl rfl | exact Or.inr rfl) dl_nil) (ds_cons (ds_set (i := 3) sc_spans.nd rfl (by first | exact Or.inl rfl | exact Or.inr rfl) de_non) (ds_cons (ds_for po_of rfl (di_seq (de_callC tk_of G_points (by exact hr.mono (by decide)) (dl_cons (de_var (pv 0)) (dl_cons (de_var (pv 1)) dl_nil)))) (dg_name (i := 4) sc_spans.nd rfl (by first | exact Or.inl rfl | exact Or.inr rfl)) (ds_cons (ds_set (i := 5) sc_spans.nd rfl (by first | exact Or.inl rfl | exact Or.inr rfl) (de_at (dw_var (pv 0)) (dw_var (pv 4)))) (ds_cons (ds_if (dt_notN (dw_var (pv 3))) (ds_cons (ds_append (pv 2) (de_tup (dl_cons (de_at (dw_var (pv 3)) de_int.weak) (dl_cons (de_at (dw_var (pv 5)) de_int.weak) (dl_cons (de_callC tk_of G_use_since (by exact hr.mono (by decide)) (dl_cons (de_var (pv 3)) (dl_cons (de_var (pv 5)) dl_nil))) dl_nil))))) ds_nil) ds_nil) (ds_cons (ds_set (i := 3) sc_spans.nd rfl (by first | exact Or.inl rfl | exact Or.inr rfl) (de_callC tk_of G_standing_behind (by exact hr.mono (by decide)) (dl_cons (de_var (pv 3)) (dl_cons (de_var (pv 5)) dl_nil)))) ds_nil)))) (ds_frz 2 (ds_cons (ds_ret (de_var (pv 2))) ds_nil)))))
/-! ### use_ahead -/
abbrev s_use_ahead : Stmt := topS 3
abbrev nm_use_ahead : List Str := ["use", "days", "at"]
theorem sc_use_ahead : FnScope nm_use_ahead ["use", "days", "at"] (defScope s_use_ahead) := ⟨rfl, rfl, rfl, by decide +kernel, rfl, by decide +kernel, by decide +kernel⟩
noncomputable def b_use_ahead : Rho → Out :=
  (sqf (retE (bin2 iDiv (bin2 iMul (rdw 2) (rdw 0)) (rdw 1))) .nx)
noncomputable def f_use_ahead : List D → Out := fnD b_use_ahead 3
theorem fo_use_ahead {cs : Nat → Addr} {f : Addr} {fd : FuncData} (F : Fun K "use_ahead" "use_ahead" s_use_ahead f fd) (B : Bi mg) :
    FnOk P w K mg base (L2.CX P w) 1 f fd ["use", "days", "at"] (spD cs K 3 f_use_ahead) := by
  refine def_ok (K := K) F sc_use_ahead (fun cdv A outer s H E hr => ?_)
  exact (ds_cons (ds_ret (de_div (de_mul (dw_var (pv 2)) (dw_var (pv 0))).weak (dw_var (pv 1)))) ds_nil)
/-! ### share -/
abbrev s_share : Stmt := topS 2
abbrev nm_share : List Str := ["use", "days", "at"]
theorem sc_share : FnScope nm_share ["use", "days", "at"] (defScope s_share) := ⟨rfl, rfl, rfl, by decide +kernel, rfl, by decide +kernel, by decide +kernel⟩
noncomputable def b_share : Rho → Out :=
  (sqf (retE (bin2 iSub (callE (consA (rd 0) (consA (rd 1) (consA (bin2 pAdd (rdw 2) (fun _ => .ok (.int 1))) (fun _ => .ok [])))) f_use_ahead) (callE (consA (rd 0) (consA (rd 1) (consA (rd 2) (fun _ => .ok [])))) f_use_ahead))) .nx)
noncomputable def f_share : List D → Out := fnD b_share 3
theorem fo_share {cs : Nat → Addr} {f : Addr} {fd : FuncData} (F : Fun K "share" "share" s_share f fd) (B : Bi mg) (G_use_ahead : Cal cs P w K mg base 1 3 "use_ahead" f_use_ahead) :
    FnOk P w K mg base (L2.CX P w) 2 f fd ["use", "days", "at"] (spD cs K 3 f_share) := by
  refine def_ok (K := K) F sc_share (fun cdv A outer s H E hr => ?_)
  exact (ds_cons (ds_ret (de_sub (de_callC tk_of G_use_ahead (by exact hr.mono (by decide)) (dl_cons (de_var (pv 0)) (dl_cons (de_var (pv 1)) (dl_cons (de_add (dw_var (pv 2)) de_int.weak) dl_nil)))).weak (de_callC tk_of G_use_ahead (by exact hr.mono (by decide)) (dl_cons (de_var (pv 0)) (dl_cons (de_var (pv 1)) (dl_cons (de_var (pv 2)) dl_nil)))).weak)) ds_nil)
/-! ### use_by -/
abbrev s_use_by : Stmt := topS 14
abbrev nm_use_by : List Str := ["told", "at", "day", "first", "later", "use"]
theorem sc_use_by : FnScope nm_use_by ["told", "at", "day"] (defScope s_use_by) := ⟨rfl, rfl, rfl, by decide +kernel, rfl, by decide +kernel, by decide +kernel⟩
noncomputable def r_use_by_3 : Rho → Out :=
  (sqf (retE (bin2 iDiv (rdw 5) (bin2 iSub (rdw 4) (rdw 3)))) .nx)
noncomputable def r_use_by_2 : Rho → Out :=
  (sqf (sAsg (bin2 qIx (rdw 0) (then1 (fun _ => .ok (.int 1)) negI)) (aTup [3, 4, 5])) r_use_by_3)
noncomputable def r_use_by_1 : Rho → Out :=
  (sqf (sIf (thn1 (bin2 (iCmp fun i j => decide (i < j)) (rdw 1) (then1 (rdw 0) bLen)) asB) (sqf (sAsg (bin2 qIx (rdw 0) (rdw 1)) (aTup [3, 4, 5])) (sqf (retE (callE (consA (rd 5) (consA (bin2 iSub (rdw 4) (rdw 3)) (consA (bin2 iSub (rdw 2) (rdw 3)) (fun _ => .ok [])))) f_share)) .nx)) .nx) r_use_by_2)
noncomputable def b_use_by : Rho → Out :=
  (sqf (sIf (orT (notT (thn1 (rdw 0) tru)) (thn1 (bin2 (iCmp fun i j => decide (i < j)) (rdw 2) (bin2 qIx (bin2 qIx (rdw 0) (fun _ => .ok (.int 0))) (fun _ => .ok (.int 0)))) asB)) (sqf (retE (fun _ => .ok (.int 0))) .nx) .nx) r_use_by_1)
noncomputable def f_use_by : List D → Out := fnD b_use_by 6
theorem fo_use_by {cs : Nat → Addr} {f : Addr} {fd : FuncData} (F : Fun K "use_by" "use_by" s_use_by f fd) (B : Bi mg) (G_share : Cal cs P w K mg base 2 3 "share" f_share) :
    FnOk P w K mg base (L2.CX P w) 3 f fd ["told", "at", "day"] (spD cs K 3 f_use_by) := by
  refine def_ok (K := K) F sc_use_by (fun cdv A outer s H E hr => ?_)
  exact (ds_cons (ds_if (DP.dt (dp_or (dt_not (dt_tru (dw_var (pv 0)))) (dp_or1 (dt_lt (dw_var (pv 2)) (de_at (de_at (dw_var (pv 0)) de_int.weak).weak de_int.weak).weak)))) (ds_cons (ds_ret de_int) ds_nil) ds_nil) (ds_cons (ds_if (dt_lt (dw_var (pv 1)) (de_len B.len (dw_var (pv 0))).weak) (ds_cons (ds_asg (de_at (dw_var (pv 0)) (dw_var (pv 1))) (dg_tup rfl (.cons (pg_name (i := 3) sc_use_by.nd rfl (by first | exact Or.inl rfl | exact Or.inr rfl)) rfl (.cons (pg_name (i := 4) sc_use_by.nd rfl (by first | exact Or.inl rfl | exact Or.inr rfl)) rfl (.cons (pg_name (i := 5) sc_use_by.nd rfl (by first | exact Or.inl rfl | exact Or.inr rfl)) rfl Names.nil))))) (ds_cons (ds_ret (de_callC tk_of G_share (by exact hr.mono (by decide)) (dl_cons (de_var (pv 5)) (dl_cons (de_sub (dw_var (pv 4)) (dw_var (pv 3))) (dl_cons (de_sub (dw_var (pv 2)) (dw_var (pv 3))) dl_nil))))) ds_nil)) ds_nil) (ds_cons (ds_asg (de_at (dw_var (pv 0)) (de_neg de_int.weak).weak) (dg_tup rfl (.cons (pg_name (i := 3) sc_use_by.nd rfl (by first | exact Or.inl rfl | exact Or.inr rfl)) rfl (.cons (pg_name (i := 4) sc_use_by.nd rfl (by first | exact Or.inl rfl | exact Or.inr rfl)) rfl (.cons (pg_name (i := 5) sc_use_by.nd rfl (by first | exact Or.inl rfl | exact Or.inr rfl)) rfl Names.nil))))) (ds_cons (ds_ret (de_div (dw_var (pv 5)) (de_sub (dw_var (pv 4)) (dw_var (pv 3))).weak)) ds_nil))))
/-! ### uses -/
abbrev s_uses : Stmt := topS 12
abbrev nm_uses : List Str := ["history", "most", "low", "high", "told", "found", "at", "day"]
theorem sc_uses : FnScope nm_uses ["history", "most", "low", "high"] (defScope s_uses) := ⟨rfl, rfl, rfl, by decide +kernel, rfl, by decide +kernel, by decide +kernel⟩
noncomputable def lb_uses_2 : Rho → Out :=
  (sqf (augE 6 (opI fun i j => i + j) (fun _ => .ok (.int 1))) .nx)
noncomputable def lb_uses_1 : Rho → Out :=
  (sqf (whileD (andT (thn1 (bin2 (iCmp fun i j => decide (i < j)) (rdw 6) (then1 (rdw 4) bLen)) asB) (thn1 (bin2 (iCmp fun i j => decide (i ≤ j)) (bin2 qIx (bin2 qIx (rdw 4) (rdw 6)) (fun _ => .ok (.int 1))) (rdw 7)) asB)) lb_uses_2 1000) (sqf (apndE 5 (callE (consA (rd 4) (consA (rd 6) (consA (rd 7) (fun _ => .ok [])))) f_use_by)) .nx))
noncomputable def r_uses_4 : Rho → Out :=
  (frz 5 (sqf (retE (rd 5)) .nx))
noncomputable def r_uses_3 : Rho → Out :=
  (sqf (forE (rg2 (rdw 2) (rdw 3)) (aName 7) lb_uses_1) r_uses_4)
noncomputable def r_uses_2 : Rho → Out :=
  (sqf (setE 6 (fun _ => .ok (.int 0))) r_uses_3)
noncomputable def r_uses_1 : Rho → Out :=
  (sqf (lThen (fun _ => .ok []) fun ds r => .nx (r.set 5 (.own ds))) r_uses_2)
noncomputable def b_uses : Rho → Out :=
  (sqf (setE 4 (callE (consA (rd 0) (consA (rd 1) (fun _ => .ok []))) f_spans)) r_uses_1)
noncomputable def f_uses : List D → Out := fnD b_uses 8
theorem fo_uses {cs : Nat → Addr} {f : Addr} {fd : FuncData} (F : Fun K "uses" "uses" s_uses f fd) (B : Bi mg) (G_spans : Cal cs P w K mg base 5 2 "spans" f_spans) (G_use_by : Cal cs P w K mg base 3 3 "use_by" f_use_by) :
    FnOk P w K mg base (L2.CX P w) 6 f fd ["history", "most", "low", "high"] (spD cs K 4 f_uses) := by
  refine def_ok (K := K) F sc_uses (fun cdv A outer s H E hr => ?_)
  exact (ds_cons (ds_set (i := 4) sc_uses.nd rfl (by first | exact Or.inl rfl | exact Or.inr rfl) (de_callC tk_of G_spans (by exact hr.mono (by decide)) (dl_cons (de_var (pv 0)) (dl_cons (de_var (pv 1)) dl_nil)))) (ds_cons (ds_own (i := 5) sc_uses.nd rfl (by first | exact Or.inl rfl | exact Or.inr rfl) dl_nil) (ds_cons (ds_set (i := 6) sc_uses.nd rfl (by first | exact Or.inl rfl | exact Or.inr rfl) de_int) (ds_cons (ds_for po_of rfl (di_rg2 B.range (dw_var (pv 2)) (dw_var (pv 3))) (dg_name (i := 7) sc_uses.nd rfl (by first | exact Or.inl rfl | exact Or.inr rfl)) (ds_cons (ds_while 1000 po_of (DP.dt (dp_and (dt_lt (dw_var (pv 6)) (de_len B.len (dw_var (pv 4))).weak) (dp_and1 (dt_le (de_at (de_at (dw_var (pv 4)) (dw_var (pv 6))).weak de_int.weak).weak (dw_var (pv 7)))))) (ds_cons (ds_aug (i := 6) sc_uses.nd rfl (by first | exact Or.inl rfl | exact Or.inr rfl) de_int.weak ip_add) ds_nil)) (ds_cons (ds_append (pv 5) (de_callC tk_of G_use_by (by exact hr.mono (by decide)) (dl_cons (de_var (pv 4)) (dl_cons (de_var (pv 6)) (dl_cons (de_var (pv 7)) dl_nil))))) ds_nil))) (ds_frz 5 (ds_cons (ds_ret (de_var (pv 5))) ds_nil))))))
/-! ### cost -/
abbrev s_cost : Stmt := topS 25
abbrev nm_cost : List Str := ["tariff", "use", "_", "standing", "low", "limit", "high", "within"]
theorem sc_cost : FnScope nm_cost ["tariff", "use"] (defScope s_cost) := ⟨rfl, rfl, rfl, by decide +kernel, rfl, by decide +kernel, by decide +kernel⟩
noncomputable def r_cost_3 : Rho → Out :=
  (sqf (retE (bin2 pAdd (bin2 pAdd (rdw 3) (bin2 iMul (rdw 4) (rdw 7))) (bin2 iMul (rdw 6) (bin2 iSub (rdw 1) (rdw 7))))) .nx)
noncomputable def r_cost_2 : Rho → Out :=
  (sqf (setE 7 (bin2 bMin (rdw 1) (rdw 5))) r_cost_3)
noncomputable def r_cost_1 : Rho → Out :=
  (sqf (sAsg (rd 0) (aTup [2, 3, 4, 5, 6])) r_cost_2)
noncomputable def b_cost : Rho → Out :=
  (sqf (sIf (thn1 (then1 (rdw 0) fun d => .ok (.bool (isN d))) asB) (sqf (retE (fun _ => .ok (.int 0))) .nx) .nx) r_cost_1)
noncomputable def f_cost : List D → Out := fnD b_cost 8
theorem fo_cost {cs : Nat → Addr} {f : Addr} {fd : FuncData} (F : Fun K "cost" "cost" s_cost f fd) (B : Bi mg) :
    FnOk P w K mg base (L2.CX P w) 1 f fd ["tariff", "use"] (spD cs K 2 f_cost) := by
  refine def_ok (K := K) F sc_cost (fun cdv A outer s H E hr => ?_)
  exact (ds_cons (ds_if (dt_isN (dw_var (pv 0))) (ds_cons (ds_ret de_int) ds_nil) ds_nil) (ds_cons (ds_asg (de_var (pv 0)) (dg_tup rfl (.cons (pg_name (i := 2) sc_cost.nd rfl (by first | exact Or.inl rfl | exact Or.inr rfl)) rfl (.cons (pg_name (i := 3) sc_cost.nd rfl (by first | exact Or.inl rfl | exact Or.inr rfl)) rfl (.cons (pg_name (i := 4) sc_cost.nd rfl (by first | exact Or.inl rfl | exact Or.inr rfl)) rfl (.cons (pg_name (i := 5) sc_cost.nd rfl (by first | exact Or.inl rfl | exact Or.inr rfl)) rfl (.cons (pg_name (i := 6) sc_cost.nd rfl (by first | exact Or.inl rfl | exact Or.inr rfl)) rfl Names.nil))))))) (ds_cons (ds_set (i := 7) sc_cost.nd rfl (by first | exact Or.inl rfl | exact Or.inr rfl) (de_min rfl B.min (dw_var (pv 1)) (dw_var (pv 5)))) (ds_cons (ds_ret (de_add (de_add (dw_var (pv 3)) (de_mul (dw_var (pv 4)) (dw_var (pv 7))).weak).weak (de_mul (dw_var (pv 6)) (de_sub (dw_var (pv 1)) (dw_var (pv 7))).weak).weak)) ds_nil))))
/-! ### tariff_on -/
abbrev s_tariff_on : Stmt := topS 24
abbrev nm_tariff_on : List Str := ["tariffs", "day", "found", "tariff"]
theorem sc_tariff_on : FnScope nm_tariff_on ["tariffs", "day"] (defScope s_tariff_on) := ⟨rfl, rfl, rfl, by decide +kernel, rfl, by decide +kernel, by decide +kernel⟩
noncomputable def lb_tariff_on_1 : Rho → Out :=
  (sqf (sIf (thn1 (bin2 (iCmp fun i j => decide (i ≤ j)) (bin2 qIx (rdw 3) (fun _ => .ok (.int 0))) (rdw 1)) asB) (sqf (setE 2 (rd 3)) .nx) .nx) .nx)
noncomputable def b_tariff_on : Rho → Out :=
  (sqf (setE 2 (fun _ => .ok .none)) (sqf (forE (asS (rd 0)) (aName 3) lb_tariff_on_1) (sqf (retE (rd 2)) .nx)))
noncomputable def f_tariff_on : List D → Out := fnD b_tariff_on 4
theorem fo_tariff_on {cs : Nat → Addr} {f : Addr} {fd : FuncData} (F : Fun K "tariff_on" "tariff_on" s_tariff_on f fd) (B : Bi mg) :
    FnOk P w K mg base (L2.CX P w) 1 f fd ["tariffs", "day"] (spD cs K 2 f_tariff_on) := by
  refine def_ok (K := K) F sc_tariff_on (fun cdv A outer s H E hr => ?_)
  exact (ds_cons (ds_set (i := 2) sc_tariff_on.nd rfl (by first | exact Or.inl rfl | exact Or.inr rfl) de_non) (ds_cons (ds_for po_of rfl (di_seq (de_var (pv 0))) (dg_name (i := 3) sc_tariff_on.nd rfl (by first | exact Or.inl rfl | exact Or.inr rfl)) (ds_cons (ds_if (dt_le (de_at (dw_var (pv 3)) de_int.weak).weak (dw_var (pv 1))) (ds_cons (ds_set (i := 2) sc_tariff_on.nd rfl (by first | exact Or.inl rfl | exact Or.inr rfl) (de_var (pv 3))) ds_nil) ds_nil) ds_nil)) (ds_cons (ds_ret (de_var (pv 2))) ds_nil)))
/-! ### owed -/
abbrev s_owed : Stmt := topS 27
abbrev nm_owed : List Str := ["history", "most", "tariffs", "day", "begin", "used", "at", "use"]
theorem sc_owed : FnScope nm_owed ["history", "most", "tariffs", "day"] (defScope s_owed) := ⟨rfl, rfl, rfl, by decide +kernel, rfl, by decide +kernel, by decide +kernel⟩
noncomputable def r_owed_3 : Rho → Out :=
  (sqf (retE (sumG (enL (rd 5)) (aTup [6, 7]) (callE (consA (callE (consA (rd 2) (consA (bin2 pAdd (rdw 4) (rdw 6)) (fun _ => .ok []))) f_tariff_on) (consA (rd 7) (fun _ => .ok []))) f_cost) [6, 7])) .nx)
noncomputable def r_owed_2 : Rho → Out :=
  (sqf (setE 5 (callE (consA (rd 0) (consA (rd 1) (consA (rd 4) (consA (rd 3) (fun _ => .ok []))))) f_uses)) r_owed_3)
noncomputable def r_owed_1 : Rho → Out :=
  (sqf (setE 4 (bin2 qIx (bin2 qIx (rdw 0) (fun _ => .ok (.int 0))) (fun _ => .ok (.int 1)))) r_owed_2)
noncomputable def b_owed : Rho → Out :=
  (sqf (sIf (notT (thn1 (rdw 0) tru)) (sqf (fun r => .ex 1 r) .nx) .nx) r_owed_1)
noncomputable def f_owed : List D → Out := fnD b_owed 8
theorem fo_owed {cs : Nat → Addr} {f c Q : Addr} {fd : FuncData} (F : Fun K "owed" "owed" s_owed f fd) (B : Bi mg) (T : Txt K mg cs) (G_uses : Cal cs P w K mg base 6 4 "uses" f_uses) (G_cost : Cal cs P w K mg base 1 2 "cost" f_cost) (G_tariff_on : Cal cs P w K mg base 1 2 "tariff_on" f_tariff_on) (TC : ∃ (o : Obj) (fd' : FuncData), K.lookup f = some o ∧ o.data = .func fd' ∧ fd'.code = .ref c) (TB : LamX.TabB base mg c Q) (hT : IsTab K Q) :
    FnOk P w K mg base (L2.CX P w) 7 f fd ["history", "most", "tariffs", "day"] (spD cs K 4 f_owed) := by
  refine def_okT (K := K) F sc_owed TC (fun cdv A outer s H E hcv hr => ?_)
  exact (ds_cons (ds_if (dt_not (dt_tru (dw_var (pv 0)))) (ds_cons (ds_raise rfl tk_of T.a_NoMeter) ds_nil) ds_nil) (ds_cons (ds_set (i := 4) sc_owed.nd rfl (by first | exact Or.inl rfl | exact Or.inr rfl) (de_at (de_at (dw_var (pv 0)) de_int.weak).weak de_int.weak)) (ds_cons (ds_set (i := 5) sc_owed.nd rfl (by first | exact Or.inl rfl | exact Or.inr rfl) (de_callC tk_of G_uses (by exact hr.mono (by decide)) (dl_cons (de_var (pv 0)) (dl_cons (de_var (pv 1)) (dl_cons (de_var (pv 4)) (dl_cons (de_var (pv 3)) dl_nil)))))) (ds_cons (ds_ret (de_sumG (kk := 1) (own := [("at", 6), ("use", 7)]) (by exact hr.mono (by decide)) rfl sc_owed.nd B.sum TB hcv hT (di_enumL B.enumerate (de_var (pv 5))) (blkOk_by (own := [("at", 6), ("use", 7)]) (N := nm_owed) (sc := defScope s_owed) (by decide +kernel)) (by decide +kernel) rfl rfl (inOwn_tup (by decide)) (fun _ _ _ _ _ _ _ _ hr => (dg_tup rfl (.cons (pg_name (i := 6) sc_owed.nd rfl (by first | exact Or.inl rfl | exact Or.inr rfl)) rfl (.cons (pg_name (i := 7) sc_owed.nd rfl (by first | exact Or.inl rfl | exact Or.inr rfl)) rfl Names.nil)))) (fun _ _ _ _ _ _ _ _ hr => (de_callC takes00 G_cost (by exact hr.mono (by decide)) (dl_cons (de_callC takes00 G_tariff_on (by exact hr.mono (by decide)) (dl_cons (de_var (pv 2)) (dl_cons (de_add (dw_var (pv 4)) (dw_var (pv 6))) dl_nil))) (dl_cons (de_var (pv 7)) dl_nil)))))) ds_nil))))
/-! ### billed -/
abbrev s_billed : Stmt := topS 28
abbrev nm_billed : List Str := ["bills", "bill"]
theorem sc_billed : FnScope nm_billed ["bills"] (defScope s_billed) := ⟨rfl, rfl, rfl, by decide +kernel, rfl, by decide +kernel, by decide +kernel⟩
noncomputable def b_billed : Rho → Out :=
  (sqf (retE (sumG (asS (rd 0)) (aName 1) (bin2 qIx (rdw 1) (fun _ => .ok (.int 1))) [1])) .nx)
noncomputable def f_billed : List D → Out := fnD b_billed 2
theorem fo_billed {cs : Nat → Addr} {f c Q : Addr} {fd : FuncData} (F : Fun K "billed" "billed" s_billed f fd) (B : Bi mg) (TC : ∃ (o : Obj) (fd' : FuncData), K.lookup f = some o ∧ o.data = .func fd' ∧ fd'.code = .ref c) (TB : LamX.TabB base mg c Q) (hT : IsTab K Q) :
    FnOk P w K mg base (L2.CX P w) 5 f fd ["bills"] (spD cs K 1 f_billed) := by
  refine def_okT (K := K) F sc_billed TC (fun cdv A outer s H E hcv hr => ?_)
  exact (ds_cons (ds_ret (de_sumG (kk := 0) (own := [("bill", 1)]) (by exact hr.mono (by decide)) rfl sc_billed.nd B.sum TB hcv hT (di_seq (de_var (pv 0))) (blkOk_by (own := [("bill", 1)]) (N := nm_billed) (sc := defScope s_billed) (by decide +kernel)) (by decide +kernel) rfl rfl (inOwn_name (by decide)) (fun _ _ _ _ _ _ _ _ hr => (dg_name (i := 1) sc_billed.nd rfl (by first | exact Or.inl rfl | exact Or.inr rfl))) (fun _ _ _ _ _ _ _ _ hr => (de_at (dw_var (pv 1)) de_int.weak)))) ds_nil)
/-! ### with_bill -/
abbrev s_with_bill : Stmt := topS 29
abbrev nm_with_bill : List Str := ["history", "most", "tariffs", "bills", "day", "due"]
theorem sc_with_bill : FnScope nm_with_bill ["history", "most", "tariffs", "bills", "day"] (defScope s_with_bill) := ⟨rfl, rfl, rfl, by decide +kernel, rfl, by decide +kernel, by decide +kernel⟩
noncomputable def b_with_bill : Rho → Out :=
  (sqf (setE 5 (callE (consA (rd 0) (consA (rd 1) (consA (rd 2) (consA (rd 4) (fun _ => .ok []))))) f_owed)) (sqf (sIf (andT (thn1 (rdw 3) tru) (thn1 (bin2 (iCmp fun i j => decide (i < j)) (rdw 4) (bin2 qIx (bin2 qIx (rdw 3) (then1 (fun _ => .ok (.int 1)) negI)) (fun _ => .ok (.int 0)))) asB)) (sqf (rsE (msgI (rdw 4) (msgI (bin2 qIx (bin2 qIx (rdw 3) (then1 (fun _ => .ok (.int 1)) negI)) (fun _ => .ok (.int 0))) (fun _ => .ok true))) 3) .nx) .nx) (sqf (retE (bin2 pAdd (rdw 3) (tupA (consA (tupA (consA (rd 4) (consA (bin2 iSub (rdw 5) (callE (consA (rd 3) (fun _ => .ok [])) f_billed)) (fun _ => .ok [])))) (fun _ => .ok []))))) .nx)))
noncomputable def f_with_bill : List D → Out := fnD b_with_bill 6
theorem fo_with_bill {cs : Nat → Addr} {f : Addr} {fd : FuncData} (F : Fun K "with_bill" "with_bill" s_with_bill f fd) (B : Bi mg) (T : Txt K mg cs) (G_owed : Cal cs P w K mg base 7 4 "owed" f_owed) (G_billed : Cal cs P w K mg base 5 1 "billed" f_billed) :
    FnOk P w K mg base (L2.CX P w) 8 f fd ["history", "most", "tariffs", "bills", "day"] (spD cs K 5 f_with_bill) := by
  refine def_ok (K := K) F sc_with_bill (fun cdv A outer s H E hr => ?_)
  exact (ds_cons (ds_set (i := 5) sc_with_bill.nd rfl (by first | exact Or.inl rfl | exact Or.inr rfl) (de_callC tk_of G_owed (by exact hr.mono (by decide)) (dl_cons (de_var (pv 0)) (dl_cons (de_var (pv 1)) (dl_cons (de_var (pv 2)) (dl_cons (de_var (pv 4)) dl_nil)))))) (ds_cons (ds_if (DP.dt (dp_and (dt_tru (dw_var (pv 3))) (dp_and1 (dt_lt (dw_var (pv 4)) (de_at (de_at (dw_var (pv 3)) (de_neg de_int.weak).weak).weak de_int.weak).weak)))) (ds_cons (ds_raiseF rfl tk_of T.a_NotLater (.str (by decide) (.int (dw_var (pv 4)) (.str (by decide) (.int (de_at (de_at (dw_var (pv 3)) (de_neg de_int.weak).weak).weak de_int.weak).weak (.nil (by decide))))))) ds_nil) ds_nil) (ds_cons (ds_ret (de_add (dw_var (pv 3)) (de_tup (dl_cons (de_tup (dl_cons (de_var (pv 4)) (dl_cons (de_sub (dw_var (pv 5)) (de_callC tk_of G_billed (by exact hr.mono (by decide)) (dl_cons (de_var (pv 3)) dl_nil)).weak) dl_nil))) dl_nil)).weak)) ds_nil)))
/-! ### use_on -/
abbrev s_use_on : Stmt := topS 11
abbrev nm_use_on : List Str := ["history", "most", "day"]
theorem sc_use_on : FnScope nm_use_on ["history", "most", "day"] (defScope s_use_on) := ⟨rfl, rfl, rfl, by decide +kernel, rfl, by decide +kernel, by decide +kernel⟩
noncomputable def b_use_on : Rho → Out :=
  (sqf (retE (bin2 qIx (callE (consA (rd 0) (consA (rd 1) (consA (rd 2) (consA (bin2 pAdd (rdw 2) (fun _ => .ok (.int 1))) (fun _ => .ok []))))) f_uses) (fun _ => .ok (.int 0)))) .nx)
noncomputable def f_use_on : List D → Out := fnD b_use_on 3
theorem fo_use_on {cs : Nat → Addr} {f : Addr} {fd : FuncData} (F : Fun K "use_on" "use_on" s_use_on f fd) (B : Bi mg) (G_uses : Cal cs P w K mg base 6 4 "uses" f_uses) :
    FnOk P w K mg base (L2.CX P w) 7 f fd ["history", "most", "day"] (spD cs K 3 f_use_on) := by
  refine def_ok (K := K) F sc_use_on (fun cdv A outer s H E hr => ?_)
  exact (ds_cons (ds_ret (de_at (de_callC tk_of G_uses (by exact hr.mono (by decide)) (dl_cons (de_var (pv 0)) (dl_cons (de_var (pv 1)) (dl_cons (de_var (pv 2)) (dl_cons (de_add (dw_var (pv 2)) de_int.weak) dl_nil))))).weak de_int.weak)) ds_nil)
/-! ### begun -/
abbrev s_begun : Stmt := topS 31
abbrev nm_begun : List Str := ["history", "day", "size", "value"]
theorem sc_begun : FnScope nm_begun ["history", "day", "size", "value"] (defScope s_begun) := ⟨rfl, rfl, rfl, by decide +kernel, rfl, by decide +kernel, by decide +kernel⟩
noncomputable def b_begun : Rho → Out :=
  (sqf (sIf (thn1 (rdw 0) tru) (sqf (fun r => .ex 2 r) .nx) .nx) (sqf (drpE (callE (consA (rd 2) (consA (rd 3) (fun _ => .ok []))) f_check_value)) (sqf (retE (tupA (consA (tupA (consA (fun _ => .ok (.str (PySem.Str.ofString "start"))) (consA (rd 1) (consA (rd 2) (consA (rd 3) (fun _ => .ok [])))))) (fun _ => .ok [])))) .nx)))
noncomputable def f_begun : List D → Out := fnD b_begun 4
theorem fo_begun {cs : Nat → Addr} {f : Addr} {fd : FuncData} (F : Fun K "begun" "begun" s_begun f fd) (B : Bi mg) (T : Txt K mg cs) (G_check_value : Cal cs P w K mg base 1 2 "check_value" f_check_value) :
    FnOk P w K mg base (L2.CX P w) 2 f fd ["history", "day", "size", "value"] (spD cs K 4 f_begun) := by
  refine def_ok (K := K) F sc_begun (fun cdv A outer s H E hr => ?_)
  exact (ds_cons (ds_if (dt_tru (dw_var (pv 0))) (ds_cons (ds_raise rfl tk_of T.a_StandsAlready) ds_nil) ds_nil) (ds_cons (ds_expr (de_callC tk_of G_check_value (by exact hr.mono (by decide)) (dl_cons (de_var (pv 2)) (dl_cons (de_var (pv 3)) dl_nil)))) (ds_cons (ds_ret (de_tup (dl_cons (de_tup (dl_cons de_str (dl_cons (de_var (pv 1)) (dl_cons (de_var (pv 2)) (dl_cons (de_var (pv 3)) dl_nil))))) dl_nil))) ds_nil)))
/-! ### known_to -/
abbrev s_known_to : Stmt := topS 13
abbrev nm_known_to : List Str := ["history", "most", "places"]
theorem sc_known_to : FnScope nm_known_to ["history", "most"] (defScope s_known_to) := ⟨rfl, rfl, rfl, by decide +kernel, rfl, by decide +kernel, by decide +kernel⟩
noncomputable def b_known_to : Rho → Out :=
  (sqf (setE 2 (callE (consA (rd 0) (consA (rd 1) (fun _ => .ok []))) f_points)) (sqf (retE (ifV (thn1 (rdw 2) tru) (bin2 qIx (bin2 qIx (rdw 0) (bin2 qIx (rdw 2) (then1 (fun _ => .ok (.int 1)) negI))) (fun _ => .ok (.int 1))) (fun _ => .ok (.int 0)))) .nx))
noncomputable def f_known_to : List D → Out := fnD b_known_to 3
theorem fo_known_to {cs : Nat → Addr} {f : Addr} {fd : FuncData} (F : Fun K "known_to" "known_to" s_known_to f fd) (B : Bi mg) (G_points : Cal cs P w K mg base 4 2 "points" f_points) :
    FnOk P w K mg base (L2.CX P w) 5 f fd ["history", "most"] (spD cs K 2 f_known_to) := by
  refine def_ok (K := K) F sc_known_to (fun cdv A outer s H E hr => ?_)
  exact (ds_cons (ds_set (i := 2) sc_known_to.nd rfl (by first | exact Or.inl rfl | exact Or.inr rfl) (de_callC tk_of G_points (by exact hr.mono (by decide)) (dl_cons (de_var (pv 0)) (dl_cons (de_var (pv 1)) dl_nil)))) (ds_cons (ds_ret (de_if (dt_tru (dw_var (pv 2))) (de_at (de_at (dw_var (pv 0)) (de_at (dw_var (pv 2)) (de_neg de_int.weak).weak).weak).weak de_int.weak) de_int)) ds_nil))
/-! ### changed_on -/
abbrev s_changed_on : Stmt := topS 33
abbrev nm_changed_on : List Str := ["history", "day", "last", "size", "first"]
theorem sc_changed_on : FnScope nm_changed_on ["history", "day", "last", "size", "first"] (defScope s_changed_on) := ⟨rfl, rfl, rfl, by decide +kernel, rfl, by decide +kernel, by decide +kernel⟩
noncomputable def r_changed_on_3 : Rho → Out :=
  (sqf (retE (bin2 pAdd (rdw 0) (tupA (consA (tupA (consA (fun _ => .ok (.str (PySem.Str.ofString "change"))) (consA (rd 1) (consA (rd 2) (consA (rd 3) (consA (rd 4) (fun _ => .ok []))))))) (fun _ => .ok []))))) .nx)
noncomputable def r_changed_on_2 : Rho → Out :=
  (sqf (drpE (callE (consA (rd 3) (consA (rd 4) (fun _ => .ok []))) f_check_value)) r_changed_on_3)
noncomputable def r_changed_on_1 : Rho → Out :=
  (sqf (drpE (callE (consA (callE (consA (rd 0) (fun _ => .ok [])) f_size_now) (consA (rd 2) (fun _ => .ok []))) f_check_value)) r_changed_on_2)
noncomputable def b_changed_on : Rho → Out :=
  (sqf (drpE (callE (consA (rd 0) (consA (rd 1) (fun _ => .ok []))) f_check_day)) r_changed_on_1)
noncomputable def f_changed_on : List D → Out := fnD b_changed_on 5
theorem fo_changed_on {cs : Nat → Addr} {f : Addr} {fd : FuncData} (F : Fun K "changed_on" "changed_on" s_changed_on f fd) (B : Bi mg) (T : Txt K mg cs) (G_check_day : Cal cs P w K mg base 1 2 "check_day" f_check_day) (G_check_value : Cal cs P w K mg base 1 2 "check_value" f_check_value) (G_size_now : Cal cs P w K mg base 2 1 "size_now" f_size_now) :
    FnOk P w K mg base (L2.CX P w) 3 f fd ["history", "day", "last", "size", "first"] (spD cs K 5 f_changed_on) := by
  refine def_ok (K := K) F sc_changed_on (fun cdv A outer s H E hr => ?_)
  exact (ds_cons (ds_expr (de_callC tk_of G_check_day (by exact hr.mono (by decide)) (dl_cons (de_var (pv 0)) (dl_cons (de_var (pv 1)) dl_nil)))) (ds_cons (ds_expr (de_callC tk_of G_check_value (by exact hr.mono (by decide)) (dl_cons (de_callC tk_of G_size_now (by exact hr.mono (by decide)) (dl_cons (de_var (pv 0)) dl_nil)) (dl_cons (de_var (pv 2)) dl_nil)))) (ds_cons (ds_expr (de_callC tk_of G_check_value (by exact hr.mono (by decide)) (dl_cons (de_var (pv 3)) (dl_cons (de_var (pv 4)) dl_nil)))) (ds_cons (ds_ret (de_add (dw_var (pv 0)) (de_tup (dl_cons (de_tup (dl_cons de_str (dl_cons (de_var (pv 1)) (dl_cons (de_var (pv 2)) (dl_cons (de_var (pv 3)) (dl_cons (de_var (pv 4)) dl_nil)))))) dl_nil)).weak)) ds_nil))))
/-! ### is_standing_reading -/
abbrev s_is_standing_reading : Stmt := topS 37
abbrev nm_is_standing_reading : List Str := ["entry"]
theorem sc_is_standing_reading : FnScope nm_is_standing_reading ["entry"] (defScope s_is_standing_reading) := ⟨rfl, rfl, rfl, by decide +kernel, rfl, by decide +kernel, by decide +kernel⟩
noncomputable def b_is_standing_reading : Rho → Out :=
  (sqf (retE (andV (bin2 qEq (bin2 qIx (rdw 0) (fun _ => .ok (.int 0))) (fun _ => .ok (.str (PySem.Str.ofString "read")))) (notV (bin2 qIx (rdw 0) (fun _ => .ok (.int 3)))))) .nx)
noncomputable def f_is_standing_reading : List D → Out := fnD b_is_standing_reading 1
theorem fo_is_standing_reading {cs : Nat → Addr} {f : Addr} {fd : FuncData} (F : Fun K "is_standing_reading" "is_standing_reading" s_is_standing_reading f fd) (B : Bi mg) :
    FnOk P w K mg base (L2.CX P w) 1 f fd ["entry"] (spD cs K 1 f_is_standing_reading) := by
  refine def_ok (K := K) F sc_is_standing_reading (fun cdv A outer s H E hr => ?_)
  exact (ds_cons (ds_ret (de_and (de_eq (by exact hr.units) (de_at (dw_var (pv 0)) de_int.weak).weak de_str.weak) (de_one (de_not (de_at (dw_var (pv 0)) de_int.weak))))) ds_nil)
/-! ### struck -/
abbrev s_struck : Stmt := topS 34
abbrev nm_struck : List Str := ["history", "day", "place", "entry", "changed"]
theorem sc_struck : FnScope nm_struck ["history", "day"] (defScope s_struck) := ⟨rfl, rfl, rfl, by decide +kernel, rfl, by decide +kernel, by decide +kernel⟩
noncomputable def lb_struck_1 : Rho → Out :=
  (sqf (sIf (andT (thn1 (callE (consA (rd 3) (fun _ => .ok [])) f_is_standing_reading) tru) (thn1 (bin2 qEq (bin2 qIx (rdw 3) (fun _ => .ok (.int 1))) (rdw 1)) asB)) (sqf (setE 4 (tupA (consA (fun _ => .ok (.str (PySem.Str.ofString "read"))) (consA (rd 1) (consA (bin2 qIx (rdw 3) (fun _ => .ok (.int 2))) (consA (fun _ => .ok (.bool true)) (fun _ => .ok []))))))) (sqf (retE (bin2 pAdd (bin2 pAdd (cut3 (rdw 0) (fun _ => .ok none) (optI (rdw 2))) (tupA (consA (rd 4) (fun _ => .ok [])))) (cut3 (rdw 0) (optI (bin2 pAdd (rdw 2) (fun _ => .ok (.int 1)))) (fun _ => .ok none)))) .nx)) .nx) .nx)
noncomputable def b_struck : Rho → Out :=
  (sqf (forE (enS (rd 0)) (aTup [2, 3]) lb_struck_1) (sqf (rsE (msgI (rdw 1) (fun _ => .ok true)) 5) .nx))
noncomputable def f_struck : List D → Out := fnD b_struck 5
theorem fo_struck {cs : Nat → Addr} {f : Addr} {fd : FuncData} (F : Fun K "struck" "struck" s_struck f fd) (B : Bi mg) (T : Txt K mg cs) (G_is_standing_reading : Cal cs P w K mg base 1 1 "is_standing_reading" f_is_standing_reading) :
    FnOk P w K mg base (L2.CX P w) 2 f fd ["history", "day"] (spD cs K 2 f_struck) := by
  refine def_ok (K := K) F sc_struck (fun cdv A outer s H E hr => ?_)
  exact (ds_cons (ds_for po_of rfl (di_enum B.enumerate (de_var (pv 0))) (dg_tup rfl (.cons (pg_name (i := 2) sc_struck.nd rfl (by first | exact Or.inl rfl | exact Or.inr rfl)) rfl (.cons (pg_name (i := 3) sc_struck.nd rfl (by first | exact Or.inl rfl | exact Or.inr rfl)) rfl Names.nil))) (ds_cons (ds_if (DP.dt (dp_and (dt_tru (de_callC tk_of G_is_standing_reading (by exact hr.mono (by decide)) (dl_cons (de_var (pv 3)) dl_nil)).weak) (dp_and1 (dt_eq (by exact hr.units) (de_at (dw_var (pv 3)) de_int.weak).weak (dw_var (pv 1)))))) (ds_cons (ds_set (i := 4) sc_struck.nd rfl (by first | exact Or.inl rfl | exact Or.inr rfl) (de_tup (dl_cons de_str (dl_cons (de_var (pv 1)) (dl_cons (de_at (dw_var (pv 3)) de_int.weak) (dl_cons de_bl dl_nil)))))) (ds_cons (ds_ret (de_add (de_add (de_slice (dw_var (pv 0)) do_none (do_some (dw_var (pv 2)))).weak (de_tup (dl_cons (de_var (pv 4)) dl_nil)).weak).weak (de_slice (dw_var (pv 0)) (do_some (de_add (dw_var (pv 2)) de_int.weak).weak) do_none).weak)) ds_nil)) ds_nil) ds_nil)) (ds_cons (ds_raiseF rfl tk_of T.a_NoReading (.str (by decide) (.int (dw_var (pv 1)) (.str (by decide) (.nil (by decide)))))) ds_nil))
/-! ### with_tariff -/
abbrev s_with_tariff : Stmt := topS 23
abbrev nm_with_tariff : List Str := ["tariffs", "tariff", "day", "told"]
theorem sc_with_tariff : FnScope nm_with_tariff ["tariffs", "tariff"] (defScope s_with_tariff) := ⟨rfl, rfl, rfl, by decide +kernel, rfl, by decide +kernel, by decide +kernel⟩
noncomputable def b_with_tariff : Rho → Out :=
  (sqf (setE 2 (bin2 qIx (rdw 1) (fun _ => .ok (.int 0)))) (sqf (sIf (thn1 (anyG (asS (rd 0)) (aName 3) (bin2 qEq (bin2 qIx (rdw 3) (fun _ => .ok (.int 0))) (rdw 2)) [3]) tru) (sqf (rsE (msgI (rdw 2) (fun _ => .ok true)) 2) .nx) .nx) (sqf (retE (then1 (then1 (bin2 pAdd (rdw 0) (tupA (consA (rd 1) (fun _ => .ok [])))) bSortF) bTuple)) .nx)))
noncomputable def f_with_tariff : List D → Out := fnD b_with_tariff 4
theorem fo_with_tariff {cs : Nat → Addr} {f c Q : Addr} {fd : FuncData} (F : Fun K "with_tariff" "with_tariff" s_with_tariff f fd) (B : Bi mg) (T : Txt K mg cs) (TC : ∃ (o : Obj) (fd' : FuncData), K.lookup f = some o ∧ o.data = .func fd' ∧ fd'.code = .ref c) (TB : LamX.TabB base mg c Q) (hT : IsTab K Q) :
    FnOk P w K mg base (L2.CX P w) 5 f fd ["tariffs", "tariff"] (spD cs K 2 f_with_tariff) := by
  refine def_okT (K := K) F sc_with_tariff TC (fun cdv A outer s H E hcv hr => ?_)
  exact (ds_cons (ds_set (i := 2) sc_with_tariff.nd rfl (by first | exact Or.inl rfl | exact Or.inr rfl) (de_at (dw_var (pv 1)) de_int.weak)) (ds_cons (ds_if (dt_tru (de_anyG (kk := 0) (own := [("told", 3)]) (by exact hr.mono (by decide)) rfl sc_with_tariff.nd B.any TB hcv hT (di_seq (de_var (pv 0))) (blkOk_by (own := [("told", 3)]) (N := nm_with_tariff) (sc := defScope s_with_tariff) (by decide +kernel)) (by decide +kernel) rfl rfl (inOwn_name (by decide)) (fun _ _ _ _ _ _ _ _ hr => (dg_name (i := 3) sc_with_tariff.nd rfl (by first | exact Or.inl rfl | exact Or.inr rfl))) (fun _ _ _ _ _ _ _ _ hr => (de_eq (by exact hr.units) (de_at (dw_var (pv 3)) de_int.weak).weak (dw_var (pv 2))))).weak) (ds_cons (ds_raiseF rfl tk_of T.a_StandsAlready (.str (by decide) (.int (dw_var (pv 2)) (.str (by decide) (.nil (by decide)))))) ds_nil) ds_nil) (ds_cons (ds_ret (de_tuple B.tuple (de_sortK hr B.sorted TB hcv hT (de_add (dw_var (pv 0)) (de_tup (dl_cons (de_var (pv 1)) dl_nil)).weak).weak rfl rfl rfl rfl (by decide +kernel) rfl (fun v nm qual clos pm cd ctv => rfl)).weak)) ds_nil)))
/-! ### do_deed -/
abbrev s_do_deed : Stmt := topS 43
abbrev nm_do_deed : List Str := ["most", "state", "deed", "history", "tariffs", "bills", "day", "size", "value", "longer", "answer", "last", "first", "standing", "low", "limit", "high", "tariff", "more"]
theorem sc_do_deed : FnScope nm_do_deed ["most", "state", "deed"] (defScope s_do_deed) := ⟨rfl, rfl, rfl, by decide +kernel, rfl, by decide +kernel, by decide +kernel⟩
noncomputable def mc1_do_deed_0 : Rho → Out :=
  (sqf (retE (tupA (consA (fun _ => .ok (.str (PySem.Str.ofString "done"))) (consA (tupA (consA (callE (consA (rd 3) (consA (rd 6) (consA (rd 7) (consA (rd 8) (fun _ => .ok []))))) f_begun) (consA (rd 4) (consA (rd 5) (fun _ => .ok []))))) (fun _ => .ok []))))) .nx)
noncomputable def mc1_do_deed_1 : Rho → Out :=
  (sqf (setE 9 (callE (consA (rd 3) (consA (rd 6) (consA (rd 8) (fun _ => .ok [])))) f_read_on)) (sqf (setE 10 (ifV (thn1 (bin2 qEq (callE (consA (rd 9) (consA (rd 0) (fun _ => .ok []))) f_known_to) (rdw 6)) asB) (fun _ => .ok (.str (PySem.Str.ofString "counts"))) (fun _ => .ok (.str (PySem.Str.ofString "doubted"))))) (sqf (retE (tupA (consA (rd 10) (consA (tupA (consA (rd 9) (consA (rd 4) (consA (rd 5) (fun _ => .ok []))))) (fun _ => .ok []))))) .nx)))
noncomputable def mc1_do_deed_2 : Rho → Out :=
  (sqf (retE (tupA (consA (fun _ => .ok (.str (PySem.Str.ofString "done"))) (consA (tupA (consA (callE (consA (rd 3) (consA (rd 6) (consA (rd 11) (consA (rd 7) (consA (rd 12) (fun _ => .ok [])))))) f_changed_on) (consA (rd 4) (consA (rd 5) (fun _ => .ok []))))) (fun _ => .ok []))))) .nx)
noncomputable def mc1_do_deed_3 : Rho → Out :=
  (sqf (retE (tupA (consA (fun _ => .ok (.str (PySem.Str.ofString "done"))) (consA (tupA (consA (callE (consA (rd 3) (consA (rd 6) (fun _ => .ok []))) f_struck) (consA (rd 4) (consA (rd 5) (fun _ => .ok []))))) (fun _ => .ok []))))) .nx)
noncomputable def mc1_do_deed_4 : Rho → Out :=
  (sqf (setE 17 (tupA (consA (rd 6) (consA (rd 13) (consA (rd 14) (consA (rd 15) (consA (rd 16) (fun _ => .ok [])))))))) (sqf (retE (tupA (consA (fun _ => .ok (.str (PySem.Str.ofString "done"))) (consA (tupA (consA (rd 3) (consA (callE (consA (rd 4) (consA (rd 17) (fun _ => .ok []))) f_with_tariff) (consA (rd 5) (fun _ => .ok []))))) (fun _ => .ok []))))) .nx))
noncomputable def mc1_do_deed_5 : Rho → Out :=
  (sqf (setE 18 (callE (consA (rd 3) (consA (rd 0) (consA (rd 4) (consA (rd 5) (consA (rd 6) (fun _ => .ok [])))))) f_with_bill)) (sqf (retE (tupA (consA (bin2 qIx (bin2 qIx (rdw 18) (then1 (fun _ => .ok (.int 1)) negI)) (fun _ => .ok (.int 1))) (consA (tupA (consA (rd 3) (consA (rd 4) (consA (rd 18) (fun _ => .ok []))))) (fun _ => .ok []))))) .nx))
noncomputable def mc1_do_deed_6 : Rho → Out :=
  (sqf (retE (tupA (consA (callE (consA (rd 3) (consA (rd 0) (consA (rd 6) (fun _ => .ok [])))) f_use_on) (consA (rd 1) (fun _ => .ok []))))) .nx)
noncomputable def mc1_do_deed_7 : Rho → Out :=
  (sqf (retE (tupA (consA (callE (consA (rd 3) (consA (rd 0) (consA (rd 4) (consA (rd 6) (fun _ => .ok []))))) f_owed) (consA (rd 1) (fun _ => .ok []))))) .nx)
noncomputable def b_do_deed : Rho → Out :=
  (sqf (sAsg (rd 1) (aTup [3, 4, 5])) (sqf (sMatch (rd 2) [([.lit (PySem.Str.ofString "start"), .cap 6, .cap 7, .cap 8], mc1_do_deed_0), ([.lit (PySem.Str.ofString "read"), .cap 6, .cap 8], mc1_do_deed_1), ([.lit (PySem.Str.ofString "change"), .cap 6, .cap 11, .cap 7, .cap 12], mc1_do_deed_2), ([.lit (PySem.Str.ofString "strike"), .cap 6], mc1_do_deed_3), ([.lit (PySem.Str.ofString "tariff"), .cap 6, .cap 13, .cap 14, .cap 15, .cap 16], mc1_do_deed_4), ([.lit (PySem.Str.ofString "bill"), .cap 6], mc1_do_deed_5), ([.lit (PySem.Str.ofString "use"), .cap 6], mc1_do_deed_6), ([.lit (PySem.Str.ofString "owed"), .cap 6], mc1_do_deed_7)]) .nx))
noncomputable def f_do_deed : List D → Out := fnD b_do_deed 19
theorem fo_do_deed {cs : Nat → Addr} {f : Addr} {fd : FuncData} (F : Fun K "do_deed" "do_deed" s_do_deed f fd) (B : Bi mg) (T : Txt K mg cs) (G_read_on : Cal cs P w K mg base 3 3 "read_on" f_read_on) (G_with_bill : Cal cs P w K mg base 8 5 "with_bill" f_with_bill) (G_use_on : Cal cs P w K mg base 7 3 "use_on" f_use_on) (G_owed : Cal cs P w K mg base 7 4 "owed" f_owed) (G_begun : Cal cs P w K mg base 2 4 "begun" f_begun) (G_known_to : Cal cs P w K mg base 5 2 "known_to" f_known_to) (G_changed_on : Cal cs P w K mg base 3 5 "changed_on" f_changed_on) (G_struck : Cal cs P w K mg base 2 2 "struck" f_struck) (G_with_tariff : Cal cs P w K mg base 5 2 "with_tariff" f_with_tariff) :
    FnOk P w K mg base (L2.CX P w) 9 f fd ["most", "state", "deed"] (spD cs K 3 f_do_deed) := by
  refine def_ok (K := K) F sc_do_deed (fun cdv A outer s H E hr => ?_)
  exact (ds_cons (ds_asg (de_var (pv 1)) (dg_tup rfl (.cons (pg_name (i := 3) sc_do_deed.nd rfl (by first | exact Or.inl rfl | exact Or.inr rfl)) rfl (.cons (pg_name (i := 4) sc_do_deed.nd rfl (by first | exact Or.inl rfl | exact Or.inr rfl)) rfl (.cons (pg_name (i := 5) sc_do_deed.nd rfl (by first | exact Or.inl rfl | exact Or.inr rfl)) rfl Names.nil))))) (ds_cons (ds_match sc_do_deed.nd rfl (de_var (pv 2)) (.cons (.lit (.cap (i := 6) rfl (by first | exact Or.inl rfl | exact Or.inr rfl) (by first | exact Or.inl rfl | exact Or.inr rfl) (.cap (i := 7) rfl (by first | exact Or.inl rfl | exact Or.inr rfl) (by first | exact Or.inl rfl | exact Or.inr rfl) (.cap (i := 8) rfl (by first | exact Or.inl rfl | exact Or.inr rfl) (by first | exact Or.inl rfl | exact Or.inr rfl) .nil)))) rfl rfl (by decide) (ds_cons (ds_ret (de_tup (dl_cons de_str (dl_cons (de_tup (dl_cons (de_callC tk_of G_begun (by exact hr.mono (by decide)) (dl_cons (de_var (pv 3)) (dl_cons (de_var (pv 6)) (dl_cons (de_var (pv 7)) (dl_cons (de_var (pv 8)) dl_nil))))) (dl_cons (de_var (pv 4)) (dl_cons (de_var (pv 5)) dl_nil)))) dl_nil)))) ds_nil) (.cons (.lit (.cap (i := 6) rfl (by first | exact Or.inl rfl | exact Or.inr rfl) (by first | exact Or.inl rfl | exact Or.inr rfl) (.cap (i := 8) rfl (by first | exact Or.inl rfl | exact Or.inr rfl) (by first | exact Or.inl rfl | exact Or.inr rfl) .nil))) rfl rfl (by decide) (ds_cons (ds_set (i := 9) sc_do_deed.nd rfl (by first | exact Or.inl rfl | exact Or.inr rfl) (de_callC tk_of G_read_on (by exact hr.mono (by decide)) (dl_cons (de_var (pv 3)) (dl_cons (de_var (pv 6)) (dl_cons (de_var (pv 8)) dl_nil))))) (ds_cons (ds_set (i := 10) sc_do_deed.nd rfl (by first | exact Or.inl rfl | exact Or.inr rfl) (de_if (dt_eq (by exact hr.units) (de_callC tk_of G_known_to (by exact hr.mono (by decide)) (dl_cons (de_var (pv 9)) (dl_cons (de_var (pv 0)) dl_nil))).weak (dw_var (pv 6))) de_str de_str)) (ds_cons (ds_ret (de_tup (dl_cons (de_var (pv 10)) (dl_cons (de_tup (dl_cons (de_var (pv 9)) (dl_cons (de_var (pv 4)) (dl_cons (de_var (pv 5)) dl_nil)))) dl_nil)))) ds_nil))) (.cons (.lit (.cap (i := 6) rfl (by first | exact Or.inl rfl | exact Or.inr rfl) (by first | exact Or.inl rfl | exact Or.inr rfl) (.cap (i := 11) rfl (by first | exact Or.inl rfl | exact Or.inr rfl) (by first | exact Or.inl rfl | exact Or.inr rfl) (.cap (i := 7) rfl (by first | exact Or.inl rfl | exact Or.inr rfl) (by first | exact Or.inl rfl | exact Or.inr rfl) (.cap (i := 12) rfl (by first | exact Or.inl rfl | exact Or.inr rfl) (by first | exact Or.inl rfl | exact Or.inr rfl) .nil))))) rfl rfl (by decide) (ds_cons (ds_ret (de_tup (dl_cons de_str (dl_cons (de_tup (dl_cons (de_callC tk_of G_changed_on (by exact hr.mono (by decide)) (dl_cons (de_var (pv 3)) (dl_cons (de_var (pv 6)) (dl_cons (de_var (pv 11)) (dl_cons (de_var (pv 7)) (dl_cons (de_var (pv 12)) dl_nil)))))) (dl_cons (de_var (pv 4)) (dl_cons (de_var (pv 5)) dl_nil)))) dl_nil)))) ds_nil) (.cons (.lit (.cap (i := 6) rfl (by first | exact Or.inl rfl | exact Or.inr rfl) (by first | exact Or.inl rfl | exact Or.inr rfl) .nil)) rfl rfl (by decide) (ds_cons (ds_ret (de_tup (dl_cons de_str (dl_cons (de_tup (dl_cons (de_callC tk_of G_struck (by exact hr.mono (by decide)) (dl_cons (de_var (pv 3)) (dl_cons (de_var (pv 6)) dl_nil))) (dl_cons (de_var (pv 4)) (dl_cons (de_var (pv 5)) dl_nil)))) dl_nil)))) ds_nil) (.cons (.lit (.cap (i := 6) rfl (by first | exact Or.inl rfl | exact Or.inr rfl) (by first | exact Or.inl rfl | exact Or.inr rfl) (.cap (i := 13) rfl (by first | exact Or.inl rfl | exact Or.inr rfl) (by first | exact Or.inl rfl | exact Or.inr rfl) (.cap (i := 14) rfl (by first | exact Or.inl rfl | exact Or.inr rfl) (by first | exact Or.inl rfl | exact Or.inr rfl) (.cap (i := 15) rfl (by first | exact Or.inl rfl | exact Or.inr rfl) (by first | exact Or.inl rfl | exact Or.inr rfl) (.cap (i := 16) rfl (by first | exact Or.inl rfl | exact Or.inr rfl) (by first | exact Or.inl rfl | exact Or.inr rfl) .nil)))))) rfl rfl (by decide) (ds_cons (ds_set (i := 17) sc_do_deed.nd rfl (by first | exact Or.inl rfl | exact Or.inr rfl) (de_tup (dl_cons (de_var (pv 6)) (dl_cons (de_var (pv 13)) (dl_cons (de_var (pv 14)) (dl_cons (de_var (pv 15)) (dl_cons (de_var (pv 16)) dl_nil))))))) (ds_cons (ds_ret (de_tup (dl_cons de_str (dl_cons (de_tup (dl_cons (de_var (pv 3)) (dl_cons (de_callC tk_of G_with_tariff (by exact hr.mono (by decide)) (dl_cons (de_var (pv 4)) (dl_cons (de_var (pv 17)) dl_nil))) (dl_cons (de_var (pv 5)) dl_nil)))) dl_nil)))) ds_nil)) (.cons (.lit (.cap (i := 6) rfl (by first | exact Or.inl rfl | exact Or.inr rfl) (by first | exact Or.inl rfl | exact Or.inr rfl) .nil)) rfl rfl (by decide) (ds_cons (ds_set (i := 18) sc_do_deed.nd rfl (by first | exact Or.inl rfl | exact Or.inr rfl) (de_callC tk_of G_with_bill (by exact hr.mono (by decide)) (dl_cons (de_var (pv 3)) (dl_cons (de_var (pv 0)) (dl_cons (de_var (pv 4)) (dl_cons (de_var (pv 5)) (dl_cons (de_var (pv 6)) dl_nil))))))) (ds_cons (ds_ret (de_tup (dl_cons (de_at (de_at (dw_var (pv 18)) (de_neg de_int.weak).weak).weak de_int.weak) (dl_cons (de_tup (dl_cons (de_var (pv 3)) (dl_cons (de_var (pv 4)) (dl_cons (de_var (pv 18)) dl_nil)))) dl_nil)))) ds_nil)) (.cons (.lit (.cap (i := 6) rfl (by first | exact Or.inl rfl | exact Or.inr rfl) (by first | exact Or.inl rfl | exact Or.inr rfl) .nil)) rfl rfl (by decide) (ds_cons (ds_ret (de_tup (dl_cons (de_callC tk_of G_use_on (by exact hr.mono (by decide)) (dl_cons (de_var (pv 3)) (dl_cons (de_var (pv 0)) (dl_cons (de_var (pv 6)) dl_nil)))) (dl_cons (de_var (pv 1)) dl_nil)))) ds_nil) (.cons (.lit (.cap (i := 6) rfl (by first | exact Or.inl rfl | exact Or.inr rfl) (by first | exact Or.inl rfl | exact Or.inr rfl) .nil)) rfl rfl (by decide) (ds_cons (ds_ret (de_tup (dl_cons (de_callC tk_of G_owed (by exact hr.mono (by decide)) (dl_cons (de_var (pv 3)) (dl_cons (de_var (pv 0)) (dl_cons (de_var (pv 4)) (dl_cons (de_var (pv 6)) dl_nil))))) (dl_cons (de_var (pv 1)) dl_nil)))) ds_nil) .nil))))))))) ds_nil))
/-! ### answer_to -/
abbrev s_answer_to : Stmt := topS 42
abbrev nm_answer_to : List Str := ["most", "state", "deed"]
theorem sc_answer_to : FnScope nm_answer_to ["most", "state", "deed"] (defScope s_answer_to) := ⟨rfl, rfl, rfl, by decide +kernel, rfl, by decide +kernel, by decide +kernel⟩
noncomputable def b_answer_to : Rho → Out :=
  (sqf (tryM (sqf (retE (callE (consA (rd 0) (consA (rd 1) (consA (rd 2) (fun _ => .ok [])))) f_do_deed)) .nx) [((fun c => subC c 1), (fun c => (sqf (retE (tupA (consA (fun _ => .ok (.str (PySem.Str.ofString "no meter"))) (consA (rd 1) (fun _ => .ok []))))) .nx))), ((fun c => subC c 2), (fun c => (sqf (retE (tupA (consA (fun _ => .ok (.str (PySem.Str.ofString "there already"))) (consA (rd 1) (fun _ => .ok []))))) .nx))), ((fun c => subC c 3), (fun c => (sqf (retE (tupA (consA (fun _ => .ok (.str (PySem.Str.ofString "not later"))) (consA (rd 1) (fun _ => .ok []))))) .nx))), ((fun c => subC c 4), (fun c => (sqf (retE (tupA (consA (fun _ => .ok (.str (PySem.Str.ofString "no value"))) (consA (rd 1) (fun _ => .ok []))))) .nx))), ((fun c => subC c 5), (fun c => (sqf (retE (tupA (consA (fun _ => .ok (.str (PySem.Str.ofString "no reading"))) (consA (rd 1) (fun _ => .ok []))))) .nx)))]) .nx)
noncomputable def f_answer_to : List D → Out := fnD b_answer_to 3
theorem fo_answer_to {cs : Nat → Addr} {f : Addr} {fd : FuncData} (F : Fun K "answer_to" "answer_to" s_answer_to f fd) (B : Bi mg) (T : Txt K mg cs) (G_do_deed : Cal cs P w K mg base 9 3 "do_deed" f_do_deed) :
    FnOk P w K mg base (L2.CX P w) 10 f fd ["most", "state", "deed"] (spD cs K 3 f_answer_to) := by
  refine def_ok (K := K) F sc_answer_to (fun cdv A outer s H E hr => ?_)
  exact (ds_cons (ds_try_many rfl rfl tk_of (fun W' pn xe tk' po' => (ds_cons (ds_ret (de_callC tk' G_do_deed (by exact hr.mono (by decide)) (dl_cons (de_var (pv 0)) (dl_cons (de_var (pv 1)) (dl_cons (de_var (pv 2)) dl_nil))))) ds_nil)) (.cons ⟨rfl, by decide, .inl T.a_NoMeter.g⟩ T.exm_NoMeter (fun c a oe pn hz hf => (ds_cons (ds_ret (de_tup (dl_cons de_str (dl_cons (de_var (pv 1)) dl_nil)))) ds_nil)) (.cons ⟨rfl, by decide, .inl T.a_StandsAlready.g⟩ T.exm_StandsAlready (fun c a oe pn hz hf => (ds_cons (ds_ret (de_tup (dl_cons de_str (dl_cons (de_var (pv 1)) dl_nil)))) ds_nil)) (.cons ⟨rfl, by decide, .inl T.a_NotLater.g⟩ T.exm_NotLater (fun c a oe pn hz hf => (ds_cons (ds_ret (de_tup (dl_cons de_str (dl_cons (de_var (pv 1)) dl_nil)))) ds_nil)) (.cons ⟨rfl, by decide, .inl T.a_NoValue.g⟩ T.exm_NoValue (fun c a oe pn hz hf => (ds_cons (ds_ret (de_tup (dl_cons de_str (dl_cons (de_var (pv 1)) dl_nil)))) ds_nil)) (.cons ⟨rfl, by decide, .inl T.a_NoReading.g⟩ T.exm_NoReading (fun c a oe pn hz hf => (ds_cons (ds_ret (de_tup (dl_cons de_str (dl_cons (de_var (pv 1)) dl_nil)))) ds_nil)) .nil)))))) ds_nil)
/-! ### play -/
abbrev s_play : Stmt := topS 41
abbrev nm_play : List Str := ["most", "deeds", "answers", "state", "deed", "answer"]
theorem sc_play : FnScope nm_play ["most", "deeds"] (defScope s_play) := ⟨rfl, rfl, rfl, by decide +kernel, rfl, by decide +kernel, by decide +kernel⟩
noncomputable def lb_play_1 : Rho → Out :=
  (sqf (sAsg (callE (consA (rd 0) (consA (rd 3) (consA (rd 4) (fun _ => .ok [])))) f_answer_to) (aTup [5, 3])) (sqf (apndE 2 (rd 5)) .nx))
noncomputable def r_play_3 : Rho → Out :=
  (frz 2 (sqf (retE (tupA (consA (rd 2) (consA (rd 3) (fun _ => .ok []))))) .nx))
noncomputable def r_play_2 : Rho → Out :=
  (sqf (forE (asS (rd 1)) (aName 4) lb_play_1) r_play_3)
noncomputable def r_play_1 : Rho → Out :=
  (sqf (setE 3 (tupA (consA (tupA (fun _ => .ok [])) (consA (tupA (fun _ => .ok [])) (consA (tupA (fun _ => .ok [])) (fun _ => .ok [])))))) r_play_2)
noncomputable def b_play : Rho → Out :=
  (sqf (lThen (fun _ => .ok []) fun ds r => .nx (r.set 2 (.own ds))) r_play_1)
noncomputable def f_play : List D → Out := fnD b_play 6
theorem fo_play {cs : Nat → Addr} {f : Addr} {fd : FuncData} (F : Fun K "play" "play" s_play f fd) (B : Bi mg) (T : Txt K mg cs) (G_answer_to : Cal cs P w K mg base 10 3 "answer_to" f_answer_to) :
    FnOk P w K mg base (L2.CX P w) 11 f fd ["most", "deeds"] (spD cs K 2 f_play) := by
  refine def_ok (K := K) F sc_play (fun cdv A outer s H E hr => ?_)
  exact (ds_cons (ds_own (i := 2) sc_play.nd rfl (by first | exact Or.inl rfl | exact Or.inr rfl) dl_nil) (ds_cons (ds_set (i := 3) sc_play.nd rfl (by first | exact Or.inl rfl | exact Or.inr rfl) (de_tup (dl_cons (de_tup dl_nil) (dl_cons (de_tup dl_nil) (dl_cons (de_tup dl_nil) dl_nil))))) (ds_cons (ds_for po_of rfl (di_seq (de_var (pv 1))) (dg_name (i := 4) sc_play.nd rfl (by first | exact Or.inl rfl | exact Or.inr rfl)) (ds_cons (ds_asg (de_callC tk_of G_answer_to (by exact hr.mono (by decide)) (dl_cons (de_var (pv 0)) (dl_cons (de_var (pv 3)) (dl_cons (de_var (pv 4)) dl_nil)))) (dg_tup rfl (.cons (pg_name (i := 5) sc_play.nd rfl (by first | exact Or.inl rfl | exact Or.inr rfl)) rfl (.cons (pg_name (i := 3) sc_play.nd rfl (by first | exact Or.inl rfl | exact Or.inr rfl)) rfl Names.nil)))) (ds_cons (ds_append (pv 2) (de_var (pv 5))) ds_nil))) (ds_frz 2 (ds_cons (ds_ret (de_tup (dl_cons (de_var (pv 2)) (dl_cons (de_var (pv 3)) dl_nil)))) ds_nil)))))
/-! ### _law_cell_at -/
abbrev s__law_cell_at : Stmt := topS 45
abbrev nm__law_cell_at : List Str := ["_law_script", "_law_k"]
theorem sc__law_cell_at : FnScope nm__law_cell_at ["_law_script", "_law_k"] (defScope s__law_cell_at) := ⟨rfl, rfl, rfl, by decide +kernel, rfl, by decide +kernel, by decide +kernel⟩
noncomputable def b__law_cell_at : Rho → Out :=
  (sqf (sIf (thn1 (bin2 (iCmp fun i j => decide (i < j)) (rdw 1) (then1 (rdw 0) bLen)) asB) (sqf (retE (bin2 qIx (rdw 0) (rdw 1))) .nx) .nx) (sqf (retE (fun _ => .ok (.int 0))) .nx))
noncomputable def f__law_cell_at : List D → Out := fnD b__law_cell_at 2
theorem fo__law_cell_at {cs : Nat → Addr} {f : Addr} {fd : FuncData} (F : Fun K "_law_cell_at" "_law_cell_at" s__law_cell_at f fd) (B : Bi mg) :
    FnOk P w K mg base (L2.CX P w) 1 f fd ["_law_script", "_law_k"] (spD cs K 2 f__law_cell_at) := by
  refine def_ok (K := K) F sc__law_cell_at (fun cdv A outer s H E hr => ?_)
  exact (ds_cons (ds_if (dt_lt (dw_var (pv 1)) (de_len B.len (dw_var (pv 0))).weak) (ds_cons (ds_ret (de_at (dw_var (pv 0)) (dw_var (pv 1)))) ds_nil) ds_nil) (ds_cons (ds_ret de_int) ds_nil))
/-! ### _law_size_now -/
abbrev s__law_size_now : Stmt := topS 53
abbrev nm__law_size_now : List Str := ["_law_history", "_law_size", "_law_entry"]
theorem sc__law_size_now : FnScope nm__law_size_now ["_law_history"] (defScope s__law_size_now) := ⟨rfl, rfl, rfl, by decide +kernel, rfl, by decide +kernel, by decide +kernel⟩
noncomputable def lb__law_size_now_1 : Rho → Out :=
  (sqf (sIf (thn1 (bin2 qNe (bin2 qIx (rdw 2) (fun _ => .ok (.int 0))) (fun _ => .ok (.str (PySem.Str.ofString "read")))) asB) (sqf (setE 1 (bin2 qIx (rdw 2) (bin2 pAdd (fun _ => .ok (.int 2)) (then1 (bin2 qEq (bin2 qIx (rdw 2) (fun _ => .ok (.int 0))) (fun _ => .ok (.str (PySem.Str.ofString "change")))) bInt)))) .nx) .nx) .nx)
noncomputable def b__law_size_now : Rho → Out :=
  (sqf (setE 1 (fun _ => .ok (.int 10))) (sqf (forE (asS (rd 0)) (aName 2) lb__law_size_now_1) (sqf (retE (rd 1)) .nx)))
noncomputable def f__law_size_now : List D → Out := fnD b__law_size_now 3
theorem fo__law_size_now {cs : Nat → Addr} {f : Addr} {fd : FuncData} (F : Fun K "_law_size_now" "_law_size_now" s__law_size_now f fd) (B : Bi mg) :
    FnOk P w K mg base (L2.CX P w) 1 f fd ["_law_history"] (spD cs K 1 f__law_size_now) := by
  refine def_ok (K := K) F sc__law_size_now (fun cdv A outer s H E hr => ?_)
  exact (ds_cons (ds_set (i := 1) sc__law_size_now.nd rfl (by first | exact Or.inl rfl | exact Or.inr rfl) de_int) (ds_cons (ds_for po_of rfl (di_seq (de_var (pv 0))) (dg_name (i := 2) sc__law_size_now.nd rfl (by first | exact Or.inl rfl | exact Or.inr rfl)) (ds_cons (ds_if (dt_ne (by exact hr.units) (de_at (dw_var (pv 2)) de_int.weak).weak de_str.weak) (ds_cons (ds_set (i := 1) sc__law_size_now.nd rfl (by first | exact Or.inl rfl | exact Or.inr rfl) (de_at (dw_var (pv 2)) (de_add de_int.weak (de_int1 B.int (de_eq (by exact hr.units) (de_at (dw_var (pv 2)) de_int.weak).weak de_str.weak).weak).weak).weak)) ds_nil) ds_nil) ds_nil)) (ds_cons (ds_ret (de_var (pv 1))) ds_nil)))
/-! ### _law_entry_of -/
abbrev s__law_entry_of : Stmt := topS 56
abbrev nm__law_entry_of : List Str := ["_law_history", "_law_deed"]
theorem sc__law_entry_of : FnScope nm__law_entry_of ["_law_history", "_law_deed"] (defScope s__law_entry_of) := ⟨rfl, rfl, rfl, by decide +kernel, rfl, by decide +kernel, by decide +kernel⟩
noncomputable def r__law_entry_of_5 : Rho → Out :=
  (sqf (retE (bin2 pAdd (rdw 1) (tupA (consA (fun _ => .ok (.bool false)) (fun _ => .ok []))))) .nx)
noncomputable def r__law_entry_of_4 : Rho → Out :=
  (sqf (sIf (thn1 (bin2 qEq (bin2 qIx (rdw 1) (fun _ => .ok (.int 0))) (fun _ => .ok (.str (PySem.Str.ofString "change")))) asB) (sqf (sIf (thn1 (bin2 (iCmp fun i j => decide (j ≤ i)) (bin2 qIx (rdw 1) (fun _ => .ok (.int 4))) (bin2 qIx (rdw 1) (fun _ => .ok (.int 3)))) asB) (sqf (retE (fun _ => .ok (.str (PySem.Str.ofString "no value")))) .nx) .nx) (sqf (retE (rd 1)) .nx)) .nx) r__law_entry_of_5)
noncomputable def r__law_entry_of_3 : Rho → Out :=
  (sqf (sIf (thn1 (bin2 (iCmp fun i j => decide (j ≤ i)) (bin2 qIx (rdw 1) (fun _ => .ok (.int 2))) (callE (consA (rd 0) (fun _ => .ok [])) f__law_size_now)) asB) (sqf (retE (fun _ => .ok (.str (PySem.Str.ofString "no value")))) .nx) .nx) r__law_entry_of_4)
noncomputable def r__law_entry_of_2 : Rho → Out :=
  (sqf (sIf (thn1 (bin2 (iCmp fun i j => decide (i ≤ j)) (bin2 qIx (rdw 1) (fun _ => .ok (.int 1))) (bin2 qIx (bin2 qIx (rdw 0) (then1 (fun _ => .ok (.int 1)) negI)) (fun _ => .ok (.int 1)))) asB) (sqf (retE (fun _ => .ok (.str (PySem.Str.ofString "not later")))) .nx) .nx) r__law_entry_of_3)
noncomputable def r__law_entry_of_1 : Rho → Out :=
  (sqf (sIf (thn1 (bin2 qEq (then1 (rdw 0) bLen) (fun _ => .ok (.int 0))) asB) (sqf (retE (fun _ => .ok (.str (PySem.Str.ofString "no meter")))) .nx) .nx) r__law_entry_of_2)
noncomputable def b__law_entry_of : Rho → Out :=
  (sqf (sIf (thn1 (bin2 qEq (bin2 qIx (rdw 1) (fun _ => .ok (.int 0))) (fun _ => .ok (.str (PySem.Str.ofString "start")))) asB) (sqf (sIf (thn1 (bin2 (iCmp fun i j => decide (j < i)) (then1 (rdw 0) bLen) (fun _ => .ok (.int 0))) asB) (sqf (retE (fun _ => .ok (.str (PySem.Str.ofString "there already")))) .nx) .nx) (sqf (sIf (thn1 (bin2 (iCmp fun i j => decide (j ≤ i)) (bin2 qIx (rdw 1) (fun _ => .ok (.int 3))) (bin2 qIx (rdw 1) (fun _ => .ok (.int 2)))) asB) (sqf (retE (fun _ => .ok (.str (PySem.Str.ofString "no value")))) .nx) .nx) (sqf (retE (rd 1)) .nx))) .nx) r__law_entry_of_1)
noncomputable def f__law_entry_of : List D → Out := fnD b__law_entry_of 2
theorem fo__law_entry_of {cs : Nat → Addr} {f : Addr} {fd : FuncData} (F : Fun K "_law_entry_of" "_law_entry_of" s__law_entry_of f fd) (B : Bi mg) (G__law_size_now : Cal cs P w K mg base 1 1 "_law_size_now" f__law_size_now) :
    FnOk P w K mg base (L2.CX P w) 2 f fd ["_law_history", "_law_deed"] (spD cs K 2 f__law_entry_of) := by
  refine def_ok (K := K) F sc__law_entry_of (fun cdv A outer s H E hr => ?_)
  exact (ds_cons (ds_if (dt_eq (by exact hr.units) (de_at (dw_var (pv 1)) de_int.weak).weak de_str.weak) (ds_cons (ds_if (dt_gt (de_len B.len (dw_var (pv 0))).weak de_int.weak) (ds_cons (ds_ret de_str) ds_nil) ds_nil) (ds_cons (ds_if (dt_ge (de_at (dw_var (pv 1)) de_int.weak).weak (de_at (dw_var (pv 1)) de_int.weak).weak) (ds_cons (ds_ret de_str) ds_nil) ds_nil) (ds_cons (ds_ret (de_var (pv 1))) ds_nil))) ds_nil) (ds_cons (ds_if (dt_eq (by exact hr.units) (de_len B.len (dw_var (pv 0))).weak de_int.weak) (ds_cons (ds_ret de_str) ds_nil) ds_nil) (ds_cons (ds_if (dt_le (de_at (dw_var (pv 1)) de_int.weak).weak (de_at (de_at (dw_var (pv 0)) (de_neg de_int.weak).weak).weak de_int.weak).weak) (ds_cons (ds_ret de_str) ds_nil) ds_nil) (ds_cons (ds_if (dt_ge (de_at (dw_var (pv 1)) de_int.weak).weak (de_callC tk_of G__law_size_now (by exact hr.mono (by decide)) (dl_cons (de_var (pv 0)) dl_nil)).weak) (ds_cons (ds_ret de_str) ds_nil) ds_nil) (ds_cons (ds_if (dt_eq (by exact hr.units) (de_at (dw_var (pv 1)) de_int.weak).weak de_str.weak) (ds_cons (ds_if (dt_ge (de_at (dw_var (pv 1)) de_int.weak).weak (de_at (dw_var (pv 1)) de_int.weak).weak) (ds_cons (ds_ret de_str) ds_nil) ds_nil) (ds_cons (ds_ret (de_var (pv 1))) ds_nil)) ds_nil) (ds_cons (ds_ret (de_add (dw_var (pv 1)) (de_tup (dl_cons de_bl dl_nil)).weak)) ds_nil))))))
/-! ### _law_cost -/
abbrev s__law_cost : Stmt := topS 52
abbrev nm__law_cost : List Str := ["_law_tariffs", "_law_day", "_law_use_here", "_law_found", "_law_one"]
theorem sc__law_cost : FnScope nm__law_cost ["_law_tariffs", "_law_day", "_law_use_here"] (defScope s__law_cost) := ⟨rfl, rfl, rfl, by decide +kernel, rfl, by decide +kernel, by decide +kernel⟩
noncomputable def lb__law_cost_1 : Rho → Out :=
  (sqf (sIf (thn1 (bin2 (iCmp fun i j => decide (i ≤ j)) (bin2 qIx (rdw 4) (fun _ => .ok (.int 0))) (rdw 1)) asB) (sqf (setE 3 (bin2 pAdd (bin2 pAdd (bin2 qIx (rdw 4) (fun _ => .ok (.int 1))) (bin2 iMul (bin2 qIx (rdw 4) (fun _ => .ok (.int 2))) (bin2 bMin (rdw 2) (bin2 qIx (rdw 4) (fun _ => .ok (.int 3)))))) (bin2 iMul (bin2 qIx (rdw 4) (fun _ => .ok (.int 4))) (bin2 bMax (fun _ => .ok (.int 0)) (bin2 iSub (rdw 2) (bin2 qIx (rdw 4) (fun _ => .ok (.int 3)))))))) .nx) .nx) .nx)
noncomputable def b__law_cost : Rho → Out :=
  (sqf (setE 3 (fun _ => .ok (.int 0))) (sqf (forE (asS (then1 (rdw 0) bSortT)) (aName 4) lb__law_cost_1) (sqf (retE (rd 3)) .nx)))
noncomputable def f__law_cost : List D → Out := fnD b__law_cost 5
theorem fo__law_cost {cs : Nat → Addr} {f : Addr} {fd : FuncData} (F : Fun K "_law_cost" "_law_cost" s__law_cost f fd) (B : Bi mg) :
    FnOk P w K mg base (L2.CX P w) 1 f fd ["_law_tariffs", "_law_day", "_law_use_here"] (spD cs K 3 f__law_cost) := by
  refine def_ok (K := K) F sc__law_cost (fun cdv A outer s H E hr => ?_)
  exact (ds_cons (ds_set (i := 3) sc__law_cost.nd rfl (by first | exact Or.inl rfl | exact Or.inr rfl) de_int) (ds_cons (ds_for po_of rfl (di_seq (de_sortT (by exact hr.units) B.sorted (dw_var (pv 0)))) (dg_name (i := 4) sc__law_cost.nd rfl (by first | exact Or.inl rfl | exact Or.inr rfl)) (ds_cons (ds_if (dt_le (de_at (dw_var (pv 4)) de_int.weak).weak (dw_var (pv 1))) (ds_cons (ds_set (i := 3) sc__law_cost.nd rfl (by first | exact Or.inl rfl | exact Or.inr rfl) (de_add (de_add (de_at (dw_var (pv 4)) de_int.weak).weak (de_mul (de_at (dw_var (pv 4)) de_int.weak).weak (de_min rfl B.min (dw_var (pv 2)) (de_at (dw_var (pv 4)) de_int.weak).weak).weak).weak).weak (de_mul (de_at (dw_var (pv 4)) de_int.weak).weak (de_max rfl B.max de_int.weak (de_sub (dw_var (pv 2)) (de_at (dw_var (pv 4)) de_int.weak).weak).weak).weak).weak)) ds_nil) ds_nil) ds_nil)) (ds_cons (ds_ret (de_var (pv 3))) ds_nil)))
/-! ### _law_use -/
abbrev s__law_use : Stmt := topS 50
abbrev nm__law_use : List Str := ["_law_gaps", "_law_day", "_law_found", "_law_low", "_law_high", "_law_use_here", "_law_many", "_law_at"]
theorem sc__law_use : FnScope nm__law_use ["_law_gaps", "_law_day"] (defScope s__law_use) := ⟨rfl, rfl, rfl, by decide +kernel, rfl, by decide +kernel, by decide +kernel⟩
noncomputable def lb__law_use_1 : Rho → Out :=
  (sqf (sIf (andT (thn1 (bin2 (iCmp fun i j => decide (i ≤ j)) (rdw 3) (rdw 1)) asB) (thn1 (bin2 (iCmp fun i j => decide (i < j)) (rdw 1) (rdw 4)) asB)) (sqf (setE 6 (bin2 iSub (rdw 4) (rdw 3))) (sqf (setE 7 (bin2 iSub (rdw 1) (rdw 3))) (sqf (retE (bin2 iSub (bin2 iDiv (bin2 iMul (bin2 pAdd (rdw 7) (fun _ => .ok (.int 1))) (rdw 5)) (rdw 6)) (bin2 iDiv (bin2 iMul (rdw 7) (rdw 5)) (rdw 6)))) .nx))) .nx) (sqf (sIf (thn1 (bin2 (iCmp fun i j => decide (i ≤ j)) (rdw 4) (rdw 1)) asB) (sqf (setE 2 (bin2 iDiv (rdw 5) (bin2 iSub (rdw 4) (rdw 3)))) .nx) .nx) .nx))
noncomputable def b__law_use : Rho → Out :=
  (sqf (setE 2 (fun _ => .ok (.int 0))) (sqf (forE (asS (rd 0)) (aTup [3, 4, 5]) lb__law_use_1) (sqf (retE (rd 2)) .nx)))
noncomputable def f__law_use : List D → Out := fnD b__law_use 8
theorem fo__law_use {cs : Nat → Addr} {f : Addr} {fd : FuncData} (F : Fun K "_law_use" "_law_use" s__law_use f fd) (B : Bi mg) :
    FnOk P w K mg base (L2.CX P w) 1 f fd ["_law_gaps", "_law_day"] (spD cs K 2 f__law_use) := by
  refine def_ok (K := K) F sc__law_use (fun cdv A outer s H E hr => ?_)
  exact (ds_cons (ds_set (i := 2) sc__law_use.nd rfl (by first | exact Or.inl rfl | exact Or.inr rfl) de_int) (ds_cons (ds_for po_of rfl (di_seq (de_var (pv 0))) (dg_tup rfl (.cons (pg_name (i := 3) sc__law_use.nd rfl (by first | exact Or.inl rfl | exact Or.inr rfl)) rfl (.cons (pg_name (i := 4) sc__law_use.nd rfl (by first | exact Or.inl rfl | exact Or.inr rfl)) rfl (.cons (pg_name (i := 5) sc__law_use.nd rfl (by first | exact Or.inl rfl | exact Or.inr rfl)) rfl Names.nil)))) (ds_cons (ds_if (DP.dt (dp_and (dt_le (dw_var (pv 3)) (dw_var (pv 1))) (dp_and1 (dt_lt (dw_var (pv 1)) (dw_var (pv 4)))))) (ds_cons (ds_set (i := 6) sc__law_use.nd rfl (by first | exact Or.inl rfl | exact Or.inr rfl) (de_sub (dw_var (pv 4)) (dw_var (pv 3)))) (ds_cons (ds_set (i := 7) sc__law_use.nd rfl (by first | exact Or.inl rfl | exact Or.inr rfl) (de_sub (dw_var (pv 1)) (dw_var (pv 3)))) (ds_cons (ds_ret (de_sub (de_div (de_mul (de_add (dw_var (pv 7)) de_int.weak).weak (dw_var (pv 5))).weak (dw_var (pv 6))).weak (de_div (de_mul (dw_var (pv 7)) (dw_var (pv 5))).weak (dw_var (pv 6))).weak)) ds_nil))) ds_nil) (ds_cons (ds_if (dt_le (dw_var (pv 4)) (dw_var (pv 1))) (ds_cons (ds_set (i := 2) sc__law_use.nd rfl (by first | exact Or.inl rfl | exact Or.inr rfl) (de_div (dw_var (pv 5)) (de_sub (dw_var (pv 4)) (dw_var (pv 3))).weak)) ds_nil) ds_nil) ds_nil))) (ds_cons (ds_ret (de_var (pv 2))) ds_nil)))
/-! ### _law_owed -/
abbrev s__law_owed : Stmt := topS 51
abbrev nm__law_owed : List Str := ["_law_history", "_law_gaps", "_law_tariffs", "_law_day", "_law_total", "_law_one"]
theorem sc__law_owed : FnScope nm__law_owed ["_law_history", "_law_gaps", "_law_tariffs", "_law_day"] (defScope s__law_owed) := ⟨rfl, rfl, rfl, by decide +kernel, rfl, by decide +kernel, by decide +kernel⟩
noncomputable def lb__law_owed_1 : Rho → Out :=
  (sqf (setE 4 (bin2 pAdd (rdw 4) (callE (consA (rd 2) (consA (rd 5) (consA (callE (consA (rd 1) (consA (rd 5) (fun _ => .ok []))) f__law_use) (fun _ => .ok [])))) f__law_cost))) .nx)
noncomputable def b__law_owed : Rho → Out :=
  (sqf (setE 4 (fun _ => .ok (.int 0))) (sqf (forE (rg2 (bin2 qIx (bin2 qIx (rdw 0) (fun _ => .ok (.int 0))) (fun _ => .ok (.int 1))) (rdw 3)) (aName 5) lb__law_owed_1) (sqf (retE (rd 4)) .nx)))
noncomputable def f__law_owed : List D → Out := fnD b__law_owed 6
theorem fo__law_owed {cs : Nat → Addr} {f : Addr} {fd : FuncData} (F : Fun K "_law_owed" "_law_owed" s__law_owed f fd) (B : Bi mg) (G__law_cost : Cal cs P w K mg base 1 3 "_law_cost" f__law_cost) (G__law_use : Cal cs P w K mg base 1 2 "_law_use" f__law_use) :
    FnOk P w K mg base (L2.CX P w) 2 f fd ["_law_history", "_law_gaps", "_law_tariffs", "_law_day"] (spD cs K 4 f__law_owed) := by
  refine def_ok (K := K) F sc__law_owed (fun cdv A outer s H E hr => ?_)
  exact (ds_cons (ds_set (i := 4) sc__law_owed.nd rfl (by first | exact Or.inl rfl | exact Or.inr rfl) de_int) (ds_cons (ds_for po_of rfl (di_rg2 B.range (de_at (de_at (dw_var (pv 0)) de_int.weak).weak de_int.weak).weak (dw_var (pv 3))) (dg_name (i := 5) sc__law_owed.nd rfl (by first | exact Or.inl rfl | exact Or.inr rfl)) (ds_cons (ds_set (i := 4) sc__law_owed.nd rfl (by first | exact Or.inl rfl | exact Or.inr rfl) (de_add (dw_var (pv 4)) (de_callC tk_of G__law_cost (by exact hr.mono (by decide)) (dl_cons (de_var (pv 2)) (dl_cons (de_var (pv 5)) (dl_cons (de_callC tk_of G__law_use (by exact hr.mono (by decide)) (dl_cons (de_var (pv 1)) (dl_cons (de_var (pv 5)) dl_nil))) dl_nil)))).weak)) ds_nil)) (ds_cons (ds_ret (de_var (pv 4))) ds_nil)))
/-! ### _law_account -/
abbrev s__law_account : Stmt := topS 49
abbrev nm__law_account : List Str := ["_law_history", "_law_most", "_law_places", "_law_gaps", "_law_size", "_law_shown", "_law_day", "_law_k", "_law_entry", "_law_use_here"]
theorem sc__law_account : FnScope nm__law_account ["_law_history", "_law_most"] (defScope s__law_account) := ⟨rfl, rfl, rfl, by decide +kernel, rfl, by decide +kernel, by decide +kernel⟩
noncomputable def lb__law_account_1 : Rho → Out :=
  (sqf (setE 8 (bin2 qIx (rdw 0) (rdw 7))) (sqf (sIf (thn1 (bin2 qEq (bin2 qIx (rdw 8) (fun _ => .ok (.int 0))) (fun _ => .ok (.str (PySem.Str.ofString "start")))) asB) (sqf (setE 4 (bin2 qIx (rdw 8) (fun _ => .ok (.int 2)))) (sqf (setE 5 (bin2 qIx (rdw 8) (fun _ => .ok (.int 3)))) .nx)) (sqf (setE 9 (bin2 iMod (bin2 iSub (bin2 qIx (rdw 8) (fun _ => .ok (.int 2))) (rdw 5)) (rdw 4))) (sqf (sIf (andT (thn1 (bin2 qEq (bin2 qIx (rdw 8) (fun _ => .ok (.int 0))) (fun _ => .ok (.str (PySem.Str.ofString "read")))) asB) (orT (thn1 (bin2 qIx (rdw 8) (fun _ => .ok (.int 3))) tru) (thn1 (bin2 (iCmp fun i j => decide (j < i)) (rdw 9) (bin2 iMul (rdw 1) (bin2 iSub (bin2 qIx (rdw 8) (fun _ => .ok (.int 1))) (rdw 6)))) asB))) (sqf .ct .nx) .nx) (sqf (apndE 3 (tupA (consA (rd 6) (consA (bin2 qIx (rdw 8) (fun _ => .ok (.int 1))) (consA (rd 9) (fun _ => .ok [])))))) (sqf (setE 5 (bin2 qIx (rdw 8) (fun _ => .ok (.int 2)))) (sqf (sIf (thn1 (bin2 qEq (bin2 qIx (rdw 8) (fun _ => .ok (.int 0))) (fun _ => .ok (.str (PySem.Str.ofString "change")))) asB) (sqf (setE 4 (bin2 qIx (rdw 8) (fun _ => .ok (.int 3)))) (sqf (setE 5 (bin2 qIx (rdw 8) (fun _ => .ok (.int 4)))) .nx)) .nx) .nx)))))) (sqf (setE 6 (bin2 qIx (rdw 8) (fun _ => .ok (.int 1)))) (sqf (apndE 2 (rd 7)) .nx))))
noncomputable def r__law_account_6 : Rho → Out :=
  (frz 2 (frz 3 (sqf (retE (tupA (consA (rd 2) (consA (rd 3) (fun _ => .ok []))))) .nx)))
noncomputable def r__law_account_5 : Rho → Out :=
  (sqf (forE (rg1 (then1 (rdw 0) bLen)) (aName 7) lb__law_account_1) r__law_account_6)
noncomputable def r__law_account_4 : Rho → Out :=
  (sqf (setE 6 (fun _ => .ok (.int 0))) r__law_account_5)
noncomputable def r__law_account_3 : Rho → Out :=
  (sqf (setE 5 (fun _ => .ok (.int 0))) r__law_account_4)
noncomputable def r__law_account_2 : Rho → Out :=
  (sqf (setE 4 (fun _ => .ok (.int 0))) r__law_account_3)
noncomputable def r__law_account_1 : Rho → Out :=
  (sqf (lThen (fun _ => .ok []) fun ds r => .nx (r.set 3 (.own ds))) r__law_account_2)
noncomputable def b__law_account : Rho → Out :=
  (sqf (lThen (fun _ => .ok []) fun ds r => .nx (r.set 2 (.own ds))) r__law_account_1)
noncomputable def f__law_account : List D → Out := fnD b__law_account 10
theorem fo__law_account {cs : Nat → Addr} {f : Addr} {fd : FuncData} (F : Fun K "_law_account" "_law_account" s__law_account f fd) (B : Bi mg) :
    FnOk P w K mg base (L2.CX P w) 1 f fd ["_law_history", "_law_most"] (spD cs K 2 f__law_account) := by
  refine def_ok (K := K) F sc__law_account (fun cdv A outer s H E hr => ?_)
  exact (ds_cons (ds_own (i := 2) sc__law_account.nd rfl (by first | exact Or.inl rfl | exact Or.inr rfl) dl_nil) (ds_cons (ds_own (i := 3) sc__law_account.nd rfl (by first | exact Or.inl rfl | exact Or.inr rfl) dl_nil) (ds_cons (ds_set (i := 4) sc__law_account.nd rfl (by first | exact Or.inl rfl | exact Or.inr rfl) de_int) (ds_cons (ds_set (i := 5) sc__law_account.nd rfl (by first | exact Or.inl rfl | exact Or.inr rfl) de_int) (ds_cons (ds_set (i := 6) sc__law_account.nd rfl (by first | exact Or.inl rfl | exact Or.inr rfl) de_int) (ds_cons (ds_for po_of rfl (di_rg1 B.range (de_len B.len (dw_var (pv 0))).weak) (dg_name (i := 7) sc__law_account.nd rfl (by first | exact Or.inl rfl | exact Or.inr rfl)) (ds_cons (ds_set (i := 8) sc__law_account.nd rfl (by first | exact Or.inl rfl | exact Or.inr rfl) (de_at (dw_var (pv 0)) (dw_var (pv 7)))) (ds_cons (ds_if (dt_eq (by exact hr.units) (de_at (dw_var (pv 8)) de_int.weak).weak de_str.weak) (ds_cons (ds_set (i := 4) sc__law_account.nd rfl (by first | exact Or.inl rfl | exact Or.inr rfl) (de_at (dw_var (pv 8)) de_int.weak)) (ds_cons (ds_set (i := 5) sc__law_account.nd rfl (by first | exact Or.inl rfl | exact Or.inr rfl) (de_at (dw_var (pv 8)) de_int.weak)) ds_nil)) (ds_cons (ds_set (i := 9) sc__law_account.nd rfl (by first | exact Or.inl rfl | exact Or.inr rfl) (de_mod (de_sub (de_at (dw_var (pv 8)) de_int.weak).weak (dw_var (pv 5))).weak (dw_var (pv 4)))) (ds_cons (ds_if (DP.dt (dp_and (dt_eq (by exact hr.units) (de_at (dw_var (pv 8)) de_int.weak).weak de_str.weak) (dp_and1 (DP.dt (dp_or (dt_tru (de_at (dw_var (pv 8)) de_int.weak).weak) (dp_or1 (dt_gt (dw_var (pv 9)) (de_mul (dw_var (pv 1)) (de_sub (de_at (dw_var (pv 8)) de_int.weak).weak (dw_var (pv 6))).weak).weak))))))) (ds_cons ds_cont ds_nil) ds_nil) (ds_cons (ds_append (pv 3) (de_tup (dl_cons (de_var (pv 6)) (dl_cons (de_at (dw_var (pv 8)) de_int.weak) (dl_cons (de_var (pv 9)) dl_nil))))) (ds_cons (ds_set (i := 5) sc__law_account.nd rfl (by first | exact Or.inl rfl | exact Or.inr rfl) (de_at (dw_var (pv 8)) de_int.weak)) (ds_cons (ds_if (dt_eq (by exact hr.units) (de_at (dw_var (pv 8)) de_int.weak).weak de_str.weak) (ds_cons (ds_set (i := 4) sc__law_account.nd rfl (by first | exact Or.inl rfl | exact Or.inr rfl) (de_at (dw_var (pv 8)) de_int.weak)) (ds_cons (ds_set (i := 5) sc__law_account.nd rfl (by first | exact Or.inl rfl | exact Or.inr rfl) (de_at (dw_var (pv 8)) de_int.weak)) ds_nil)) ds_nil) ds_nil)))))) (ds_cons (ds_set (i := 6) sc__law_account.nd rfl (by first | exact Or.inl rfl | exact Or.inr rfl) (de_at (dw_var (pv 8)) de_int.weak)) (ds_cons (ds_append (pv 2) (de_var (pv 7))) ds_nil))))) (ds_frz 2 (ds_frz 3 (ds_cons (ds_ret (de_tup (dl_cons (de_var (pv 2)) (dl_cons (de_var (pv 3)) dl_nil)))) ds_nil)))))))))
/-! ### _law_bill -/
abbrev s__law_bill : Stmt := topS 58
abbrev nm__law_bill : List Str := ["_law_s", "_law_most", "_law_day", "_law_due", "_law_amount", "_law_one"]
theorem sc__law_bill : FnScope nm__law_bill ["_law_s", "_law_most", "_law_day"] (defScope s__law_bill) := ⟨rfl, rfl, rfl, by decide +kernel, rfl, by decide +kernel, by decide +kernel⟩
noncomputable def r__law_bill_5 : Rho → OutS :=
  (sqS (rtS (rd 4)) .nx)
noncomputable def r__law_bill_4 : Rho → OutS :=
  (sqS (upS (inS 0 (vThen (tupA (consA (rd 2) (consA (rd 4) (fun _ => .ok [])))) (apB 0)))) r__law_bill_5)
noncomputable def r__law_bill_3 : Rho → OutS :=
  (sqS (upS (setE 4 (bin2 iSub (rdw 3) (then1 (lcE (asL (staB 0)) (aName 5) (fun _ => .ok true) (bin2 qIx (rdw 5) (fun _ => .ok (.int 1))) [5]) bSum)))) r__law_bill_4)
noncomputable def r__law_bill_2 : Rho → OutS :=
  (sqS (upS (setE 3 (callF (consA (staH 0) (consA (bin2 qIx (callE (consA (staH 0) (consA (rd 1) (fun _ => .ok []))) f__law_account) (fun _ => .ok (.int 1))) (consA (staT 0) (consA (rdw 2) (fun _ => .ok []))))) f__law_owed))) r__law_bill_3)
noncomputable def r__law_bill_1 : Rho → OutS :=
  (sqS (ifS (andT (thn1 (bin2 qNe (staB 0) (lstA (fun _ => .ok []))) asB) (thn1 (bin2 (iCmp fun i j => decide (i < j)) (rdw 2) (bin2 qIx (bin2 qIx (staB 0) (then1 (fun _ => .ok (.int 1)) negI)) (fun _ => .ok (.int 0)))) asB)) (sqS (rtS (fun _ => .ok (.str (PySem.Str.ofString "not later")))) .nx) .nx) r__law_bill_2)
noncomputable def b__law_bill : Rho → OutS :=
  (sqS (ifS (thn1 (bin2 qEq (staH 0) (tupA (fun _ => .ok []))) asB) (sqS (rtS (fun _ => .ok (.str (PySem.Str.ofString "no meter")))) .nx) .nx) r__law_bill_1)
noncomputable def f__law_bill : FnSt := fnS b__law_bill 6
theorem fo__law_bill {cs : Nat → Addr} {f : Addr} {fd : FuncData} (F : Fun K "_law_bill" "_law_bill" s__law_bill f fd) (B : Bi mg) (G__law_owed : Cal cs P w K mg base 2 4 "_law_owed" f__law_owed) (G__law_account : Cal cs P w K mg base 1 2 "_law_account" f__law_account) :
    FnOk P w K mg base (L2.CX P w) 3 f fd ["_law_s", "_law_most", "_law_day"] (spS K 3 f__law_bill) := by
  refine def_okS (K := K) F sc__law_bill (by decide) (fun cdv A outer s H E hr => ?_)
  exact (dxs_cons (dx_if (W := W0) (dt_eq (by exact hr.units) (de_sh (by exact units1 hr.units) (pv 0)).weak (de_tup dl_nil).weak) (dxs_cons (dx_ret (W := W0) de_str) dxs_nil) dxs_nil) (dxs_cons (dx_if (W := W0) (DP.dt (dp_and (dt_ne (by exact hr.units) (dw_sb (by exact units1 hr.units) (pv 0)) (de_lst dl_nil).weak) (dp_and1 (dt_lt (dw_var (pv 2)) (de_at (de_at (dw_sb (by exact units1 hr.units) (pv 0)) (de_neg de_int.weak).weak).weak de_int.weak).weak)))) (dxs_cons (dx_ret (W := W0) de_str) dxs_nil) dxs_nil) (dxs_cons (dx_up (W := W0) (ds_set (i := 3) sc__law_bill.nd rfl (by first | exact Or.inl rfl | exact Or.inr rfl) (de_callF takes00 G__law_owed (by exact hr.mono (by decide)) (df_cons (de_sh (by exact units1 hr.units) (pv 0)).weak (df_cons (de_at (de_callC takes00 G__law_account (by exact hr.mono (by decide)) (dl_cons (de_sh (by exact units1 hr.units) (pv 0)) (dl_cons (de_var (pv 1)) dl_nil))).weak de_int.weak).weak (df_cons (dw_st (by exact units1 hr.units) (pv 0)) (df_cons (dw_var (pv 2)) df_nil))))))) (dxs_cons (dx_up (W := W0) (ds_set (i := 4) sc__law_bill.nd rfl (by first | exact Or.inl rfl | exact Or.inr rfl) (de_sub (dw_var (pv 3)) (de_sum rfl B.sum (de_lcW (own := [("_law_one", 5)]) rfl sc__law_bill.nd (dj_list (dw_sb (by exact units1 hr.units) (pv 0))) (blkOk_by (own := [("_law_one", 5)]) (N := nm__law_bill) (sc := defScope s__law_bill) (by decide +kernel)) (inOwn_name (by decide)) (fun _ _ _ _ _ => (dg_name (i := 5) sc__law_bill.nd rfl (by first | exact Or.inl rfl | exact Or.inr rfl))) (fun _ _ _ _ _ => dts_nil) (fun _ _ _ _ _ => (de_at (dw_var (pv 5)) de_int.weak))).weak).weak))) (dxs_cons (dx_up (W := W0) (ds_apB (by exact units1 hr.units) (pv 0) (de_tup (dl_cons (de_var (pv 2)) (dl_cons (de_var (pv 4)) dl_nil))))) (dxs_cons (dx_ret (W := W0) (de_var (pv 4))) dxs_nil))))))
/-! ### _law_struck -/
abbrev s__law_struck : Stmt := topS 57
abbrev nm__law_struck : List Str := ["_law_history", "_law_day", "_law_found", "_law_entry"]
theorem sc__law_struck : FnScope nm__law_struck ["_law_history", "_law_day"] (defScope s__law_struck) := ⟨rfl, rfl, rfl, by decide +kernel, rfl, by decide +kernel, by decide +kernel⟩
noncomputable def lb__law_struck_1 : Rho → Out :=
  (sqf (sIf (andT (thn1 (bin2 qEq (bin2 qIx (rdw 3) (fun _ => .ok (.int 0))) (fun _ => .ok (.str (PySem.Str.ofString "read")))) asB) (andT (thn1 (bin2 qEq (bin2 qIx (rdw 3) (fun _ => .ok (.int 1))) (rdw 1)) asB) (notT (thn1 (bin2 qIx (rdw 3) (fun _ => .ok (.int 3))) tru)))) (sqf (setE 3 (tupA (consA (fun _ => .ok (.str (PySem.Str.ofString "read"))) (consA (rd 1) (consA (bin2 qIx (rdw 3) (fun _ => .ok (.int 2))) (consA (fun _ => .ok (.bool true)) (fun _ => .ok []))))))) .nx) .nx) (sqf (apndE 2 (rd 3)) .nx))
noncomputable def b__law_struck : Rho → Out :=
  (sqf (lThen (fun _ => .ok []) fun ds r => .nx (r.set 2 (.own ds))) (sqf (forE (asS (rd 0)) (aName 3) lb__law_struck_1) (sqf (retE (then1 (rdw 2) bTuple)) .nx)))
noncomputable def f__law_struck : List D → Out := fnD b__law_struck 4
theorem fo__law_struck {cs : Nat → Addr} {f : Addr} {fd : FuncData} (F : Fun K "_law_struck" "_law_struck" s__law_struck f fd) (B : Bi mg) :
    FnOk P w K mg base (L2.CX P w) 1 f fd ["_law_history", "_law_day"] (spD cs K 2 f__law_struck) := by
  refine def_ok (K := K) F sc__law_struck (fun cdv A outer s H E hr => ?_)
  exact (ds_cons (ds_own (i := 2) sc__law_struck.nd rfl (by first | exact Or.inl rfl | exact Or.inr rfl) dl_nil) (ds_cons (ds_for po_of rfl (di_seq (de_var (pv 0))) (dg_name (i := 3) sc__law_struck.nd rfl (by first | exact Or.inl rfl | exact Or.inr rfl)) (ds_cons (ds_if (DP.dt (dp_and (dt_eq (by exact hr.units) (de_at (dw_var (pv 3)) de_int.weak).weak de_str.weak) (dp_and (dt_eq (by exact hr.units) (de_at (dw_var (pv 3)) de_int.weak).weak (dw_var (pv 1))) (dp_and1 (dt_not (dt_tru (de_at (dw_var (pv 3)) de_int.weak).weak)))))) (ds_cons (ds_set (i := 3) sc__law_struck.nd rfl (by first | exact Or.inl rfl | exact Or.inr rfl) (de_tup (dl_cons de_str (dl_cons (de_var (pv 1)) (dl_cons (de_at (dw_var (pv 3)) de_int.weak) (dl_cons de_bl dl_nil)))))) ds_nil) ds_nil) (ds_cons (ds_append (pv 2) (de_var (pv 3))) ds_nil))) (ds_cons (ds_ret (de_tuple B.tuple (dw_var (pv 2)))) ds_nil)))
/-! ### _law_answer -/
abbrev s__law_answer : Stmt := topS 59
abbrev nm__law_answer : List Str := ["_law_s", "_law_most", "_law_deed", "_law_one", "_law_found", "_law_entry"]
theorem sc__law_answer : FnScope nm__law_answer ["_law_s", "_law_most", "_law_deed"] (defScope s__law_answer) := ⟨rfl, rfl, rfl, by decide +kernel, rfl, by decide +kernel, by decide +kernel⟩
noncomputable def r__law_answer_9 : Rho → OutS :=
  (sqS (rtS (bin2 qIx (lstA (consA (fun _ => .ok (.str (PySem.Str.ofString "doubted"))) (consA (fun _ => .ok (.str (PySem.Str.ofString "counts"))) (fun _ => .ok [])))) (then1 (bin2 (qIn false) (bin2 iSub (then1 (staH 0) bLen) (fun _ => .ok (.int 1))) (bin2 qIx (callE (consA (staH 0) (consA (rd 1) (fun _ => .ok []))) f__law_account) (fun _ => .ok (.int 0)))) bInt))) .nx)
noncomputable def r__law_answer_8 : Rho → OutS :=
  (sqS (ifS (thn1 (bin2 qNe (bin2 qIx (rdw 2) (fun _ => .ok (.int 0))) (fun _ => .ok (.str (PySem.Str.ofString "read")))) asB) (sqS (rtS (fun _ => .ok (.str (PySem.Str.ofString "done")))) .nx) .nx) r__law_answer_9)
noncomputable def r__law_answer_7 : Rho → OutS :=
  (sqS (upS (vThen (bin2 pAdd (staH 0) (tupA (consA (rd 5) (fun _ => .ok [])))) (ptH 0))) r__law_answer_8)
noncomputable def r__law_answer_6 : Rho → OutS :=
  (sqS (ifS (thn1 (isiE (fun t => t == "str") (rdw 5)) tru) (sqS (rtS (rd 5)) .nx) .nx) r__law_answer_7)
noncomputable def r__law_answer_5 : Rho → OutS :=
  (sqS (upS (setE 5 (callE (consA (staH 0) (consA (rd 2) (fun _ => .ok []))) f__law_entry_of))) r__law_answer_6)
noncomputable def r__law_answer_4 : Rho → OutS :=
  (sqS (ifS (thn1 (bin2 qEq (bin2 qIx (rdw 2) (fun _ => .ok (.int 0))) (fun _ => .ok (.str (PySem.Str.ofString "strike")))) asB) (sqS (upS (setE 4 (callE (consA (staH 0) (consA (bin2 qIx (rdw 2) (fun _ => .ok (.int 1))) (fun _ => .ok []))) f__law_struck))) (sqS (ifS (thn1 (bin2 qEq (rdw 4) (staH 0)) asB) (sqS (rtS (fun _ => .ok (.str (PySem.Str.ofString "no reading")))) .nx) .nx) (sqS (upS (vThen (rd 4) (ptH 0))) (sqS (rtS (fun _ => .ok (.str (PySem.Str.ofString "done")))) .nx)))) .nx) r__law_answer_5)
noncomputable def r__law_answer_3 : Rho → OutS :=
  (sqS (ifS (thn1 (bin2 qEq (bin2 qIx (rdw 2) (fun _ => .ok (.int 0))) (fun _ => .ok (.str (PySem.Str.ofString "owed")))) asB) (sqS (ifS (thn1 (bin2 qEq (staH 0) (tupA (fun _ => .ok []))) asB) (sqS (rtS (fun _ => .ok (.str (PySem.Str.ofString "no meter")))) .nx) .nx) (sqS (rtS (callF (consA (staH 0) (consA (bin2 qIx (callE (consA (staH 0) (consA (rd 1) (fun _ => .ok []))) f__law_account) (fun _ => .ok (.int 1))) (consA (staT 0) (consA (bin2 qIx (rdw 2) (fun _ => .ok (.int 1))) (fun _ => .ok []))))) f__law_owed)) .nx)) .nx) r__law_answer_4)
noncomputable def r__law_answer_2 : Rho → OutS :=
  (sqS (ifS (thn1 (bin2 qEq (bin2 qIx (rdw 2) (fun _ => .ok (.int 0))) (fun _ => .ok (.str (PySem.Str.ofString "use")))) asB) (sqS (rtS (callE (consA (bin2 qIx (callE (consA (staH 0) (consA (rd 1) (fun _ => .ok []))) f__law_account) (fun _ => .ok (.int 1))) (consA (bin2 qIx (rdw 2) (fun _ => .ok (.int 1))) (fun _ => .ok []))) f__law_use)) .nx) .nx) r__law_answer_3)
noncomputable def r__law_answer_1 : Rho → OutS :=
  (sqS (ifS (thn1 (bin2 qEq (bin2 qIx (rdw 2) (fun _ => .ok (.int 0))) (fun _ => .ok (.str (PySem.Str.ofString "bill")))) asB) (sqS (rcS 0 (consA (rd 1) (consA (bin2 qIx (rdw 2) (fun _ => .ok (.int 1))) (fun _ => .ok []))) f__law_bill) .nx) .nx) r__law_answer_2)
noncomputable def b__law_answer : Rho → OutS :=
  (sqS (ifS (thn1 (bin2 qEq (bin2 qIx (rdw 2) (fun _ => .ok (.int 0))) (fun _ => .ok (.str (PySem.Str.ofString "tariff")))) asB) (sqS (ifS (thn1 (bin2 (qIn false) (bin2 qIx (rdw 2) (fun _ => .ok (.int 1))) (lcE (asL (staT 0)) (aName 3) (fun _ => .ok true) (bin2 qIx (rdw 3) (fun _ => .ok (.int 0))) [3])) asB) (sqS (rtS (fun _ => .ok (.str (PySem.Str.ofString "there already")))) .nx) .nx) (sqS (upS (inS 0 (vThen (cut3 (rdw 2) (optI (fun _ => .ok (.int 1))) (fun _ => .ok none)) (apT 0)))) (sqS (rtS (fun _ => .ok (.str (PySem.Str.ofString "done")))) .nx))) .nx) r__law_answer_1)
noncomputable def f__law_answer : FnSt := fnS b__law_answer 6
theorem fo__law_answer {cs : Nat → Addr} {f : Addr} {fd : FuncData} (F : Fun K "_law_answer" "_law_answer" s__law_answer f fd) (B : Bi mg) (G__law_entry_of : Cal cs P w K mg base 2 2 "_law_entry_of" f__law_entry_of) (G__law_bill : CalS P w K mg base 3 3 "_law_bill" f__law_bill) (G__law_use : Cal cs P w K mg base 1 2 "_law_use" f__law_use) (G__law_owed : Cal cs P w K mg base 2 4 "_law_owed" f__law_owed) (G__law_struck : Cal cs P w K mg base 1 2 "_law_struck" f__law_struck) (G__law_account : Cal cs P w K mg base 1 2 "_law_account" f__law_account) :
    FnOk P w K mg base (L2.CX P w) 4 f fd ["_law_s", "_law_most", "_law_deed"] (spS K 3 f__law_answer) := by
  refine def_okS (K := K) F sc__law_answer (by decide) (fun cdv A outer s H E hr => ?_)
  exact (dxs_cons (dx_if (W := W0) (dt_eq (by exact hr.units) (de_at (dw_var (pv 2)) de_int.weak).weak de_str.weak) (dxs_cons (dx_if (W := W0) (dt_in (de_at (dw_var (pv 2)) de_int.weak).weak (de_lcW (own := [("_law_one", 3)]) rfl sc__law_answer.nd (dj_list (dw_st (by exact units1 hr.units) (pv 0))) (blkOk_by (own := [("_law_one", 3)]) (N := nm__law_answer) (sc := defScope s__law_answer) (by decide +kernel)) (inOwn_name (by decide)) (fun _ _ _ _ _ => (dg_name (i := 3) sc__law_answer.nd rfl (by first | exact Or.inl rfl | exact Or.inr rfl))) (fun _ _ _ _ _ => dts_nil) (fun _ _ _ _ _ => (de_at (dw_var (pv 3)) de_int.weak))).weak) (dxs_cons (dx_ret (W := W0) de_str) dxs_nil) dxs_nil) (dxs_cons (dx_up (W := W0) (ds_apT (by exact units1 hr.units) (pv 0) (de_slice (dw_var (pv 2)) (do_some de_int.weak) do_none))) (dxs_cons (dx_ret (W := W0) de_str) dxs_nil))) dxs_nil) (dxs_cons (dx_if (W := W0) (dt_eq (by exact hr.units) (de_at (dw_var (pv 2)) de_int.weak).weak de_str.weak) (dxs_cons (dx_rc (W := W0) (cs := fun _ => 0) takes00 G__law_bill (by exact hr.mono (by decide)) (pv 0) (dl_cons (de_var (pv 1)) (dl_cons (de_at (dw_var (pv 2)) de_int.weak) dl_nil))) dxs_nil) dxs_nil) (dxs_cons (dx_if (W := W0) (dt_eq (by exact hr.units) (de_at (dw_var (pv 2)) de_int.weak).weak de_str.weak) (dxs_cons (dx_ret (W := W0) (de_callC takes00 G__law_use (by exact hr.mono (by decide)) (dl_cons (de_at (de_callC takes00 G__law_account (by exact hr.mono (by decide)) (dl_cons (de_sh (by exact units1 hr.units) (pv 0)) (dl_cons (de_var (pv 1)) dl_nil))).weak de_int.weak) (dl_cons (de_at (dw_var (pv 2)) de_int.weak) dl_nil)))) dxs_nil) dxs_nil) (dxs_cons (dx_if (W := W0) (dt_eq (by exact hr.units) (de_at (dw_var (pv 2)) de_int.weak).weak de_str.weak) (dxs_cons (dx_if (W := W0) (dt_eq (by exact hr.units) (de_sh (by exact units1 hr.units) (pv 0)).weak (de_tup dl_nil).weak) (dxs_cons (dx_ret (W := W0) de_str) dxs_nil) dxs_nil) (dxs_cons (dx_ret (W := W0) (de_callF takes00 G__law_owed (by exact hr.mono (by decide)) (df_cons (de_sh (by exact units1 hr.units) (pv 0)).weak (df_cons (de_at (de_callC takes00 G__law_account (by exact hr.mono (by decide)) (dl_cons (de_sh (by exact units1 hr.units) (pv 0)) (dl_cons (de_var (pv 1)) dl_nil))).weak de_int.weak).weak (df_cons (dw_st (by exact units1 hr.units) (pv 0)) (df_cons (de_at (dw_var (pv 2)) de_int.weak).weak df_nil)))))) dxs_nil)) dxs_nil) (dxs_cons (dx_if (W := W0) (dt_eq (by exact hr.units) (de_at (dw_var (pv 2)) de_int.weak).weak de_str.weak) (dxs_cons (dx_up (W := W0) (ds_set (i := 4) sc__law_answer.nd rfl (by first | exact Or.inl rfl | exact Or.inr rfl) (de_callC takes00 G__law_struck (by exact hr.mono (by decide)) (dl_cons (de_sh (by exact units1 hr.units) (pv 0)) (dl_cons (de_at (dw_var (pv 2)) de_int.weak) dl_nil))))) (dxs_cons (dx_if (W := W0) (dt_eq (by exact hr.units) (dw_var (pv 4)) (de_sh (by exact units1 hr.units) (pv 0)).weak) (dxs_cons (dx_ret (W := W0) de_str) dxs_nil) dxs_nil) (dxs_cons (dx_up (W := W0) (ds_ptH (by exact units1 hr.units) (pv 0) (de_var (pv 4)))) (dxs_cons (dx_ret (W := W0) de_str) dxs_nil)))) dxs_nil) (dxs_cons (dx_up (W := W0) (ds_set (i := 5) sc__law_answer.nd rfl (by first | exact Or.inl rfl | exact Or.inr rfl) (de_callC takes00 G__law_entry_of (by exact hr.mono (by decide)) (dl_cons (de_sh (by exact units1 hr.units) (pv 0)) (dl_cons (de_var (pv 2)) dl_nil))))) (dxs_cons (dx_if (W := W0) (dt_tru (de_isi isi_str B.isinstance B.str PyProof.Rows.boot_str (dw_var (pv 5))).weak) (dxs_cons (dx_ret (W := W0) (de_var (pv 5))) dxs_nil) dxs_nil) (dxs_cons (dx_up (W := W0) (ds_ptH (by exact units1 hr.units) (pv 0) (de_add (de_sh (by exact units1 hr.units) (pv 0)).weak (de_tup (dl_cons (de_var (pv 5)) dl_nil)).weak))) (dxs_cons (dx_if (W := W0) (dt_ne (by exact hr.units) (de_at (dw_var (pv 2)) de_int.weak).weak de_str.weak) (dxs_cons (dx_ret (W := W0) de_str) dxs_nil) dxs_nil) (dxs_cons (dx_ret (W := W0) (de_at (de_lst (dl_cons de_str (dl_cons de_str dl_nil))).weak (de_int1 B.int (de_in (de_sub (de_len B.len (de_sh (by exact units1 hr.units) (pv 0)).weak).weak de_int.weak).weak (de_at (de_callC takes00 G__law_account (by exact hr.mono (by decide)) (dl_cons (de_sh (by exact units1 hr.units) (pv 0)) (dl_cons (de_var (pv 1)) dl_nil))).weak de_int.weak).weak).weak).weak)) dxs_nil))))))))))
/-! ### _law_size_by -/
abbrev s__law_size_by : Stmt := topS 47
abbrev nm__law_size_by : List Str := ["_law_number"]
theorem sc__law_size_by : FnScope nm__law_size_by ["_law_number"] (defScope s__law_size_by) := ⟨rfl, rfl, rfl, by decide +kernel, rfl, by decide +kernel, by decide +kernel⟩
noncomputable def b__law_size_by : Rho → Out :=
  (sqf (sIf (thn1 (bin2 qEq (bin2 iMod (rdw 0) (fun _ => .ok (.int 4))) (fun _ => .ok (.int 3))) asB) (sqf (retE (bin2 pAdd (fun _ => .ok (.int 2)) (bin2 iMod (bin2 iMul (rdw 0) (rdw 0)) (bin2 iSub (fun _ => .ok (.int 1000000000000)) (fun _ => .ok (.int 1)))))) .nx) .nx) (sqf (retE (bin2 qIx (lstA (consA (fun _ => .ok (.int 2)) (consA (fun _ => .ok (.int 10)) (consA (fun _ => .ok (.int 100)) (consA (fun _ => .ok (.int 1000)) (consA (fun _ => .ok (.int 100000)) (consA (fun _ => .ok (.int 1000000000000)) (consA (fun _ => .ok (.int 7)) (consA (fun _ => .ok (.int 60)) (fun _ => .ok [])))))))))) (bin2 iMod (bin2 iDiv (rdw 0) (fun _ => .ok (.int 4))) (fun _ => .ok (.int 8))))) .nx))
noncomputable def f__law_size_by : List D → Out := fnD b__law_size_by 1
theorem fo__law_size_by {cs : Nat → Addr} {f : Addr} {fd : FuncData} (F : Fun K "_law_size_by" "_law_size_by" s__law_size_by f fd) (B : Bi mg) :
    FnOk P w K mg base (L2.CX P w) 1 f fd ["_law_number"] (spD cs K 1 f__law_size_by) := by
  refine def_ok (K := K) F sc__law_size_by (fun cdv A outer s H E hr => ?_)
  exact (ds_cons (ds_if (dt_eq (by exact hr.units) (de_mod (dw_var (pv 0)) de_int.weak).weak de_int.weak) (ds_cons (ds_ret (de_add de_int.weak (de_mod (de_mul (dw_var (pv 0)) (dw_var (pv 0))).weak (de_sub (de_pow (by decide) (by decide)).weak de_int.weak).weak).weak)) ds_nil) ds_nil) (ds_cons (ds_ret (de_at (de_lst (dl_cons de_int (dl_cons de_int (dl_cons de_int (dl_cons de_int (dl_cons (de_pow (by decide) (by decide)) (dl_cons (de_pow (by decide) (by decide)) (dl_cons de_int (dl_cons de_int dl_nil))))))))).weak (de_mod (de_div (dw_var (pv 0)) de_int.weak).weak de_int.weak).weak)) ds_nil))
/-! ### _law_shown_now -/
abbrev s__law_shown_now : Stmt := topS 54
abbrev nm__law_shown_now : List Str := ["_law_history", "_law_entry"]
theorem sc__law_shown_now : FnScope nm__law_shown_now ["_law_history"] (defScope s__law_shown_now) := ⟨rfl, rfl, rfl, by decide +kernel, rfl, by decide +kernel, by decide +kernel⟩
noncomputable def b__law_shown_now : Rho → Out :=
  (sqf (sIf (thn1 (bin2 qEq (then1 (rdw 0) bLen) (fun _ => .ok (.int 0))) asB) (sqf (retE (fun _ => .ok (.int 0))) .nx) .nx) (sqf (setE 1 (bin2 qIx (rdw 0) (then1 (fun _ => .ok (.int 1)) negI))) (sqf (retE (bin2 qIx (rdw 1) (bin2 qIx (lstA (consA (fun _ => .ok (.int 3)) (consA (fun _ => .ok (.int 2)) (consA (fun _ => .ok (.int 4)) (fun _ => .ok []))))) (lstE bIndex (lstA (consA (fun _ => .ok (.str (PySem.Str.ofString "start"))) (consA (fun _ => .ok (.str (PySem.Str.ofString "read"))) (consA (fun _ => .ok (.str (PySem.Str.ofString "change"))) (fun _ => .ok []))))) (bin2 qIx (rdw 1) (fun _ => .ok (.int 0))))))) .nx)))
noncomputable def f__law_shown_now : List D → Out := fnD b__law_shown_now 2
theorem fo__law_shown_now {cs : Nat → Addr} {f : Addr} {fd : FuncData} (F : Fun K "_law_shown_now" "_law_shown_now" s__law_shown_now f fd) (B : Bi mg) :
    FnOk P w K mg base (L2.CX P w) 1 f fd ["_law_history"] (spD cs K 1 f__law_shown_now) := by
  refine def_ok (K := K) F sc__law_shown_now (fun cdv A outer s H E hr => ?_)
  exact (ds_cons (ds_if (dt_eq (by exact hr.units) (de_len B.len (dw_var (pv 0))).weak de_int.weak) (ds_cons (ds_ret de_int) ds_nil) ds_nil) (ds_cons (ds_set (i := 1) sc__law_shown_now.nd rfl (by first | exact Or.inl rfl | exact Or.inr rfl) (de_at (dw_var (pv 0)) (de_neg de_int.weak).weak)) (ds_cons (ds_ret (de_at (dw_var (pv 1)) (de_at (de_lst (dl_cons de_int (dl_cons de_int (dl_cons de_int dl_nil)))).weak (de_index (de_lst (dl_cons de_str (dl_cons de_str (dl_cons de_str dl_nil)))).weak (de_at (dw_var (pv 1)) de_int.weak).weak).weak).weak)) ds_nil)))
/-! ### _law_deed_by -/
abbrev s__law_deed_by : Stmt := topS 55
abbrev nm__law_deed_by : List Str := ["_law_history", "_law_most", "_law_number", "_law_more", "_law_last", "_law_gap", "_law_day", "_law_size", "_law_near", "_law_value", "_law_kind", "_law_other", "_law_low", "_law_limit"]
theorem sc__law_deed_by : FnScope nm__law_deed_by ["_law_history", "_law_most", "_law_number", "_law_more"] (defScope s__law_deed_by) := ⟨rfl, rfl, rfl, by decide +kernel, rfl, by decide +kernel, by decide +kernel⟩
noncomputable def r__law_deed_by_14 : Rho → Out :=
  (sqf (retE (tupA (consA (bin2 qIx (lstA (consA (fun _ => .ok (.str (PySem.Str.ofString "bill"))) (consA (fun _ => .ok (.str (PySem.Str.ofString "use"))) (consA (fun _ => .ok (.str (PySem.Str.ofString "owed"))) (consA (fun _ => .ok (.str (PySem.Str.ofString "bill"))) (consA (fun _ => .ok (.str (PySem.Str.ofString "bill"))) (fun _ => .ok []))))))) (bin2 iSub (rdw 10) (fun _ => .ok (.int 8)))) (consA (bin2 qIx (lstA (consA (bin2 iMod (rdw 3) (fun _ => .ok (.int 61))) (consA (bin2 pAdd (rdw 4) (bin2 iMod (rdw 3) (fun _ => .ok (.int 7)))) (fun _ => .ok [])))) (bin2 iMod (bin2 iDiv (rdw 3) (fun _ => .ok (.int 61))) (fun _ => .ok (.int 2)))) (fun _ => .ok []))))) .nx)
noncomputable def r__law_deed_by_13 : Rho → Out :=
  (sqf (sIf (thn1 (bin2 qEq (rdw 10) (fun _ => .ok (.int 7))) asB) (sqf (setE 12 (bin2 qIx (lstA (consA (fun _ => .ok (.int 0)) (consA (fun _ => .ok (.int 1)) (consA (bin2 iMod (bin2 iDiv (rdw 3) (fun _ => .ok (.int 5))) (bin2 pAdd (fun _ => .ok (.int 1000000000)) (fun _ => .ok (.int 1)))) (fun _ => .ok []))))) (bin2 iMod (bin2 iDiv (rdw 2) (fun _ => .ok (.int 13))) (fun _ => .ok (.int 3))))) (sqf (setE 13 (bin2 qIx (lstA (consA (fun _ => .ok (.int 0)) (consA (fun _ => .ok (.int 3)) (consA (bin2 iMod (bin2 iMul (rdw 3) (fun _ => .ok (.int 48271))) (bin2 pAdd (fun _ => .ok (.int 1000000000000)) (fun _ => .ok (.int 1)))) (fun _ => .ok []))))) (bin2 iMod (rdw 3) (fun _ => .ok (.int 3))))) (sqf (retE (tupA (consA (fun _ => .ok (.str (PySem.Str.ofString "tariff"))) (consA (bin2 iMod (rdw 3) (fun _ => .ok (.int 70))) (consA (bin2 iMod (bin2 iDiv (rdw 3) (fun _ => .ok (.int 70))) (fun _ => .ok (.int 40))) (consA (rd 12) (consA (rd 13) (consA (bin2 iMod (bin2 iDiv (rdw 3) (fun _ => .ok (.int 9))) (fun _ => .ok (.int 50))) (fun _ => .ok []))))))))) .nx))) .nx) r__law_deed_by_14)
noncomputable def r__law_deed_by_12 : Rho → Out :=
  (sqf (sIf (thn1 (bin2 qEq (rdw 10) (fun _ => .ok (.int 6))) asB) (sqf (retE (tupA (consA (fun _ => .ok (.str (PySem.Str.ofString "strike"))) (consA (bin2 iMod (rdw 3) (fun _ => .ok (.int 5))) (fun _ => .ok []))))) .nx) .nx) r__law_deed_by_13)
noncomputable def r__law_deed_by_11 : Rho → Out :=
  (sqf (sIf (andT (thn1 (bin2 qEq (rdw 10) (fun _ => .ok (.int 6))) asB) (thn1 (bin2 (iCmp fun i j => decide (j < i)) (then1 (rdw 0) bLen) (fun _ => .ok (.int 0))) asB)) (sqf (retE (tupA (consA (fun _ => .ok (.str (PySem.Str.ofString "strike"))) (consA (bin2 pAdd (bin2 qIx (bin2 qIx (rdw 0) (bin2 iMod (rdw 3) (then1 (rdw 0) bLen))) (fun _ => .ok (.int 1))) (then1 (bin2 qEq (bin2 iMod (bin2 iDiv (rdw 2) (fun _ => .ok (.int 13))) (fun _ => .ok (.int 4))) (fun _ => .ok (.int 1))) bInt)) (fun _ => .ok []))))) .nx) .nx) r__law_deed_by_12)
noncomputable def r__law_deed_by_10 : Rho → Out :=
  (sqf (sIf (thn1 (bin2 (iCmp fun i j => decide (i < j)) (rdw 10) (fun _ => .ok (.int 6))) asB) (sqf (retE (tupA (consA (fun _ => .ok (.str (PySem.Str.ofString "read"))) (consA (rd 6) (consA (rd 9) (fun _ => .ok [])))))) .nx) .nx) r__law_deed_by_11)
noncomputable def r__law_deed_by_9 : Rho → Out :=
  (sqf (sIf (thn1 (bin2 qEq (rdw 10) (fun _ => .ok (.int 1))) asB) (sqf (setE 11 (callE (consA (bin2 iDiv (rdw 3) (fun _ => .ok (.int 3))) (fun _ => .ok [])) f__law_size_by)) (sqf (retE (tupA (consA (fun _ => .ok (.str (PySem.Str.ofString "change"))) (consA (rd 6) (consA (rd 9) (consA (rd 11) (consA (bin2 iMod (bin2 iDiv (rdw 3) (fun _ => .ok (.int 7))) (bin2 pAdd (rdw 11) (then1 (bin2 qEq (bin2 iMod (bin2 iDiv (rdw 2) (fun _ => .ok (.int 5000))) (fun _ => .ok (.int 8))) (fun _ => .ok (.int 1))) bInt))) (fun _ => .ok [])))))))) .nx)) .nx) r__law_deed_by_10)
noncomputable def r__law_deed_by_8 : Rho → Out :=
  (sqf (sIf (thn1 (bin2 qEq (rdw 10) (fun _ => .ok (.int 0))) asB) (sqf (setE 11 (callE (consA (bin2 iDiv (rdw 3) (fun _ => .ok (.int 3))) (fun _ => .ok [])) f__law_size_by)) (sqf (retE (tupA (consA (fun _ => .ok (.str (PySem.Str.ofString "start"))) (consA (bin2 iMod (bin2 iDiv (rdw 2) (fun _ => .ok (.int 13))) (fun _ => .ok (.int 20))) (consA (rd 11) (consA (bin2 iMod (bin2 iDiv (rdw 3) (fun _ => .ok (.int 7))) (bin2 pAdd (rdw 11) (then1 (bin2 qEq (bin2 iMod (bin2 iDiv (rdw 2) (fun _ => .ok (.int 5000))) (fun _ => .ok (.int 8))) (fun _ => .ok (.int 1))) bInt))) (fun _ => .ok []))))))) .nx)) .nx) r__law_deed_by_9)
noncomputable def r__law_deed_by_7 : Rho → Out :=
  (sqf (setE 10 (bin2 iMod (rdw 2) (fun _ => .ok (.int 13)))) r__law_deed_by_8)
noncomputable def r__law_deed_by_6 : Rho → Out :=
  (sqf (setE 9 (bin2 qIx (lstA (consA (rd 8) (consA (bin2 iMod (rdw 3) (rdw 7)) (consA (rd 7) (consA (bin2 iSub (rdw 7) (fun _ => .ok (.int 1))) (fun _ => .ok [])))))) (bin2 iMod (bin2 iDiv (rdw 2) (fun _ => .ok (.int 702))) (fun _ => .ok (.int 4))))) r__law_deed_by_7)
noncomputable def r__law_deed_by_5 : Rho → Out :=
  (sqf (setE 8 (bin2 iMod (bin2 pAdd (callE (consA (rd 0) (fun _ => .ok [])) f__law_shown_now) (bin2 iMod (rdw 3) (bin2 pAdd (bin2 iMul (rdw 1) (rdw 5)) (fun _ => .ok (.int 2))))) (rdw 7))) r__law_deed_by_6)
noncomputable def r__law_deed_by_4 : Rho → Out :=
  (sqf (setE 7 (callE (consA (rd 0) (fun _ => .ok [])) f__law_size_now)) r__law_deed_by_5)
noncomputable def r__law_deed_by_3 : Rho → Out :=
  (sqf (setE 6 (bin2 qIx (lstA (consA (bin2 pAdd (rdw 4) (rdw 5)) (consA (bin2 pAdd (rdw 4) (rdw 5)) (consA (bin2 pAdd (rdw 4) (rdw 5)) (consA (rd 4) (consA (bin2 bMax (fun _ => .ok (.int 0)) (bin2 iSub (rdw 4) (fun _ => .ok (.int 1)))) (consA (bin2 iMod (bin2 iDiv (rdw 2) (fun _ => .ok (.int 13))) (fun _ => .ok (.int 100))) (fun _ => .ok [])))))))) (bin2 iMod (bin2 iDiv (rdw 2) (fun _ => .ok (.int 117))) (fun _ => .ok (.int 6))))) r__law_deed_by_4)
noncomputable def r__law_deed_by_2 : Rho → Out :=
  (sqf (setE 5 (bin2 pAdd (fun _ => .ok (.int 1)) (bin2 iMod (bin2 iDiv (rdw 2) (fun _ => .ok (.int 13))) (fun _ => .ok (.int 9))))) r__law_deed_by_3)
noncomputable def r__law_deed_by_1 : Rho → Out :=
  (sqf (sIf (thn1 (bin2 (iCmp fun i j => decide (j < i)) (then1 (rdw 0) bLen) (fun _ => .ok (.int 0))) asB) (sqf (setE 4 (bin2 qIx (bin2 qIx (rdw 0) (then1 (fun _ => .ok (.int 1)) negI)) (fun _ => .ok (.int 1)))) .nx) .nx) r__law_deed_by_2)
noncomputable def b__law_deed_by : Rho → Out :=
  (sqf (setE 4 (fun _ => .ok (.int 0))) r__law_deed_by_1)
noncomputable def f__law_deed_by : List D → Out := fnD b__law_deed_by 14
theorem fo__law_deed_by {cs : Nat → Addr} {f : Addr} {fd : FuncData} (F : Fun K "_law_deed_by" "_law_deed_by" s__law_deed_by f fd) (B : Bi mg) (G__law_size_now : Cal cs P w K mg base 1 1 "_law_size_now" f__law_size_now) (G__law_size_by : Cal cs P w K mg base 1 1 "_law_size_by" f__law_size_by) (G__law_shown_now : Cal cs P w K mg base 1 1 "_law_shown_now" f__law_shown_now) :
    FnOk P w K mg base (L2.CX P w) 2 f fd ["_law_history", "_law_most", "_law_number", "_law_more"] (spD cs K 4 f__law_deed_by) := by
  refine def_ok (K := K) F sc__law_deed_by (fun cdv A outer s H E hr => ?_)
  exact (ds_cons (ds_set (i := 4) sc__law_deed_by.nd rfl (by first | exact Or.inl rfl | exact Or.inr rfl) de_int) (ds_cons (ds_if (dt_gt (de_len B.len (dw_var (pv 0))).weak de_int.weak) (ds_cons (ds_set (i := 4) sc__law_deed_by.nd rfl (by first | exact Or.inl rfl | exact Or.inr rfl) (de_at (de_at (dw_var (pv 0)) (de_neg de_int.weak).weak).weak de_int.weak)) ds_nil) ds_nil) (ds_cons (ds_set (i := 5) sc__law_deed_by.nd rfl (by first | exact Or.inl rfl | exact Or.inr rfl) (de_add de_int.weak (de_mod (de_div (dw_var (pv 2)) de_int.weak).weak de_int.weak).weak)) (ds_cons (ds_set (i := 6) sc__law_deed_by.nd rfl (by first | exact Or.inl rfl | exact Or.inr rfl) (de_at (de_lst (dl_cons (de_add (dw_var (pv 4)) (dw_var (pv 5))) (dl_cons (de_add (dw_var (pv 4)) (dw_var (pv 5))) (dl_cons (de_add (dw_var (pv 4)) (dw_var (pv 5))) (dl_cons (de_var (pv 4)) (dl_cons (de_max rfl B.max de_int.weak (de_sub (dw_var (pv 4)) de_int.weak).weak) (dl_cons (de_mod (de_div (dw_var (pv 2)) de_int.weak).weak de_int.weak) dl_nil))))))).weak (de_mod (de_div (dw_var (pv 2)) de_int.weak).weak de_int.weak).weak)) (ds_cons (ds_set (i := 7) sc__law_deed_by.nd rfl (by first | exact Or.inl rfl | exact Or.inr rfl) (de_callC tk_of G__law_size_now (by exact hr.mono (by decide)) (dl_cons (de_var (pv 0)) dl_nil))) (ds_cons (ds_set (i := 8) sc__law_deed_by.nd rfl (by first | exact Or.inl rfl | exact Or.inr rfl) (de_mod (de_add (de_callC tk_of G__law_shown_now (by exact hr.mono (by decide)) (dl_cons (de_var (pv 0)) dl_nil)).weak (de_mod (dw_var (pv 3)) (de_add (de_mul (dw_var (pv 1)) (dw_var (pv 5))).weak de_int.weak).weak).weak).weak (dw_var (pv 7)))) (ds_cons (ds_set (i := 9) sc__law_deed_by.nd rfl (by first | exact Or.inl rfl | exact Or.inr rfl) (de_at (de_lst (dl_cons (de_var (pv 8)) (dl_cons (de_mod (dw_var (pv 3)) (dw_var (pv 7))) (dl_cons (de_var (pv 7)) (dl_cons (de_sub (dw_var (pv 7)) de_int.weak) dl_nil))))).weak (de_mod (de_div (dw_var (pv 2)) de_int.weak).weak de_int.weak).weak)) (ds_cons (ds_set (i := 10) sc__law_deed_by.nd rfl (by first | exact Or.inl rfl | exact Or.inr rfl) (de_mod (dw_var (pv 2)) de_int.weak)) (ds_cons (ds_if (dt_eq (by exact hr.units) (dw_var (pv 10)) de_int.weak) (ds_cons (ds_set (i := 11) sc__law_deed_by.nd rfl (by first | exact Or.inl rfl | exact Or.inr rfl) (de_callC tk_of G__law_size_by (by exact hr.mono (by decide)) (dl_cons (de_div (dw_var (pv 3)) de_int.weak) dl_nil))) (ds_cons (ds_ret (de_tup (dl_cons de_str (dl_cons (de_mod (de_div (dw_var (pv 2)) de_int.weak).weak de_int.weak) (dl_cons (de_var (pv 11)) (dl_cons (de_mod (de_div (dw_var (pv 3)) de_int.weak).weak (de_add (dw_var (pv 11)) (de_int1 B.int (de_eq (by exact hr.units) (de_mod (de_div (dw_var (pv 2)) de_int.weak).weak de_int.weak).weak de_int.weak).weak).weak).weak) dl_nil)))))) ds_nil)) ds_nil) (ds_cons (ds_if (dt_eq (by exact hr.units) (dw_var (pv 10)) de_int.weak) (ds_cons (ds_set (i := 11) sc__law_deed_by.nd rfl (by first | exact Or.inl rfl | exact Or.inr rfl) (de_callC tk_of G__law_size_by (by exact hr.mono (by decide)) (dl_cons (de_div (dw_var (pv 3)) de_int.weak) dl_nil))) (ds_cons (ds_ret (de_tup (dl_cons de_str (dl_cons (de_var (pv 6)) (dl_cons (de_var (pv 9)) (dl_cons (de_var (pv 11)) (dl_cons (de_mod (de_div (dw_var (pv 3)) de_int.weak).weak (de_add (dw_var (pv 11)) (de_int1 B.int (de_eq (by exact hr.units) (de_mod (de_div (dw_var (pv 2)) de_int.weak).weak de_int.weak).weak de_int.weak).weak).weak).weak) dl_nil))))))) ds_nil)) ds_nil) (ds_cons (ds_if (dt_lt (dw_var (pv 10)) de_int.weak) (ds_cons (ds_ret (de_tup (dl_cons de_str (dl_cons (de_var (pv 6)) (dl_cons (de_var (pv 9)) dl_nil))))) ds_nil) ds_nil) (ds_cons (ds_if (DP.dt (dp_and (dt_eq (by exact hr.units) (dw_var (pv 10)) de_int.weak) (dp_and1 (dt_gt (de_len B.len (dw_var (pv 0))).weak de_int.weak)))) (ds_cons (ds_ret (de_tup (dl_cons de_str (dl_cons (de_add (de_at (de_at (dw_var (pv 0)) (de_mod (dw_var (pv 3)) (de_len B.len (dw_var (pv 0))).weak).weak).weak de_int.weak).weak (de_int1 B.int (de_eq (by exact hr.units) (de_mod (de_div (dw_var (pv 2)) de_int.weak).weak de_int.weak).weak de_int.weak).weak).weak) dl_nil)))) ds_nil) ds_nil) (ds_cons (ds_if (dt_eq (by exact hr.units) (dw_var (pv 10)) de_int.weak) (ds_cons (ds_ret (de_tup (dl_cons de_str (dl_cons (de_mod (dw_var (pv 3)) de_int.weak) dl_nil)))) ds_nil) ds_nil) (ds_cons (ds_if (dt_eq (by exact hr.units) (dw_var (pv 10)) de_int.weak) (ds_cons (ds_set (i := 12) sc__law_deed_by.nd rfl (by first | exact Or.inl rfl | exact Or.inr rfl) (de_at (de_lst (dl_cons de_int (dl_cons de_int (dl_cons (de_mod (de_div (dw_var (pv 3)) de_int.weak).weak (de_add (de_pow (by decide) (by decide)).weak de_int.weak).weak) dl_nil)))).weak (de_mod (de_div (dw_var (pv 2)) de_int.weak).weak de_int.weak).weak)) (ds_cons (ds_set (i := 13) sc__law_deed_by.nd rfl (by first | exact Or.inl rfl | exact Or.inr rfl) (de_at (de_lst (dl_cons de_int (dl_cons de_int (dl_cons (de_mod (de_mul (dw_var (pv 3)) de_int.weak).weak (de_add (de_pow (by decide) (by decide)).weak de_int.weak).weak) dl_nil)))).weak (de_mod (dw_var (pv 3)) de_int.weak).weak)) (ds_cons (ds_ret (de_tup (dl_cons de_str (dl_cons (de_mod (dw_var (pv 3)) de_int.weak) (dl_cons (de_mod (de_div (dw_var (pv 3)) de_int.weak).weak de_int.weak) (dl_cons (de_var (pv 12)) (dl_cons (de_var (pv 13)) (dl_cons (de_mod (de_div (dw_var (pv 3)) de_int.weak).weak de_int.weak) dl_nil)))))))) ds_nil))) ds_nil) (ds_cons (ds_ret (de_tup (dl_cons (de_at (de_lst (dl_cons de_str (dl_cons de_str (dl_cons de_str (dl_cons de_str (dl_cons de_str dl_nil)))))).weak (de_sub (dw_var (pv 10)) de_int.weak).weak) (dl_cons (de_at (de_lst (dl_cons (de_mod (dw_var (pv 3)) de_int.weak) (dl_cons (de_add (dw_var (pv 4)) (de_mod (dw_var (pv 3)) de_int.weak).weak) dl_nil))).weak (de_mod (de_div (dw_var (pv 3)) de_int.weak).weak de_int.weak).weak) dl_nil)))) ds_nil)))))))))))))))
/-! ### _law_mixed -/
abbrev s__law_mixed : Stmt := topS 46
abbrev nm__law_mixed : List Str := ["_law_script", "_law_k", "_law_cell", "_law_number"]
theorem sc__law_mixed : FnScope nm__law_mixed ["_law_script", "_law_k"] (defScope s__law_mixed) := ⟨rfl, rfl, rfl, by decide +kernel, rfl, by decide +kernel, by decide +kernel⟩
noncomputable def r__law_mixed_3 : Rho → Out :=
  (sqf (retE (bin2 iMod (bin2 iMul (rdw 3) (rdw 3)) (fun _ => .ok (.int 2147483647)))) .nx)
noncomputable def r__law_mixed_2 : Rho → Out :=
  (sqf (setE 3 (bin2 iMod (bin2 iMul (bin2 pAdd (rdw 2) (bin2 iMul (fun _ => .ok (.int 7919)) (rdw 1))) (fun _ => .ok (.int 48271))) (fun _ => .ok (.int 2147483647)))) r__law_mixed_3)
noncomputable def r__law_mixed_1 : Rho → Out :=
  (sqf (sIf (thn1 (bin2 (iCmp fun i j => decide (j < i)) (then1 (rdw 0) bLen) (fun _ => .ok (.int 0))) asB) (sqf (setE 2 (bin2 qIx (rdw 0) (bin2 iMod (rdw 1) (then1 (rdw 0) bLen)))) .nx) .nx) r__law_mixed_2)
noncomputable def b__law_mixed : Rho → Out :=
  (sqf (setE 2 (fun _ => .ok (.int 0))) r__law_mixed_1)
noncomputable def f__law_mixed : List D → Out := fnD b__law_mixed 4
theorem fo__law_mixed {cs : Nat → Addr} {f : Addr} {fd : FuncData} (F : Fun K "_law_mixed" "_law_mixed" s__law_mixed f fd) (B : Bi mg) :
    FnOk P w K mg base (L2.CX P w) 1 f fd ["_law_script", "_law_k"] (spD cs K 2 f__law_mixed) := by
  refine def_ok (K := K) F sc__law_mixed (fun cdv A outer s H E hr => ?_)
  exact (ds_cons (ds_set (i := 2) sc__law_mixed.nd rfl (by first | exact Or.inl rfl | exact Or.inr rfl) de_int) (ds_cons (ds_if (dt_gt (de_len B.len (dw_var (pv 0))).weak de_int.weak) (ds_cons (ds_set (i := 2) sc__law_mixed.nd rfl (by first | exact Or.inl rfl | exact Or.inr rfl) (de_at (dw_var (pv 0)) (de_mod (dw_var (pv 1)) (de_len B.len (dw_var (pv 0))).weak).weak)) ds_nil) ds_nil) (ds_cons (ds_set (i := 3) sc__law_mixed.nd rfl (by first | exact Or.inl rfl | exact Or.inr rfl) (de_mod (de_mul (de_add (dw_var (pv 2)) (de_mul de_int.weak (dw_var (pv 1))).weak).weak de_int.weak).weak de_int.weak)) (ds_cons (ds_ret (de_mod (de_mul (dw_var (pv 3)) (dw_var (pv 3))).weak de_int.weak)) ds_nil))))
/-! ### law -/
abbrev s_law : Stmt := topS 60
abbrev nm_law : List Str := ["_law_script", "_law_most", "_law_s", "_law_deeds", "_law_due", "_law_k", "_law_cell", "_law_number", "_law_more", "_law_handed", "_law_found", "_law_one", "_law_other", "_law_entry"]
theorem sc_law : FnScope nm_law ["_law_script"] (defScope s_law) := ⟨rfl, rfl, rfl, by decide +kernel, rfl, by decide +kernel, by decide +kernel⟩
noncomputable def lb_law_1 : Rho → Out :=
  (sqf (setE 7 (bin2 iMod (bin2 iMul (bin2 pAdd (rdw 6) (bin2 iMul (fun _ => .ok (.int 7919)) (rdw 5))) (fun _ => .ok (.int 48271))) (fun _ => .ok (.int 2147483647)))) (sqf (setE 8 (bin2 iMod (bin2 iMul (bin2 pAdd (rdw 6) (bin2 iMul (fun _ => .ok (.int 104729)) (rdw 5))) (fun _ => .ok (.int 69621))) (fun _ => .ok (.int 2147483629)))) (sqf (setE 7 (bin2 iMod (bin2 iMul (rdw 7) (rdw 7)) (fun _ => .ok (.int 2147483647)))) (sqf (apndE 3 (callE (consA (staH 2) (consA (rd 1) (consA (rd 7) (consA (bin2 iMod (bin2 iMul (rdw 8) (rdw 8)) (fun _ => .ok (.int 2147483629))) (fun _ => .ok []))))) f__law_deed_by)) (sqf (appS 4 2 (consA (rd 1) (consA (bin2 qIx (rdw 3) (then1 (fun _ => .ok (.int 1)) negI)) (fun _ => .ok []))) f__law_answer) .nx)))))
noncomputable def lb_law_2 : Rho → Out :=
  (sqf (sIf (orT (thn1 (isiE (fun t => t == "bool") (rdw 11)) tru) (orT (thn1 (bin2 qNe (isiE (fun t => t == "str") (rdw 11)) (isiE (fun t => t == "str") (rdw 12))) asB) (thn1 (bin2 qNe (rdw 11) (rdw 12)) asB))) (sqf (retE (fun _ => .ok (.bool false))) .nx) .nx) .nx)
noncomputable def lb_law_3 : Rho → Out :=
  (sqf (sIf (andT (thn1 (bin2 qEq (bin2 qIx (rdw 13) (fun _ => .ok (.int 0))) (fun _ => .ok (.str (PySem.Str.ofString "read")))) asB) (notT (thn1 (isiE (fun t => t == "bool") (bin2 qIx (rdw 13) (fun _ => .ok (.int 3)))) tru))) (sqf (retE (fun _ => .ok (.bool false))) .nx) .nx) .nx)
noncomputable def r_law_12 : Rho → Out :=
  (sqf (retE (bin2 qEq (bin2 qIx (rdw 10) (fun _ => .ok (.int 1))) (tupA (consA (staH 2) (consA (then1 (then1 (staT 2) bSortT) bTuple) (consA (then1 (staB 2) bTuple) (fun _ => .ok []))))))) .nx)
noncomputable def r_law_11 : Rho → Out :=
  (sqf (forE (asS (bin2 qIx (bin2 qIx (rdw 10) (fun _ => .ok (.int 1))) (fun _ => .ok (.int 0)))) (aName 13) lb_law_3) r_law_12)
noncomputable def r_law_10 : Rho → Out :=
  (frz 4 (sqf (forE (zpE (bin2 qIx (rdw 10) (fun _ => .ok (.int 0))) (rd 4)) (aTup [11, 12]) lb_law_2) r_law_11))
noncomputable def r_law_9 : Rho → Out :=
  (sqf (sIf (thn1 (bin2 qNe (then1 (bin2 qIx (rdw 10) (fun _ => .ok (.int 0))) bLen) (then1 (rdw 4) bLen)) asB) (sqf (retE (fun _ => .ok (.bool false))) .nx) .nx) r_law_10)
noncomputable def r_law_8 : Rho → Out :=
  (sqf (sIf (orT (thn1 (bin2 qNe (rdw 9) (rdw 3)) asB) (orT (notT (thn1 (isiE (fun t => t == "tuple") (rdw 10)) tru)) (orT (thn1 (bin2 qNe (then1 (rdw 10) bLen) (fun _ => .ok (.int 2))) asB) (notT (thn1 (isiE (fun t => t == "list") (bin2 qIx (rdw 10) (fun _ => .ok (.int 0)))) tru))))) (sqf (retE (fun _ => .ok (.bool false))) .nx) .nx) r_law_9)
noncomputable def r_law_7 : Rho → Out :=
  (sqf (setE 10 (callE (consA (rd 1) (consA (rd 9) (fun _ => .ok []))) f_play)) r_law_8)
noncomputable def r_law_6 : Rho → Out :=
  (sqf (setE 9 (then1 (rdw 3) bList)) r_law_7)
noncomputable def r_law_5 : Rho → Out :=
  (sqf (forE (enL (cut3 (rdw 0) (optI (fun _ => .ok (.int 3))) (optI (fun _ => .ok (.int 43))))) (aTup [5, 6]) lb_law_1) r_law_6)
noncomputable def r_law_4 : Rho → Out :=
  (sqf (sIf (thn1 (bin2 (iCmp fun i j => decide (j < i)) (bin2 iMod (callE (consA (rd 0) (consA (fun _ => .ok (.int 1)) (fun _ => .ok []))) f__law_cell_at) (fun _ => .ok (.int 3))) (fun _ => .ok (.int 0))) asB) (sqf (apndE 3 (tupA (consA (fun _ => .ok (.str (PySem.Str.ofString "start"))) (consA (fun _ => .ok (.int 2)) (consA (callE (consA (callE (consA (rd 0) (consA (fun _ => .ok (.int 2)) (fun _ => .ok []))) f__law_mixed) (fun _ => .ok [])) f__law_size_by) (consA (fun _ => .ok (.int 1)) (fun _ => .ok []))))))) (sqf (appS 4 2 (consA (rd 1) (consA (bin2 qIx (rdw 3) (then1 (fun _ => .ok (.int 1)) negI)) (fun _ => .ok []))) f__law_answer) .nx)) .nx) r_law_5)
noncomputable def r_law_3 : Rho → Out :=
  (sqf (lThen (fun _ => .ok []) fun ds r => .nx (r.set 4 (.own ds))) r_law_4)
noncomputable def r_law_2 : Rho → Out :=
  (sqf (lThen (fun _ => .ok []) fun ds r => .nx (r.set 3 (.own ds))) r_law_3)
noncomputable def r_law_1 : Rho → Out :=
  (newS 2 r_law_2)
noncomputable def b_law : Rho → Out :=
  (sqf (setE 1 (callE (consA (callE (consA (rd 0) (consA (fun _ => .ok (.int 0)) (fun _ => .ok []))) f__law_cell_at) (fun _ => .ok [])) f__law_most_by)) r_law_1)
noncomputable def f_law : List D → Out := fnD b_law 14
theorem fo_law {cs : Nat → Addr} {f : Addr} {fd : FuncData} (F : Fun K "law" "law" s_law f fd) (B : Bi mg) (T : Txt K mg cs) (G__law_most_by : Cal cs P w K mg base 1 1 "_law_most_by" f__law_most_by) (G_play : Cal cs P w K mg base 11 2 "play" f_play) (G__law_cell_at : Cal cs P w K mg base 1 2 "_law_cell_at" f__law_cell_at) (G__law_answer : CalS P w K mg base 4 3 "_law_answer" f__law_answer) (G__law_deed_by : Cal cs P w K mg base 2 4 "_law_deed_by" f__law_deed_by) (G__law_size_by : Cal cs P w K mg base 1 1 "_law_size_by" f__law_size_by) (G__law_mixed : Cal cs P w K mg base 1 2 "_law_mixed" f__law_mixed) :
    FnOk P w K mg base (L2.CX P w) 12 f fd ["_law_script"] (spD cs K 1 f_law) := by
  refine def_ok (K := K) F sc_law (fun cdv A outer s H E hr => ?_)
  exact (ds_cons (ds_set (i := 1) sc_law.nd rfl (by first | exact Or.inl rfl | exact Or.inr rfl) (de_callC tk_of G__law_most_by (by exact hr.mono (by decide)) (dl_cons (de_callC tk_of G__law_cell_at (by exact hr.mono (by decide)) (dl_cons (de_var (pv 0)) (dl_cons de_int dl_nil))) dl_nil))) (ds_newS (i := 2) sc_law.nd rfl (by first | exact Or.inl rfl | exact Or.inr rfl) (ds_cons (ds_own (i := 3) sc_law.nd rfl (by first | exact Or.inl rfl | exact Or.inr rfl) dl_nil) (ds_cons (ds_own (i := 4) sc_law.nd rfl (by first | exact Or.inl rfl | exact Or.inr rfl) dl_nil) (ds_cons (ds_if (dt_gt (de_mod (de_callC tk_of G__law_cell_at (by exact hr.mono (by decide)) (dl_cons (de_var (pv 0)) (dl_cons de_int dl_nil))).weak de_int.weak).weak de_int.weak) (ds_cons (ds_append (pv 3) (de_tup (dl_cons de_str (dl_cons de_int (dl_cons (de_callC tk_of G__law_size_by (by exact hr.mono (by decide)) (dl_cons (de_callC tk_of G__law_mixed (by exact hr.mono (by decide)) (dl_cons (de_var (pv 0)) (dl_cons de_int dl_nil))) dl_nil)) (dl_cons de_int dl_nil)))))) (ds_cons (ds_appS (by decide) tk_of G__law_answer (by exact hr.mono (by decide)) (pv 4) (pv 2) (dl_cons (de_var (pv 1)) (dl_cons (de_at (dw_var (pv 3)) (de_neg de_int.weak).weak) dl_nil))) ds_nil)) ds_nil) (ds_cons (ds_for po_of rfl (di_enumL B.enumerate (de_slice (dw_var (pv 0)) (do_some de_int.weak) (do_some de_int.weak))) (dg_tup rfl (.cons (pg_name (i := 5) sc_law.nd rfl (by first | exact Or.inl rfl | exact Or.inr rfl)) rfl (.cons (pg_name (i := 6) sc_law.nd rfl (by first | exact Or.inl rfl | exact Or.inr rfl)) rfl Names.nil))) (ds_cons (ds_set (i := 7) sc_law.nd rfl (by first | exact Or.inl rfl | exact Or.inr rfl) (de_mod (de_mul (de_add (dw_var (pv 6)) (de_mul de_int.weak (dw_var (pv 5))).weak).weak de_int.weak).weak de_int.weak)) (ds_cons (ds_set (i := 8) sc_law.nd rfl (by first | exact Or.inl rfl | exact Or.inr rfl) (de_mod (de_mul (de_add (dw_var (pv 6)) (de_mul de_int.weak (dw_var (pv 5))).weak).weak de_int.weak).weak de_int.weak)) (ds_cons (ds_set (i := 7) sc_law.nd rfl (by first | exact Or.inl rfl | exact Or.inr rfl) (de_mod (de_mul (dw_var (pv 7)) (dw_var (pv 7))).weak de_int.weak)) (ds_cons (ds_append (pv 3) (de_callC tk_of G__law_deed_by (by exact hr.mono (by decide)) (dl_cons (de_sh (by exact units1 hr.units) (pv 2)) (dl_cons (de_var (pv 1)) (dl_cons (de_var (pv 7)) (dl_cons (de_mod (de_mul (dw_var (pv 8)) (dw_var (pv 8))).weak de_int.weak) dl_nil)))))) (ds_cons (ds_appS (by decide) tk_of G__law_answer (by exact hr.mono (by decide)) (pv 4) (pv 2) (dl_cons (de_var (pv 1)) (dl_cons (de_at (dw_var (pv 3)) (de_neg de_int.weak).weak) dl_nil))) ds_nil)))))) (ds_cons (ds_set (i := 9) sc_law.nd rfl (by first | exact Or.inl rfl | exact Or.inr rfl) (de_list B.list (dw_var (pv 3)))) (ds_cons (ds_set (i := 10) sc_law.nd rfl (by first | exact Or.inl rfl | exact Or.inr rfl) (de_callC tk_of G_play (by exact hr.mono (by decide)) (dl_cons (de_var (pv 1)) (dl_cons (de_var (pv 9)) dl_nil)))) (ds_cons (ds_if (DP.dt (dp_or (dt_ne (by exact hr.units) (dw_var (pv 9)) (dw_var (pv 3))) (dp_or (dt_not (dt_tru (de_isi isi_tuple B.isinstance B.tuple PyProof.Rows.boot_tuple (dw_var (pv 10))).weak)) (dp_or (dt_ne (by exact hr.units) (de_len B.len (dw_var (pv 10))).weak de_int.weak) (dp_or1 (dt_not (dt_tru (de_isi isi_list B.isinstance B.list PyProof.Rows.boot_list (de_at (dw_var (pv 10)) de_int.weak).weak).weak))))))) (ds_cons (ds_ret de_bl) ds_nil) ds_nil) (ds_cons (ds_if (dt_ne (by exact hr.units) (de_len B.len (de_at (dw_var (pv 10)) de_int.weak).weak).weak (de_len B.len (dw_var (pv 4))).weak) (ds_cons (ds_ret de_bl) ds_nil) ds_nil) (ds_frz 4 (ds_cons (ds_for po_of rfl (di_zip B.zip (de_at (dw_var (pv 10)) de_int.weak) (de_var (pv 4))) (dg_tup rfl (.cons (pg_name (i := 11) sc_law.nd rfl (by first | exact Or.inl rfl | exact Or.inr rfl)) rfl (.cons (pg_name (i := 12) sc_law.nd rfl (by first | exact Or.inl rfl | exact Or.inr rfl)) rfl Names.nil))) (ds_cons (ds_if (DP.dt (dp_or (dt_tru (de_isi isi_bool B.isinstance B.bool PyProof.Rows.boot_bool (dw_var (pv 11))).weak) (dp_or (dt_ne (by exact hr.units) (de_isi isi_str B.isinstance B.str PyProof.Rows.boot_str (dw_var (pv 11))).weak (de_isi isi_str B.isinstance B.str PyProof.Rows.boot_str (dw_var (pv 12))).weak) (dp_or1 (dt_ne (by exact hr.units) (dw_var (pv 11)) (dw_var (pv 12))))))) (ds_cons (ds_ret de_bl) ds_nil) ds_nil) ds_nil)) (ds_cons (ds_for po_of rfl (di_seq (de_at (de_at (dw_var (pv 10)) de_int.weak).weak de_int.weak)) (dg_name (i := 13) sc_law.nd rfl (by first | exact Or.inl rfl | exact Or.inr rfl)) (ds_cons (ds_if (DP.dt (dp_and (dt_eq (by exact hr.units) (de_at (dw_var (pv 13)) de_int.weak).weak de_str.weak) (dp_and1 (dt_not (dt_tru (de_isi isi_bool B.isinstance B.bool PyProof.Rows.boot_bool (de_at (dw_var (pv 13)) de_int.weak).weak).weak))))) (ds_cons (ds_ret de_bl) ds_nil) ds_nil) ds_nil)) (ds_cons (ds_ret (de_eq (by exact hr.units) (de_at (dw_var (pv 10)) de_int.weak).weak (de_tup (dl_cons (de_sh (by exact units1 hr.units) (pv 2)) (dl_cons (de_tuple B.tuple (de_sortT (by exact hr.units) B.sorted (dw_st (by exact units1 hr.units) (pv 2))).weak) (dl_cons (de_tuple B.tuple (dw_sb (by exact units1 hr.units) (pv 2))) dl_nil)))).weak)) ds_nil))))))))))))))
end
end K11
namespace K11
open PySem PySem.Spec PyProof.Rows L2 PD
abbrev script (ns : List Int) : D := .list (ns.map PyData.int)
def cell (ns : List Int) (k : Nat) : Int := ns.getD k 0
theorem cell_run (ns : List Int) (k : Nat) : f__law_cell_at [script ns, .int k] = .rt (.int (cell ns k)) := by
  by_cases h : k < ns.length
  · have e : atI (ns.map PyData.int) (k : Int) = some (.int (cell ns k)) := atI_nat (by simp [cell, h])
    simp [f__law_cell_at, b__law_cell_at, fnD, sqf, sIf, PD.tThen, thn1, bin2, rdw, iCmp, then1, bLen, asB, retE, vThen, h, qIx, items, e]
  · simp [f__law_cell_at, b__law_cell_at, fnD, sqf, sIf, PD.tThen, thn1, bin2, rdw, iCmp, then1, bLen, asB, retE, vThen, h, cell]
theorem iMul_lit_r (i : Int) : iMul (.int i) (.int 48271) = .ok (.int (i * 48271)) := iMul_r (by decide)
def drawn (ns : List Int) (k : Nat) : Int := if ns.length = 0 then 0 else ns.getD (k % ns.length) 0
def mixed (ns : List Int) (k : Nat) : Int :=
  let n := (drawn ns k + 7919 * k) * 48271 % 2147483647
  n * n % 2147483647
theorem mixed_run (ns : List Int) (k : Nat) : f__law_mixed [script ns, .int k] = .rt (.int (mixed ns k)) := by
  have m1 : iMul (.int 7919) (.int (k : Int)) = .ok (.int (7919 * k)) := iMul_l (by decide)
  have m3 : ∀ x : Int, iMul (.int (x % 2147483647)) (.int (x % 2147483647)) = .ok (.int (x % 2147483647 * (x % 2147483647))) := fun x => iMul_l (by omega)
  by_cases h : ns = []
  · subst h
    simp [f__law_mixed, b__law_mixed, r__law_mixed_1, r__law_mixed_2, r__law_mixed_3, fnD, sqf, sIf, PD.tThen, thn1, bin2, rdw, iCmp, then1, bLen, asB, retE, setE, vThen, pAdd, m1, m3, iMul_lit_r, iMod, mixed, drawn]
  · have hl : 0 < ns.length := List.length_pos_iff.mpr h
    have e : atI (ns.map PyData.int) ((k : Int) % (ns.length : Int)) = some (.int (drawn ns k)) := by
      have z : (k : Int) % (ns.length : Int) = ((k % ns.length : Nat) : Int) := by simp
      rw [z]
      refine atI_nat ?_
      have hk : k % ns.length < ns.length := Nat.mod_lt _ hl
      have h0 : ns.length ≠ 0 := by omega
      simp [drawn, hk, h]
    simp [f__law_mixed, b__law_mixed, r__law_mixed_1, r__law_mixed_2, r__law_mixed_3, fnD, sqf, sIf, PD.tThen, thn1, bin2, rdw, iCmp, then1, bLen, asB, retE, setE, vThen, pAdd, m1, m3, iMul_lit_r, iMod, mixed, hl, qIx, items, e]
theorem mixed_range (ns : List Int) (k : Nat) : 0 ≤ mixed ns k ∧ mixed ns k < 2147483647 := by
  unfold mixed
  simp only
  omega
def sizeBy (n : Int) : Int := if n % 4 = 3 then 2 + n * n % (1000000000000 - 1) else ([2, 10, 100, 1000, 100000, 1000000000000, 7, 60] : List Int).getD (n / 4 % 8).toNat 0
theorem size_run {n : Int} (h : 0 ≤ n ∧ n < 2147483647) : f__law_size_by [.int n] = .rt (.int (sizeBy n)) := by
  have m : iMul (.int n) (.int n) = .ok (.int (n * n)) := iMul_l (by omega)
  have d4 : iDiv (.int n) (.int 4) = .ok (.int (n / 4)) := iDiv_lit (by decide)
  have e : atI [PyData.int 2, .int 10, .int 100, .int 1000, .int 100000, .int 1000000000000, .int 7, .int 60] (n / 4 % 8) = some (.int (([2, 10, 100, 1000, 100000, 1000000000000, 7, 60] : List Int).getD (n / 4 % 8).toNat 0)) := by
    have hj : (n / 4 % 8).toNat < 8 := by omega
    have ej : n / 4 % 8 = (((n / 4 % 8).toNat : Nat) : Int) := by omega
    generalize (n / 4 % 8).toNat = j at hj ej
    rw [ej]
    refine atI_nat ?_
    match j, hj with
    | 0, _ => rfl
    | 1, _ => rfl
    | 2, _ => rfl
    | 3, _ => rfl
    | 4, _ => rfl
    | 5, _ => rfl
    | 6, _ => rfl
    | 7, _ => rfl
  by_cases h3 : n % 4 = 3
  · simp [f__law_size_by, b__law_size_by, fnD, sqf, sIf, PD.tThen, thn1, bin2, rdw, asB, retE, vThen, pAdd, m, iMod, iSub, h3, sizeBy]
  · simp [f__law_size_by, b__law_size_by, fnD, sqf, sIf, PD.tThen, thn1, bin2, rdw, asB, retE, vThen, iMod, h3, sizeBy, d4, qIx, items, e, lstA, consA]
theorem size_range {n : Int} (h : 0 ≤ n ∧ n < 2147483647) : 2 ≤ sizeBy n ∧ sizeBy n ≤ 1000000000000 := by
  unfold sizeBy
  by_cases h3 : n % 4 = 3
  · rw [if_pos h3]
    generalize n * n = z
    omega
  · rw [if_neg h3]
    have hj : (n / 4 % 8).toNat < 8 := by omega
    generalize (n / 4 % 8).toNat = j at hj
    match j, hj with
    | 0, _ => decide
    | 1, _ => decide
    | 2, _ => decide
    | 3, _ => decide
    | 4, _ => decide
    | 5, _ => decide
    | 6, _ => decide
    | 7, _ => decide
def mostBy (c : Int) : Int := if c % 8 = 7 then c / 8 % (1000000000000 + 1) else ([0, 1, 3, 10, 40, 1000000000000, 100] : List Int).getD (c % 8).toNat 0
theorem most_run (c : Int) : f__law_most_by [.int c] = .rt (.int (mostBy c)) := by
  have d8 : iDiv (.int c) (.int 8) = .ok (.int (c / 8)) := iDiv_lit (by decide)
  by_cases h : c % 8 = 7
  · simp [f__law_most_by, b__law_most_by, fnD, sqf, sIf, PD.tThen, thn1, bin2, rdw, asB, retE, vThen, pAdd, iMod, h, d8, mostBy]
  · have e : atI [PyData.int 0, .int 1, .int 3, .int 10, .int 40, .int 1000000000000, .int 100] (c % 8) = some (.int (([0, 1, 3, 10, 40, 1000000000000, 100] : List Int).getD (c % 8).toNat 0)) := by
      have hj : (c % 8).toNat < 7 := by omega
      have ej : c % 8 = (((c % 8).toNat : Nat) : Int) := by omega
      generalize (c % 8).toNat = j at hj ej
      rw [ej]
      refine atI_nat ?_
      match j, hj with
      | 0, _ => rfl
      | 1, _ => rfl
      | 2, _ => rfl
      | 3, _ => rfl
      | 4, _ => rfl
      | 5, _ => rfl
      | 6, _ => rfl
    simp [f__law_most_by, b__law_most_by, fnD, sqf, sIf, PD.tThen, thn1, bin2, rdw, asB, retE, vThen, iMod, h, mostBy, qIx, items, e, lstA, consA]
theorem most_range (c : Int) : 0 ≤ mostBy c ∧ mostBy c ≤ 1000000000000 := by
  unfold mostBy
  by_cases h : c % 8 = 7
  · rw [if_pos h]
    omega
  · rw [if_neg h]
    have hj : (c % 8).toNat < 7 := by omega
    generalize (c % 8).toNat = j at hj
    match j, hj with
    | 0, _ => decide
    | 1, _ => decide
    | 2, _ => decide
    | 3, _ => decide
    | 4, _ => decide
    | 5, _ => decide
    | 6, _ => decide
theorem use_run {t : St3} {e : Ent} (h : 0 < t.2.1) : f_use_since [std t, e.dat] = .rt (.int (e.use t)) := by
  have a1 := std_1 t
  have a2 := std_2 t
  have b2 := e.at2
  generalize std t = T at *
  generalize e.dat = E at *
  simp [f_use_since, b_use_since, f_gone, b_gone, fnD, sqf, retE, vThen, callE, consA, bin2, rdw, a1, a2, b2, outR, iSub, iMod, h, Ent.use]
theorem counting_first {d s v : Int} {m : D} : f_is_counting [.none, (Ent.start d s v).dat, m] = .rt (.bool true) := by
  have a0 := (Ent.start d s v).at0
  have q : qNe (.str sStart) (.str sRead) = .ok (.bool true) := by rw [qNe_str ok_start ok_read, ne_sr]; rfl
  generalize (Ent.start d s v).dat = E at *
  simp [f_is_counting, b_is_counting, fnD, sqf, sIf, PD.tThen, thn1, bin2, rdw, a0, Ent.name, q, asB, retE, vThen]
theorem counting_run {t : St3} {e : Ent} {m : Int} (h : 0 < t.2.1) (hm : 0 ≤ m ∧ m ≤ 1000000000000) (hl : e.later) : f_is_counting [std t, e.dat, .int m] = .rt (.bool (e.cnt m t)) := by
  have a0 := e.at0
  cases e with
  | start => exact hl.elim
  | change d v s w =>
    have q : qNe (.str sChange) (.str sRead) = .ok (.bool true) := by rw [qNe_str ok_change ok_read, ne_cr]; rfl
    generalize hE : (Ent.change d v s w).dat = E at *
    simp [f_is_counting, b_is_counting, fnD, sqf, sIf, PD.tThen, thn1, bin2, rdw, a0, Ent.name, q, asB, retE, vThen, cnt_change]
  | read d v x =>
    have q : qNe (.str sRead) (.str sRead) = .ok (.bool false) := by rw [qNe_str ok_read ok_read]; simp
    have a3 : qIx (Ent.read d v x).dat (.int 3) = .ok (.bool x) := by simp [Ent.dat, qIx, items]
    have u := use_run (e := .read d v x) h
    have a1 := (Ent.read d v x).at1
    have s0 := std_0 t
    have mm : iMul (.int m) (.int (d - t.1)) = .ok (.int (m * (d - t.1))) := iMul_l (by omega)
    simp only [Ent.day] at a1
    generalize hE : (Ent.read d v x).dat = E at *
    generalize std t = T at *
    cases x with
    | true => simp [f_is_counting, b_is_counting, fnD, sqf, sIf, PD.tThen, thn1, bin2, rdw, a0, Ent.name, q, asB, retE, vThen, cnt_read, a3, tru]
    | false => simp [f_is_counting, b_is_counting, fnD, sqf, sIf, PD.tThen, thn1, bin2, rd, rdw, a0, Ent.name, q, asB, retE, vThen, cnt_read, a3, tru, callE, consA, u, outR, a1, s0, iSub, mm, iCmp]
theorem behind_first {d s v : Int} : f_standing_behind [.none, (Ent.start d s v).dat] = .rt (std (d, s, v)) := by
  simp [f_standing_behind, b_standing_behind, mc1_standing_behind_0, fnD, sqf, sMatch, vThen, rd, mCases, mtD, Ent.dat, setsD, retE, tupA, consA, std]
theorem behind_run {t : St3} {e : Ent} (hl : e.later) : f_standing_behind [std t, e.dat] = .rt (std (e.beh t)) := by
  have s1 := std_1 t
  cases e with
  | start => exact hl.elim
  | change d v s w =>
    have n1 : ¬ sChange = sStart := by decide +kernel
    generalize std t = T at *
    simp [f_standing_behind, b_standing_behind, mc1_standing_behind_1, fnD, sqf, sMatch, vThen, rd, mCases, mtD, Ent.dat, setsD, retE, tupA, consA, std, n1, Ent.beh, Ent.day, Ent.size, Ent.shown]
  | read d v x =>
    have n1 : ¬ sRead = sStart := by decide +kernel
    have n2 : ¬ sRead = sChange := by decide +kernel
    generalize std t = T at *
    simp [f_standing_behind, b_standing_behind, mc1_standing_behind_2, fnD, sqf, sMatch, vThen, rd, rdw, bin2, mCases, mtD, Ent.dat, setsD, retE, tupA, consA, std, n1, n2, s1, Ent.beh, Ent.day, Ent.size, Ent.shown]
theorem points_loop {A : D} {m : Int} (hm : 0 ≤ m ∧ m ≤ 1000000000000) : ∀ (es : List Ent) (k : Nat) (t : St3) (acc : List D) (x4 x5 : Sl), Rest t es → acc.length + es.length < 10000 →
    ∃ x4' x5', forD (aTup [4, 5]) lb_points_1 (enumK k (datL es)) [.val A, .val (.int m), .own acc, .val (std t), x4, x5] =
      .nx [.val A, .val (.int m), .own (acc ++ natD (plc m k t es)), .val (std (endS m t es)), x4', x5']
  | [], k, t, acc, x4, x5, _, _ => ⟨x4, x5, by simp [datL, enumK, forD_nil, plc, endS, natD]⟩
  | e :: es, k, t, acc, x4, x5, r, hl => by
    have hf := r.fit e List.mem_cons_self
    have c := counting_run (m := m) r.pos.1 hm hf
    have b := behind_run (t := t) hf
    have hl' : acc.length < 16777216 := by simp at hl; omega
    cases hc : e.cnt m t with
    | true =>
      obtain ⟨y4, y5, q⟩ := points_loop hm es (k + 1) (e.beh t) (acc ++ [.int (k : Nat)]) (.val (.int (k : Nat))) (.val e.dat) r.next (by simp at hl ⊢; omega)
      refine ⟨y4, y5, ?_⟩
      rw [hc] at c
      show forD (aTup [4, 5]) lb_points_1 (.tuple [.int (k : Nat), e.dat] :: enumK (k + 1) (datL es)) _ = _
      refine (forD_nx (ps := [(4, .int (k : Nat)), (5, e.dat)]) (r2 := [.val A, .val (.int m), .own (acc ++ [.int (k : Nat)]), .val (std (e.beh t)), .val (.int (k : Nat)), .val e.dat]) rfl ?_).trans (q.trans ?_)
      · generalize e.dat = E at *
        generalize ((k : Nat) : Int) = z at *
        generalize std (e.beh t) = T2 at *
        generalize std t = T at *
        simp [setsD, lb_points_1, sqf, sIf, PD.tThen, thn1, callE, consA, rd, c, outR, tru, apndE, apnd, vThen, hl', setE, b]
      · simp [plc, hc, natD, endS]
    | false =>
      obtain ⟨y4, y5, q⟩ := points_loop hm es (k + 1) t acc (.val (.int (k : Nat))) (.val e.dat) r.skip (by simp at hl ⊢; omega)
      refine ⟨y4, y5, ?_⟩
      rw [hc] at c
      show forD (aTup [4, 5]) lb_points_1 (.tuple [.int (k : Nat), e.dat] :: enumK (k + 1) (datL es)) _ = _
      refine (forD_nx (ps := [(4, .int (k : Nat)), (5, e.dat)]) (r2 := [.val A, .val (.int m), .own acc, .val (std t), .val (.int (k : Nat)), .val e.dat]) rfl ?_).trans (q.trans ?_)
      · generalize e.dat = E at *
        generalize ((k : Nat) : Int) = z at *
        generalize std t = T at *
        simp [setsD, lb_points_1, sqf, sIf, PD.tThen, thn1, callE, consA, rd, c, outR, tru]
      · simp [plc, hc, endS]
theorem points_run {d z w m : Int} {es : List Ent} (hm : 0 ≤ m ∧ m ≤ 1000000000000) (r : Rest (d, z, w) es) (hl : es.length < 9000) :
    f_points [hist (.start d z w :: es), .int m] = .rt (.list (natD (0 :: plc m 1 (d, z, w) es))) := by
  obtain ⟨y4, y5, q⟩ := points_loop (A := hist (.start d z w :: es)) hm es 1 (d, z, w) [.int (0 : Nat)] (.val (.int (0 : Nat))) (.val (Ent.start d z w).dat) r (by simp; omega)
  have c := counting_first (d := d) (s := z) (v := w) (m := .int m)
  have b := behind_first (d := d) (s := z) (v := w)
  have step : ∀ A, forD (aTup [4, 5]) lb_points_1 (enumD (datL (.start d z w :: es))) [.val A, .val (.int m), .own [], .val .none, .no, .no] =
      forD (aTup [4, 5]) lb_points_1 (enumK 1 (datL es)) [.val A, .val (.int m), .own [.int (0 : Nat)], .val (std (d, z, w)), .val (.int (0 : Nat)), .val (Ent.start d z w).dat] := fun A => by
    rw [enumD_K]
    show forD (aTup [4, 5]) lb_points_1 (.tuple [.int (0 : Nat), (Ent.start d z w).dat] :: enumK 1 (datL es)) _ = _
    refine forD_nx (ps := [(4, .int (0 : Nat)), (5, (Ent.start d z w).dat)]) rfl ?_
    generalize (Ent.start d z w).dat = E at *
    generalize std (d, z, w) = T at *
    simp [setsD, lb_points_1, sqf, sIf, PD.tThen, thn1, callE, consA, rd, c, outR, tru, apndE, apnd, vThen, setE, b]
  have all := (step (hist (.start d z w :: es))).trans q
  clear step q c b
  have e0 : [PyData.int (0 : Nat)] ++ natD (plc m 1 (d, z, w) es) = natD (0 :: plc m 1 (d, z, w) es) := rfl
  rw [e0] at all
  generalize natD (0 :: plc m 1 (d, z, w) es) = B at *
  show f_points [.tuple (datL (.start d z w :: es)), .int m] = _
  change forD (aTup [4, 5]) lb_points_1 (enumD (datL (.start d z w :: es))) [.val (.tuple (datL (.start d z w :: es))), .val (.int m), .own [], .val .none, .no, .no] = _ at all
  generalize datL (.start d z w :: es) = Z at *
  simp [f_points, b_points, r_points_1, r_points_2, r_points_3, fnD, sqf, lThen, setE, vThen, forE, enS, rd, all, frz, retE]
theorem points_nil {m : D} : f_points [hist [], m] = .rt (.list (natD [])) := by
  simp [f_points, b_points, r_points_1, r_points_2, r_points_3, fnD, sqf, lThen, setE, vThen, forE, enS, rd, datL, enumD, forD_nil, frz, retE, natD]
theorem spans_loop {full : List Ent} {m : Int} : ∀ (es pre : List Ent) (t : St3) (acc : List D) (x4 x5 : Sl), full = pre ++ es → Rest t es → acc.length + es.length < 10000 →
    ∃ x4' x5', forD (aName 4) lb_spans_1 (natD (plc m pre.length t es)) [.val (hist full), .val (.int m), .own acc, .val (std t), x4, x5] =
      .nx [.val (hist full), .val (.int m), .own (acc ++ gapD (gap m t es)), .val (std (endS m t es)), x4', x5']
  | [], pre, t, acc, x4, x5, _, _, _ => ⟨x4, x5, by simp [forD_nil, plc, gap, endS, natD, gapD]⟩
  | e :: es, pre, t, acc, x4, x5, hf, r, hl => by
    have hfit := r.fit e List.mem_cons_self
    have u := use_run (e := e) r.pos.1
    have b := behind_run (t := t) hfit
    have hl' : acc.length < 16777216 := by simp at hl; omega
    cases hc : e.cnt m t with
    | true =>
      obtain ⟨y4, y5, q⟩ := spans_loop (full := full) (m := m) es (pre ++ [e]) (e.beh t) (acc ++ [std (t.1, e.day, e.use t)]) (.val (.int (pre.length : Nat))) (.val e.dat) (by rw [hf]; simp) r.next (by simp at hl ⊢; omega)
      refine ⟨y4, y5, ?_⟩
      have ix : qIx (hist full) (.int ((pre.length : Nat) : Int)) = .ok e.dat := qIx_at rfl (by rw [atI_cast, datL_get, hf]; simp)
      have a1 := e.at1
      have s0 := std_0 t
      rw [plc, if_pos hc, gap, if_pos hc, endS, if_pos hc]
      rw [List.length_append] at q
      refine (forD_nx (ps := [(4, .int (pre.length : Nat))]) (r2 := [.val (hist full), .val (.int m), .own (acc ++ [std (t.1, e.day, e.use t)]), .val (std (e.beh t)), .val (.int (pre.length : Nat)), .val e.dat]) rfl ?_).trans (q.trans ?_)
      · have n0 := isN_std t
        generalize e.dat = E at *
        generalize ((pre.length : Nat) : Int) = z at *
        generalize std (e.beh t) = T2 at *
        generalize hist full = A at *
        have sd : std (t.1, e.day, e.use t) = .tuple [.int t.1, .int e.day, .int (e.use t)] := rfl
        rw [sd]
        generalize std t = T at *
        simp [setsD, lb_spans_1, sqf, sIf, PD.tThen, thn1, then1, bin2, callE, consA, rd, rdw, ix, asB, n0, tupA, a1, s0, u, outR, apndE, apnd, vThen, hl', setE, b]
      · simp [gapD]
    | false =>
      obtain ⟨y4, y5, q⟩ := spans_loop (full := full) (m := m) es (pre ++ [e]) t acc x4 x5 (by rw [hf]; simp) r.skip (by simp at hl ⊢; omega)
      refine ⟨y4, y5, ?_⟩
      rw [plc, if_neg (by rw [hc]; decide), gap, if_neg (by rw [hc]; decide), endS, if_neg (by rw [hc]; decide)]
      rw [List.length_append] at q
      exact q
theorem spans_run {d z w m : Int} {es : List Ent} (hm : 0 ≤ m ∧ m ≤ 1000000000000) (r : Rest (d, z, w) es) (hl : es.length < 9000) :
    f_spans [hist (.start d z w :: es), .int m] = .rt (.list (gapD (gap m (d, z, w) es))) := by
  have p := points_run hm r hl
  obtain ⟨y4, y5, q⟩ := spans_loop (full := .start d z w :: es) (m := m) es [.start d z w] (d, z, w) [] (.val (.int (0 : Nat))) (.val (Ent.start d z w).dat) rfl r (by simp; omega)
  have b := behind_first (d := d) (s := z) (v := w)
  have ix : qIx (hist (.start d z w :: es)) (.int ((0 : Nat) : Int)) = .ok (Ent.start d z w).dat := qIx_at rfl (by rw [atI_cast, datL_get]; rfl)
  have step : forD (aName 4) lb_spans_1 (natD (0 :: plc m 1 (d, z, w) es)) [.val (hist (.start d z w :: es)), .val (.int m), .own [], .val .none, .no, .no] =
      forD (aName 4) lb_spans_1 (natD (plc m 1 (d, z, w) es)) [.val (hist (.start d z w :: es)), .val (.int m), .own [], .val (std (d, z, w)), .val (.int (0 : Nat)), .val (Ent.start d z w).dat] := by
    show forD (aName 4) lb_spans_1 (.int (0 : Nat) :: natD (plc m 1 (d, z, w) es)) _ = _
    refine forD_nx (ps := [(4, .int (0 : Nat))]) rfl ?_
    generalize (Ent.start d z w).dat = E at *
    generalize std (d, z, w) = T at *
    generalize hist (.start d z w :: es) = A at *
    generalize ((0 : Nat) : Int) = o at *
    simp [setsD, lb_spans_1, sqf, sIf, PD.tThen, thn1, then1, bin2, callE, consA, rd, rdw, ix, asB, isN, outR, vThen, setE, b]
  have all := step.trans q
  clear step q b ix
  rw [List.nil_append] at all
  generalize gapD (gap m (d, z, w) es) = G at *
  generalize natD (0 :: plc m 1 (d, z, w) es) = B at *
  generalize hist (.start d z w :: es) = A at *
  simp [f_spans, b_spans, r_spans_1, r_spans_2, r_spans_3, fnD, sqf, lThen, setE, vThen, forE, asS, items, callE, consA, rd, p, outR, all, frz, retE]
theorem spans_nil {m : D} : f_spans [hist [], m] = .rt (.list (gapD [])) := by
  have p := points_nil (m := m)
  generalize hist [] = A at *
  simp only [natD, List.map_nil] at p
  simp [f_spans, b_spans, r_spans_1, r_spans_2, r_spans_3, fnD, sqf, lThen, setE, vThen, forE, asS, items, callE, consA, rd, p, outR, forD_nil, frz, retE, gapD]
theorem account_loop {full : List Ent} {m : Int} (hm : 0 ≤ m ∧ m ≤ 1000000000000) : ∀ (es pre : List Ent) (t : St3) (ps gs : List D) (x7 x8 x9 : Sl), full = pre ++ es → Rest t es → ps.length + es.length < 10000 → gs.length + es.length < 10000 →
    ∃ x7' x8' x9', forD (aName 7) lb__law_account_1 (rngK pre.length es.length) [.val (hist full), .val (.int m), .own ps, .own gs, .val (.int t.2.1), .val (.int t.2.2), .val (.int t.1), x7, x8, x9] =
      .nx [.val (hist full), .val (.int m), .own (ps ++ natD (plc m pre.length t es)), .own (gs ++ gapD (gap m t es)), .val (.int (endS m t es).2.1), .val (.int (endS m t es).2.2), .val (.int (endS m t es).1), x7', x8', x9']
  | [], pre, t, ps, gs, x7, x8, x9, _, _, _, _ => ⟨x7, x8, x9, by simp [rngK, forD_nil, plc, gap, endS, natD, gapD]⟩
  | e :: es, pre, t, ps, gs, x7, x8, x9, hf, r, hp, hg => by
    have hfit := r.fit e List.mem_cons_self
    have hp' : ps.length < 16777216 := by simp at hp; omega
    have hg' : gs.length < 16777216 := by simp at hg; omega
    have ix : qIx (hist full) (.int ((pre.length : Nat) : Int)) = .ok e.dat := qIx_at rfl (by rw [atI_cast, datL_get, hf]; simp)
    have a0 := e.at0
    have a1 := e.at1
    have a2 := e.at2
    have pos := r.pos.1
    have full' : full = (pre ++ [e]) ++ es := by rw [hf]; simp
    have dd : (e.two - t.2.2) % t.2.1 = e.use t := rfl
    show ∃ x7' x8' x9', forD (aName 7) lb__law_account_1 (.int (pre.length : Nat) :: rngK (pre.length + 1) es.length) _ = _
    cases hc : e.cnt m t with
    | true =>
      obtain ⟨y7, y8, y9, q⟩ := account_loop hm es (pre ++ [e]) (e.beh t) (ps ++ [.int (pre.length : Nat)]) (gs ++ [std (t.1, e.day, e.use t)]) (.val (.int (pre.length : Nat))) (.val e.dat) (.val (.int (e.use t))) full' r.next (by simp at hp ⊢; omega) (by simp at hg ⊢; omega)
      refine ⟨y7, y8, y9, ?_⟩
      rw [plc, if_pos hc, gap, if_pos hc, endS, if_pos hc]
      rw [List.length_append] at q
      refine (forD_nx (ps := [(7, .int (pre.length : Nat))]) (r2 := [.val (hist full), .val (.int m), .own (ps ++ [.int (pre.length : Nat)]), .own (gs ++ [std (t.1, e.day, e.use t)]), .val (.int (e.beh t).2.1), .val (.int (e.beh t).2.2), .val (.int (e.beh t).1), .val (.int (pre.length : Nat)), .val e.dat, .val (.int (e.use t))]) rfl ?_).trans (q.trans ?_)
      · have sd : std (t.1, e.day, e.use t) = .tuple [.int t.1, .int e.day, .int (e.use t)] := rfl
        rw [sd]
        clear q sd
        generalize ((pre.length : Nat) : Int) = z at *
        generalize hist full = A at *
        cases e with
        | start => exact hfit.elim
        | change d v s w =>
          have b3 : qIx (Ent.change d v s w).dat (.int 3) = .ok (.int s) := by simp [Ent.dat, qIx, items]
          have b4 : qIx (Ent.change d v s w).dat (.int 4) = .ok (.int w) := by simp [Ent.dat, qIx, items]
          simp only [Ent.name, Ent.day, Ent.two, Ent.beh, Ent.size, Ent.shown] at *
          generalize Ent.use t (Ent.change d v s w) = U at *
          generalize (Ent.change d v s w).dat = E at *
          simp [setsD, lb__law_account_1, sqf, setE, sIf, PD.tThen, thn1, bin2, rd, rdw, ix, vThen, a0, a1, a2, b3, b4, q_cs, q_cr, q_cc, asB, iSub, iMod, pos, dd, andT, tupA, consA, apndE, apnd, hp', hg']
        | read d v x =>
          have b3 : qIx (Ent.read d v x).dat (.int 3) = .ok (.bool x) := by simp [Ent.dat, qIx, items]
          have mm : iMul (.int m) (.int (d - t.1)) = .ok (.int (m * (d - t.1))) := iMul_l (by omega)
          have hx : x = false := by
            cases x with
            | false => rfl
            | true => simp [cnt_read] at hc
          have hu : ¬ m * (d - t.1) < Ent.use t (Ent.read d v x) := by
            rw [hx] at hc ⊢
            simpa [cnt_read] using hc
          subst hx
          simp only [Ent.name, Ent.day, Ent.two, Ent.beh, Ent.size, Ent.shown] at *
          generalize Ent.use t (Ent.read d v false) = U at *
          generalize (Ent.read d v false).dat = E at *
          simp [setsD, lb__law_account_1, sqf, setE, sIf, PD.tThen, thn1, bin2, rd, rdw, ix, vThen, a0, a1, a2, b3, q_rs, q_rr, q_rc, asB, iSub, iMod, pos, dd, andT, orT, tru, iCmp, mm, hu, tupA, consA, apndE, apnd, hp', hg']
      · simp [natD, gapD]
    | false =>
      obtain ⟨y7, y8, y9, q⟩ := account_loop hm es (pre ++ [e]) t ps gs (.val (.int (pre.length : Nat))) (.val e.dat) (.val (.int (e.use t))) full' r.skip (by simp at hp ⊢; omega) (by simp at hg ⊢; omega)
      refine ⟨y7, y8, y9, ?_⟩
      rw [plc, if_neg (by rw [hc]; decide), gap, if_neg (by rw [hc]; decide), endS, if_neg (by rw [hc]; decide)]
      rw [List.length_append] at q
      refine (forD_ct (ps := [(7, .int (pre.length : Nat))]) (r2 := [.val (hist full), .val (.int m), .own ps, .own gs, .val (.int t.2.1), .val (.int t.2.2), .val (.int t.1), .val (.int (pre.length : Nat)), .val e.dat, .val (.int (e.use t))]) rfl ?_).trans q
      clear q
      generalize ((pre.length : Nat) : Int) = z at *
      generalize hist full = A at *
      cases e with
      | start => exact hfit.elim
      | change d v s w => rw [cnt_change] at hc; cases hc
      | read d v x =>
        have b3 : qIx (Ent.read d v x).dat (.int 3) = .ok (.bool x) := by simp [Ent.dat, qIx, items]
        have mm : iMul (.int m) (.int (d - t.1)) = .ok (.int (m * (d - t.1))) := iMul_l (by omega)
        have hu : x = false → m * (d - t.1) < Ent.use t (Ent.read d v x) := fun hx => by
          rw [hx] at hc ⊢
          simpa [cnt_read] using hc
        simp only [Ent.name, Ent.day, Ent.two] at *
        generalize Ent.use t (Ent.read d v x) = U at *
        generalize (Ent.read d v x).dat = E at *
        cases x with
        | true => simp [setsD, lb__law_account_1, sqf, setE, sIf, PD.tThen, thn1, bin2, rd, rdw, ix, vThen, a0, a1, a2, b3, q_rs, q_rr, asB, iSub, iMod, pos, dd, andT, orT, tru]
        | false =>
          have hu := hu rfl
          simp [setsD, lb__law_account_1, sqf, setE, sIf, PD.tThen, thn1, bin2, rd, rdw, ix, vThen, a0, a1, a2, b3, q_rs, q_rr, asB, iSub, iMod, pos, dd, andT, orT, tru, iCmp, mm, hu]
theorem account_run {d z w m : Int} {es : List Ent} (hm : 0 ≤ m ∧ m ≤ 1000000000000) (r : Rest (d, z, w) es) (hl : es.length < 3999) :
    f__law_account [hist (.start d z w :: es), .int m] = .rt (.tuple [.list (natD (0 :: plc m 1 (d, z, w) es)), .list (gapD (gap m (d, z, w) es))]) := by
  obtain ⟨y7, y8, y9, q⟩ := account_loop (full := .start d z w :: es) hm es [.start d z w] (d, z, w) [.int (0 : Nat)] [] (.val (.int (0 : Nat))) (.val (Ent.start d z w).dat) .no rfl r (by simp; omega) (by simp; omega)
  have ix : qIx (hist (.start d z w :: es)) (.int ((0 : Nat) : Int)) = .ok (Ent.start d z w).dat := qIx_at rfl (by rw [atI_cast, datL_get]; rfl)
  have step : forD (aName 7) lb__law_account_1 (rngD 0 (es.length + 1)) [.val (hist (.start d z w :: es)), .val (.int m), .own [], .own [], .val (.int 0), .val (.int 0), .val (.int 0), .no, .no, .no] =
      forD (aName 7) lb__law_account_1 (rngK 1 es.length) [.val (hist (.start d z w :: es)), .val (.int m), .own [.int (0 : Nat)], .own [], .val (.int z), .val (.int w), .val (.int d), .val (.int (0 : Nat)), .val (Ent.start d z w).dat, .no] := by
    have e0 : rngD 0 (es.length + 1) = .int (0 : Nat) :: rngK 1 es.length := rngD_K 0 (es.length + 1)
    rw [e0]
    refine forD_nx (ps := [(7, .int (0 : Nat))]) rfl ?_
    have a0 := (Ent.start d z w).at0
    have a1 := (Ent.start d z w).at1
    have a2 := (Ent.start d z w).at2
    have a3 : qIx (Ent.start d z w).dat (.int 3) = .ok (.int w) := by simp [Ent.dat, qIx, items]
    have qs : qEq (.str sStart) (.str sStart) = .ok (.bool true) := by rw [qEq_str ok_start ok_start]; simp
    simp only [Ent.name, Ent.day, Ent.two] at a0 a1 a2
    generalize (Ent.start d z w).dat = E at *
    generalize hist (.start d z w :: es) = A at *
    generalize ((0 : Nat) : Int) = o at *
    simp [setsD, lb__law_account_1, sqf, setE, sIf, PD.tThen, thn1, bin2, rd, rdw, ix, vThen, a0, a1, a2, a3, qs, asB, apndE, apnd]
  have all := step.trans q
  clear step q ix
  have rg := rg1_ok (g := then1 (rdw 0) bLen) (es.length + 1) (by omega)
  have ln : bLen (hist (.start d z w :: es)) = .ok (.int ((es.length + 1 : Nat) : Int)) := by simp [bLen, datL]
  rw [List.nil_append] at all
  have e1 : [PyData.int (0 : Nat)] ++ natD (plc m [Ent.start d z w].length (d, z, w) es) = natD (0 :: plc m 1 (d, z, w) es) := rfl
  rw [e1] at all
  generalize gapD (gap m (d, z, w) es) = G at *
  generalize natD (0 :: plc m 1 (d, z, w) es) = B at *
  generalize hist (.start d z w :: es) = A at *
  generalize ((es.length + 1 : Nat) : Int) = n at *
  generalize es.length + 1 = nn at *
  have g := rg [.val A, .val (.int m), .own [], .own [], .val (.int 0), .val (.int 0), .val (.int 0), .no, .no, .no] (by simp [then1, rdw, ln])
  simp [f__law_account, b__law_account, r__law_account_1, r__law_account_2, r__law_account_3, r__law_account_4, r__law_account_5, r__law_account_6, fnD, sqf, lThen, setE, vThen, forE, g, all, frz, retE, tupA, consA, rd]
theorem account_nil {m : D} : f__law_account [hist [], m] = .rt (.tuple [.list (natD []), .list (gapD [])]) := by
  have g : ∀ r, then1 (rdw 0) bLen r = .ok (.int ((0 : Nat) : Int)) → rg1 (then1 (rdw 0) bLen) r = .ok (rngD 0 0) := fun r e => rg1_ok 0 (by decide) r e
  have g2 := g [.val (hist []), .val m, .own [], .own [], .val (.int 0), .val (.int 0), .val (.int 0), .no, .no, .no] (by simp [then1, rdw, bLen, datL])
  simp [f__law_account, b__law_account, r__law_account_1, r__law_account_2, r__law_account_3, r__law_account_4, r__law_account_5, r__law_account_6, fnD, sqf, lThen, setE, vThen, forE, g2, rngD, forD_nil, frz, retE, tupA, consA, rd, natD, gapD]
end K11

namespace K11
open PySem PySem.Spec PyProof.Rows L2 PD
theorem ahead_run {use days at' : Int} (hu : 0 ≤ use ∧ use < 2 ^ 60) (hd : 0 < days ∧ days < 2 ^ 60) : f_use_ahead [.int use, .int days, .int at'] = .rt (.int (part use days at')) := by
  have m : iMul (.int at') (.int use) = .ok (.int (at' * use)) := iMul_r (by omega)
  have d : iDiv (.int (at' * use)) (.int days) = .ok (.int (at' * use / days)) := iDiv_lit (by omega)
  simp [f_use_ahead, b_use_ahead, fnD, sqf, retE, vThen, bin2, rdw, m, d, PD.part]
theorem share_run {use days at' : Int} (hu : 0 ≤ use ∧ use < 2 ^ 60) (hd : 0 < days ∧ days < 2 ^ 60) : f_share [.int use, .int days, .int at'] = .rt (.int (part use days (at' + 1) - part use days at')) := by
  have a := fun at' => ahead_run (at' := at') hu hd
  simp [f_share, b_share, fnD, sqf, retE, vThen, bin2, rd, rdw, iSub, pAdd, callE, consA, outR, a]
theorem by_run {gs : List St3} {lo day : Int} (c : Chn lo gs) : f_use_by [.list (gapD gs), .int (ptr day gs : Nat), .int day] = .rt (.int (useAt gs 0 day)) := by
  have lnn : bLen (.list (gapD gs)) = .ok (.int (gs.length : Nat)) := by rw [bLen, gapD_length]
  cases hg : gs with
  | nil => simp [f_use_by, b_use_by, fnD, sqf, sIf, PD.tThen, orT, notT, thn1, rdw, tru, gapD, retE, vThen, useAt]
  | cons g0 gs' =>
    rw [← hg]
    have h0 : gs[0]? = some g0 := by rw [hg]; rfl
    have s0 := c.start h0
    have i0 : qIx (.list (gapD gs)) (.int 0) = .ok (std g0) := qIx_at rfl (by rw [atI_0, gapD_get, h0]; rfl)
    have t0 := std_0 g0
    have tr : tru (.list (gapD gs)) = .ok true := by rw [hg]; rfl
    by_cases hd : day < lo
    · have e := c.ahead (f := 0) hd
      have hd' : day < g0.1 := by have := s0.2.2.2.2.2.2.1 rfl; omega
      rw [e]
      clear e lnn
      generalize PyData.list (gapD gs) = G at *
      generalize std g0 = E at *
      generalize ((ptr day gs : Nat) : Int) = p
      simp [f_use_by, b_use_by, fnD, sqf, sIf, PD.tThen, orT, notT, thn1, rdw, tr, bin2, i0, t0, iCmp, hd', asB, retE, vThen]
    · have hd' : ¬ day < g0.1 := by have := s0.2.2.2.2.2.2.1 rfl; omega
      have e := c.val (f := 0) (day := day) (by omega)
      cases hp : gs[ptr day gs]? with
      | some g =>
        rw [hp] at e
        simp only at e
        obtain ⟨_, a1, a2, a3, a4, a5, a6, a7⟩ := c.start hp
        have hlt : ptr day gs < gs.length := (List.getElem?_eq_some_iff.mp hp).1
        have hlt' : ((ptr day gs : Nat) : Int) < (gs.length : Nat) := by omega
        have ip : qIx (.list (gapD gs)) (.int (ptr day gs : Nat)) = .ok (std g) := qIx_at rfl (by rw [atI_cast, gapD_get, hp]; rfl)
        have sh := share_run (use := g.2.2) (days := g.2.1 - g.1) (at' := day - g.1) ⟨by omega, by omega⟩ ⟨by omega, by omega⟩
        have e2 : part g.2.2 (g.2.1 - g.1) (day - g.1 + 1) - part g.2.2 (g.2.1 - g.1) (day - g.1) = share3 g day := rfl
        rw [e2] at sh
        rw [e]
        have ag : aTup [3, 4, 5] (std g) = some [(3, .int g.1), (4, .int g.2.1), (5, .int g.2.2)] := rfl
        clear e e2
        generalize hG : PyData.list (gapD gs) = G at *
        generalize std g0 = E0 at *
        generalize std g = E at *
        generalize ((ptr day gs : Nat) : Int) = p at *
        generalize ((gs.length : Nat) : Int) = n at *
        simp [f_use_by, b_use_by, r_use_by_1, fnD, sqf, sIf, PD.tThen, orT, notT, thn1, then1, rd, rdw, tr, bin2, i0, t0, iCmp, hd', asB, retE, vThen, lnn, hlt', sAsg, ip, ag, setsD, callE, consA, iSub, sh, outR]
      | none =>
        rw [hp] at e
        simp only at e
        have hge : ¬ ptr day gs < gs.length := fun z => by rw [List.getElem?_eq_getElem z] at hp; cases hp
        have hge' : ¬ ((ptr day gs : Nat) : Int) < (gs.length : Nat) := by omega
        obtain ⟨g, hl⟩ : ∃ g, gs.getLast? = some g := by rw [hg]; exact ⟨_, List.getLast?_eq_some_getLast (by simp)⟩
        rw [hl] at e
        simp only at e
        have hl' := hl
        rw [List.getLast?_eq_getElem?] at hl'
        obtain ⟨_, a1, a2, a3, a4, a5, a6, a7⟩ := c.start hl'
        have ip : qIx (.list (gapD gs)) (.int (-1)) = .ok (std g) := qIx_at rfl (by rw [atI_m1, gapD, List.getLast?_map, hl]; rfl)
        have dv : iDiv (.int g.2.2) (.int (g.2.1 - g.1)) = .ok (.int (rate g)) := iDiv_lit (by omega)
        rw [e]
        have ag : aTup [3, 4, 5] (std g) = some [(3, .int g.1), (4, .int g.2.1), (5, .int g.2.2)] := rfl
        clear e hl hl'
        generalize hG : PyData.list (gapD gs) = G at *
        generalize std g0 = E0 at *
        generalize std g = E at *
        generalize ((ptr day gs : Nat) : Int) = p at *
        generalize ((gs.length : Nat) : Int) = n at *
        simp [f_use_by, b_use_by, r_use_by_1, r_use_by_2, r_use_by_3, fnD, sqf, sIf, PD.tThen, orT, notT, thn1, then1, rd, rdw, tr, bin2, i0, t0, iCmp, hd', asB, retE, vThen, lnn, hge', sAsg, negI, ip, ag, setsD, iSub, dv]
theorem while_uses {H m lw hh Fd : D} {F : List D} {gs : List St3} {lo day : Int} (c : Chn lo gs) : ∀ (fuel a : Nat), a ≤ ptr day gs → ptr day gs - a < fuel →
    whileD (andT (thn1 (bin2 (iCmp fun i j => decide (i < j)) (rdw 6) (then1 (rdw 4) bLen)) asB) (thn1 (bin2 (iCmp fun i j => decide (i ≤ j)) (bin2 qIx (bin2 qIx (rdw 4) (rdw 6)) (fun _ => .ok (.int 1))) (rdw 7)) asB)) lb_uses_2 fuel
      [.val H, .val m, .val lw, .val hh, .val (.list (gapD gs)), .own F, .val (.int (a : Nat)), .val (.int day)] = .nx [.val H, .val m, .val lw, .val hh, .val (.list (gapD gs)), .own F, .val (.int (ptr day gs : Nat)), .val (.int day)]
  | 0, _, _, h => by omega
  | fuel + 1, a, h1, h2 => by
    have ln : bLen (.list (gapD gs)) = .ok (.int (gs.length : Nat)) := by rw [bLen, gapD_length]
    have pl := ptr_le day gs
    by_cases he : a = ptr day gs
    · have test : (andT (thn1 (bin2 (iCmp fun i j => decide (i < j)) (rdw 6) (then1 (rdw 4) bLen)) asB) (thn1 (bin2 (iCmp fun i j => decide (i ≤ j)) (bin2 qIx (bin2 qIx (rdw 4) (rdw 6)) (fun _ => .ok (.int 1))) (rdw 7)) asB))
          [.val H, .val m, .val lw, .val hh, .val (.list (gapD gs)), .own F, .val (.int (a : Nat)), .val (.int day)] = .ok false := by
        by_cases hl : a < gs.length
        · have hg := List.getElem?_eq_getElem hl
          generalize gs[a] = g at hg
          have hn := ptr_at (gs := gs) (day := day) (g := g) (by rw [← he]; exact hg)
          have ix : qIx (.list (gapD gs)) (.int (a : Nat)) = .ok (std g) := qIx_at rfl (by rw [atI_cast, gapD_get, hg]; rfl)
          have s1 := std_1 g
          have hl' : ((a : Nat) : Int) < (gs.length : Nat) := by omega
          have hn' : ¬ g.2.1 ≤ day := by omega
          generalize PyData.list (gapD gs) = G at *
          generalize std g = E at *
          generalize ((a : Nat) : Int) = z at *
          generalize ((gs.length : Nat) : Int) = n at *
          simp [andT, thn1, then1, bin2, rdw, ln, iCmp, hl', asB, ix, s1, hn']
        · have hl' : ¬ ((a : Nat) : Int) < (gs.length : Nat) := by omega
          generalize PyData.list (gapD gs) = G at *
          generalize ((a : Nat) : Int) = z at *
          generalize ((gs.length : Nat) : Int) = n at *
          simp [andT, thn1, then1, bin2, rdw, ln, iCmp, hl', asB]
      unfold whileD PD.tThen
      rw [test, fold_ok, he]
      rfl
    · have hl : a < gs.length := by omega
      have hg := List.getElem?_eq_getElem hl
      generalize gs[a] = g at hg
      have hn := ptr_below (gs := gs) (day := day) (j := a) (g := g) (by omega) hg
      have test : (andT (thn1 (bin2 (iCmp fun i j => decide (i < j)) (rdw 6) (then1 (rdw 4) bLen)) asB) (thn1 (bin2 (iCmp fun i j => decide (i ≤ j)) (bin2 qIx (bin2 qIx (rdw 4) (rdw 6)) (fun _ => .ok (.int 1))) (rdw 7)) asB))
          [.val H, .val m, .val lw, .val hh, .val (.list (gapD gs)), .own F, .val (.int (a : Nat)), .val (.int day)] = .ok true := by
        have ix : qIx (.list (gapD gs)) (.int (a : Nat)) = .ok (std g) := qIx_at rfl (by rw [atI_cast, gapD_get, hg]; rfl)
        have s1 := std_1 g
        have hl' : ((a : Nat) : Int) < (gs.length : Nat) := by omega
        generalize PyData.list (gapD gs) = G at *
        generalize std g = E at *
        generalize ((a : Nat) : Int) = z at *
        generalize ((gs.length : Nat) : Int) = n at *
        simp [andT, thn1, then1, bin2, rdw, ln, iCmp, hl', asB, ix, s1, hn]
      have step : lb_uses_2 [.val H, .val m, .val lw, .val hh, .val (.list (gapD gs)), .own F, .val (.int (a : Nat)), .val (.int day)] = .nx [.val H, .val m, .val lw, .val hh, .val (.list (gapD gs)), .own F, .val (.int ((a + 1 : Nat) : Int)), .val (.int day)] := by
        have e1 : ((a : Nat) : Int) + 1 = ((a + 1 : Nat) : Int) := by omega
        generalize ((a + 1 : Nat) : Int) = z at e1
        generalize ((a : Nat) : Int) = y at e1
        generalize PyData.list (gapD gs) = G at *
        simp [lb_uses_2, sqf, augE, vThen, PD.opI, e1]
      have ih := while_uses (H := H) (m := m) (lw := lw) (hh := hh) (Fd := Fd) (F := F) (day := day) c fuel (a + 1) (by omega) (by omega)
      unfold whileD PD.tThen
      rw [test, fold_ok]
      simp only [if_true, step]
      exact ih
theorem uses_run {H m : D} {gs : List St3} {lo low high : Int} (hs : f_spans [H, m] = .rt (.list (gapD gs))) (c : Chn lo gs) (hl : gs.length < 900) (hb : -1000000 ≤ low ∧ low ≤ 1000000 ∧ -1000000 ≤ high ∧ high ≤ 1000000) :
    f_uses [H, m, .int low, .int high] = .rt (.list (useL gs low (high - low).toNat)) := by
  have hn : (high - low).toNat ≤ 2000000 := by omega
  generalize hN : (high - low).toNat = N at *
  obtain ⟨r2, e2, a, x7, ha, rfl⟩ := forD_rng (asg := aName 7) (f := lb_uses_1) low N [.val H, .val m, .val (.int low), .val (.int high), .val (.list (gapD gs)), .own [], .val (.int 0), .no]
    (fun i r => ∃ (a : Nat) (x7 : Sl), (∀ day, low + i ≤ day → a ≤ ptr day gs) ∧ r = [.val H, .val m, .val (.int low), .val (.int high), .val (.list (gapD gs)), .own (useL gs low i), .val (.int (a : Nat)), x7])
    ⟨0, .no, fun _ _ => Nat.zero_le _, rfl⟩ (by
      rintro i r hi ⟨a, x7, ha, rfl⟩
      have pl := ptr_le (low + (i : Nat)) gs
      have w := while_uses (H := H) (m := m) (lw := .int low) (hh := .int high) (Fd := .none) (F := useL gs low i) (day := low + (i : Nat)) c 1000 a (ha _ (Int.le_refl _)) (by omega)
      have b := by_run (day := low + (i : Nat)) c
      refine ⟨[(7, .int (low + (i : Nat)))], [.val H, .val m, .val (.int low), .val (.int high), .val (.list (gapD gs)), .own (useL gs low (i + 1)), .val (.int (ptr (low + (i : Nat)) gs : Nat)), .val (.int (low + (i : Nat)))], rfl, .inl ?_, ptr (low + (i : Nat)) gs, _, fun day h => ptr_mono (by omega) gs, rfl⟩
      have ul : (useL gs low i).length < 16777216 := by rw [useL_length]; omega
      rw [useL_succ]
      generalize PyData.list (gapD gs) = G at *
      generalize low + (i : Nat) = day at *
      generalize ((ptr day gs : Nat) : Int) = p at *
      generalize useL gs low i = U at *
      simp only [setsD, List.set]
      unfold lb_uses_1 sqf
      rw [w]
      simp [apndE, apnd, vThen, callE, consA, rd, b, outR, ul])
  have g := rg2_ok (ga := rdw 2) (gb := rdw 3) (i := low) (j := high) (by omega) [.val H, .val m, .val (.int low), .val (.int high), .val (.list (gapD gs)), .own [], .val (.int 0), .no] rfl rfl
  rw [hN] at g
  generalize useL gs low N = U at *
  generalize gapD gs = G at *
  simp [f_uses, b_uses, r_uses_1, r_uses_2, r_uses_3, r_uses_4, fnD, sqf, setE, vThen, callE, consA, rd, hs, outR, lThen, forE, g, e2, frz, retE]
theorem lawuse_loop {G : D} {day : Int} : ∀ {gs : List St3} {lo : Int} (f : Int) (x3 x4 x5 x6 x7 : Sl), Chn lo gs →
    forD (aTup [3, 4, 5]) lb__law_use_1 (gapD gs) [.val G, .val (.int day), .val (.int f), x3, x4, x5, x6, x7] = .rt (.int (useAt gs f day)) ∨
    ∃ y3 y4 y5 y6 y7, forD (aTup [3, 4, 5]) lb__law_use_1 (gapD gs) [.val G, .val (.int day), .val (.int f), x3, x4, x5, x6, x7] = .nx [.val G, .val (.int day), .val (.int (useAt gs f day)), y3, y4, y5, y6, y7]
  | [], _, f, x3, x4, x5, x6, x7, _ => .inr ⟨x3, x4, x5, x6, x7, forD_nil⟩
  | g :: gs, _, f, x3, x4, x5, x6, x7, .cons h0 h1 h2 h3 h4 t => by
    show forD (aTup [3, 4, 5]) lb__law_use_1 (std g :: gapD gs) _ = _ ∨ ∃ y3 y4 y5 y6 y7, forD (aTup [3, 4, 5]) lb__law_use_1 (std g :: gapD gs) _ = _
    have ag : aTup [3, 4, 5] (std g) = some [(3, .int g.1), (4, .int g.2.1), (5, .int g.2.2)] := rfl
    unfold useAt
    by_cases c : g.1 ≤ day ∧ day < g.2.1
    · rw [if_pos c]
      refine .inl (forD_rt ag ?_)
      have m1 : iMul (.int (day - g.1 + 1)) (.int g.2.2) = .ok (.int ((day - g.1 + 1) * g.2.2)) := iMul_r (by omega)
      have m2 : iMul (.int (day - g.1)) (.int g.2.2) = .ok (.int ((day - g.1) * g.2.2)) := iMul_r (by omega)
      have dv : ∀ x : Int, iDiv (.int x) (.int (g.2.1 - g.1)) = .ok (.int (x / (g.2.1 - g.1))) := fun x => iDiv_lit (by omega)
      have e : (day - g.1 + 1) * g.2.2 / (g.2.1 - g.1) - (day - g.1) * g.2.2 / (g.2.1 - g.1) = share3 g day := rfl
      obtain ⟨c1, c2⟩ := c
      simp [setsD, lb__law_use_1, sqf, sIf, PD.tThen, andT, thn1, bin2, rdw, iCmp, c1, c2, asB, setE, vThen, iSub, pAdd, retE, m1, m2, dv, e]
    · rw [if_neg c]
      have dv : iDiv (.int g.2.2) (.int (g.2.1 - g.1)) = .ok (.int (rate g)) := iDiv_lit (by omega)
      rcases lawuse_loop (G := G) (day := day) (gs := gs) (if g.2.1 ≤ day then rate g else f) (.val (.int g.1)) (.val (.int g.2.1)) (.val (.int g.2.2)) x6 x7 t with q | ⟨y3, y4, y5, y6, y7, q⟩
      · refine .inl ((forD_nx ag ?_).trans q)
        by_cases c1 : g.1 ≤ day
        · have c2 : ¬ day < g.2.1 := fun z => c ⟨c1, z⟩
          have c3 : g.2.1 ≤ day := by omega
          simp [setsD, lb__law_use_1, sqf, sIf, PD.tThen, andT, thn1, bin2, rdw, iCmp, c1, c2, c3, asB, setE, vThen, iSub, dv]
        · have c3 : ¬ g.2.1 ≤ day := by omega
          simp [setsD, lb__law_use_1, sqf, sIf, PD.tThen, andT, thn1, bin2, rdw, iCmp, c1, c3, asB]
      · refine .inr ⟨y3, y4, y5, y6, y7, (forD_nx ag ?_).trans q⟩
        by_cases c1 : g.1 ≤ day
        · have c2 : ¬ day < g.2.1 := fun z => c ⟨c1, z⟩
          have c3 : g.2.1 ≤ day := by omega
          simp [setsD, lb__law_use_1, sqf, sIf, PD.tThen, andT, thn1, bin2, rdw, iCmp, c1, c2, c3, asB, setE, vThen, iSub, dv]
        · have c3 : ¬ g.2.1 ≤ day := by omega
          simp [setsD, lb__law_use_1, sqf, sIf, PD.tThen, andT, thn1, bin2, rdw, iCmp, c1, c3, asB]
theorem lawuse_run {gs : List St3} {lo day : Int} (c : Chn lo gs) : f__law_use [.list (gapD gs), .int day] = .rt (.int (useAt gs 0 day)) := by
  rcases lawuse_loop (G := .list (gapD gs)) (day := day) 0 .no .no .no .no .no c with q | ⟨y3, y4, y5, y6, y7, q⟩
  · generalize gapD gs = G at *
    simp [f__law_use, b__law_use, fnD, sqf, setE, vThen, forE, lThen, asS, items, rd, q]
  · generalize gapD gs = G at *
    simp [f__law_use, b__law_use, fnD, sqf, setE, vThen, forE, lThen, asS, items, rd, q, retE]
theorem use_on_run {H m : D} {gs : List St3} {lo day : Int} (hs : f_spans [H, m] = .rt (.list (gapD gs))) (c : Chn lo gs) (hl : gs.length < 900) (hb : -100000 ≤ day ∧ day ≤ 100000) :
    f_use_on [H, m, .int day] = .rt (.int (useAt gs 0 day)) := by
  have u := uses_run (low := day) (high := day + 1) hs c hl (by omega)
  have e : (day + 1 - day).toNat = 1 := by omega
  have e2 : useL gs day 1 = [.int (useAt gs 0 day)] := by simp [useL]
  rw [e, e2] at u
  simp [f_use_on, b_use_on, fnD, sqf, retE, vThen, bin2, callE, consA, rd, rdw, pAdd, u, outR, qIx, items]
theorem tariff_loop {A : D} {day : Int} : ∀ (ts : List Tar) (f : Option Tar) (x3 : Sl), ∃ y3, forD (aName 3) lb_tariff_on_1 (tarsD ts) [.val A, .val (.int day), .val (tarO f), x3] = .nx [.val A, .val (.int day), .val (tarO (tarOn ts f day)), y3]
  | [], f, x3 => ⟨x3, forD_nil⟩
  | t :: ts, f, x3 => by
    obtain ⟨y, q⟩ := tariff_loop (A := A) (day := day) ts (if t.day ≤ day then some t else f) (.val t.dat)
    refine ⟨y, (forD_nx (ps := [(3, t.dat)]) (r2 := [.val A, .val (.int day), .val (tarO (if t.day ≤ day then some t else f)), .val t.dat]) rfl ?_).trans q⟩
    have t0 := tar_0 t
    by_cases h : t.day ≤ day
    · rw [if_pos h]
      have e : tarO (some t) = t.dat := rfl
      rw [e]
      generalize t.dat = T at *
      simp [setsD, lb_tariff_on_1, sqf, sIf, PD.tThen, thn1, bin2, rd, rdw, t0, iCmp, h, asB, setE, vThen]
    · rw [if_neg h]
      generalize t.dat = T at *
      simp [setsD, lb_tariff_on_1, sqf, sIf, PD.tThen, thn1, bin2, rd, rdw, t0, iCmp, h, asB]
theorem tariff_run (ts : List Tar) (day : Int) : f_tariff_on [.tuple (tarsD ts), .int day] = .rt (tarO (tarOn ts none day)) := by
  obtain ⟨y, q⟩ := tariff_loop (A := .tuple (tarsD ts)) (day := day) ts none .no
  generalize tarsD ts = T at *
  generalize tarO (tarOn ts none day) = O at *
  have e : tarO none = .none := rfl
  rw [e] at q
  simp [f_tariff_on, b_tariff_on, fnD, sqf, setE, vThen, forE, lThen, asS, items, rd, q, retE]
theorem cost_run {o : Option Tar} (h : ∀ t, o = some t → t.ok) (u : Int) : f_cost [tarO o, .int u] = .rt (.int (costOf o u)) := by
  cases o with
  | none => simp [f_cost, b_cost, fnD, sqf, sIf, PD.tThen, thn1, then1, rdw, isN, asB, retE, vThen, tarO, costOf]
  | some t =>
    have k := h t rfl
    have ag : aTup [2, 3, 4, 5, 6] t.dat = some [(2, .int t.day), (3, .int t.st), (4, .int t.low), (5, .int t.lim), (6, .int t.high)] := rfl
    have m1 : ∀ j, iMul (.int t.low) (.int j) = .ok (.int (t.low * j)) := fun j => iMul_l (by have := k.l; omega)
    have m2 : ∀ j, iMul (.int t.high) (.int j) = .ok (.int (t.high * j)) := fun j => iMul_l (by have := k.h; omega)
    have nn : isN t.dat = false := rfl
    have e : tarO (some t) = t.dat := rfl
    rw [e]
    unfold costOf
    generalize t.dat = T at *
    generalize (if t.lim < u then t.lim else u) = w at *
    simp [f_cost, b_cost, r_cost_1, r_cost_2, r_cost_3, fnD, sqf, sIf, PD.tThen, thn1, then1, rd, rdw, nn, asB, sAsg, vThen, ag, setsD, setE, bin2, bMin, m1, m2, pAdd, iSub, retE]
end K11

namespace K11
open PySem PySem.Spec PyProof.Rows L2 PD
theorem while_run {es : List Ent} {p : D} {x : Sl} (hb : OkHead es) : ∀ (j n : Nat), j < n → j < es.length → ∃ (i : Nat) (e : Ent), es[i]? = some e ∧ e.isRead = false ∧ lastSize 0 (es.take (i + 1)) = lastSize 0 (es.take (j + 1)) ∧
    whileD (thn1 (bin2 qEq (bin2 qIx (bin2 qIx (rdw 0) (rdw 2)) (fun _ => .ok (.int 0))) (fun _ => .ok (.str (PySem.Str.ofString "read")))) asB) lb_size_at_1 n [.val (hist es), .val p, .val (.int (j : Nat)), x] = .nx [.val (hist es), .val p, .val (.int (i : Nat)), x]
  | _, 0, h, _ => by omega
  | j, n + 1, h, hj => by
    have he := List.getElem?_eq_getElem hj
    generalize es[j] = e at he
    have ix : qIx (hist es) (.int (j : Int)) = .ok e.dat := qIx_at rfl (by rw [atI_cast, datL_get, he]; rfl)
    have a0 := e.at0
    have q := e.qRead
    have test : (thn1 (bin2 qEq (bin2 qIx (bin2 qIx (rdw 0) (rdw 2)) (fun _ => .ok (.int 0))) (fun _ => .ok (.str (PySem.Str.ofString "read")))) asB) [.val (hist es), .val p, .val (.int (j : Nat)), x] = .ok e.isRead := by
      generalize hist es = A at ix
      simp [thn1, bin2, rdw, ix, a0, q, asB]
    unfold whileD PD.tThen
    rw [test, fold_ok]
    cases hr : e.isRead with
    | false => exact ⟨j, e, he, hr, rfl, rfl⟩
    | true =>
      cases j with
      | zero =>
        have := hb e he
        rw [hr] at this
        cases this
      | succ j =>
        obtain ⟨i, f, h1, h2, h3, h4⟩ := while_run (x := x) (p := p) hb j n (by omega) (by omega)
        have step : lb_size_at_1 [.val (hist es), .val p, .val (.int ((j + 1 : Nat) : Int)), x] = .nx [.val (hist es), .val p, .val (.int (j : Nat)), x] := by
          have e1 : ((j + 1 : Nat) : Int) - 1 = (j : Nat) := by omega
          generalize ((j + 1 : Nat) : Int) = z at e1
          generalize hist es = A
          simp [lb_size_at_1, sqf, augE, vThen, PD.opI, e1]
        simp only [if_true, step]
        refine ⟨i, f, h1, h2, ?_, h4⟩
        rw [h3, take_succ_get he, lastSize_app, Ent.size_read hr]
theorem size_at_run {es : List Ent} {j : Nat} (hb : OkHead es) (hj : j < es.length) (hl : es.length ≤ 999) : f_size_at [hist es, .int (j : Nat)] = .rt (.int (lastSize 0 (es.take (j + 1)))) := by
  obtain ⟨i, e, he, hr, hs, hw⟩ := while_run (p := .int (j : Nat)) (x := .no) hb j 1000 (by omega) hj
  have ix : qIx (hist es) (.int (i : Int)) = .ok e.dat := qIx_at rfl (by rw [atI_cast, datL_get, he]; rfl)
  rw [take_succ_get he, lastSize_app] at hs
  rw [← hs]
  have a0 := e.at0
  have a2 := e.at2
  generalize hist es = A at ix hw
  generalize ((j : Nat) : Int) = z at hw
  cases e with
  | read => cases hr
  | start d s v =>
    have q : qEq (.str sStart) (.str sStart) = .ok (.bool true) := by rw [qEq_str ok_start ok_start]; simp
    simp [f_size_at, b_size_at, r_size_at_1, r_size_at_2, r_size_at_3, fnD, sqf, setE, vThen, rd, hw, bin2, rdw, ix, retE, ifV, thn1, a0, a2, Ent.name, q, asB, Ent.two, Ent.size]
  | change d y s v =>
    have q : qEq (.str sChange) (.str sStart) = .ok (.bool false) := by rw [qEq_str ok_change ok_start, ne_cs]
    have a3 : qIx (Ent.change d y s v).dat (.int 3) = .ok (.int s) := by simp [Ent.dat, qIx, items]
    simp [f_size_at, b_size_at, r_size_at_1, r_size_at_2, r_size_at_3, fnD, sqf, setE, vThen, rd, hw, bin2, rdw, ix, retE, ifV, thn1, a0, a3, Ent.name, q, asB, Ent.size]
theorem size_now_run {es : List Ent} (hb : OkHead es) (h0 : es ≠ []) (hl : es.length ≤ 999) : f_size_now [hist es] = .rt (.int (lastSize 0 es)) := by
  have hp : 0 < es.length := List.length_pos_iff.mpr h0
  have r := size_at_run (j := es.length - 1) hb (by omega) hl
  rw [show es.length - 1 + 1 = es.length by omega, List.take_length] at r
  have e1 : ((es.length - 1 : Nat) : Int) = ((es.length : Nat) : Int) - 1 := by omega
  rw [e1] at r
  have la : bLen (hist es) = .ok (.int ((es.length : Nat) : Int)) := by simp [bLen]
  generalize hist es = A at r la
  generalize ((es.length : Nat) : Int) = z at r la
  simp [f_size_now, b_size_now, fnD, sqf, retE, vThen, callE, consA, rd, rdw, bin2, then1, la, iSub, r, outR]
def small (x : Int) : Prop := x.natAbs.log2 < 1920
theorem small_of {x : Int} (h : -(2 ^ 60) ≤ x ∧ x ≤ 2 ^ 60) : small x := by
  unfold small
  by_cases z : x.natAbs = 0
  · rw [z]
    decide
  · have := (Nat.log2_lt z (k := 64)).mpr (by omega)
    omega
theorem check_value_run {s v : Int} (hs : small s) (hv : small v) : outR (f_check_value [.int s, .int v]) = if s ≤ v then .ex 4 else .ok .none := by
  unfold small at hs hv
  by_cases h : s ≤ v
  · simp [f_check_value, b_check_value, fnD, sqf, sIf, PD.tThen, thn1, bin2, rdw, iCmp, h, asB, rsE, msgI, hs, hv]
  · simp [f_check_value, b_check_value, fnD, sqf, sIf, PD.tThen, thn1, bin2, rdw, iCmp, h, asB]
theorem check_day_none {d : Int} : outR (f_check_day [hist [], .int d]) = .ex 1 := by
  simp [f_check_day, b_check_day, fnD, sqf, sIf, PD.tThen, thn1, notT, rdw, tru]
theorem last_at {es : List Ent} {e : Ent} (h : es.getLast? = some e) : qIx (hist es) (.int (-1)) = .ok e.dat := qIx_at rfl (by rw [atI_m1, List.getLast?_map, h]; rfl)
theorem tru_hist {es : List Ent} (h : es ≠ []) : tru (hist es) = .ok true := by
  cases es with
  | nil => exact absurd rfl h
  | cons e t => rfl
theorem check_day_run {es : List Ent} {e : Ent} {d : Int} (h : es.getLast? = some e) (hd : small d) (he : small e.day) : outR (f_check_day [hist es, .int d]) = if d ≤ e.day then .ex 3 else .ok .none := by
  unfold small at hd he
  have ix := last_at h
  have t := tru_hist (es := es) (by rintro rfl; cases h)
  have a1 := e.at1
  generalize hist es = A at ix t
  generalize e.dat = B at ix a1
  by_cases hh : d ≤ e.day
  · simp [f_check_day, b_check_day, fnD, sqf, sIf, PD.tThen, thn1, then1, notT, rdw, t, bin2, negI, ix, a1, setE, vThen, iCmp, hh, asB, rsE, msgI, hd, he]
  · simp [f_check_day, b_check_day, fnD, sqf, sIf, PD.tThen, thn1, then1, notT, rdw, t, bin2, negI, ix, a1, setE, vThen, iCmp, hh, asB]
theorem drp_ok {gl : Rho → Res (List D)} {f : List D → Out} {r : Rho} {ds : List D} {d : D} (h : gl r = .ok ds) (ho : outR (f ds) = .ok d) : drpE (callE gl f) r = .nx r := by simp [drpE, vThen, callE, h, ho]
theorem begun_none {d s v : Int} (hs : small s) (hv : small v) : outR (f_begun [hist [], .int d, .int s, .int v]) = if s ≤ v then .ex 4 else .ok (hist [.start d s v]) := by
  have c := check_value_run hs hv
  by_cases h : s ≤ v
  · rw [if_pos h] at c ⊢
    simp [f_begun, b_begun, fnD, sqf, sIf, PD.tThen, thn1, rdw, tru, drpE, vThen, callE, consA, rd, c]
  · rw [if_neg h] at c ⊢
    simp [f_begun, b_begun, fnD, sqf, sIf, PD.tThen, thn1, rdw, tru, drpE, vThen, callE, consA, rd, c, retE, tupA, Ent.dat]
theorem begun_some {es : List Ent} {d s v : Int} (h : es ≠ []) : outR (f_begun [hist es, .int d, .int s, .int v]) = .ex 2 := by
  have t := tru_hist h
  generalize hist es = A at t
  simp [f_begun, b_begun, fnD, sqf, sIf, PD.tThen, thn1, rdw, t]
theorem app_one {es : List Ent} {e : Ent} (hl : es.length ≤ 999) : pAdd (hist es) (.tuple [e.dat]) = .ok (hist (es ++ [e])) := by
  have : (datL es).length + [e.dat].length ≤ 16777216 := by
    rw [List.length_map]
    simp
    omega
  unfold pAdd
  simp only [hist]
  rw [if_pos this]
  simp [datL]
theorem read_on_none {d v : Int} : outR (f_read_on [hist [], .int d, .int v]) = .ex 1 := by
  have c := check_day_none (d := d)
  generalize hist [] = A at c ⊢
  simp [f_read_on, b_read_on, fnD, sqf, drpE, vThen, callE, consA, rd, c]
theorem changed_on_none {d v s w : Int} : outR (f_changed_on [hist [], .int d, .int v, .int s, .int w]) = .ex 1 := by
  have c := check_day_none (d := d)
  generalize hist [] = A at c ⊢
  simp [f_changed_on, b_changed_on, fnD, sqf, drpE, vThen, callE, consA, rd, c]
theorem read_on_run {es : List Ent} {e : Ent} {d v z : Int} (h : es.getLast? = some e) (hd : small d) (he : small e.day) (hb : OkHead es) (hl : es.length ≤ 999) (hz : lastSize 0 es = z) (sz : small z) (sv : small v) :
    outR (f_read_on [hist es, .int d, .int v]) = if d ≤ e.day then .ex 3 else if z ≤ v then .ex 4 else .ok (hist (es ++ [.read d v false])) := by
  have c := check_day_run h hd he
  have n := size_now_run hb (by rintro rfl; cases h) hl
  rw [hz] at n
  have cv := check_value_run sz sv
  have ap := app_one (e := .read d v false) hl
  simp only [Ent.dat] at ap
  generalize hist (es ++ [.read d v false]) = B at ap ⊢
  generalize hist es = A at c n ap ⊢
  by_cases h1 : d ≤ e.day
  · rw [if_pos h1] at c ⊢
    simp [f_read_on, b_read_on, fnD, sqf, drpE, vThen, callE, consA, rd, c]
  · rw [if_neg h1] at c ⊢
    by_cases h2 : z ≤ v
    · rw [if_pos h2] at cv ⊢
      simp [f_read_on, b_read_on, fnD, sqf, drpE, vThen, callE, consA, rd, c, n, cv]
    · rw [if_neg h2] at cv ⊢
      simp [f_read_on, b_read_on, fnD, sqf, drpE, vThen, callE, consA, rd, rdw, c, n, cv, retE, bin2, tupA, ap]
theorem changed_on_run {es : List Ent} {e : Ent} {d v s w z : Int} (h : es.getLast? = some e) (hd : small d) (he : small e.day) (hb : OkHead es) (hl : es.length ≤ 999) (hz : lastSize 0 es = z) (sz : small z) (sv : small v) (ss : small s) (sw : small w) :
    outR (f_changed_on [hist es, .int d, .int v, .int s, .int w]) = if d ≤ e.day then .ex 3 else if z ≤ v ∨ s ≤ w then .ex 4 else .ok (hist (es ++ [.change d v s w])) := by
  have c := check_day_run h hd he
  have n := size_now_run hb (by rintro rfl; cases h) hl
  rw [hz] at n
  have cv := check_value_run sz sv
  have cw := check_value_run ss sw
  have ap := app_one (e := .change d v s w) hl
  simp only [Ent.dat] at ap
  generalize hist (es ++ [.change d v s w]) = B at ap ⊢
  generalize hist es = A at c n ap ⊢
  by_cases h1 : d ≤ e.day
  · rw [if_pos h1] at c ⊢
    simp [f_changed_on, b_changed_on, fnD, sqf, drpE, vThen, callE, consA, rd, c]
  · rw [if_neg h1] at c ⊢
    by_cases h2 : z ≤ v
    · rw [if_pos h2] at cv
      rw [if_pos (.inl h2)]
      simp [f_changed_on, b_changed_on, r_changed_on_1, fnD, sqf, drpE, vThen, callE, consA, rd, c, n, cv]
    · rw [if_neg h2] at cv
      by_cases h3 : s ≤ w
      · rw [if_pos h3] at cw
        rw [if_pos (.inr h3)]
        simp [f_changed_on, b_changed_on, r_changed_on_1, r_changed_on_2, fnD, sqf, drpE, vThen, callE, consA, rd, c, n, cv, cw]
      · rw [if_neg h3] at cw
        rw [if_neg (by rintro (q | q) <;> contradiction)]
        simp [f_changed_on, b_changed_on, r_changed_on_1, r_changed_on_2, r_changed_on_3, fnD, sqf, drpE, vThen, callE, consA, rd, rdw, c, n, cv, cw, retE, bin2, tupA, ap]
theorem standing_run (e : Ent) : ∃ b, f_is_standing_reading [e.dat] = .rt (.bool b) ∧ ∀ day : Int, (b && e.day == day) = e.hit day := by
  have a0 := e.at0
  cases e with
  | start d s v => exact ⟨false, by simp [f_is_standing_reading, b_is_standing_reading, fnD, sqf, retE, vThen, andV, bin2, rdw, a0, q_sr, asB, Ent.name], fun day => by simp [Ent.hit]⟩
  | change d x s v => exact ⟨false, by simp [f_is_standing_reading, b_is_standing_reading, fnD, sqf, retE, vThen, andV, bin2, rdw, a0, q_cr, asB, Ent.name], fun day => by simp [Ent.hit]⟩
  | read d v x =>
    have a3 : qIx (Ent.read d v x).dat (.int 3) = .ok (.bool x) := by simp [Ent.dat, qIx, items]
    exact ⟨!x, by simp [f_is_standing_reading, b_is_standing_reading, fnD, sqf, retE, vThen, andV, notV, bin2, rdw, a0, a3, q_rr, asB, Ent.name], fun day => by simp [Ent.hit, Ent.day, Bool.and_comm]⟩
theorem turn_struck {S : D} {day i : Int} {x2 x3 x4 : Sl} (e : Ent) (h : e.hit day = false) :
    lb_struck_1 [.val S, .val (.int day), .val (.int i), .val e.dat, x4] = .nx [.val S, .val (.int day), .val (.int i), .val e.dat, x4] := by
  obtain ⟨b, hb, hh⟩ := standing_run e
  have q := hh day
  rw [h] at q
  have a1 := e.at1
  cases b with
  | false => simp [lb_struck_1, sqf, sIf, PD.tThen, andT, thn1, bin2, rd, rdw, callE, consA, outR, hb, tru]
  | true =>
    have ne : ¬ e.day = day := by simpa using q
    simp [lb_struck_1, sqf, sIf, PD.tThen, andT, thn1, bin2, rd, rdw, callE, consA, outR, hb, tru, a1, asB, ne]
theorem struck_none {es : List Ent} {day : Int} (h : ∀ e ∈ es, e.hit day = false) (hd : day.natAbs.log2 < 1920) : outR (f_struck [hist es, .int day]) = .ex 5 := by
  obtain ⟨r2, e2, x2, x3, x4, rfl⟩ := forD_inv (asg := aTup [2, 3]) (f := lb_struck_1) (enumD (datL es)) [.val (hist es), .val (.int day), .no, .no, .no]
    (fun i r => ∃ x2 x3 x4, r = [.val (hist es), .val (.int day), x2, x3, x4]) 0 ⟨_, _, _, rfl⟩ (by
      rintro i d r hd ⟨x2, x3, x4, rfl⟩
      rw [enumD_get, datL_get] at hd
      cases he : es[i]? with
      | none => rw [he] at hd; cases hd
      | some e =>
        rw [he] at hd
        cases hd
        exact ⟨_, _, rfl, .inl (turn_struck (S := hist es) (x2 := x2) (x3 := x3) (x4 := x4) e (h e (List.mem_of_getElem? he))), _, _, _, rfl⟩)
  simp [f_struck, b_struck, fnD, sqf, forE, lThen, enS, rd, e2, rsE, PD.tThen, msgI, rdw, hd, outR]
theorem struck_hit {es : List Ent} {day : Int} {n : Nat} {e : Ent} (hn : es[n]? = some e) (hh : e.hit day = true) (h : ∀ i f, i < n → es[i]? = some f → f.hit day = false) (hl : es.length ≤ 4000) :
    f_struck [hist es, .int day] = .rt (hist (es.take n ++ [e.mark] ++ es.drop (n + 1))) := by
  obtain ⟨v, rfl⟩ := Ent.hit_day hh
  have hlt : n < es.length := (List.getElem?_eq_some_iff.mp hn).1
  have big : (datL es).length ≤ 4000 := by rw [List.length_map]; exact hl
  have last : lb_struck_1 [.val (hist es), .val (.int day), .val (.int n), .val (Ent.read day v false).dat, .no] = .rt (hist (es.take n ++ [(Ent.read day v false).mark] ++ es.drop (n + 1))) := by
    obtain ⟨b, hb, q⟩ := standing_run (.read day v false)
    have q2 := q day
    rw [hh] at q2
    have hb' : b = true := by
      cases b with
      | true => rfl
      | false => simp at q2
    subst hb'
    have a1 := (Ent.read day v false).at1
    have a2 := (Ent.read day v false).at2
    have c1 : cutD (datL es) none (some (n : Int)) = (datL es).take n := cut_to _ (by rw [List.length_map]; omega)
    have c2 : cutD (datL es) (some ((n : Int) + 1)) none = (datL es).drop (n + 1) := by
      have z := cut_from (datL es) (n := n + 1) (by rw [List.length_map]; omega)
      simpa using z
    have l1 : ((datL es).take n).length + 1 ≤ 16777216 := by
      rw [List.length_take]
      omega
    have l2 : ((datL es).take n).length + 1 + ((datL es).drop (n + 1)).length ≤ 16777216 := by
      rw [List.length_take, List.length_drop]
      omega
    generalize hA : (datL es).take n = A at c1 l1 l2
    generalize hB : (datL es).drop (n + 1) = B at c2 l2
    have goal : hist (es.take n ++ [(Ent.read day v false).mark] ++ es.drop (n + 1)) = .tuple (A ++ [.tuple [.str sRead, .int day, .int v, .bool true]] ++ B) := by
      rw [← hA, ← hB]
      simp [hist, datL, Ent.mark, Ent.dat, List.map_take, List.map_drop]
    rw [goal]
    simp only [Ent.day, Ent.two] at a1 a2
    generalize (Ent.read day v false).dat = z at hb a1 a2
    show lb_struck_1 [.val (.tuple (datL es)), .val (.int day), .val (.int n), .val z, .no] = _
    generalize datL es = Z at c1 c2
    simp [lb_struck_1, sqf, sIf, PD.tThen, andT, thn1, bin2, rd, rdw, callE, consA, outR, hb, tru, a1, a2, asB, setE, vThen, tupA, retE, cut3, optI, asI, qCut, c1, c2, pAdd, l1, Nat.add_assoc]
    rw [if_pos (by simpa [Nat.add_assoc] using l2)]
    try simp
  have run := forD_hit (asg := aTup [2, 3]) (f := lb_struck_1) (enumD (datL es)) [.val (hist es), .val (.int day), .no, .no, .no]
    (fun i r => ∃ x2 x3, r = [.val (hist es), .val (.int day), x2, x3, .no]) 0 n (.tuple [.int (n : Nat), (Ent.read day v false).dat]) (.rt (hist (es.take n ++ [(Ent.read day v false).mark] ++ es.drop (n + 1)))) (by rfl)
    (by rw [enumD_get, datL_get, hn]; rfl) ⟨_, _, rfl⟩ (by
      rintro i d r hi hd ⟨x2, x3, rfl⟩
      rw [enumD_get, datL_get] at hd
      cases he : es[i]? with
      | none => rw [he] at hd; cases hd
      | some e =>
        rw [he] at hd
        cases hd
        exact ⟨_, _, rfl, .inl (turn_struck (S := hist es) (x2 := x2) (x3 := x3) (x4 := .no) e (h i e hi he)), _, _, rfl⟩) (by
      rintro r ⟨x2, x3, rfl⟩
      exact ⟨_, rfl, last⟩)
  simp [f_struck, b_struck, fnD, sqf, forE, lThen, enS, rd, run]
theorem known_run {d z w m : Int} {es : List Ent} (hm : 0 ≤ m ∧ m ≤ 1000000000000) (r : Rest (d, z, w) es) (hl : es.length < 9000) :
    f_known_to [hist (.start d z w :: es), .int m] = .rt (.int (endS m (d, z, w) es).1) := by
  have p := points_run hm r hl
  obtain ⟨k, f, q1, q2, q3⟩ := last_place (full := .start d z w :: es) (m := m) es [.start d z w] (d, z, w) 0 (.start d z w) rfl rfl rfl
  have i1 := natD_last q1
  have i2 : qIx (hist (.start d z w :: es)) (.int ((k : Nat) : Int)) = .ok f.dat := qIx_at rfl (by rw [atI_cast, datL_get, q2]; rfl)
  have i3 := f.at1
  rw [q3] at i3
  have tr : tru (.list (natD (0 :: plc m 1 (d, z, w) es))) = .ok true := rfl
  change qIx (.list (natD (0 :: plc m 1 (d, z, w) es))) _ = _ at i1
  clear q1 q2 q3
  generalize hist (.start d z w :: es) = A at *
  generalize PyData.list (natD (0 :: plc m 1 (d, z, w) es)) = B at *
  simp [f_known_to, b_known_to, fnD, sqf, setE, vThen, callE, consA, rd, p, outR, retE, ifV, thn1, rdw, tr, bin2, then1, negI, i1, i2, i3]
theorem known_nil {m : D} : f_known_to [hist [], m] = .rt (.int 0) := by
  have p := points_nil (m := m)
  have tr : tru (.list (natD [])) = .ok false := rfl
  generalize hist [] = A at *
  generalize PyData.list (natD []) = B at *
  simp [f_known_to, b_known_to, fnD, sqf, setE, vThen, callE, consA, rd, p, outR, retE, ifV, thn1, rdw, tr]
theorem sumG_owed {H M : D} {x3 : Sl} {ts : List Tar} {gs : List St3} {lo : Int} (n : Nat) (hk : ∀ t ∈ ts, t.ok) :
    sumG (enL (rd 5)) (aTup [6, 7]) (callE (consA (callE (consA (rd 2) (consA (bin2 pAdd (rdw 4) (rdw 6)) (fun _ => .ok []))) f_tariff_on) (consA (rd 7) (fun _ => .ok []))) f_cost) [6, 7]
      [.val H, .val M, .val (.tuple (tarsD ts)), x3, .val (.int lo), .val (.list (useL gs lo n)), .no, .no] = .ok (.int (sumC ts gs lo n)) := by
  have c := compD_each (asg := aTup [6, 7]) (G := fun _ => .ok true) (F := callE (consA (callE (consA (rd 2) (consA (bin2 pAdd (rdw 4) (rdw 6)) (fun _ => .ok []))) f_tariff_on) (consA (rd 7) (fun _ => .ok []))) f_cost)
    (r := wipeR [.val H, .val M, .val (.tuple (tarsD ts)), x3, .val (.int lo), .val (.list (useL gs lo n)), .no, .no] [6, 7]) (enumD (useL gs lo n)) (costL ts gs lo n) (by simp [enumD, useL, costL]) (by
      intro i d z h1 h2
      rw [enumU_get] at h1
      rw [costL_get] at h2
      by_cases hi : i < n
      · rw [if_pos hi] at h1 h2
        cases h1
        cases h2
        refine ⟨[(6, .int (i : Nat)), (7, .int (useAt gs 0 (lo + (i : Nat))))], rfl, rfl, ?_⟩
        have a := tariff_run ts (lo + (i : Nat))
        have b := cost_run (o := tarOn ts none (lo + (i : Nat))) (fun t ht => (tarOn_mem ts none ht).elim (hk t) fun z => by cases z) (useAt gs 0 (lo + (i : Nat)))
        have e : dayC ts gs (lo + (i : Nat)) = costOf (tarOn ts none (lo + (i : Nat))) (useAt gs 0 (lo + (i : Nat))) := rfl
        rw [e]
        generalize costOf (tarOn ts none (lo + (i : Nat))) (useAt gs 0 (lo + (i : Nat))) = C at *
        generalize tarO (tarOn ts none (lo + (i : Nat))) = O at *
        generalize useAt gs 0 (lo + (i : Nat)) = u at *
        generalize useL gs lo n = U
        generalize tarsD ts = T at *
        generalize ((i : Nat) : Int) = k at *
        simp [wipeR, setsD, callE, consA, rd, rdw, bin2, pAdd, a, b, outR]
      · rw [if_neg hi] at h1
        cases h1)
  have s := sum_costL ts gs lo n
  unfold sumG genE
  have e : enL (rd 5) [.val H, .val M, .val (.tuple (tarsD ts)), x3, .val (.int lo), .val (.list (useL gs lo n)), .no, .no] = .ok (enumD (useL gs lo n)) := rfl
  rw [e, bind_ok, c]
  exact s
theorem owed_run {H M : D} {E : D} {rest : List D} {ts : List Tar} {gs : List St3} {lo day : Int} (hH : H = .tuple (E :: rest)) (hE : qIx E (.int 1) = .ok (.int lo)) (hu : f_uses [H, M, .int lo, .int day] = .rt (.list (useL gs lo (day - lo).toNat))) (hk : ∀ t ∈ ts, t.ok) :
    f_owed [H, M, .tuple (tarsD ts), .int day] = .rt (.int (sumC ts gs lo (day - lo).toNat)) := by
  have tr : tru H = .ok true := by rw [hH]; rfl
  have i0 : qIx H (.int 0) = .ok E := by rw [hH]; exact qIx_at rfl (by rw [atI_0]; rfl)
  have g := sumG_owed (H := H) (M := M) (x3 := .val (.int day)) (ts := ts) (gs := gs) (lo := lo) (day - lo).toNat hk
  clear hH
  generalize useL gs lo (day - lo).toNat = U at *
  generalize sumC ts gs lo (day - lo).toNat = C at *
  generalize tarsD ts = T at *
  simp [f_owed, b_owed, r_owed_1, r_owed_2, r_owed_3, fnD, sqf, sIf, PD.tThen, notT, thn1, rd, rdw, tr, setE, vThen, bin2, i0, hE, callE, consA, hu, outR, retE, g]
theorem owed_none {M T Y : D} : f_owed [.tuple [], M, T, Y] = .ex 1 [.val (.tuple []), .val M, .val T, .val Y, .no, .no, .no, .no] := by
  simp [f_owed, b_owed, fnD, sqf, sIf, PD.tThen, notT, thn1, rdw, tru]
theorem billed_run (bs : List Bil) : f_billed [.tuple (billsD bs)] = .rt (.int (sumB bs)) := by
  have c := compD_each (asg := aName 1) (G := fun _ => .ok true) (F := bin2 qIx (rdw 1) (fun _ => .ok (.int 1))) (r := wipeR [.val (.tuple (billsD bs)), .no] [1]) (billsD bs) ((bs.map fun b => b.2).map PyData.int) (by simp [billsD]) (by
    intro i d z h1 h2
    simp only [billsD, List.getElem?_map] at h1 h2
    cases hb : bs[i]? with
    | none => rw [hb] at h1; cases h1
    | some b =>
      rw [hb] at h1 h2
      cases h1
      cases h2
      refine ⟨[(1, billD b)], rfl, rfl, ?_⟩
      have b1 := bill_1 b
      generalize billD b = B at *
      simp [wipeR, setsD, bin2, rdw, b1])
  have s := bSum_ints (bs.map fun b => b.2)
  have g : sumG (asS (rd 0)) (aName 1) (bin2 qIx (rdw 1) (fun _ => .ok (.int 1))) [1] [.val (.tuple (billsD bs)), .no] = .ok (.int (sumB bs)) := by
    unfold sumG genE
    have e : asS (rd 0) [.val (.tuple (billsD bs)), .no] = .ok (billsD bs) := rfl
    rw [e, bind_ok, c]
    exact s
  generalize billsD bs = B at *
  generalize sumB bs = S at *
  simp [f_billed, b_billed, fnD, sqf, retE, vThen, g]
theorem with_bill_run {H M T : D} {bs : List Bil} {day due : Int} (o : f_owed [H, M, T, .int day] = .rt (.int due)) (hd : 0 ≤ day ∧ day ≤ 2 ^ 60) (hl : -(2 ^ 60) ≤ lastB bs ∧ lastB bs ≤ 2 ^ 60) (hn : bs.length < 10000) :
    outR (f_with_bill [H, M, T, .tuple (billsD bs), .int day]) = if day < lastB bs then .ex 3 else .ok (.tuple (billsD (bs ++ [(day, due - sumB bs)]))) := by
  have bl := billed_run bs
  have s1 : day.natAbs.log2 < 1920 := log_small (by omega)
  have s2 : (lastB bs).natAbs.log2 < 1920 := log_small (by omega)
  have ad : pAdd (.tuple (billsD bs)) (.tuple [.tuple [.int day, .int (due - sumB bs)]]) = .ok (.tuple (billsD (bs ++ [(day, due - sumB bs)]))) := by
    show (if (billsD bs).length + 1 ≤ 16777216 then Res.ok (PyData.tuple (billsD bs ++ [PyData.tuple [.int day, .int (due - sumB bs)]])) else .no) = _
    rw [if_pos (by simp [billsD]; omega)]
    simp [billsD, billD]
  rcases List.eq_nil_or_concat bs with rfl | ⟨cs, b, hcs⟩
  · have tr : tru (.tuple (billsD [])) = .ok false := rfl
    have h : ¬ day < lastB [] := by show ¬ day < 0; omega
    rw [if_neg h]
    generalize billsD ([] ++ [(day, due - sumB [])]) = B2 at *
    generalize billsD [] = B at *
    generalize sumB [] = S at *
    simp [f_with_bill, b_with_bill, fnD, sqf, setE, vThen, callE, consA, rd, rdw, o, outR, sIf, PD.tThen, andT, thn1, tr, retE, bin2, tupA, iSub, bl, ad]
  · rw [List.concat_eq_append] at hcs
    subst hcs
    have tr : tru (.tuple (billsD (cs ++ [b]))) = .ok true := by
      unfold billsD
      rw [List.map_append]
      cases cs <;> rfl
    have hlb := lastB_app cs b
    have ix : qIx (.tuple (billsD (cs ++ [b]))) (.int (-1)) = .ok (billD b) := qIx_at rfl (by rw [atI_m1]; simp [billsD])
    have b0 := bill_0 b
    rw [hlb] at s2 ⊢
    generalize billsD (cs ++ [b] ++ [(day, due - sumB (cs ++ [b]))]) = B2 at *
    generalize billsD (cs ++ [b]) = B at *
    generalize sumB (cs ++ [b]) = S at *
    generalize billD b = bd at *
    by_cases h : day < b.1
    · simp [f_with_bill, b_with_bill, fnD, sqf, setE, vThen, callE, consA, rd, rdw, o, outR, sIf, PD.tThen, andT, thn1, then1, negI, iCmp, asB, tr, bin2, ix, b0, h, rsE, msgI, s1, s2]
    · simp [f_with_bill, b_with_bill, fnD, sqf, setE, vThen, callE, consA, rd, rdw, o, outR, sIf, PD.tThen, andT, thn1, then1, negI, iCmp, asB, tr, bin2, ix, b0, h, retE, tupA, iSub, bl, ad]
theorem with_bill_none {M T B Y : D} : outR (f_with_bill [.tuple [], M, T, B, Y]) = .ex 1 := by
  have o := owed_none (M := M) (T := T) (Y := Y)
  simp [f_with_bill, b_with_bill, fnD, sqf, setE, vThen, callE, consA, rd, o, outR]
theorem any_run (ts : List Tar) (T : D) (day : Int) : anyG (asS (rd 0)) (aName 3) (bin2 qEq (bin2 qIx (rdw 3) (fun _ => .ok (.int 0))) (rdw 2)) [3] [.val (.tuple (tarsD ts)), .val T, .val (.int day), .no] = .ok (.bool (ts.any fun u => decide (u.day = day))) := by
  have c := compD_each (asg := aName 3) (G := fun _ => .ok true) (F := bin2 qEq (bin2 qIx (rdw 3) (fun _ => .ok (.int 0))) (rdw 2)) (r := wipeR [.val (.tuple (tarsD ts)), .val T, .val (.int day), .no] [3]) (tarsD ts) ((ts.map fun u => decide (u.day = day)).map PyData.bool) (by simp [tarsD]) (by
    intro i d z h1 h2
    simp only [tarsD, List.getElem?_map] at h1 h2
    cases hb : ts[i]? with
    | none => rw [hb] at h1; cases h1
    | some u =>
      rw [hb] at h1 h2
      cases h1
      cases h2
      refine ⟨[(3, u.dat)], rfl, rfl, ?_⟩
      have t0 := tar_0 u
      have e := eq_int u.day day
      show (bin2 qEq (bin2 qIx (rdw 3) (fun _ => .ok (.int 0))) (rdw 2)) _ = Res.ok (PyData.bool (decide (u.day = day)))
      generalize decide (u.day = day) = b at *
      generalize u.dat = U at *
      simp [wipeR, setsD, bin2, rdw, t0, e])
  unfold anyG genE
  have e : asS (rd 0) [.val (.tuple (tarsD ts)), .val T, .val (.int day), .no] = .ok (tarsD ts) := rfl
  rw [e, bind_ok, c, quiet_ok, bind_ok, boolsOf_map]
  simp only [List.any_map]
  rfl
theorem with_run {ts : List Tar} {t : Tar} (hd : -(2 ^ 60) ≤ t.day ∧ t.day ≤ 2 ^ 60) (hl : ts.length < 10000) :
    outR (f_with_tariff [.tuple (tarsD ts), t.dat]) = if (ts.any fun u => decide (u.day = t.day)) = true then .ex 2 else .ok (.tuple (tarsD (tarSort (ts ++ [t])))) := by
  have a := any_run ts t.dat t.day
  have t0 := tar_0 t
  have s1 : t.day.natAbs.log2 < 1920 := log_small hd
  have ad : pAdd (.tuple (tarsD ts)) (.tuple [t.dat]) = .ok (.tuple (tarsD (ts ++ [t]))) := by
    show (if (tarsD ts).length + 1 ≤ 16777216 then Res.ok (PyData.tuple (tarsD ts ++ [t.dat])) else .no) = _
    rw [if_pos (by simp [tarsD]; omega)]
    simp [tarsD]
  have so : bSortF (.tuple (tarsD (ts ++ [t]))) = .ok (.list (tarsD (tarSort (ts ++ [t])))) := by
    unfold bSortF
    simp only
    rw [if_pos ⟨tars_rows _, by simp [tarsD]; omega⟩, sortF_tars]
  by_cases h : (ts.any fun u => decide (u.day = t.day)) = true
  · rw [if_pos h]
    rw [h] at a
    generalize PyData.tuple (tarsD ts) = A at *
    generalize t.dat = T at *
    simp [f_with_tariff, b_with_tariff, fnD, sqf, setE, vThen, bin2, rdw, t0, sIf, PD.tThen, thn1, a, tru, rsE, msgI, s1]
  · rw [if_neg h]
    have h' : (ts.any fun u => decide (u.day = t.day)) = false := by simpa using h
    rw [h'] at a
    generalize hB : PyData.tuple (tarsD (ts ++ [t])) = B at *
    generalize tarsD (tarSort (ts ++ [t])) = C at *
    generalize PyData.tuple (tarsD ts) = A at *
    generalize t.dat = T at *
    simp [f_with_tariff, b_with_tariff, fnD, sqf, setE, vThen, bin2, rd, rdw, t0, sIf, PD.tThen, thn1, then1, a, tru, retE, tupA, consA, ad, so, bTuple]
end K11

namespace K11
open PySem PySem.Spec PyProof.Rows L2 PD
theorem answer_ok {M S Q R : D} (h : outR (f_do_deed [M, S, Q]) = .ok R) : f_answer_to [M, S, Q] = .rt R := by
  simp [f_answer_to, b_answer_to, fnD, sqf, tryM, retE, vThen, callE, consA, rd, h]
theorem answer_nm {M S Q : D} (h : outR (f_do_deed [M, S, Q]) = .ex 1) : f_answer_to [M, S, Q] = .rt (.tuple [.str sNoMeter, S]) := by
  have s1 : subC 1 1 = true := by decide
  have x : (sqf (retE (callE (consA (rd 0) (consA (rd 1) (consA (rd 2) (fun _ => .ok [])))) f_do_deed)) .nx) [.val M, .val S, .val Q] = .ex 1 [.val M, .val S, .val Q] := by
    simp [sqf, retE, vThen, callE, consA, rd, h]
  simp [f_answer_to, b_answer_to, fnD, sqf, tryM, pickM, retE, vThen, callE, consA, rd, h, s1, tupA, Out.flat]
theorem deed_tar {m : Int} {s : PSt} {t : Tar} {ts' : List Tar} (h : outR (f_with_tariff [.tuple (tarsD s.ts), t.dat]) = .ok (.tuple (tarsD ts'))) : f_answer_to [.int m, s.dat, t.deed] = .rt (.tuple [.str sDone, (PSt.mk s.es ts' s.bs).dat]) := by
  refine answer_ok ?_
  have n1 : ¬ sTariff = sStart := by decide +kernel
  have n2 : ¬ sTariff = sRead := by decide +kernel
  have n3 : ¬ sTariff = sChange := by decide +kernel
  have n4 : ¬ sTariff = sStrike := by decide +kernel
  have e : t.dat = .tuple [.int t.day, .int t.st, .int t.low, .int t.lim, .int t.high] := rfl
  rw [e] at h
  have ag : aTup [3, 4, 5] s.dat = some [(3, hist s.es), (4, .tuple (tarsD s.ts)), (5, .tuple (billsD s.bs))] := rfl
  have e2 : (PSt.mk s.es ts' s.bs).dat = .tuple [hist s.es, .tuple (tarsD ts'), .tuple (billsD s.bs)] := rfl
  rw [e2]
  unfold Tar.deed
  generalize s.dat = S at *
  generalize hist s.es = A at *
  generalize PyData.tuple (tarsD s.ts) = T at *
  generalize PyData.tuple (tarsD ts') = T' at *
  generalize PyData.tuple (billsD s.bs) = B at *
  simp [f_do_deed, b_do_deed, mc1_do_deed_4, fnD, sqf, sAsg, vThen, rd, ag, setsD, sMatch, mCases, mtD, n1, n2, n3, n4, setE, tupA, consA, retE, callE, h]
theorem deed_start {m : Int} {s : PSt} {d z w : Int} (h : outR (f_begun [hist s.es, .int d, .int z, .int w]) = .ok (hist [.start d z w])) : f_answer_to [.int m, s.dat, (Ent.start d z w).deed] = .rt (.tuple [.str sDone, (PSt.mk [.start d z w] s.ts s.bs).dat]) := by
  refine answer_ok ?_
  have ag : aTup [3, 4, 5] s.dat = some [(3, hist s.es), (4, .tuple (tarsD s.ts)), (5, .tuple (billsD s.bs))] := rfl
  have e2 : (PSt.mk [.start d z w] s.ts s.bs).dat = .tuple [hist [.start d z w], .tuple (tarsD s.ts), .tuple (billsD s.bs)] := rfl
  rw [e2]
  unfold Ent.deed
  generalize hist [.start d z w] = A' at *
  generalize s.dat = S at *
  generalize hist s.es = A at *
  generalize PyData.tuple (tarsD s.ts) = T at *
  generalize PyData.tuple (billsD s.bs) = B at *
  simp [f_do_deed, b_do_deed, mc1_do_deed_0, fnD, sqf, sAsg, vThen, rd, ag, setsD, sMatch, mCases, mtD, tupA, consA, retE, callE, h]
theorem deed_read {m : Int} {s : PSt} {d v k : Int} {x : Bool} (h : outR (f_read_on [hist s.es, .int d, .int v]) = .ok (hist (s.es ++ [.read d v false]))) (hk : f_known_to [hist (s.es ++ [.read d v false]), .int m] = .rt (.int k)) :
    ∃ a, (a = sCounts ∨ a = sDoubted) ∧ f_answer_to [.int m, s.dat, (Ent.read d v x).deed] = .rt (.tuple [.str a, (PSt.mk (s.es ++ [.read d v false]) s.ts s.bs).dat]) := by
  have n1 : ¬ sRead = sStart := by decide +kernel
  have ag : aTup [3, 4, 5] s.dat = some [(3, hist s.es), (4, .tuple (tarsD s.ts)), (5, .tuple (billsD s.bs))] := rfl
  have e2 : (PSt.mk (s.es ++ [.read d v false]) s.ts s.bs).dat = .tuple [hist (s.es ++ [.read d v false]), .tuple (tarsD s.ts), .tuple (billsD s.bs)] := rfl
  rw [e2]
  have q := eq_int k d
  refine ⟨if k = d then sCounts else sDoubted, by split <;> simp, answer_ok ?_⟩
  unfold Ent.deed
  generalize hist (s.es ++ [.read d v false]) = A' at *
  generalize s.dat = S at *
  generalize hist s.es = A at *
  generalize PyData.tuple (tarsD s.ts) = T at *
  generalize PyData.tuple (billsD s.bs) = B at *
  by_cases e : k = d
  · simp [f_do_deed, b_do_deed, mc1_do_deed_1, fnD, sqf, sAsg, vThen, rd, rdw, ag, setsD, sMatch, mCases, mtD, n1, setE, tupA, consA, retE, callE, h, hk, ifV, thn1, bin2, q, e, asB]
  · simp [f_do_deed, b_do_deed, mc1_do_deed_1, fnD, sqf, sAsg, vThen, rd, rdw, ag, setsD, sMatch, mCases, mtD, n1, setE, tupA, consA, retE, callE, h, hk, ifV, thn1, bin2, q, e, asB]
theorem deed_change {m : Int} {s : PSt} {d v z w : Int} (h : outR (f_changed_on [hist s.es, .int d, .int v, .int z, .int w]) = .ok (hist (s.es ++ [.change d v z w]))) :
    f_answer_to [.int m, s.dat, (Ent.change d v z w).deed] = .rt (.tuple [.str sDone, (PSt.mk (s.es ++ [.change d v z w]) s.ts s.bs).dat]) := by
  refine answer_ok ?_
  have n1 : ¬ sChange = sStart := by decide +kernel
  have n2 : ¬ sChange = sRead := by decide +kernel
  have ag : aTup [3, 4, 5] s.dat = some [(3, hist s.es), (4, .tuple (tarsD s.ts)), (5, .tuple (billsD s.bs))] := rfl
  have e2 : (PSt.mk (s.es ++ [.change d v z w]) s.ts s.bs).dat = .tuple [hist (s.es ++ [.change d v z w]), .tuple (tarsD s.ts), .tuple (billsD s.bs)] := rfl
  rw [e2]
  unfold Ent.deed
  generalize hist (s.es ++ [.change d v z w]) = A' at *
  generalize s.dat = S at *
  generalize hist s.es = A at *
  generalize PyData.tuple (tarsD s.ts) = T at *
  generalize PyData.tuple (billsD s.bs) = B at *
  simp [f_do_deed, b_do_deed, mc1_do_deed_2, fnD, sqf, sAsg, vThen, rd, ag, setsD, sMatch, mCases, mtD, n1, n2, tupA, consA, retE, callE, h]
theorem deed_strike {m : Int} {s : PSt} {d : Int} {es' : List Ent} (h : f_struck [hist s.es, .int d] = .rt (hist es')) :
    f_answer_to [.int m, s.dat, strikeDeed d] = .rt (.tuple [.str sDone, (PSt.mk es' s.ts s.bs).dat]) := by
  refine answer_ok ?_
  have ag : aTup [3, 4, 5] s.dat = some [(3, hist s.es), (4, .tuple (tarsD s.ts)), (5, .tuple (billsD s.bs))] := rfl
  have e2 : (PSt.mk es' s.ts s.bs).dat = .tuple [hist es', .tuple (tarsD s.ts), .tuple (billsD s.bs)] := rfl
  rw [e2]
  unfold strikeDeed
  generalize hist es' = A' at *
  generalize s.dat = S at *
  generalize hist s.es = A at *
  generalize PyData.tuple (tarsD s.ts) = T at *
  generalize PyData.tuple (billsD s.bs) = B at *
  simp [f_do_deed, b_do_deed, mc1_do_deed_3, fnD, sqf, sAsg, vThen, rd, ag, setsD, sMatch, mCases, mtD, tupA, consA, retE, callE, h]
theorem deed_bill {m : Int} {s : PSt} {d am : Int} (h : outR (f_with_bill [hist s.es, .int m, .tuple (tarsD s.ts), .tuple (billsD s.bs), .int d]) = .ok (.tuple (billsD (s.bs ++ [(d, am)])))) :
    f_answer_to [.int m, s.dat, billDeed d] = .rt (.tuple [.int am, (PSt.mk s.es s.ts (s.bs ++ [(d, am)])).dat]) := by
  refine answer_ok ?_
  have n1 : ¬ sBill = sStrike := by decide +kernel
  have ag : aTup [3, 4, 5] s.dat = some [(3, hist s.es), (4, .tuple (tarsD s.ts)), (5, .tuple (billsD s.bs))] := rfl
  have e2 : (PSt.mk s.es s.ts (s.bs ++ [(d, am)])).dat = .tuple [hist s.es, .tuple (tarsD s.ts), .tuple (billsD (s.bs ++ [(d, am)]))] := rfl
  rw [e2]
  have i1 : qIx (.tuple (billsD (s.bs ++ [(d, am)]))) (.int (-1)) = .ok (billD (d, am)) := qIx_at rfl (by rw [atI_m1]; simp [billsD])
  have b1 : qIx (billD (d, am)) (.int 1) = .ok (.int am) := bill_1 (d, am)
  unfold billDeed
  generalize PyData.tuple (billsD (s.bs ++ [(d, am)])) = B' at *
  generalize billD (d, am) = bd at *
  generalize s.dat = S at *
  generalize hist s.es = A at *
  generalize PyData.tuple (tarsD s.ts) = T at *
  generalize PyData.tuple (billsD s.bs) = B at *
  simp [f_do_deed, b_do_deed, mc1_do_deed_5, fnD, sqf, sAsg, vThen, rd, rdw, ag, setsD, sMatch, mCases, mtD, n1, setE, tupA, consA, retE, callE, h, bin2, then1, negI, i1, b1]
theorem deed_nobill {m : Int} {s : PSt} {d : Int} (h : outR (f_with_bill [hist s.es, .int m, .tuple (tarsD s.ts), .tuple (billsD s.bs), .int d]) = .ex 1) :
    f_answer_to [.int m, s.dat, billDeed d] = .rt (.tuple [.str sNoMeter, s.dat]) := by
  refine answer_nm ?_
  have n1 : ¬ sBill = sStrike := by decide +kernel
  have ag : aTup [3, 4, 5] s.dat = some [(3, hist s.es), (4, .tuple (tarsD s.ts)), (5, .tuple (billsD s.bs))] := rfl
  unfold billDeed
  generalize s.dat = S at *
  generalize hist s.es = A at *
  generalize PyData.tuple (tarsD s.ts) = T at *
  generalize PyData.tuple (billsD s.bs) = B at *
  simp [f_do_deed, b_do_deed, mc1_do_deed_5, fnD, sqf, sAsg, vThen, rd, rdw, ag, setsD, sMatch, mCases, mtD, n1, setE, tupA, consA, callE, h]
end K11

namespace K11
open PySem PySem.Spec PyProof.Rows L2 PD
theorem ne_str {a b : Str} (ha : PyData.strOk a = true) (hb : PyData.strOk b = true) : qNe (.str a) (.str b) = .ok (.bool (!(a == b))) := by
  rw [qNe_lay (lay_str (n := 0) ha) (lay_str (n := 0) hb)]
  rfl
theorem lawcost_loop {A : D} {day u : Int} : ∀ (ts : List Tar) (f : Option Tar) (x4 : Sl), (∀ t ∈ ts, t.ok) → ∃ y4, forD (aName 4) lb__law_cost_1 (tarsD ts) [.val A, .val (.int day), .val (.int u), .val (.int (costOf f u)), x4] = .nx [.val A, .val (.int day), .val (.int u), .val (.int (costOf (tarOn ts f day) u)), y4]
  | [], f, x4, _ => ⟨x4, forD_nil⟩
  | t :: ts, f, x4, hk => by
    have k := hk t List.mem_cons_self
    obtain ⟨y, q⟩ := lawcost_loop (A := A) (day := day) (u := u) ts (if t.day ≤ day then some t else f) (.val t.dat) fun t h => hk t (List.mem_cons_of_mem _ h)
    refine ⟨y, (forD_nx (ps := [(4, t.dat)]) (r2 := [.val A, .val (.int day), .val (.int u), .val (.int (costOf (if t.day ≤ day then some t else f) u)), .val t.dat]) rfl ?_).trans q⟩
    have t0 := tar_0 t
    have t1 := tar_1 t
    have t2 := tar_2 t
    have t3 := tar_3 t
    have t4 := tar_4 t
    have m1 : ∀ j, iMul (.int t.low) (.int j) = .ok (.int (t.low * j)) := fun j => iMul_l (by have := k.l; omega)
    have m2 : ∀ j, iMul (.int t.high) (.int j) = .ok (.int (t.high * j)) := fun j => iMul_l (by have := k.h; omega)
    clear q
    by_cases h : t.day ≤ day
    · rw [if_pos h]
      have e : costOf (some t) u = t.st + t.low * (if t.lim < u then t.lim else u) + t.high * (if u - t.lim > 0 then u - t.lim else 0) := by
        show t.st + t.low * (if t.lim < u then t.lim else u) + t.high * (u - (if t.lim < u then t.lim else u)) = _
        by_cases z : t.lim < u
        · rw [if_pos z, if_pos (by omega)]
        · rw [if_neg z, if_neg (by omega), Int.sub_self]
      rw [e]
      generalize costOf f u = c at *
      generalize t.dat = T at *
      simp [setsD, lb__law_cost_1, sqf, sIf, PD.tThen, thn1, bin2, rd, rdw, t0, t1, t2, t3, t4, iCmp, h, asB, setE, vThen, bMin, bMax, iSub, m1, m2, pAdd]
    · rw [if_neg h]
      generalize costOf f u = c at *
      generalize t.dat = T at *
      simp [setsD, lb__law_cost_1, sqf, sIf, PD.tThen, thn1, bin2, rd, rdw, t0, iCmp, h, asB]
abbrev sThere : Str := PySem.Str.ofString "there already"
abbrev sLater : Str := PySem.Str.ofString "not later"
abbrev sNoVal : Str := PySem.Str.ofString "no value"
abbrev sNoRead : Str := PySem.Str.ofString "no reading"
abbrev sUse : Str := PySem.Str.ofString "use"
abbrev sOwed : Str := PySem.Str.ofString "owed"
theorem lawcost_sorted {ts : List Tar} (hk : ∀ t ∈ ts, t.ok) (n : (ts.map Tar.day).Nodup) (day u : Int) : f__law_cost [.list (tarsD ts), .int day, .int u] = .rt (.int (costOf (tarOn (tarSort ts) none day) u)) := by
  obtain ⟨y, q⟩ := lawcost_loop (A := .list (tarsD ts)) (day := day) (u := u) (tarSort ts) none .no (tarSort_ok hk)
  have so : bSortT (.list (tarsD ts)) = .ok (.list (tarsD (tarSort ts))) := by
    unfold bSortT
    simp only
    rw [if_pos (tars_ints ts), sortT_tars n]
  generalize costOf (tarOn (tarSort ts) none day) u = O at *
  generalize tarsD (tarSort ts) = T2 at *
  generalize tarsD ts = T at *
  have e : costOf none u = 0 := rfl
  rw [e] at q
  simp [f__law_cost, b__law_cost, fnD, sqf, setE, vThen, forE, lThen, asS, items, rd, rdw, then1, so, q, retE]
theorem lawowed_sorted {H : D} {E : D} {rest : List D} {ts : List Tar} {gs : List St3} {lo c day : Int} (hH : H = .tuple (E :: rest)) (hE : qIx E (.int 1) = .ok (.int lo)) (cc : Chn c gs) (hk : ∀ t ∈ ts, t.ok) (n : (ts.map Tar.day).Nodup) (hb : -4000000 ≤ lo ∧ lo ≤ 4000000 ∧ -4000000 ≤ day ∧ day ≤ 4000000) :
    f__law_owed [H, .list (gapD gs), .list (tarsD ts), .int day] = .rt (.int (sumC (tarSort ts) gs lo (day - lo).toNat)) := by
  have i0 : qIx H (.int 0) = .ok E := by rw [hH]; exact qIx_at rfl (by rw [atI_0]; rfl)
  clear hH
  have g := rg2_ok (ga := bin2 qIx (bin2 qIx (rdw 0) (fun _ => .ok (.int 0))) (fun _ => .ok (.int 1))) (gb := rdw 3) (i := lo) (j := day) hb [.val H, .val (.list (gapD gs)), .val (.list (tarsD ts)), .val (.int day), .val (.int 0), .no] (by simp [bin2, rdw, i0, hE]) rfl
  generalize (day - lo).toNat = N at *
  obtain ⟨r2, e2, x5, rfl⟩ := forD_rng (asg := aName 5) (f := lb__law_owed_1) lo N [.val H, .val (.list (gapD gs)), .val (.list (tarsD ts)), .val (.int day), .val (.int 0), .no]
    (fun i r => ∃ x5, r = [.val H, .val (.list (gapD gs)), .val (.list (tarsD ts)), .val (.int day), .val (.int (sumC (tarSort ts) gs lo i)), x5]) ⟨.no, rfl⟩ (by
      rintro i r hi ⟨x5, rfl⟩
      have u := lawuse_run (day := lo + (i : Nat)) cc
      have k := lawcost_sorted hk n (lo + (i : Nat)) (useAt gs 0 (lo + (i : Nat)))
      refine ⟨[(5, .int (lo + (i : Nat)))], [.val H, .val (.list (gapD gs)), .val (.list (tarsD ts)), .val (.int day), .val (.int (sumC (tarSort ts) gs lo (i + 1))), .val (.int (lo + (i : Nat)))], rfl, .inl ?_, _, rfl⟩
      have e : sumC (tarSort ts) gs lo (i + 1) = sumC (tarSort ts) gs lo i + costOf (tarOn (tarSort ts) none (lo + (i : Nat))) (useAt gs 0 (lo + (i : Nat))) := rfl
      rw [e]
      generalize costOf (tarOn (tarSort ts) none (lo + (i : Nat))) (useAt gs 0 (lo + (i : Nat))) = C at *
      generalize useAt gs 0 (lo + (i : Nat)) = U at *
      generalize gapD gs = G at *
      generalize tarsD ts = T at *
      generalize sumC (tarSort ts) gs lo i = S at *
      generalize lo + ((i : Nat) : Int) = y at *
      simp [setsD, lb__law_owed_1, sqf, setE, vThen, bin2, rd, rdw, callE, consA, u, k, outR, pAdd])
  generalize sumC (tarSort ts) gs lo N = C at *
  generalize gapD gs = G at *
  generalize tarsD ts = T at *
  simp [f__law_owed, b__law_owed, fnD, sqf, setE, vThen, forE, lThen, g, e2, retE, rd]
theorem lawowed_es {m d : Int} {es : List Ent} {ts : List Tar} (hs : Hst es) (hk : ∀ t ∈ ts, t.ok) (n : (ts.map Tar.day).Nodup) (hd : 0 ≤ d ∧ d ≤ 1000000) : f__law_owed [hist es, .list (gapD (gapsOf m es)), .list (tarsD ts), .int d] = .rt (.int (owes m es (tarSort ts) d)) := by
  obtain ⟨d0, z, w, r, rfl, hr, hd0, hn⟩ := hs
  have h0 := hr.day
  simp only at h0
  exact lawowed_sorted (lo := d0) rfl ((Ent.start d0 z w).at1) (gap_chn hr) hk n (by omega)
theorem lawacc_es {m : Int} {es : List Ent} (hm : 0 ≤ m ∧ m ≤ 1000000000000) (he : EOk es) : ∃ ps, f__law_account [hist es, .int m] = .rt (.tuple [.list (natD ps), .list (gapD (gapsOf m es))]) ∧ (∀ d z w r, es = .start d z w :: r → ps = 0 :: plc m 1 (d, z, w) r) := by
  rcases he with rfl | ⟨d0, z, w, r, rfl, hr, hd0, hn⟩
  · exact ⟨[], account_nil, fun d z w r e => by cases e⟩
  · exact ⟨_, account_run hm hr (by omega), fun d z w r e => by cases e; rfl⟩
/-! ### sizes and what is shown, as the law sees them -/
theorem sizenow_loop {A : D} : ∀ (es : List Ent) (c : Int) (x2 : Sl), ∃ y2, forD (aName 2) lb__law_size_now_1 (datL es) [.val A, .val (.int c), x2] = .nx [.val A, .val (.int (lastSize c es)), y2]
  | [], c, x2 => ⟨x2, forD_nil⟩
  | e :: es, c, x2 => by
    obtain ⟨y, q⟩ := sizenow_loop (A := A) es (e.size c) (.val e.dat)
    refine ⟨y, (forD_nx (ps := [(2, e.dat)]) (r2 := [.val A, .val (.int (e.size c)), .val e.dat]) rfl ?_).trans q⟩
    clear q
    have a0 := e.at0
    have nq := ne_str e.ok ok_read
    cases e with
    | start d s v =>
      have a2 : qIx (Ent.start d s v).dat (.int 2) = .ok (.int s) := by simp [Ent.dat, qIx, items]
      simp only [Ent.name] at a0 nq
      rw [ne_sr] at nq
      have e1 : Ent.size c (.start d s v) = s := rfl
      rw [e1]
      generalize (Ent.start d s v).dat = T at *
      simp [setsD, lb__law_size_now_1, sqf, sIf, PD.tThen, thn1, then1, bin2, rdw, a0, nq, asB, setE, vThen, q_sc, bInt, pAdd, a2]
    | read d v x =>
      simp only [Ent.name] at a0 nq
      have nq' : qNe (.str sRead) (.str sRead) = .ok (.bool false) := by rw [nq]; simp
      have e1 : Ent.size c (.read d v x) = c := rfl
      rw [e1]
      generalize (Ent.read d v x).dat = T at *
      simp [setsD, lb__law_size_now_1, sqf, sIf, PD.tThen, thn1, then1, bin2, rdw, a0, nq', asB]
    | change d y s v =>
      have a3 : qIx (Ent.change d y s v).dat (.int 3) = .ok (.int s) := by simp [Ent.dat, qIx, items]
      simp only [Ent.name] at a0 nq
      rw [ne_cr] at nq
      have e1 : Ent.size c (.change d y s v) = s := rfl
      rw [e1]
      generalize (Ent.change d y s v).dat = T at *
      simp [setsD, lb__law_size_now_1, sqf, sIf, PD.tThen, thn1, then1, bin2, rdw, a0, nq, asB, setE, vThen, q_cc, bInt, pAdd, a3]
theorem lawsize_run (es : List Ent) : f__law_size_now [hist es] = .rt (.int (lastSize 10 es)) := by
  obtain ⟨y, q⟩ := sizenow_loop (A := hist es) es 10 .no
  have s : asS (rd 0) [.val (hist es), .val (.int 10), .no] = .ok (datL es) := rfl
  generalize hist es = A at *
  simp [f__law_size_now, b__law_size_now, fnD, sqf, setE, vThen, forE, lThen, s, q, retE, rd]
theorem lastSize_ten {es : List Ent} (h : Hst es) : lastSize 10 es = lastSize 0 es := by
  obtain ⟨d, z, w, r, rfl, _⟩ := h
  rfl
def shownNow (es : List Ent) : Int := match es.getLast? with
  | some e => e.shown
  | none => 0
theorem ix_sr : bIndex (.list [.str sStart, .str sRead, .str sChange]) (.str sStart) = .ok (.int 0) := by
  simp [bIndex, flatD, List.findIdx?_cons]
theorem ix_rr : bIndex (.list [.str sStart, .str sRead, .str sChange]) (.str sRead) = .ok (.int 1) := by
  have e := ne_sr
  simp [bIndex, flatD, e, List.findIdx?_cons]
theorem ix_cr : bIndex (.list [.str sStart, .str sRead, .str sChange]) (.str sChange) = .ok (.int 2) := by
  have e := ne_sc
  have e2 := ne_rc
  simp [bIndex, flatD, e, e2, List.findIdx?_cons]
theorem shown_run {es : List Ent} (hl : es.length < 1000) : f__law_shown_now [hist es] = .rt (.int (shownNow es)) := by
  rcases List.eq_nil_or_concat es with rfl | ⟨cs, e, hcs⟩
  · have ln : bLen (hist []) = .ok (.int 0) := rfl
    have q := eq_int 0 0
    have e : shownNow [] = 0 := rfl
    rw [e]
    generalize hist [] = A at *
    simp [f__law_shown_now, b__law_shown_now, fnD, sqf, sIf, PD.tThen, thn1, then1, bin2, rdw, ln, q, asB, retE, vThen]
  · rw [List.concat_eq_append] at hcs
    have hg : es.getLast? = some e := by rw [hcs]; simp
    have ln : bLen (hist es) = .ok (.int ((es.length : Nat) : Int)) := by simp [bLen]
    have q := eq_int ((es.length : Nat) : Int) 0
    have h0 : ¬ ((es.length : Nat) : Int) = 0 := by rw [hcs]; simp; omega
    have ix := last_at hg
    have es' : shownNow es = e.shown := by unfold shownNow; rw [hg]
    rw [es']
    have a0 := e.at0
    clear es' hg hcs
    generalize hist es = A at *
    generalize ((es.length : Nat) : Int) = n at *
    cases e with
    | start d s v =>
      have a3 : qIx (Ent.start d s v).dat (.int 3) = .ok (.int v) := by simp [Ent.dat, qIx, items]
      have i0 : qIx (.list [.int 3, .int 2, .int 4]) (.int 0) = .ok (.int 3) := qIx_at rfl rfl
      simp only [Ent.name] at a0
      generalize (Ent.start d s v).dat = T at *
      simp [f__law_shown_now, b__law_shown_now, fnD, sqf, sIf, PD.tThen, thn1, then1, bin2, rdw, ln, q, h0, asB, setE, vThen, negI, ix, retE, lstA, consA, lstE, a0, ix_sr, i0, a3, Ent.shown]
    | read d v x =>
      have a2 : qIx (Ent.read d v x).dat (.int 2) = .ok (.int v) := by simp [Ent.dat, qIx, items]
      have i1 : qIx (.list [.int 3, .int 2, .int 4]) (.int 1) = .ok (.int 2) := qIx_at rfl rfl
      simp only [Ent.name] at a0
      generalize (Ent.read d v x).dat = T at *
      simp [f__law_shown_now, b__law_shown_now, fnD, sqf, sIf, PD.tThen, thn1, then1, bin2, rdw, ln, q, h0, asB, setE, vThen, negI, ix, retE, lstA, consA, lstE, a0, ix_rr, i1, a2, Ent.shown]
    | change d y s v =>
      have a4 : qIx (Ent.change d y s v).dat (.int 4) = .ok (.int v) := by simp [Ent.dat, qIx, items]
      have i2 : qIx (.list [.int 3, .int 2, .int 4]) (.int 2) = .ok (.int 4) := qIx_at rfl rfl
      simp only [Ent.name] at a0
      generalize (Ent.change d y s v).dat = T at *
      simp [f__law_shown_now, b__law_shown_now, fnD, sqf, sIf, PD.tThen, thn1, then1, bin2, rdw, ln, q, h0, asB, setE, vThen, negI, ix, retE, lstA, consA, lstE, a0, ix_cr, i2, a4, Ent.shown]
end K11

namespace K11
open PySem PySem.Spec PyProof.Rows L2 PD
theorem eqv_tnil (ds : List D) : PyData.eqv (.tuple ds) (.tuple []) = ds.isEmpty := by
  cases ds <;> simp [PyData.eqv, PyData.eqvAll]
theorem q_tnil (es : List Ent) : qEq (hist es) (.tuple []) = .ok (.bool es.isEmpty) := by
  rw [qEq_lay (lay_hist es) (lay_tup (n := 0) (ds := []) (by simp)), eqv_tnil]
  cases es <;> rfl
theorem q_bnil (bs : List Bil) : qNe (.list (billsD bs)) (.list []) = .ok (.bool (!bs.isEmpty)) := by
  have l : Lay 2 (.list (billsD bs)) := lay_list fun d hd => by
    obtain ⟨b, _, rfl⟩ := List.mem_map.mp hd
    exact lay_bill b
  rw [qNe_lay l (lay_list (n := 0) (ds := []) (by simp)), eqv_nil]
  cases bs <;> rfl
/-! ### an entry of a deed -/
theorem deed_0 (e : Ent) : qIx e.deed (.int 0) = .ok (.str e.name) := by cases e <;> simp [Ent.deed, Ent.name, qIx, items]
theorem deed_1 (e : Ent) : qIx e.deed (.int 1) = .ok (.int e.day) := by cases e <;> simp [Ent.deed, Ent.day, qIx, items]
theorem deed_2 (e : Ent) : qIx e.deed (.int 2) = .ok (.int e.two) := by cases e <;> simp [Ent.deed, Ent.two, qIx, items]
theorem len_hist (es : List Ent) : bLen (hist es) = .ok (.int ((es.length : Nat) : Int)) := by simp [bLen]
theorem entryof_start {es : List Ent} {d z w : Int} : f__law_entry_of [hist es, (Ent.start d z w).deed] = .rt (if es ≠ [] then .str sThere else if z ≤ w then .str sNoVal else (Ent.start d z w).dat) := by
  have ln := len_hist es
  have a0 := deed_0 (.start d z w)
  have a2 := deed_2 (.start d z w)
  have a3 : qIx (Ent.start d z w).deed (.int 3) = .ok (.int w) := by simp [Ent.deed, qIx, items]
  have e : (Ent.start d z w).dat = (Ent.start d z w).deed := rfl
  rw [e]
  simp only [Ent.name, Ent.two] at a0 a2
  generalize (Ent.start d z w).deed = Q at *
  by_cases h : es = []
  · rw [if_neg (by simp [h])]
    have h0 : ¬ (0 : Int) < ((es.length : Nat) : Int) := by simp [h]
    clear h
    generalize hist es = A at *
    generalize ((es.length : Nat) : Int) = n at *
    by_cases h2 : z ≤ w
    · rw [if_pos h2]
      simp [f__law_entry_of, b__law_entry_of, fnD, sqf, sIf, PD.tThen, thn1, then1, bin2, rd, rdw, a0, q_ss, asB, ln, iCmp, h0, a2, a3, h2, retE, vThen]
    · rw [if_neg h2]
      simp [f__law_entry_of, b__law_entry_of, fnD, sqf, sIf, PD.tThen, thn1, then1, bin2, rd, rdw, a0, q_ss, asB, ln, iCmp, h0, a2, a3, h2, retE, vThen]
  · rw [if_pos h]
    have h0 : (0 : Int) < ((es.length : Nat) : Int) := by
      have := List.length_pos_iff.mpr h
      omega
    generalize hist es = A at *
    generalize ((es.length : Nat) : Int) = n at *
    simp [f__law_entry_of, b__law_entry_of, fnD, sqf, sIf, PD.tThen, thn1, then1, bin2, rd, rdw, a0, q_ss, asB, ln, iCmp, h0, retE, vThen]
theorem entryof_none {e : Ent} (hs : (e.name == sStart) = false) : f__law_entry_of [hist [], e.deed] = .rt (.str sNoMeter) := by
  have ln := len_hist []
  have a0 := deed_0 e
  have q0 : qEq (.str e.name) (.str sStart) = .ok (.bool false) := by rw [qEq_str e.ok ok_start, hs]
  have q := eq_int 0 0
  generalize hist [] = A at *
  generalize e.deed = Q at *
  simp only [List.length_nil, Int.ofNat_zero, Int.natCast_zero, Int.cast_ofNat_Int] at ln
  simp [f__law_entry_of, b__law_entry_of, r__law_entry_of_1, fnD, sqf, sIf, PD.tThen, thn1, then1, bin2, rd, rdw, a0, q0, asB, ln, q, retE, vThen]
theorem entryof_read {es : List Ent} {l : Ent} {d v : Int} {x : Bool} (hs : Hst es) (hl : es.getLast? = some l) : f__law_entry_of [hist es, (Ent.read d v x).deed] = .rt (if d ≤ l.day then .str sLater else if lastSize 0 es ≤ v then .str sNoVal else (Ent.read d v false).dat) := by
  have ln := len_hist es
  have a0 := deed_0 (.read d v x)
  have a1 := deed_1 (.read d v x)
  have a2 := deed_2 (.read d v x)
  have sz := lawsize_run es
  rw [lastSize_ten hs] at sz
  have ix := last_at hl
  have l1 := l.at1
  have q := eq_int ((es.length : Nat) : Int) 0
  have h0 : ¬ ((es.length : Nat) : Int) = 0 := by
    have := List.length_pos_iff.mpr hs.ne
    omega
  have ap : pAdd (Ent.read d v x).deed (.tuple [.bool false]) = .ok (Ent.read d v false).dat := rfl
  simp only [Ent.name, Ent.two, Ent.day] at a0 a1 a2
  generalize (Ent.read d v false).dat = E at *
  generalize (Ent.read d v x).deed = Q at *
  generalize l.dat = B at *
  generalize hist es = A at *
  generalize ((es.length : Nat) : Int) = n at *
  generalize lastSize 0 es = z at *
  by_cases h1 : d ≤ l.day
  · rw [if_pos h1]
    simp [f__law_entry_of, b__law_entry_of, r__law_entry_of_1, r__law_entry_of_2, fnD, sqf, sIf, PD.tThen, thn1, then1, bin2, rd, rdw, a0, q_rs, asB, ln, q, h0, a1, negI, ix, l1, iCmp, h1, retE, vThen]
  · rw [if_neg h1]
    by_cases h2 : z ≤ v
    · rw [if_pos h2]
      simp [f__law_entry_of, b__law_entry_of, r__law_entry_of_1, r__law_entry_of_2, r__law_entry_of_3, fnD, sqf, sIf, PD.tThen, thn1, then1, bin2, rd, rdw, a0, q_rs, asB, ln, q, h0, a1, a2, negI, ix, l1, iCmp, h1, callE, consA, sz, outR, h2, retE, vThen]
    · rw [if_neg h2]
      simp [f__law_entry_of, b__law_entry_of, r__law_entry_of_1, r__law_entry_of_2, r__law_entry_of_3, r__law_entry_of_4, r__law_entry_of_5, fnD, sqf, sIf, PD.tThen, thn1, then1, bin2, rd, rdw, a0, q_rs, q_rc, asB, ln, q, h0, a1, a2, negI, ix, l1, iCmp, h1, callE, consA, sz, outR, h2, retE, vThen, tupA, ap]
theorem entryof_change {es : List Ent} {l : Ent} {d v z w : Int} (hs : Hst es) (hl : es.getLast? = some l) : f__law_entry_of [hist es, (Ent.change d v z w).deed] = .rt (if d ≤ l.day then .str sLater else if lastSize 0 es ≤ v ∨ z ≤ w then .str sNoVal else (Ent.change d v z w).dat) := by
  have ln := len_hist es
  have a0 := deed_0 (.change d v z w)
  have a1 := deed_1 (.change d v z w)
  have a2 := deed_2 (.change d v z w)
  have a3 : qIx (Ent.change d v z w).deed (.int 3) = .ok (.int z) := by simp [Ent.deed, qIx, items]
  have a4 : qIx (Ent.change d v z w).deed (.int 4) = .ok (.int w) := by simp [Ent.deed, qIx, items]
  have sz := lawsize_run es
  rw [lastSize_ten hs] at sz
  have ix := last_at hl
  have l1 := l.at1
  have q := eq_int ((es.length : Nat) : Int) 0
  have h0 : ¬ ((es.length : Nat) : Int) = 0 := by
    have := List.length_pos_iff.mpr hs.ne
    omega
  have e : (Ent.change d v z w).dat = (Ent.change d v z w).deed := rfl
  rw [e]
  simp only [Ent.name, Ent.two, Ent.day] at a0 a1 a2
  generalize (Ent.change d v z w).deed = Q at *
  generalize l.dat = B at *
  generalize hist es = A at *
  generalize ((es.length : Nat) : Int) = n at *
  generalize lastSize 0 es = y at *
  by_cases h1 : d ≤ l.day
  · rw [if_pos h1]
    simp [f__law_entry_of, b__law_entry_of, r__law_entry_of_1, r__law_entry_of_2, fnD, sqf, sIf, PD.tThen, thn1, then1, bin2, rd, rdw, a0, q_cs, asB, ln, q, h0, a1, negI, ix, l1, iCmp, h1, retE, vThen]
  · rw [if_neg h1]
    by_cases h2 : y ≤ v
    · rw [if_pos (.inl h2)]
      simp [f__law_entry_of, b__law_entry_of, r__law_entry_of_1, r__law_entry_of_2, r__law_entry_of_3, fnD, sqf, sIf, PD.tThen, thn1, then1, bin2, rd, rdw, a0, q_cs, asB, ln, q, h0, a1, a2, negI, ix, l1, iCmp, h1, callE, consA, sz, outR, h2, retE, vThen]
    · by_cases h3 : z ≤ w
      · rw [if_pos (.inr h3)]
        simp [f__law_entry_of, b__law_entry_of, r__law_entry_of_1, r__law_entry_of_2, r__law_entry_of_3, r__law_entry_of_4, fnD, sqf, sIf, PD.tThen, thn1, then1, bin2, rd, rdw, a0, q_cs, q_cc, asB, ln, q, h0, a1, a2, a3, a4, negI, ix, l1, iCmp, h1, callE, consA, sz, outR, h2, h3, retE, vThen]
      · rw [if_neg (by rintro (q | q) <;> contradiction)]
        simp [f__law_entry_of, b__law_entry_of, r__law_entry_of_1, r__law_entry_of_2, r__law_entry_of_3, r__law_entry_of_4, fnD, sqf, sIf, PD.tThen, thn1, then1, bin2, rd, rdw, a0, q_cs, q_cc, asB, ln, q, h0, a1, a2, a3, a4, negI, ix, l1, iCmp, h1, callE, consA, sz, outR, h2, h3, retE, vThen]
/-! ### striking -/
def hitM (d : Int) (e : Ent) : Ent := if e.hit d then e.mark else e
theorem lawstruck_loop {A : D} {d : Int} : ∀ (es : List Ent) (acc : List D) (x3 : Sl), acc.length + es.length < 10000 → ∃ y3, forD (aName 3) lb__law_struck_1 (datL es) [.val A, .val (.int d), .own acc, x3] = .nx [.val A, .val (.int d), .own (acc ++ datL (es.map (hitM d))), y3]
  | [], acc, x3, _ => ⟨x3, by simp only [List.map_nil, datL, List.append_nil]; exact forD_nil⟩
  | e :: es, acc, x3, hl => by
    obtain ⟨y, q⟩ := lawstruck_loop (A := A) (d := d) es (acc ++ [(hitM d e).dat]) (.val (hitM d e).dat) (by simp at hl ⊢; omega)
    have e1 : acc ++ [(hitM d e).dat] ++ datL (es.map (hitM d)) = acc ++ datL ((e :: es).map (hitM d)) := by simp [datL]
    rw [e1] at q
    refine ⟨y, (forD_nx (ps := [(3, e.dat)]) (r2 := [.val A, .val (.int d), .own (acc ++ [(hitM d e).dat]), .val (hitM d e).dat]) rfl ?_).trans q⟩
    clear q e1
    have la : acc.length < 16777216 := by simp at hl; omega
    have a0 := e.at0
    have a1 := e.at1
    have a2 := e.at2
    have qd := eq_int e.day d
    cases e with
    | start d0 s v =>
      have h : hitM d (.start d0 s v) = .start d0 s v := rfl
      rw [h]
      simp only [Ent.name] at a0
      generalize (Ent.start d0 s v).dat = T at *
      simp [setsD, lb__law_struck_1, sqf, sIf, PD.tThen, andT, thn1, bin2, rd, rdw, a0, q_sr, asB, apndE, apnd, vThen, la]
    | change d0 y s v =>
      have h : hitM d (.change d0 y s v) = .change d0 y s v := rfl
      rw [h]
      simp only [Ent.name] at a0
      generalize (Ent.change d0 y s v).dat = T at *
      simp [setsD, lb__law_struck_1, sqf, sIf, PD.tThen, andT, thn1, bin2, rd, rdw, a0, q_cr, asB, apndE, apnd, vThen, la]
    | read d0 v x =>
      have a3 : qIx (Ent.read d0 v x).dat (.int 3) = .ok (.bool x) := by simp [Ent.dat, qIx, items]
      simp only [Ent.name, Ent.day, Ent.two] at a0 a1 a2 qd
      by_cases h1 : d0 = d
      · subst h1
        cases x with
        | false =>
          have h : (hitM d0 (.read d0 v false)).dat = .tuple [.str sRead, .int d0, .int v, .bool true] := by simp [hitM, Ent.hit, Ent.mark, Ent.dat]
          rw [h]
          generalize (Ent.read d0 v false).dat = T at *
          simp [setsD, lb__law_struck_1, sqf, sIf, PD.tThen, andT, notT, thn1, bin2, rd, rdw, a0, a1, a2, a3, q_rr, qd, asB, tru, setE, vThen, tupA, consA, apndE, apnd, la]
        | true =>
          have h : hitM d0 (.read d0 v true) = .read d0 v true := by simp [hitM, Ent.hit]
          rw [h]
          generalize (Ent.read d0 v true).dat = T at *
          simp [setsD, lb__law_struck_1, sqf, sIf, PD.tThen, andT, notT, thn1, bin2, rd, rdw, a0, a1, a2, a3, q_rr, qd, asB, tru, apndE, apnd, vThen, la]
      · have h : hitM d (.read d0 v x) = .read d0 v x := by simp [hitM, Ent.hit, h1]
        rw [h]
        generalize (Ent.read d0 v x).dat = T at *
        simp [setsD, lb__law_struck_1, sqf, sIf, PD.tThen, andT, notT, thn1, bin2, rd, rdw, a0, a1, q_rr, qd, h1, asB, apndE, apnd, vThen, la]
theorem lawstruck_run {es : List Ent} {d : Int} (hl : es.length < 9000) : f__law_struck [hist es, .int d] = .rt (hist (es.map (hitM d))) := by
  obtain ⟨y, q⟩ := lawstruck_loop (A := hist es) (d := d) es [] .no (by simp; omega)
  rw [List.nil_append] at q
  have s : asS (rd 0) [.val (hist es), .val (.int d), .own [], .no] = .ok (datL es) := rfl
  show _ = Out.rt (.tuple (datL (es.map (hitM d))))
  generalize datL (es.map (hitM d)) = T at *
  generalize hist es = A at *
  generalize datL es = L at *
  simp [f__law_struck, b__law_struck, fnD, sqf, lThen, forE, s, q, retE, vThen, then1, rdw, bTuple]
theorem hit_same {d : Int} {es : List Ent} (h : ∀ e ∈ es, e.hit d = false) : es.map (hitM d) = es := by
  conv => rhs; rw [← List.map_id es]
  exact List.map_congr_left fun e he => by simp [hitM, h e he]
theorem eqv_parts {x y : D} : ∀ (a : List D) {b c : List D}, PyData.eqvAll (a ++ x :: b) (a ++ y :: c) = true → PyData.eqv x y = true
  | [], b, c, h => by
    simp only [List.nil_append, PyData.eqvAll, Bool.and_eq_true] at h
    exact h.1
  | z :: a, b, c, h => by
    simp only [List.cons_append, PyData.eqvAll, Bool.and_eq_true] at h
    exact eqv_parts a h.2
theorem q_struck {es : List Ent} {n : Nat} {e : Ent} {d : Int} (hn : es[n]? = some e) (hh : e.hit d = true) (es' : List Ent) (he : es' = es.take n ++ [e.mark] ++ es.drop (n + 1)) : qEq (hist es') (hist es) = .ok (.bool false) := by
  rw [qEq_lay (lay_hist es') (lay_hist es)]
  congr 2
  cases hc' : PyData.eqv (hist es') (hist es) with
  | false => rfl
  | true =>
  exfalso
  obtain ⟨v, rfl⟩ := Ent.hit_day hh
  have e2 : es = es.take n ++ [.read d v false] ++ es.drop (n + 1) := by
    have hlt := (List.getElem?_eq_some_iff.mp hn).1
    have e3 : es[n] = .read d v false := (List.getElem?_eq_some_iff.mp hn).2
    rw [← e3]
    simp
  have z : PyData.eqvAll (datL es') (datL es) = true := by simpa [hist, PyData.eqv] using hc'
  rw [he] at z
  have w : datL es = datL (es.take n) ++ (Ent.read d v false).dat :: datL (es.drop (n + 1)) := by
    conv => lhs; rw [e2]
    simp [datL]
  rw [w] at z
  have w2 : datL (es.take n ++ [(Ent.read d v false).mark] ++ es.drop (n + 1)) = datL (es.take n) ++ (Ent.read d v true).dat :: datL (es.drop (n + 1)) := by simp [datL, Ent.mark]
  rw [w2] at z
  have y := eqv_parts _ z
  simp [Ent.dat, PyData.eqv, PyData.eqvAll] at y
theorem hit_map {es : List Ent} {n : Nat} {e : Ent} {d : Int} (hn : es[n]? = some e) (hh : e.hit d = true) (h : ∀ i f, i ≠ n → es[i]? = some f → f.hit d = false) : es.map (hitM d) = es.take n ++ [e.mark] ++ es.drop (n + 1) := by
  apply List.ext_getElem?
  intro i
  have hlt := (List.getElem?_eq_some_iff.mp hn).1
  rw [List.getElem?_map]
  have lt : (es.take n).length = n := by simp; omega
  by_cases h1 : i < n
  · rw [List.append_assoc, List.getElem?_append_left (by omega), List.getElem?_take, if_pos h1]
    cases hi : es[i]? with
    | none => rfl
    | some f => simp [hitM, h i f (by omega) hi]
  · by_cases h2 : i = n
    · subst h2
      rw [hn, List.append_assoc, List.getElem?_append_right (by omega), lt]
      simp [hitM, hh]
    · rw [List.append_assoc, List.getElem?_append_right (by omega), lt, List.getElem?_append_right (by simp; omega), List.getElem?_drop]
      have e3 : n + 1 + (i - n - [e.mark].length) = i := by simp; omega
      rw [e3]
      cases hi : es[i]? with
      | none => rfl
      | some f => simp [hitM, h i f (by omega) hi]
end K11

namespace K11
open PySem PySem.Spec PyProof.Rows L2 PD
theorem q_two {x y : Str} {b : Bool} (h : PyData.strOk x = true ∧ PyData.strOk y = true ∧ (x == y) = b) : qEq (.str x) (.str y) = .ok (.bool b) := by rw [qEq_str h.1 h.2.1, h.2.2]
theorem n_two {x y : Str} {b : Bool} (h : PyData.strOk x = true ∧ PyData.strOk y = true ∧ (x == y) = b) : qNe (.str x) (.str y) = .ok (.bool (!b)) := by rw [ne_str h.1 h.2.1, h.2.2]
theorem amounts_lc {bs : List Bil} {r : Rho} {A : SA} {H : D} {ts : List D} (h0 : r[0]? = some (.sta A H ts (billsD bs))) (hl : r.length = 6) (hn : bs.length < 9000) :
    lcE (asL (staB 0)) (aName 5) (fun _ => .ok true) (bin2 qIx (rdw 5) (fun _ => .ok (.int 1))) [5] r = .ok (.list ((bs.map fun b => b.2).map PyData.int)) := by
  refine lc_each (ds := billsD bs) (by simp [asL, staB, h0]) (by simp [billsD]) (by simp [billsD]; omega) fun k d z h1 h2 => ?_
  simp only [billsD, List.getElem?_map] at h1 h2
  cases hb : bs[k]? with
  | none => rw [hb] at h1; cases h1
  | some b =>
    rw [hb] at h1 h2
    cases h1
    cases h2
    have b1 := bill_1 b
    unfold bin2
    rw [rdw_wiped (by omega)]
    exact b1
theorem days_lc {ts : List Tar} {r : Rho} {A : SA} {H : D} {bs : List D} (h0 : r[0]? = some (.sta A H (tarsD ts) bs)) (hl : r.length = 6) (hn : ts.length < 9000) :
    lcE (asL (staT 0)) (aName 3) (fun _ => .ok true) (bin2 qIx (rdw 3) (fun _ => .ok (.int 0))) [3] r = .ok (.list ((ts.map fun t => t.day).map PyData.int)) := by
  refine lc_each (ds := tarsD ts) (by simp [asL, staT, h0]) (by simp [tarsD]) (by simp [tarsD]; omega) fun k d z h1 h2 => ?_
  simp only [tarsD, List.getElem?_map] at h1 h2
  cases hb : ts[k]? with
  | none => rw [hb] at h1; cases h1
  | some t =>
    rw [hb] at h1 h2
    cases h1
    cases h2
    have b1 := tar_0 t
    unfold bin2
    rw [rdw_wiped (by omega)]
    exact b1
theorem lawbill_none {A : SA} {ts bs : List D} {m d : D} : f__law_bill A (hist []) ts bs [m, d] = .rt (.str sNoMeter) [.sta A (hist []) ts bs, .val m, .val d, .no, .no, .no] := by
  have q := q_tnil []
  simp only [List.isEmpty_nil] at q
  generalize hist [] = H at *
  simp [f__law_bill, b__law_bill, fnS, sqS, ifS, thn1, bin2, staH, tupA, q, asB, rtS]
theorem lawbill_late {A : SA} {es : List Ent} {ts : List D} {bs : List Bil} {m : D} {d : Int} (h : es ≠ []) (hb : bs ≠ []) (hd : d < lastB bs) : f__law_bill A (hist es) ts (billsD bs) [m, .int d] = .rt (.str sLater) [.sta A (hist es) ts (billsD bs), .val m, .val (.int d), .no, .no, .no] := by
  have q := q_tnil es
  have e0 : es.isEmpty = false := by cases es <;> first | exact absurd rfl h | rfl
  rw [e0] at q
  have q2 := q_bnil bs
  have e1 : bs.isEmpty = false := by cases bs <;> first | exact absurd rfl hb | rfl
  rw [e1] at q2
  rcases List.eq_nil_or_concat bs with rfl | ⟨cs, b, hcs⟩
  · exact absurd rfl hb
  · rw [List.concat_eq_append] at hcs
    subst hcs
    rw [lastB_app] at hd
    have ix : qIx (.list (billsD (cs ++ [b]))) (.int (-1)) = .ok (billD b) := qIx_at rfl (by rw [atI_m1]; simp [billsD])
    have b0 := bill_0 b
    clear h hb e0 e1
    generalize hist es = H at *
    generalize billsD (cs ++ [b]) = B at *
    generalize billD b = bd at *
    simp [f__law_bill, b__law_bill, r__law_bill_1, fnS, sqS, ifS, thn1, then1, bin2, staH, staB, tupA, lstA, q, q2, asB, rtS, andT, negI, ix, b0, rdw, iCmp, hd]
theorem lawbill_ok {A : SA} {m d : Int} {es : List Ent} {ts : List Tar} {bs : List Bil} (hm : 0 ≤ m ∧ m ≤ 1000000000000) (hs : Hst es) (hk : ∀ t ∈ ts, t.ok) (n : (ts.map Tar.day).Nodup) (hd : 0 ≤ d ∧ d ≤ 1000000) (hn : bs.length < 9000) (hl : bs ≠ [] → ¬ d < lastB bs) :
    ∃ r, f__law_bill A (hist es) (tarsD ts) (billsD bs) [.int m, .int d] = .rt (.int (owes m es (tarSort ts) d - sumB bs)) r ∧ r[0]? = some (.sta A (hist es) (tarsD ts) (billsD (bs ++ [(d, owes m es (tarSort ts) d - sumB bs)]))) := by
  have q := q_tnil es
  have e0 : es.isEmpty = false := by
    have := hs.ne
    cases es <;> first | exact absurd rfl this | rfl
  rw [e0] at q
  obtain ⟨ps, ac, _⟩ := lawacc_es hm (.inr hs)
  have i1 : qIx (.tuple [.list (natD ps), .list (gapD (gapsOf m es))]) (.int 1) = .ok (.list (gapD (gapsOf m es))) := qIx_at rfl rfl
  have ow := lawowed_es (m := m) hs hk n hd
  have lc := fun (x : D) => amounts_lc (bs := bs) (r := [.sta A (hist es) (tarsD ts) (billsD bs), .val (.int m), .val (.int d), .val x, .no, .no]) (A := A) (H := hist es) (ts := tarsD ts) rfl rfl hn
  have sb : bSum (.list ((bs.map fun b => b.2).map PyData.int)) = .ok (.int (sumB bs)) := bSum_ints _
  have app : billsD bs ++ [.tuple [.int d, .int (owes m es (tarSort ts) d - sumB bs)]] = billsD (bs ++ [(d, owes m es (tarSort ts) d - sumB bs)]) := by simp [billsD, billD]
  have ln : (billsD bs).length < 16777216 := by simp [billsD]; omega
  have test : andT (thn1 (bin2 qNe (staB 0) (lstA (fun _ => .ok []))) asB) (thn1 (bin2 (iCmp fun i j => decide (i < j)) (rdw 2) (bin2 qIx (bin2 qIx (staB 0) (then1 (fun _ => .ok (.int 1)) negI)) (fun _ => .ok (.int 0)))) asB) [.sta A (hist es) (tarsD ts) (billsD bs), .val (.int m), .val (.int d), .no, .no, .no] = .ok false := by
    have q2 := q_bnil bs
    rcases List.eq_nil_or_concat bs with rfl | ⟨cs, b, hcs⟩
    · simp only [List.isEmpty_nil] at q2
      generalize billsD [] = B at *
      simp [andT, thn1, bin2, staB, lstA, q2, asB]
    · rw [List.concat_eq_append] at hcs
      subst hcs
      have h2 := hl (by simp)
      rw [lastB_app] at h2
      have e1 : (cs ++ [b]).isEmpty = false := by cases cs <;> rfl
      rw [e1] at q2
      have ix : qIx (.list (billsD (cs ++ [b]))) (.int (-1)) = .ok (billD b) := qIx_at rfl (by rw [atI_m1]; simp [billsD])
      have b0 := bill_0 b
      clear lc app
      generalize hist es = H at *
      generalize billsD (cs ++ [b]) = B at *
      generalize billD b = bd at *
      simp [andT, thn1, then1, bin2, staB, lstA, q2, asB, negI, ix, b0, rdw, iCmp, h2]
  refine ⟨[.sta A (hist es) (tarsD ts) (billsD (bs ++ [(d, owes m es (tarSort ts) d - sumB bs)])), .val (.int m), .val (.int d), .val (.int (owes m es (tarSort ts) d)), .val (.int (owes m es (tarSort ts) d - sumB bs)), .no], ?_, rfl⟩
  rw [← app]
  clear app
  generalize owes m es (tarSort ts) d = O at *
  generalize sumB bs = S at *
  generalize (bs.map fun b => b.2).map PyData.int = L at *
  generalize gapD (gapsOf m es) = G at *
  generalize natD ps = P at *
  generalize tarsD ts = T at *
  generalize billsD bs = B at *
  generalize hist es = H at *
  have st1 : b__law_bill [.sta A H T B, .val (.int m), .val (.int d), .no, .no, .no] = r__law_bill_2 [.sta A H T B, .val (.int m), .val (.int d), .no, .no, .no] := by
    unfold b__law_bill sqS
    have f1 : ∀ f, ifS (thn1 (bin2 qEq (staH 0) (tupA (fun _ => .ok []))) asB) f .nx [.sta A H T B, .val (.int m), .val (.int d), .no, .no, .no] = .nx [.sta A H T B, .val (.int m), .val (.int d), .no, .no, .no] := fun f => by
      simp [ifS, thn1, bin2, staH, tupA, q, asB]
    rw [f1, seqS_nx]
    unfold r__law_bill_1 sqS
    have f2 : ∀ f, ifS (andT (thn1 (bin2 qNe (staB 0) (lstA (fun _ => .ok []))) asB) (thn1 (bin2 (iCmp fun i j => decide (i < j)) (rdw 2) (bin2 qIx (bin2 qIx (staB 0) (then1 (fun _ => .ok (.int 1)) negI)) (fun _ => .ok (.int 0)))) asB)) f .nx [.sta A H T B, .val (.int m), .val (.int d), .no, .no, .no] = .nx [.sta A H T B, .val (.int m), .val (.int d), .no, .no, .no] := fun f => by
      unfold ifS
      rw [test, fold_ok]
      rfl
    rw [f2, seqS_nx]
  have fin : f__law_bill A H T B [.int m, .int d] = b__law_bill [.sta A H T B, .val (.int m), .val (.int d), .no, .no, .no] := rfl
  rw [fin, st1]
  simp [r__law_bill_2, r__law_bill_3, r__law_bill_4, r__law_bill_5, sqS, upS, setE, vThen, callF, callE, consA, staH, staT, bin2, rd, rdw, ac, outR, i1, ow, plainR, flatD, then1, lc, sb, iSub, inS, tupA, apB, ln, rtS]
/-! ### the law's answers -/
structure Far (x : Str) : Prop where
  t1 : qEq (.str x) (.str sTariff) = .ok (.bool false)
  t2 : qEq (.str x) (.str sBill) = .ok (.bool false)
  t3 : qEq (.str x) (.str sUse) = .ok (.bool false)
  t4 : qEq (.str x) (.str sOwed) = .ok (.bool false)
  t5 : qEq (.str x) (.str sStrike) = .ok (.bool false)
theorem far_start : Far sStart := ⟨q_two (by decide +kernel), q_two (by decide +kernel), q_two (by decide +kernel), q_two (by decide +kernel), q_two (by decide +kernel)⟩
theorem far_read : Far sRead := ⟨q_two (by decide +kernel), q_two (by decide +kernel), q_two (by decide +kernel), q_two (by decide +kernel), q_two (by decide +kernel)⟩
theorem far_change : Far sChange := ⟨q_two (by decide +kernel), q_two (by decide +kernel), q_two (by decide +kernel), q_two (by decide +kernel), q_two (by decide +kernel)⟩
theorem far_of (e : Ent) : Far e.name := by
  cases e
  · exact far_start
  · exact far_read
  · exact far_change
/-- what the answer to Q is, and the state behind it -/
def Ans (m : D) (H : D) (ts bs : List D) (Q a H' : D) (ts' bs' : List D) : Prop := ∀ A, ∃ r : Rho, f__law_answer A H ts bs [m, Q] = .rt a r ∧ r[0]? = some (.sta A H' ts' bs')
theorem ans_entry_str {m H Q : D} {ts bs : List D} {x nm : Str} (f : Far nm) (a0 : qIx Q (.int 0) = .ok (.str nm)) (h : f__law_entry_of [H, Q] = .rt (.str x)) : Ans m H ts bs Q (.str x) H ts bs := fun A => by
  obtain ⟨t1, t2, t3, t4, t5⟩ := f
  refine ⟨[.sta A H ts bs, .val m, .val Q, .no, .no, .val (.str x)], ?_, rfl⟩
  simp [f__law_answer, b__law_answer, r__law_answer_1, r__law_answer_2, r__law_answer_3, r__law_answer_4, r__law_answer_5, r__law_answer_6, fnS, sqS, ifS, thn1, bin2, rdw, rd, a0, t1, t2, t3, t4, t5, asB, upS, setE, vThen, callE, consA, staH, h, outR, isiE, then1, tyD, tru, rtS]
theorem ans_entry_done {m Q : D} {ts bs : List D} {es : List Ent} {e : Ent} {nm : Str} (f : Far nm) (nr : qNe (.str nm) (.str sRead) = .ok (.bool true)) (a0 : qIx Q (.int 0) = .ok (.str nm)) (h : f__law_entry_of [hist es, Q] = .rt e.dat) (hl : es.length ≤ 999) : Ans m (hist es) ts bs Q (.str sDone) (hist (es ++ [e])) ts bs := fun A => by
  obtain ⟨t1, t2, t3, t4, t5⟩ := f
  have ap := app_one (e := e) hl
  have ty : tyD e.dat = "tuple" := by cases e <;> rfl
  refine ⟨[.sta A (hist (es ++ [e])) ts bs, .val m, .val Q, .no, .no, .val e.dat], ?_, rfl⟩
  generalize hist (es ++ [e]) = H' at *
  generalize hist es = H at *
  generalize e.dat = E at *
  simp [f__law_answer, b__law_answer, r__law_answer_1, r__law_answer_2, r__law_answer_3, r__law_answer_4, r__law_answer_5, r__law_answer_6, r__law_answer_7, r__law_answer_8, fnS, sqS, ifS, thn1, bin2, rdw, rd, a0, t1, t2, t3, t4, t5, nr, asB, upS, setE, vThen, callE, consA, staH, h, outR, isiE, then1, ty, tru, rtS, tupA, ap, ptH]
theorem ans_entry_read {m : D} {Q : D} {ts bs : List D} {es : List Ent} {e : Ent} {n : Int} {ps : List D} {G : D} {c : Bool} (a0 : qIx Q (.int 0) = .ok (.str sRead)) (h : f__law_entry_of [hist es, Q] = .rt e.dat) (hl : es.length ≤ 999) (ac : f__law_account [hist (es ++ [e]), m] = .rt (.tuple [.list ps, G]))
    (hc : qIn false (.int ((es.length : Nat) : Int)) (.list ps) = .ok (.bool c)) : Ans m (hist es) ts bs Q (.str (if c then sCounts else sDoubted)) (hist (es ++ [e])) ts bs := fun A => by
  obtain ⟨t1, t2, t3, t4, t5⟩ := far_read
  have nr : qNe (.str sRead) (.str sRead) = .ok (.bool false) := n_two (b := true) (by decide +kernel)
  have ap := app_one (e := e) hl
  have ty : tyD e.dat = "tuple" := by cases e <;> rfl
  have ln := len_hist (es ++ [e])
  have e1 : (((es ++ [e]).length : Nat) : Int) - 1 = ((es.length : Nat) : Int) := by simp
  have i0 : qIx (.tuple [.list ps, G]) (.int 0) = .ok (.list ps) := qIx_at rfl rfl
  refine ⟨[.sta A (hist (es ++ [e])) ts bs, .val m, .val Q, .no, .no, .val e.dat], ?_, rfl⟩
  generalize hist (es ++ [e]) = H' at *
  generalize hist es = H at *
  generalize e.dat = E at *
  generalize (((es ++ [e]).length : Nat) : Int) = N at *
  generalize ((es.length : Nat) : Int) = N1 at *
  cases c with
  | true =>
    have i1 : qIx (.list [.str sDoubted, .str sCounts]) (.int 1) = .ok (.str sCounts) := qIx_at rfl rfl
    simp [f__law_answer, b__law_answer, r__law_answer_1, r__law_answer_2, r__law_answer_3, r__law_answer_4, r__law_answer_5, r__law_answer_6, r__law_answer_7, r__law_answer_8, r__law_answer_9, fnS, sqS, ifS, thn1, bin2, rdw, rd, a0, t1, t2, t3, t4, t5, nr, asB, upS, setE, vThen, callE, consA, staH, h, outR, isiE, then1, ty, tru, rtS, tupA, ap, ptH, lstA, ln, iSub, e1, ac, i0, hc, bInt, i1]
  | false =>
    have i1 : qIx (.list [.str sDoubted, .str sCounts]) (.int 0) = .ok (.str sDoubted) := qIx_at rfl rfl
    simp [f__law_answer, b__law_answer, r__law_answer_1, r__law_answer_2, r__law_answer_3, r__law_answer_4, r__law_answer_5, r__law_answer_6, r__law_answer_7, r__law_answer_8, r__law_answer_9, fnS, sqS, ifS, thn1, bin2, rdw, rd, a0, t1, t2, t3, t4, t5, nr, asB, upS, setE, vThen, callE, consA, staH, h, outR, isiE, then1, ty, tru, rtS, tupA, ap, ptH, lstA, ln, iSub, e1, ac, i0, hc, bInt, i1]
end K11

namespace K11
open PySem PySem.Spec PyProof.Rows L2 PD
def useDeed (d : Int) : D := .tuple [.str sUse, .int d]
def owedDeed (d : Int) : D := .tuple [.str sOwed, .int d]
theorem in_days (ts : List Tar) (d : Int) : qIn false (.int d) (.list ((ts.map fun t => t.day).map PyData.int)) = .ok (.bool (ts.any fun u => decide (u.day = d))) := by
  have e : (((ts.map fun t => t.day).map PyData.int).any fun y => PyData.eqv y (.int d)) = ts.any fun u => decide (u.day = d) := by
    rw [List.any_map, List.any_map]
    congr 1
  unfold qIn
  simp only [items]
  rw [if_pos ⟨rfl, by rw [List.all_eq_true]; intro x hx; obtain ⟨i, _, rfl⟩ := List.mem_map.mp hx; rfl⟩, e]
  rfl
theorem ans_tar {A : SA} {m H : D} {ts : List Tar} {bs : List D} {t : Tar} (hn : ts.length < 9000) (c : Bool) (hc : (ts.any fun u => decide (u.day = t.day)) = c) :
    ∃ r : Rho, f__law_answer A H (tarsD ts) bs [m, t.deed] = .rt (.str (if c then sThere else sDone)) r ∧ r[0]? = some (.sta A H (tarsD (if c then ts else ts ++ [t])) bs) := by
  have a0 : qIx t.deed (.int 0) = .ok (.str sTariff) := qIx_at rfl rfl
  have a1 : qIx t.deed (.int 1) = .ok (.int t.day) := qIx_at rfl rfl
  have t1 : qEq (.str sTariff) (.str sTariff) = .ok (.bool true) := q_two (by decide +kernel)
  have lc := days_lc (ts := ts) (r := [.sta A H (tarsD ts) bs, .val m, .val t.deed, .no, .no, .no]) (A := A) (H := H) (bs := bs) rfl rfl hn
  have qi := in_days ts t.day
  rw [hc] at qi
  have cu : qCut t.deed (some 1) none = .ok t.dat := by
    have z := cut_from [PyData.str sTariff, .int t.day, .int t.st, .int t.low, .int t.lim, .int t.high] (n := 1) (by simp)
    show Res.ok (PyData.tuple (cutD [PyData.str sTariff, .int t.day, .int t.st, .int t.low, .int t.lim, .int t.high] (some 1) none)) = _
    have z' : cutD [PyData.str sTariff, .int t.day, .int t.st, .int t.low, .int t.lim, .int t.high] (some (1 : Int)) none = [.int t.day, .int t.st, .int t.low, .int t.lim, .int t.high] := z
    rw [z']
    rfl
  have ln : (tarsD ts).length < 16777216 := by simp [tarsD]; omega
  have app : tarsD ts ++ [t.dat] = tarsD (ts ++ [t]) := by simp [tarsD]
  cases c with
  | true =>
    refine ⟨[.sta A H (tarsD ts) bs, .val m, .val t.deed, .no, .no, .no], ?_, rfl⟩
    clear hc app ln cu
    generalize (ts.map fun t => t.day).map PyData.int = L at *
    generalize tarsD ts = T at *
    generalize t.deed = Q at *
    simp [f__law_answer, b__law_answer, fnS, sqS, ifS, thn1, bin2, rdw, a0, a1, t1, asB, lc, qi, rtS]
  | false =>
    refine ⟨[.sta A H (tarsD (ts ++ [t])) bs, .val m, .val t.deed, .no, .no, .no], ?_, rfl⟩
    rw [← app]
    clear hc app
    generalize (ts.map fun t => t.day).map PyData.int = L at *
    generalize tarsD ts = T at *
    generalize t.dat = E at *
    generalize t.deed = Q at *
    simp [f__law_answer, b__law_answer, fnS, sqS, ifS, thn1, bin2, rdw, a0, a1, t1, asB, lc, qi, rtS, upS, inS, vThen, cut3, optI, asI, cu, apT, ln]
theorem ans_bill {A : SA} {m d : Int} {H H' : D} {ts bs ts' bs' : List D} {a : D} {rr : Rho} (h : f__law_bill A H ts bs [.int m, .int d] = .rt a rr) (h0 : rr[0]? = some (.sta A H' ts' bs')) : ∃ r : Rho, f__law_answer A H ts bs [.int m, billDeed d] = .rt a r ∧ r[0]? = some (.sta A H' ts' bs') := by
  have a0 : qIx (billDeed d) (.int 0) = .ok (.str sBill) := qIx_at rfl rfl
  have a1 : qIx (billDeed d) (.int 1) = .ok (.int d) := qIx_at rfl rfl
  have t1 : qEq (.str sBill) (.str sTariff) = .ok (.bool false) := q_two (by decide +kernel)
  have t2 : qEq (.str sBill) (.str sBill) = .ok (.bool true) := q_two (by decide +kernel)
  refine ⟨[.sta A H' ts' bs', .val (.int m), .val (billDeed d), .no, .no, .no], ?_, rfl⟩
  generalize billDeed d = Q at *
  have g : rcS 0 (consA (rd 1) (consA (bin2 qIx (rdw 2) (fun _ => .ok (.int 1))) (fun _ => .ok []))) f__law_bill [.sta A H ts bs, .val (.int m), .val Q, .no, .no, .no] = .rt a [.sta A H' ts' bs', .val (.int m), .val Q, .no, .no, .no] := by
    have g1 : consA (rd 1) (consA (bin2 qIx (rdw 2) (fun _ => .ok (.int 1))) (fun _ => .ok [])) [.sta A H ts bs, .val (.int m), .val Q, .no, .no, .no] = .ok [.int m, .int d] := by simp [consA, rd, rdw, bin2, a1]
    have e0 : (([.sta A H ts bs, .val (.int m), .val Q, .no, .no, .no] : Rho)[0]? : Option Sl) = some (.sta A H ts bs) := rfl
    unfold rcS
    rw [e0]
    simp only
    rw [g1, fold_ok]
    unfold goS
    rw [e0]
    simp only
    rw [h]
    simp only
    rw [h0]
    simp only [if_true]
    rfl
  simp [f__law_answer, b__law_answer, r__law_answer_1, fnS, sqS, ifS, thn1, bin2, rdw, a0, t1, t2, asB, g]
theorem ans_use {A : SA} {m H G P : D} {ts bs : List D} {d u : Int} (ac : f__law_account [H, m] = .rt (.tuple [P, G])) (h : f__law_use [G, .int d] = .rt (.int u)) : ∃ r : Rho, f__law_answer A H ts bs [m, useDeed d] = .rt (.int u) r ∧ r[0]? = some (.sta A H ts bs) := by
  have a0 : qIx (useDeed d) (.int 0) = .ok (.str sUse) := qIx_at rfl rfl
  have a1 : qIx (useDeed d) (.int 1) = .ok (.int d) := qIx_at rfl rfl
  have t1 : qEq (.str sUse) (.str sTariff) = .ok (.bool false) := q_two (by decide +kernel)
  have t2 : qEq (.str sUse) (.str sBill) = .ok (.bool false) := q_two (by decide +kernel)
  have t3 : qEq (.str sUse) (.str sUse) = .ok (.bool true) := q_two (by decide +kernel)
  have i1 : qIx (.tuple [P, G]) (.int 1) = .ok G := qIx_at rfl rfl
  refine ⟨[.sta A H ts bs, .val m, .val (useDeed d), .no, .no, .no], ?_, rfl⟩
  generalize useDeed d = Q at *
  simp [f__law_answer, b__law_answer, r__law_answer_1, r__law_answer_2, fnS, sqS, ifS, thn1, bin2, rd, rdw, a0, a1, t1, t2, t3, asB, rtS, callE, consA, staH, ac, outR, i1, h]
theorem ans_owed_none {A : SA} {m : D} {ts bs : List D} {d : Int} : ∃ r : Rho, f__law_answer A (hist []) ts bs [m, owedDeed d] = .rt (.str sNoMeter) r ∧ r[0]? = some (.sta A (hist []) ts bs) := by
  have a0 : qIx (owedDeed d) (.int 0) = .ok (.str sOwed) := qIx_at rfl rfl
  have t1 : qEq (.str sOwed) (.str sTariff) = .ok (.bool false) := q_two (by decide +kernel)
  have t2 : qEq (.str sOwed) (.str sBill) = .ok (.bool false) := q_two (by decide +kernel)
  have t3 : qEq (.str sOwed) (.str sUse) = .ok (.bool false) := q_two (by decide +kernel)
  have t4 : qEq (.str sOwed) (.str sOwed) = .ok (.bool true) := q_two (by decide +kernel)
  have q := q_tnil []
  simp only [List.isEmpty_nil] at q
  refine ⟨[.sta A (hist []) ts bs, .val m, .val (owedDeed d), .no, .no, .no], ?_, rfl⟩
  generalize owedDeed d = Q at *
  generalize hist [] = H at *
  simp [f__law_answer, b__law_answer, r__law_answer_1, r__law_answer_2, r__law_answer_3, fnS, sqS, ifS, thn1, bin2, rd, rdw, a0, t1, t2, t3, t4, asB, rtS, staH, tupA, q]
theorem ans_owed {A : SA} {m G P : D} {es : List Ent} {ts bs : List D} {d o : Int} (hne : es ≠ []) (ac : f__law_account [hist es, m] = .rt (.tuple [P, G])) (h : f__law_owed [hist es, G, .list ts, .int d] = .rt (.int o)) : ∃ r : Rho, f__law_answer A (hist es) ts bs [m, owedDeed d] = .rt (.int o) r ∧ r[0]? = some (.sta A (hist es) ts bs) := by
  have a0 : qIx (owedDeed d) (.int 0) = .ok (.str sOwed) := qIx_at rfl rfl
  have a1 : qIx (owedDeed d) (.int 1) = .ok (.int d) := qIx_at rfl rfl
  have t1 : qEq (.str sOwed) (.str sTariff) = .ok (.bool false) := q_two (by decide +kernel)
  have t2 : qEq (.str sOwed) (.str sBill) = .ok (.bool false) := q_two (by decide +kernel)
  have t3 : qEq (.str sOwed) (.str sUse) = .ok (.bool false) := q_two (by decide +kernel)
  have t4 : qEq (.str sOwed) (.str sOwed) = .ok (.bool true) := q_two (by decide +kernel)
  have q := q_tnil es
  have e0 : es.isEmpty = false := by cases es <;> first | exact absurd rfl hne | rfl
  rw [e0] at q
  have i1 : qIx (.tuple [P, G]) (.int 1) = .ok G := qIx_at rfl rfl
  refine ⟨[.sta A (hist es) ts bs, .val m, .val (owedDeed d), .no, .no, .no], ?_, rfl⟩
  clear hne e0
  generalize owedDeed d = Q at *
  generalize hist es = H at *
  simp [f__law_answer, b__law_answer, r__law_answer_1, r__law_answer_2, r__law_answer_3, fnS, sqS, ifS, thn1, bin2, rd, rdw, a0, a1, t1, t2, t3, t4, asB, rtS, staH, staT, tupA, q, callF, callE, consA, ac, outR, i1, h, plainR, flatD]
theorem ans_strike {A : SA} {m : D} {es es' : List Ent} {ts bs : List D} {d : Int} {c : Bool} (h : f__law_struck [hist es, .int d] = .rt (hist es')) (hq : qEq (hist es') (hist es) = .ok (.bool c)) :
    ∃ r : Rho, f__law_answer A (hist es) ts bs [m, strikeDeed d] = .rt (.str (if c then sNoRead else sDone)) r ∧ r[0]? = some (.sta A (if c then hist es else hist es') ts bs) := by
  have a0 : qIx (strikeDeed d) (.int 0) = .ok (.str sStrike) := qIx_at rfl rfl
  have a1 : qIx (strikeDeed d) (.int 1) = .ok (.int d) := qIx_at rfl rfl
  have t1 : qEq (.str sStrike) (.str sTariff) = .ok (.bool false) := q_two (by decide +kernel)
  have t2 : qEq (.str sStrike) (.str sBill) = .ok (.bool false) := q_two (by decide +kernel)
  have t3 : qEq (.str sStrike) (.str sUse) = .ok (.bool false) := q_two (by decide +kernel)
  have t4 : qEq (.str sStrike) (.str sOwed) = .ok (.bool false) := q_two (by decide +kernel)
  have t5 : qEq (.str sStrike) (.str sStrike) = .ok (.bool true) := q_two (by decide +kernel)
  generalize hist es' = H' at *
  generalize hist es = H at *
  cases c with
  | true =>
    refine ⟨[.sta A H ts bs, .val m, .val (strikeDeed d), .no, .val H', .no], ?_, rfl⟩
    generalize strikeDeed d = Q at *
    simp [f__law_answer, b__law_answer, r__law_answer_1, r__law_answer_2, r__law_answer_3, r__law_answer_4, fnS, sqS, ifS, thn1, bin2, rd, rdw, a0, a1, t1, t2, t3, t4, t5, asB, rtS, upS, setE, vThen, callE, consA, staH, h, outR, hq]
  | false =>
    refine ⟨[.sta A H' ts bs, .val m, .val (strikeDeed d), .no, .val H', .no], ?_, rfl⟩
    generalize strikeDeed d = Q at *
    simp [f__law_answer, b__law_answer, r__law_answer_1, r__law_answer_2, r__law_answer_3, r__law_answer_4, fnS, sqS, ifS, thn1, bin2, rd, rdw, a0, a1, t1, t2, t3, t4, t5, asB, rtS, upS, setE, vThen, callE, consA, staH, h, outR, hq, ptH]
end K11

namespace K11
open PySem PySem.Spec PyProof.Rows L2 PD
/-! ### the program's refusals -/
theorem answer_2 {M S Q : D} (h : outR (f_do_deed [M, S, Q]) = .ex 2) : f_answer_to [M, S, Q] = .rt (.tuple [.str sThere, S]) := by
  have s1 : subC 2 1 = false := by decide
  have s2 : subC 2 2 = true := by decide
  have x : (sqf (retE (callE (consA (rd 0) (consA (rd 1) (consA (rd 2) (fun _ => .ok [])))) f_do_deed)) .nx) [.val M, .val S, .val Q] = .ex 2 [.val M, .val S, .val Q] := by
    simp [sqf, retE, vThen, callE, consA, rd, h]
  simp [f_answer_to, b_answer_to, fnD, sqf, tryM, pickM, retE, vThen, callE, consA, rd, h, s1, s2, tupA, Out.flat]
theorem answer_3 {M S Q : D} (h : outR (f_do_deed [M, S, Q]) = .ex 3) : f_answer_to [M, S, Q] = .rt (.tuple [.str sLater, S]) := by
  have s1 : subC 3 1 = false := by decide
  have s2 : subC 3 2 = false := by decide
  have s3 : subC 3 3 = true := by decide
  have x : (sqf (retE (callE (consA (rd 0) (consA (rd 1) (consA (rd 2) (fun _ => .ok [])))) f_do_deed)) .nx) [.val M, .val S, .val Q] = .ex 3 [.val M, .val S, .val Q] := by
    simp [sqf, retE, vThen, callE, consA, rd, h]
  simp [f_answer_to, b_answer_to, fnD, sqf, tryM, pickM, retE, vThen, callE, consA, rd, h, s1, s2, s3, tupA, Out.flat]
theorem answer_4 {M S Q : D} (h : outR (f_do_deed [M, S, Q]) = .ex 4) : f_answer_to [M, S, Q] = .rt (.tuple [.str sNoVal, S]) := by
  have s1 : subC 4 1 = false := by decide
  have s2 : subC 4 2 = false := by decide
  have s3 : subC 4 3 = false := by decide
  have s4 : subC 4 4 = true := by decide
  have x : (sqf (retE (callE (consA (rd 0) (consA (rd 1) (consA (rd 2) (fun _ => .ok [])))) f_do_deed)) .nx) [.val M, .val S, .val Q] = .ex 4 [.val M, .val S, .val Q] := by
    simp [sqf, retE, vThen, callE, consA, rd, h]
  simp [f_answer_to, b_answer_to, fnD, sqf, tryM, pickM, retE, vThen, callE, consA, rd, h, s1, s2, s3, s4, tupA, Out.flat]
theorem answer_5 {M S Q : D} (h : outR (f_do_deed [M, S, Q]) = .ex 5) : f_answer_to [M, S, Q] = .rt (.tuple [.str sNoRead, S]) := by
  have s1 : subC 5 1 = false := by decide
  have s2 : subC 5 2 = false := by decide
  have s3 : subC 5 3 = false := by decide
  have s4 : subC 5 4 = false := by decide
  have s5 : subC 5 5 = true := by decide
  have x : (sqf (retE (callE (consA (rd 0) (consA (rd 1) (consA (rd 2) (fun _ => .ok [])))) f_do_deed)) .nx) [.val M, .val S, .val Q] = .ex 5 [.val M, .val S, .val Q] := by
    simp [sqf, retE, vThen, callE, consA, rd, h]
  simp [f_answer_to, b_answer_to, fnD, sqf, tryM, pickM, retE, vThen, callE, consA, rd, h, s1, s2, s3, s4, s5, tupA, Out.flat]
/-- what a refusal is called -/
def wordOf : Nat → Str
  | 1 => sNoMeter
  | 2 => sThere
  | 3 => sLater
  | 4 => sNoVal
  | _ => sNoRead
theorem answer_ex {M S Q : D} {c : Nat} (hc : 1 ≤ c ∧ c ≤ 5) (h : outR (f_do_deed [M, S, Q]) = .ex c) : f_answer_to [M, S, Q] = .rt (.tuple [.str (wordOf c), S]) := by
  obtain ⟨h1, h2⟩ := hc
  have e : c = 1 ∨ c = 2 ∨ c = 3 ∨ c = 4 ∨ c = 5 := by omega
  rcases e with rfl | rfl | rfl | rfl | rfl
  · exact answer_nm h
  · exact answer_2 h
  · exact answer_3 h
  · exact answer_4 h
  · exact answer_5 h
theorem ex_tar {m : Int} {s : PSt} {t : Tar} {c : Nat} (hc : 1 ≤ c ∧ c ≤ 5) (h : outR (f_with_tariff [.tuple (tarsD s.ts), t.dat]) = .ex c) : f_answer_to [.int m, s.dat, t.deed] = .rt (.tuple [.str (wordOf c), s.dat]) := by
  refine answer_ex hc ?_
  have n1 : ¬ sTariff = sStart := by decide +kernel
  have n2 : ¬ sTariff = sRead := by decide +kernel
  have n3 : ¬ sTariff = sChange := by decide +kernel
  have n4 : ¬ sTariff = sStrike := by decide +kernel
  have e : t.dat = .tuple [.int t.day, .int t.st, .int t.low, .int t.lim, .int t.high] := rfl
  rw [e] at h
  have ag : aTup [3, 4, 5] s.dat = some [(3, hist s.es), (4, .tuple (tarsD s.ts)), (5, .tuple (billsD s.bs))] := rfl
  unfold Tar.deed
  generalize s.dat = S at *
  generalize hist s.es = A at *
  generalize PyData.tuple (tarsD s.ts) = T at *
  generalize PyData.tuple (billsD s.bs) = B at *
  simp [f_do_deed, b_do_deed, mc1_do_deed_4, fnD, sqf, sAsg, vThen, rd, ag, setsD, sMatch, mCases, mtD, n1, n2, n3, n4, setE, tupA, consA, retE, callE, h]
theorem ex_start {m : Int} {s : PSt} {d z w : Int} {c : Nat} (hc : 1 ≤ c ∧ c ≤ 5) (h : outR (f_begun [hist s.es, .int d, .int z, .int w]) = .ex c) : f_answer_to [.int m, s.dat, (Ent.start d z w).deed] = .rt (.tuple [.str (wordOf c), s.dat]) := by
  refine answer_ex hc ?_
  have ag : aTup [3, 4, 5] s.dat = some [(3, hist s.es), (4, .tuple (tarsD s.ts)), (5, .tuple (billsD s.bs))] := rfl
  unfold Ent.deed
  generalize s.dat = S at *
  generalize hist s.es = A at *
  generalize PyData.tuple (tarsD s.ts) = T at *
  generalize PyData.tuple (billsD s.bs) = B at *
  simp [f_do_deed, b_do_deed, mc1_do_deed_0, fnD, sqf, sAsg, vThen, rd, ag, setsD, sMatch, mCases, mtD, tupA, consA, retE, callE, h]
theorem ex_read {m : Int} {s : PSt} {d v : Int} {x : Bool} {c : Nat} (hc : 1 ≤ c ∧ c ≤ 5) (h : outR (f_read_on [hist s.es, .int d, .int v]) = .ex c) : f_answer_to [.int m, s.dat, (Ent.read d v x).deed] = .rt (.tuple [.str (wordOf c), s.dat]) := by
  refine answer_ex hc ?_
  have n1 : ¬ sRead = sStart := by decide +kernel
  have ag : aTup [3, 4, 5] s.dat = some [(3, hist s.es), (4, .tuple (tarsD s.ts)), (5, .tuple (billsD s.bs))] := rfl
  unfold Ent.deed
  generalize s.dat = S at *
  generalize hist s.es = A at *
  generalize PyData.tuple (tarsD s.ts) = T at *
  generalize PyData.tuple (billsD s.bs) = B at *
  simp [f_do_deed, b_do_deed, mc1_do_deed_1, fnD, sqf, sAsg, vThen, rd, rdw, ag, setsD, sMatch, mCases, mtD, n1, setE, tupA, consA, callE, h]
theorem ex_change {m : Int} {s : PSt} {d v z w : Int} {c : Nat} (hc : 1 ≤ c ∧ c ≤ 5) (h : outR (f_changed_on [hist s.es, .int d, .int v, .int z, .int w]) = .ex c) : f_answer_to [.int m, s.dat, (Ent.change d v z w).deed] = .rt (.tuple [.str (wordOf c), s.dat]) := by
  refine answer_ex hc ?_
  have n1 : ¬ sChange = sStart := by decide +kernel
  have n2 : ¬ sChange = sRead := by decide +kernel
  have ag : aTup [3, 4, 5] s.dat = some [(3, hist s.es), (4, .tuple (tarsD s.ts)), (5, .tuple (billsD s.bs))] := rfl
  unfold Ent.deed
  generalize s.dat = S at *
  generalize hist s.es = A at *
  generalize PyData.tuple (tarsD s.ts) = T at *
  generalize PyData.tuple (billsD s.bs) = B at *
  simp [f_do_deed, b_do_deed, mc1_do_deed_2, fnD, sqf, sAsg, vThen, rd, ag, setsD, sMatch, mCases, mtD, n1, n2, tupA, consA, retE, callE, h]
theorem ex_strike {m : Int} {s : PSt} {d : Int} {c : Nat} (hc : 1 ≤ c ∧ c ≤ 5) (h : outR (f_struck [hist s.es, .int d]) = .ex c) : f_answer_to [.int m, s.dat, strikeDeed d] = .rt (.tuple [.str (wordOf c), s.dat]) := by
  refine answer_ex hc ?_
  have ag : aTup [3, 4, 5] s.dat = some [(3, hist s.es), (4, .tuple (tarsD s.ts)), (5, .tuple (billsD s.bs))] := rfl
  unfold strikeDeed
  generalize s.dat = S at *
  generalize hist s.es = A at *
  generalize PyData.tuple (tarsD s.ts) = T at *
  generalize PyData.tuple (billsD s.bs) = B at *
  simp [f_do_deed, b_do_deed, mc1_do_deed_3, fnD, sqf, sAsg, vThen, rd, ag, setsD, sMatch, mCases, mtD, tupA, consA, retE, callE, h]
theorem ex_bill {m : Int} {s : PSt} {d : Int} {c : Nat} (hc : 1 ≤ c ∧ c ≤ 5) (h : outR (f_with_bill [hist s.es, .int m, .tuple (tarsD s.ts), .tuple (billsD s.bs), .int d]) = .ex c) : f_answer_to [.int m, s.dat, billDeed d] = .rt (.tuple [.str (wordOf c), s.dat]) := by
  refine answer_ex hc ?_
  have n1 : ¬ sBill = sStrike := by decide +kernel
  have ag : aTup [3, 4, 5] s.dat = some [(3, hist s.es), (4, .tuple (tarsD s.ts)), (5, .tuple (billsD s.bs))] := rfl
  unfold billDeed
  generalize s.dat = S at *
  generalize hist s.es = A at *
  generalize PyData.tuple (tarsD s.ts) = T at *
  generalize PyData.tuple (billsD s.bs) = B at *
  simp [f_do_deed, b_do_deed, mc1_do_deed_5, fnD, sqf, sAsg, vThen, rd, rdw, ag, setsD, sMatch, mCases, mtD, n1, setE, tupA, consA, callE, h]
theorem deed_use {m : Int} {s : PSt} {d u : Int} (h : f_use_on [hist s.es, .int m, .int d] = .rt (.int u)) : f_answer_to [.int m, s.dat, useDeed d] = .rt (.tuple [.int u, s.dat]) := by
  refine answer_ok ?_
  have n1 : ¬ sUse = sStrike := by decide +kernel
  have n2 : ¬ sUse = sBill := by decide +kernel
  have ag : aTup [3, 4, 5] s.dat = some [(3, hist s.es), (4, .tuple (tarsD s.ts)), (5, .tuple (billsD s.bs))] := rfl
  unfold useDeed
  generalize s.dat = S at *
  generalize hist s.es = A at *
  generalize PyData.tuple (tarsD s.ts) = T at *
  generalize PyData.tuple (billsD s.bs) = B at *
  simp [f_do_deed, b_do_deed, mc1_do_deed_6, fnD, sqf, sAsg, vThen, rd, rdw, ag, setsD, sMatch, mCases, mtD, n1, n2, setE, tupA, consA, callE, h, outR, retE]
theorem deed_owed {m : Int} {s : PSt} {d u : Int} (h : f_owed [hist s.es, .int m, .tuple (tarsD s.ts), .int d] = .rt (.int u)) : f_answer_to [.int m, s.dat, owedDeed d] = .rt (.tuple [.int u, s.dat]) := by
  refine answer_ok ?_
  have n1 : ¬ sOwed = sStrike := by decide +kernel
  have n2 : ¬ sOwed = sBill := by decide +kernel
  have n3 : ¬ sOwed = sUse := by decide +kernel
  have ag : aTup [3, 4, 5] s.dat = some [(3, hist s.es), (4, .tuple (tarsD s.ts)), (5, .tuple (billsD s.bs))] := rfl
  unfold owedDeed
  generalize s.dat = S at *
  generalize hist s.es = A at *
  generalize PyData.tuple (tarsD s.ts) = T at *
  generalize PyData.tuple (billsD s.bs) = B at *
  simp [f_do_deed, b_do_deed, mc1_do_deed_7, fnD, sqf, sAsg, vThen, rd, rdw, ag, setsD, sMatch, mCases, mtD, n1, n2, n3, setE, tupA, consA, callE, h, outR, retE]
theorem ex_owed {m : Int} {s : PSt} {d : Int} {c : Nat} (hc : 1 ≤ c ∧ c ≤ 5) (h : outR (f_owed [hist s.es, .int m, .tuple (tarsD s.ts), .int d]) = .ex c) : f_answer_to [.int m, s.dat, owedDeed d] = .rt (.tuple [.str (wordOf c), s.dat]) := by
  refine answer_ex hc ?_
  have n1 : ¬ sOwed = sStrike := by decide +kernel
  have n2 : ¬ sOwed = sBill := by decide +kernel
  have n3 : ¬ sOwed = sUse := by decide +kernel
  have ag : aTup [3, 4, 5] s.dat = some [(3, hist s.es), (4, .tuple (tarsD s.ts)), (5, .tuple (billsD s.bs))] := rfl
  unfold owedDeed
  generalize s.dat = S at *
  generalize hist s.es = A at *
  generalize PyData.tuple (tarsD s.ts) = T at *
  generalize PyData.tuple (billsD s.bs) = B at *
  simp [f_do_deed, b_do_deed, mc1_do_deed_7, fnD, sqf, sAsg, vThen, rd, rdw, ag, setsD, sMatch, mCases, mtD, n1, n2, n3, setE, tupA, consA, callE, h, retE]
end K11

namespace K11
open PySem PySem.Spec PyProof.Rows L2 PD
theorem owed_es {m d : Int} {es : List Ent} {ts : List Tar} (hm : 0 ≤ m ∧ m ≤ 1000000000000) (hs : Hst es) (ht : ∀ t ∈ ts, t.ok) (hd : 0 ≤ d ∧ d ≤ 1000000) : f_owed [hist es, .int m, .tuple (tarsD ts), .int d] = .rt (.int (owes m es ts d)) := by
  obtain ⟨d0, z, w, r, rfl, hr, hd0, hn⟩ := hs
  have gl := gap_length (m := m) r (d0, z, w)
  have h0 := hr.day
  simp only at h0
  have us := uses_run (low := d0) (high := d) (spans_run hm hr (by omega)) (gap_chn hr) (by omega) (by omega)
  exact owed_run rfl ((Ent.start d0 z w).at1) us ht
theorem small_day {x : Int} (h : 0 ≤ x ∧ x ≤ 1000000000000) : small x := small_of ⟨by omega, by omega⟩
theorem chn_es {m : Int} {es : List Ent} (he : EOk es) : ∃ lo, Chn lo (gapsOf m es) := by
  rcases he with rfl | ⟨d0, z, w, r, rfl, hr, _⟩
  · exact ⟨0, .nil⟩
  · exact ⟨_, gap_chn hr⟩
theorem spans_es {m : Int} {es : List Ent} (hm : 0 ≤ m ∧ m ≤ 1000000000000) (he : EOk es) : f_spans [hist es, .int m] = .rt (.list (gapD (gapsOf m es))) ∧ (gapsOf m es).length ≤ 200 := by
  rcases he with rfl | ⟨d0, z, w, r, rfl, hr, hd0, hn⟩
  · exact ⟨spans_nil, by simp [gapsOf]⟩
  · have gl := gap_length (m := m) r (d0, z, w)
    exact ⟨spans_run hm hr (by omega), by simp only [gapsOf]; omega⟩
/-! ### does the last reading count -/
theorem plc_app (m : Int) (e : Ent) : ∀ (r : List Ent) (k : Nat) (t : St3), plc m k t (r ++ [e]) = plc m k t r ++ (if e.cnt m (endS m t r) then [k + r.length] else [])
  | [], k, t => by
    show (if e.cnt m t then k :: [] else []) = [] ++ (if e.cnt m t then [k + 0] else [])
    cases e.cnt m t <;> rfl
  | f :: r, k, t => by
    have h1 := plc_app m e r (k + 1) (f.beh t)
    have h2 := plc_app m e r (k + 1) t
    have e1 : k + 1 + r.length = k + (f :: r).length := by simp; omega
    rw [e1] at h1 h2
    show (if f.cnt m t then k :: plc m (k + 1) (f.beh t) (r ++ [e]) else plc m (k + 1) t (r ++ [e])) = (if f.cnt m t then k :: plc m (k + 1) (f.beh t) r else plc m (k + 1) t r) ++ (if e.cnt m (if f.cnt m t then endS m (f.beh t) r else endS m t r) then [k + (f :: r).length] else [])
    cases hc : f.cnt m t with
    | true => simp only [if_true]; rw [h1]; rfl
    | false => simp only [Bool.false_eq_true, if_false]; rw [h2]
theorem endS_app (m : Int) (e : Ent) : ∀ (r : List Ent) (t : St3), endS m t (r ++ [e]) = if e.cnt m (endS m t r) then e.beh (endS m t r) else endS m t r
  | [], t => rfl
  | f :: r, t => by
    have h1 := endS_app m e r (f.beh t)
    have h2 := endS_app m e r t
    show (if f.cnt m t then endS m (f.beh t) (r ++ [e]) else endS m t (r ++ [e])) = if e.cnt m (if f.cnt m t then endS m (f.beh t) r else endS m t r) then e.beh (if f.cnt m t then endS m (f.beh t) r else endS m t r) else (if f.cnt m t then endS m (f.beh t) r else endS m t r)
    cases hc : f.cnt m t with
    | true => simp only [if_true]; exact h1
    | false => simp only [Bool.false_eq_true, if_false]; exact h2
theorem endS_day (m : Int) : ∀ (r : List Ent) (t : St3), (endS m t r).1 = t.1 ∨ ∃ f ∈ r, (endS m t r).1 = f.day
  | [], t => .inl rfl
  | f :: r, t => by
    show (if f.cnt m t then endS m (f.beh t) r else endS m t r).1 = t.1 ∨ ∃ g ∈ f :: r, (if f.cnt m t then endS m (f.beh t) r else endS m t r).1 = g.day
    cases hc : f.cnt m t with
    | true =>
      simp only [if_true]
      rcases endS_day m r (f.beh t) with h | ⟨g, hg, h⟩
      · exact .inr ⟨f, List.mem_cons_self, h⟩
      · exact .inr ⟨g, List.mem_cons_of_mem _ hg, h⟩
    | false =>
      simp only [Bool.false_eq_true, if_false]
      rcases endS_day m r t with h | ⟨g, hg, h⟩
      · exact .inl h
      · exact .inr ⟨g, List.mem_cons_of_mem _ hg, h⟩
theorem in_nat (n : Nat) (ps : List Nat) : qIn false (.int (n : Nat)) (.list (natD ps)) = .ok (.bool (decide (n ∈ ps))) := by
  have e : ((natD ps).any fun y => PyData.eqv y (.int (n : Nat))) = decide (n ∈ ps) := by
    unfold natD
    rw [List.any_map]
    induction ps with
    | nil => rfl
    | cons p ps ih =>
      rw [List.any_cons, ih]
      simp only [Function.comp_apply, eqv_ii]
      by_cases h : n = p
      · subst h
        simp
      · have h' : ¬ ((p : Int) = (n : Int)) := by omega
        simp [h, h']
  unfold qIn
  simp only [items]
  rw [if_pos ⟨rfl, by rw [List.all_eq_true]; intro x hx; obtain ⟨i, _, rfl⟩ := List.mem_map.mp hx; rfl⟩, e]
  rfl
theorem read_counts {m d v : Int} {es : List Ent} {l : Ent} (hm : 0 ≤ m ∧ m ≤ 1000000000000) (hs : Hst es) (hl : es.getLast? = some l) (hd : l.day < d ∧ d ≤ 1000000) (hn : es.length ≤ 90) :
    ∃ (c : Bool) (ps : List D) (k : Int), f__law_account [hist (es ++ [.read d v false]), .int m] = .rt (.tuple [.list ps, .list (gapD (gapsOf m (es ++ [.read d v false])))]) ∧ qIn false (.int ((es.length : Nat) : Int)) (.list ps) = .ok (.bool c) ∧
      f_known_to [hist (es ++ [.read d v false]), .int m] = .rt (.int k) ∧ (k = d ↔ c = true) := by
  have hs2 : Hst (es ++ [.read d v false]) := hs.snoc (e := .read d v false) hl hd.1 hd.2 trivial (by omega)
  obtain ⟨l', e1, hb, l0, l1⟩ := hs.last
  rw [hl] at e1
  cases e1
  obtain ⟨ps, ac, hps⟩ := lawacc_es hm (.inr hs2)
  obtain ⟨d0, z, w, r, rfl, hr, hd0, hn'⟩ := hs
  have eq : Ent.start d0 z w :: r ++ [.read d v false] = .start d0 z w :: (r ++ [.read d v false]) := rfl
  have hr2 : Rest (d0, z, w) (r ++ [.read d v false]) := by
    obtain ⟨d1, z1, w1, r1, e1, hr1, _⟩ := hs2
    rw [eq] at e1
    cases e1
    exact hr1
  have kn := known_run (m := m) hm hr2 (by simp at hn ⊢; omega)
  rw [← eq] at kn
  have hp := hps _ _ _ _ eq
  subst hp
  rw [plc_app] at ac
  rw [endS_app] at kn
  refine ⟨(Ent.read d v false).cnt m (endS m (d0, z, w) r), _, _, ac, ?_, kn, ?_⟩
  · rw [in_nat]
    refine congrArg (fun b => Res.ok (PyData.bool b)) ?_
    cases hc : (Ent.read d v false).cnt m (endS m (d0, z, w) r) with
    | true =>
      refine decide_eq_true (List.mem_cons_of_mem _ (List.mem_append_right _ ?_))
      simp only [if_true]
      refine List.mem_singleton.mpr ?_
      rw [List.length_cons]
      omega
    | false =>
      simp only [Bool.false_eq_true, if_false, List.append_nil]
      rw [decide_eq_false_iff_not]
      intro hmem
      rcases List.mem_cons.mp hmem with h | h
      · simp at h
      · have := plc_ge h
        simp at this
        omega
  · cases hc : (Ent.read d v false).cnt m (endS m (d0, z, w) r) with
    | true => simp [Ent.beh, Ent.day]
    | false =>
      simp only [Bool.false_eq_true, if_false, iff_false]
      intro h
      rcases endS_day m r (d0, z, w) with q | ⟨f, hf, q⟩
      · have h2 : d0 ≤ l.day := hb (.start d0 z w) List.mem_cons_self
        have q' : (endS m (d0, z, w) r).1 = d0 := q
        omega
      · have := hb f (List.mem_cons_of_mem _ hf)
        omega
theorem deed_read2 {m : Int} {s : PSt} {d v k : Int} {x c : Bool} (h : outR (f_read_on [hist s.es, .int d, .int v]) = .ok (hist (s.es ++ [.read d v false]))) (hk : f_known_to [hist (s.es ++ [.read d v false]), .int m] = .rt (.int k)) (hc : k = d ↔ c = true) :
    f_answer_to [.int m, s.dat, (Ent.read d v x).deed] = .rt (.tuple [.str (if c then sCounts else sDoubted), (PSt.mk (s.es ++ [.read d v false]) s.ts s.bs).dat]) := by
  have n1 : ¬ sRead = sStart := by decide +kernel
  have ag : aTup [3, 4, 5] s.dat = some [(3, hist s.es), (4, .tuple (tarsD s.ts)), (5, .tuple (billsD s.bs))] := rfl
  have e2 : (PSt.mk (s.es ++ [.read d v false]) s.ts s.bs).dat = .tuple [hist (s.es ++ [.read d v false]), .tuple (tarsD s.ts), .tuple (billsD s.bs)] := rfl
  rw [e2]
  have q := eq_int k d
  refine answer_ok ?_
  unfold Ent.deed
  generalize hist (s.es ++ [.read d v false]) = A' at *
  generalize s.dat = S at *
  generalize hist s.es = A at *
  generalize PyData.tuple (tarsD s.ts) = T at *
  generalize PyData.tuple (billsD s.bs) = B at *
  by_cases e : k = d
  · have c1 := hc.mp e
    subst c1
    simp [f_do_deed, b_do_deed, mc1_do_deed_1, fnD, sqf, sAsg, vThen, rd, rdw, ag, setsD, sMatch, mCases, mtD, n1, setE, tupA, consA, retE, callE, h, hk, ifV, thn1, bin2, q, e, asB]
  · have c1 : c = false := by
      cases c with
      | false => rfl
      | true => exact absurd (hc.mpr rfl) e
    subst c1
    simp [f_do_deed, b_do_deed, mc1_do_deed_1, fnD, sqf, sAsg, vThen, rd, rdw, ag, setsD, sMatch, mCases, mtD, n1, setE, tupA, consA, retE, callE, h, hk, ifV, thn1, bin2, q, e, asB]
/-! ### a struck history -/
theorem hitM_day (d : Int) (e : Ent) : (hitM d e).day = e.day := by
  unfold hitM
  split
  · exact e.mark_day
  · rfl
theorem hitM_later {d : Int} {e : Ent} (h : e.later) : (hitM d e).later := by
  unfold hitM
  split
  · cases e with
    | start => exact h
    | read => exact h
    | change => exact h
  · exact h
theorem rest_hits {t : St3} {r : List Ent} (h : Rest t r) (d : Int) : Rest t (r.map (hitM d)) := by
  refine ⟨h.pos, h.day, ?_, fun e he => ?_, fun e he => ?_⟩
  · rw [List.pairwise_map]
    exact h.days.imp fun z => by rw [hitM_day, hitM_day]; exact z
  · obtain ⟨f, hf, rfl⟩ := List.mem_map.mp he
    rw [hitM_day]
    exact h.late f hf
  · obtain ⟨f, hf, rfl⟩ := List.mem_map.mp he
    exact hitM_later (h.fit f hf)
theorem hst_hits {es : List Ent} (h : Hst es) (d : Int) : Hst (es.map (hitM d)) := by
  obtain ⟨d0, z, w, r, rfl, hr, hd, hn⟩ := h
  exact ⟨d0, z, w, r.map (hitM d), rfl, rest_hits hr d, hd, by simpa using hn⟩
theorem hst_days {es : List Ent} (h : Hst es) : es.Pairwise fun a b => a.day < b.day := by
  obtain ⟨d0, z, w, r, rfl, hr, _⟩ := h
  exact List.pairwise_cons.mpr ⟨fun b hb => (hr.late b hb).1, hr.days⟩
theorem hit_or {es : List Ent} (h : Hst es) (d : Int) : (∀ e ∈ es, Ent.hit d e = false) ∨ ∃ (n : Nat) (e : Ent), es[n]? = some e ∧ Ent.hit d e = true ∧ ∀ (i : Nat) (f : Ent), i ≠ n → es[i]? = some f → Ent.hit d f = false := by
  by_cases hc : ∀ e ∈ es, Ent.hit d e = false
  · exact .inl hc
  · refine .inr ?_
    obtain ⟨e, he⟩ := Classical.not_forall.mp hc
    obtain ⟨he, hh⟩ := Classical.not_imp.mp he
    have hh' : e.hit d = true := by simpa using hh
    obtain ⟨n, hn⟩ := List.mem_iff_getElem?.mp he
    refine ⟨n, e, hn, hh', fun i f hi hf => ?_⟩
    cases hg : f.hit d with
    | false => rfl
    | true =>
      obtain ⟨v, rfl⟩ := Ent.hit_day hh'
      obtain ⟨u, rfl⟩ := Ent.hit_day hg
      exact absurd (one_day (hst_days h) hf hn rfl) hi
end K11

namespace K11
open PySem PySem.Spec PyProof.Rows L2 PD
inductive Dq where
  | ent (e : Ent) | tar (t : Tar) | bill (d : Int) | strike (d : Int) | use (d : Int) | owed (d : Int)
def Dq.dat : Dq → D
  | .ent e => e.deed
  | .tar t => t.deed
  | .bill d => billDeed d
  | .strike d => strikeDeed d
  | .use d => useDeed d
  | .owed d => owedDeed d
structure Inv (k : Nat) (s : PSt) : Prop where
  he : EOk s.es
  hl : s.es.length ≤ k
  hd : ∀ l, s.es.getLast? = some l → l.day ≤ 200 + 10 * (k : Int)
  tk : ∀ t ∈ s.ts, t.ok
  tn : (s.ts.map Tar.day).Nodup
  tl : s.ts.length ≤ k
  bl : s.bs.length ≤ k
  bd : 0 ≤ lastB s.bs ∧ lastB s.bs ≤ 100000
theorem Inv.up {k : Nat} {s : PSt} (I : Inv k s) : Inv (k + 1) s :=
  ⟨I.he, by have := I.hl; omega, fun l h => by have := I.hd l h; omega, I.tk, I.tn, by have := I.tl; omega, by have := I.bl; omega, I.bd⟩
theorem inv_es {k : Nat} {s : PSt} (I : Inv k s) {es' : List Ent} (h1 : EOk es') (h2 : es'.length ≤ k + 1) (h3 : ∀ l, es'.getLast? = some l → l.day ≤ 200 + 10 * ((k + 1 : Nat) : Int)) : Inv (k + 1) ⟨es', s.ts, s.bs⟩ :=
  ⟨h1, h2, h3, I.tk, I.tn, Nat.le_succ_of_le I.tl, Nat.le_succ_of_le I.bl, I.bd⟩
theorem inv_snoc {k : Nat} {s : PSt} (I : Inv k s) (hk : k ≤ 60) (hs : Hst s.es) {l e : Ent} (hl : s.es.getLast? = some l) (h1 : l.day < e.day) (h2 : e.day ≤ 200 + 10 * (k + 1 : Int)) (hf : e.later) : Inv (k + 1) ⟨s.es ++ [e], s.ts, s.bs⟩ := by
  have := I.hl
  refine inv_es I (.inr (hs.snoc hl h1 (by omega) hf (by omega))) (by simp; omega) fun l' h => ?_
  have e1 : (s.es ++ [e]).getLast? = some e := by simp
  rw [e1] at h
  cases h
  omega
def Good (k : Nat) : Dq → Prop
  | .ent (.start d z w) => (0 ≤ d ∧ d ≤ 200) ∧ (2 ≤ z ∧ z ≤ 1000000000000) ∧ 0 ≤ w ∧ w ≤ z
  | .ent (.read d v _) => (0 ≤ d ∧ d ≤ 200 + 10 * (k + 1 : Int)) ∧ 0 ≤ v ∧ v ≤ 1000000000000
  | .ent (.change d v z w) => (0 ≤ d ∧ d ≤ 200 + 10 * (k + 1 : Int)) ∧ (0 ≤ v ∧ v ≤ 1000000000000) ∧ (2 ≤ z ∧ z ≤ 1000000000000) ∧ 0 ≤ w ∧ w ≤ z
  | .tar t => t.ok
  | .bill d => 0 ≤ d ∧ d ≤ 100000
  | .strike d => 0 ≤ d ∧ d ≤ 100000
  | .use d => 0 ≤ d ∧ d ≤ 100000
  | .owed d => 0 ≤ d ∧ d ≤ 100000
def srt (s : PSt) : PSt := ⟨s.es, tarSort s.ts, s.bs⟩
/-- what an answer may be -/
def Wd (a : D) : Prop := (∃ x, a = .str x ∧ PyData.strOk x = true) ∨ ∃ i, a = .int i
theorem wd_word (c : Nat) : Wd (.str (wordOf c)) := .inl ⟨_, rfl, by
  unfold wordOf
  split <;> decide +kernel⟩
theorem wd_done : Wd (.str sDone) := .inl ⟨_, rfl, by decide +kernel⟩
/-- one deed, on both sides -/
structure Stp (m : Int) (s : PSt) (q : Dq) (a : D) (s' : PSt) : Prop where
  law : ∀ A, ∃ r : Rho, f__law_answer A (hist s.es) (tarsD s.ts) (billsD s.bs) [.int m, q.dat] = .rt a r ∧ r[0]? = some (.sta A (hist s'.es) (tarsD s'.ts) (billsD s'.bs))
  prog : f_answer_to [.int m, (srt s).dat, q.dat] = .rt (.tuple [a, (srt s').dat])
  wd : Wd a
theorem sort_put {ts : List Tar} {t : Tar} (h : ((ts ++ [t]).map Tar.day).Nodup) : tarSort (tarSort ts ++ [t]) = tarSort (ts ++ [t]) :=
  tarSort_uniq h ((tarSort_perm _).trans ((tarSort_perm ts).append_right [t])) (tarSort_le _)
theorem any_perm {ts us : List Tar} (h : ts.Perm us) (f : Tar → Bool) : ts.any f = us.any f := by
  cases hc : us.any f with
  | true =>
    obtain ⟨x, hx, h2⟩ := List.any_eq_true.mp hc
    exact List.any_eq_true.mpr ⟨x, h.mem_iff.mpr hx, h2⟩
  | false =>
    rw [List.any_eq_false] at hc ⊢
    exact fun x hx => hc x (h.mem_iff.mp hx)
theorem lastB_nil {bs : List Bil} (h : bs = []) : lastB bs = 0 := by
  subst h
  rfl
theorem step_start {m : Int} {k : Nat} {s : PSt} {d z w : Int} (I : Inv k s) (g : Good k (.ent (.start d z w))) : ∃ a s', Stp m s (.ent (.start d z w)) a s' ∧ Inv (k + 1) s' := by
  obtain ⟨g1, g2, g3⟩ := g
  have en := entryof_start (es := s.es) (d := d) (z := z) (w := w)
  have a0 := deed_0 (.start d z w)
  by_cases h : s.es = []
  · rw [if_neg (by simp [h])] at en
    have b : outR (f_begun [hist s.es, .int d, .int z, .int w]) = if z ≤ w then .ex 4 else .ok (hist [.start d z w]) := by
      rw [h]
      exact begun_none (small_day ⟨by omega, by omega⟩) (small_day ⟨by omega, by omega⟩)
    by_cases h2 : z ≤ w
    · rw [if_pos h2] at en b
      exact ⟨.str (wordOf 4), s, ⟨fun A => ans_entry_str far_start a0 en A, ex_start (s := srt s) (c := 4) (by omega) b, wd_word 4⟩, I.up⟩
    · rw [if_neg h2] at en b
      have nr : qNe (.str sStart) (.str sRead) = .ok (.bool true) := n_two (b := false) (by decide +kernel)
      have an := fun A => ans_entry_done (m := .int m) (ts := tarsD s.ts) (bs := billsD s.bs) far_start nr a0 en (by rw [h]; simp) A
      have e1 : s.es ++ [Ent.start d z w] = [.start d z w] := by rw [h]; rfl
      rw [e1] at an
      refine ⟨.str sDone, ⟨[Ent.start d z w], s.ts, s.bs⟩, ⟨an, deed_start (s := srt s) b, wd_done⟩, ?_⟩
      have r0 : Rest (d, z, w) [] := ⟨by simp only; omega, g1.1, List.Pairwise.nil, fun e he => (by cases he), fun e he => (by cases he)⟩
      refine inv_es I (.inr ⟨d, z, w, [], rfl, r0, by omega, by simp⟩) (by simp) fun l hl => ?_
      have e2 : [Ent.start d z w].getLast? = some (.start d z w) := rfl
      rw [e2] at hl
      cases hl
      show d ≤ 200 + 10 * ((k + 1 : Nat) : Int)
      omega
  · rw [if_pos h] at en
    exact ⟨.str (wordOf 2), s, ⟨fun A => ans_entry_str far_start a0 en A, ex_start (s := srt s) (c := 2) (by omega) (begun_some h), wd_word 2⟩, I.up⟩
theorem step_read {m : Int} {k : Nat} {s : PSt} {d v : Int} {x : Bool} (hm : 0 ≤ m ∧ m ≤ 1000000000000) (hk : k ≤ 60) (I : Inv k s) (g : Good k (.ent (.read d v x))) : ∃ a s', Stp m s (.ent (.read d v x)) a s' ∧ Inv (k + 1) s' := by
  obtain ⟨g1, g2⟩ := g
  have a0 := deed_0 (.read d v x)
  rcases I.he with h | hs
  · have en := entryof_none (e := .read d v x) ne_rs
    rw [← h] at en
    have b := read_on_none (d := d) (v := v)
    rw [← h] at b
    exact ⟨.str (wordOf 1), s, ⟨fun A => ans_entry_str far_read a0 en A, ex_read (s := srt s) (x := x) (c := 1) (by omega) b, wd_word 1⟩, I.up⟩
  · obtain ⟨l, hl, hb, l0, l1⟩ := hs.last
    have en := entryof_read (d := d) (v := v) (x := x) hs hl
    have sz := hs.size
    have b := read_on_run (d := d) (v := v) hl (small_day ⟨by omega, by omega⟩) (small_day ⟨l0, by omega⟩) hs.head (by have := I.hl; omega) rfl (small_day ⟨by omega, sz.2⟩) (small_day ⟨g2.1, by omega⟩)
    by_cases h1 : d ≤ l.day
    · rw [if_pos h1] at en b
      exact ⟨.str (wordOf 3), s, ⟨fun A => ans_entry_str far_read a0 en A, ex_read (s := srt s) (x := x) (c := 3) (by omega) b, wd_word 3⟩, I.up⟩
    · rw [if_neg h1] at en b
      by_cases h2 : lastSize 0 s.es ≤ v
      · rw [if_pos h2] at en b
        exact ⟨.str (wordOf 4), s, ⟨fun A => ans_entry_str far_read a0 en A, ex_read (s := srt s) (x := x) (c := 4) (by omega) b, wd_word 4⟩, I.up⟩
      · rw [if_neg h2] at en b
        obtain ⟨c, ps, kk, ac, qi, kn, hc⟩ := read_counts (d := d) (v := v) hm hs hl ⟨by omega, by omega⟩ (by have := I.hl; omega)
        have a0' : qIx (Ent.read d v x).deed (.int 0) = .ok (.str sRead) := a0
        have le : s.es.length ≤ 999 := by have := I.hl; omega
        have an := fun A => ans_entry_read (n := 0) (ts := tarsD s.ts) (bs := billsD s.bs) a0' en le ac qi A
        have pr := deed_read2 (s := srt s) (x := x) b kn hc
        refine ⟨.str (if c then sCounts else sDoubted), ⟨s.es ++ [Ent.read d v false], s.ts, s.bs⟩, ⟨an, pr, ?_⟩, ?_⟩
        · cases c
          · exact .inl ⟨_, rfl, by decide +kernel⟩
          · exact .inl ⟨_, rfl, by decide +kernel⟩
        · exact inv_snoc I hk hs hl (e := .read d v false) (by show l.day < d; omega) (by show d ≤ 200 + 10 * (k + 1 : Int); omega) trivial
theorem step_change {m : Int} {k : Nat} {s : PSt} {d v z w : Int} (hk : k ≤ 60) (I : Inv k s) (g : Good k (.ent (.change d v z w))) : ∃ a s', Stp m s (.ent (.change d v z w)) a s' ∧ Inv (k + 1) s' := by
  obtain ⟨g1, g2, g3, g4⟩ := g
  have a0 := deed_0 (.change d v z w)
  rcases I.he with h | hs
  · have en := entryof_none (e := .change d v z w) ne_cs
    rw [← h] at en
    have b := changed_on_none (d := d) (v := v) (s := z) (w := w)
    rw [← h] at b
    exact ⟨.str (wordOf 1), s, ⟨fun A => ans_entry_str far_change a0 en A, ex_change (s := srt s) (c := 1) (by omega) b, wd_word 1⟩, I.up⟩
  · obtain ⟨l, hl, hb, l0, l1⟩ := hs.last
    have en := entryof_change (d := d) (v := v) (z := z) (w := w) hs hl
    have sz := hs.size
    have b := changed_on_run (d := d) (v := v) (s := z) (w := w) hl (small_day ⟨by omega, by omega⟩) (small_day ⟨l0, by omega⟩) hs.head (by have := I.hl; omega) rfl (small_day ⟨by omega, sz.2⟩) (small_day ⟨g2.1, by omega⟩) (small_day ⟨by omega, by omega⟩) (small_day ⟨by omega, by omega⟩)
    by_cases h1 : d ≤ l.day
    · rw [if_pos h1] at en b
      exact ⟨.str (wordOf 3), s, ⟨fun A => ans_entry_str far_change a0 en A, ex_change (s := srt s) (c := 3) (by omega) b, wd_word 3⟩, I.up⟩
    · rw [if_neg h1] at en b
      by_cases h2 : lastSize 0 s.es ≤ v ∨ z ≤ w
      · rw [if_pos h2] at en b
        exact ⟨.str (wordOf 4), s, ⟨fun A => ans_entry_str far_change a0 en A, ex_change (s := srt s) (c := 4) (by omega) b, wd_word 4⟩, I.up⟩
      · rw [if_neg h2] at en b
        have nr : qNe (.str sChange) (.str sRead) = .ok (.bool true) := n_two (b := false) (by decide +kernel)
        refine ⟨.str sDone, ⟨s.es ++ [Ent.change d v z w], s.ts, s.bs⟩, ⟨fun A => ans_entry_done far_change nr a0 en (by have := I.hl; omega) A, deed_change (s := srt s) b, wd_done⟩, ?_⟩
        exact inv_snoc I hk hs hl (e := .change d v z w) (by show l.day < d; omega) (by show d ≤ 200 + 10 * (k + 1 : Int); omega) ⟨by omega, g3.2⟩
theorem step_tar {m : Int} {k : Nat} {s : PSt} {t : Tar} (hk : k ≤ 60) (I : Inv k s) (g : t.ok) : ∃ a s', Stp m s (.tar t) a s' ∧ Inv (k + 1) s' := by
  have td := g.d
  have wr := with_run (ts := tarSort s.ts) (t := t) ⟨by omega, by omega⟩ (by rw [(tarSort_perm _).length_eq]; have := I.tl; omega)
  rw [any_perm (tarSort_perm s.ts)] at wr
  have an := fun A => ans_tar (A := A) (m := .int m) (H := hist s.es) (bs := billsD s.bs) (ts := s.ts) (t := t) (by have := I.tl; omega) _ rfl
  cases hc : s.ts.any fun u => decide (u.day = t.day) with
  | true =>
    rw [hc] at wr an
    rw [if_pos rfl] at wr
    exact ⟨.str (wordOf 2), s, ⟨an, ex_tar (s := srt s) (c := 2) (by omega) wr, wd_word 2⟩, I.up⟩
  | false =>
    rw [hc] at wr an
    rw [if_neg (by decide)] at wr
    have nd : ((s.ts ++ [t]).map Tar.day).Nodup := by
      rw [List.map_append, List.nodup_append]
      refine ⟨I.tn, by simp, fun a ha b hb => ?_⟩
      obtain ⟨u, hu, rfl⟩ := List.mem_map.mp ha
      rw [List.any_eq_false] at hc
      have := hc u hu
      simp at hb this
      rw [hb]
      exact this
    rw [sort_put nd] at wr
    refine ⟨.str sDone, ⟨s.es, s.ts ++ [t], s.bs⟩, ⟨an, deed_tar (s := srt s) wr, wd_done⟩, ?_⟩
    exact ⟨I.he, Nat.le_succ_of_le I.hl, fun l h => by have := I.hd l h; omega, fun u hu => by
      rcases List.mem_append.mp hu with z | z
      · exact I.tk u z
      · rw [List.mem_singleton.mp z]; exact g, nd, by have := I.tl; simp; omega, Nat.le_succ_of_le I.bl, I.bd⟩
theorem step_bill {m : Int} {k : Nat} {s : PSt} {d : Int} (hm : 0 ≤ m ∧ m ≤ 1000000000000) (hk : k ≤ 60) (I : Inv k s) (g : 0 ≤ d ∧ d ≤ 100000) : ∃ a s', Stp m s (.bill d) a s' ∧ Inv (k + 1) s' := by
  rcases I.he with h | hs
  · refine ⟨.str (wordOf 1), s, ⟨fun A => ans_bill (by rw [h]; exact lawbill_none) (by rw [h]; rfl), ex_bill (s := srt s) (c := 1) (by omega) (by show outR (f_with_bill [hist s.es, _, _, _, _]) = _; rw [h]; exact with_bill_none), wd_word 1⟩, I.up⟩
  · have o := owed_es (m := m) (ts := tarSort s.ts) hm hs (tarSort_ok I.tk) ⟨g.1, by omega⟩
    have wb := with_bill_run (bs := s.bs) o ⟨g.1, by omega⟩ ⟨by have := I.bd; omega, by have := I.bd; omega⟩ (by have := I.bl; omega)
    by_cases h1 : d < lastB s.bs
    · rw [if_pos h1] at wb
      have hb : s.bs ≠ [] := fun z => by
        rw [lastB_nil z] at h1
        omega
      exact ⟨.str (wordOf 3), s, ⟨fun A => ans_bill (lawbill_late hs.ne hb h1) rfl, ex_bill (s := srt s) (c := 3) (by omega) wb, wd_word 3⟩, I.up⟩
    · rw [if_neg h1] at wb
      refine ⟨.int (owes m s.es (tarSort s.ts) d - sumB s.bs), ⟨s.es, s.ts, s.bs ++ [(d, owes m s.es (tarSort s.ts) d - sumB s.bs)]⟩, ⟨fun A => ?_, deed_bill (s := srt s) wb, .inr ⟨_, rfl⟩⟩, ?_⟩
      · obtain ⟨r, h2, h3⟩ := lawbill_ok (A := A) (m := m) (d := d) hm hs I.tk I.tn ⟨g.1, by omega⟩ (by have := I.bl; omega) fun _ => h1
        exact ans_bill h2 h3
      · exact ⟨I.he, Nat.le_succ_of_le I.hl, fun l h => by have := I.hd l h; omega, I.tk, I.tn, Nat.le_succ_of_le I.tl, by have := I.bl; simp; omega, by rw [lastB_app]; exact g⟩
theorem step_use {m : Int} {k : Nat} {s : PSt} {d : Int} (hm : 0 ≤ m ∧ m ≤ 1000000000000) (I : Inv k s) (g : 0 ≤ d ∧ d ≤ 100000) : ∃ a s', Stp m s (.use d) a s' ∧ Inv (k + 1) s' := by
  obtain ⟨lo, ch⟩ := chn_es (m := m) I.he
  obtain ⟨sp, gl⟩ := spans_es hm I.he
  obtain ⟨ps, ac, _⟩ := lawacc_es hm I.he
  have u := use_on_run (day := d) sp ch (by omega) (by omega)
  exact ⟨.int (useAt (gapsOf m s.es) 0 d), s, ⟨fun A => ans_use ac (lawuse_run ch), deed_use (s := srt s) u, .inr ⟨_, rfl⟩⟩, I.up⟩
theorem step_owed {m : Int} {k : Nat} {s : PSt} {d : Int} (hm : 0 ≤ m ∧ m ≤ 1000000000000) (I : Inv k s) (g : 0 ≤ d ∧ d ≤ 100000) : ∃ a s', Stp m s (.owed d) a s' ∧ Inv (k + 1) s' := by
  rcases I.he with h | hs
  · refine ⟨.str (wordOf 1), s, ⟨fun A => by rw [h]; exact ans_owed_none, ex_owed (s := srt s) (c := 1) (by omega) (by show outR (f_owed [hist s.es, _, _, _]) = _; rw [h]; exact congrArg outR owed_none), wd_word 1⟩, I.up⟩
  · have o := owed_es (m := m) (ts := tarSort s.ts) hm hs (tarSort_ok I.tk) ⟨g.1, by omega⟩
    obtain ⟨ps, ac, _⟩ := lawacc_es hm I.he
    have lo := lawowed_es (m := m) (d := d) hs I.tk I.tn ⟨g.1, by omega⟩
    exact ⟨.int (owes m s.es (tarSort s.ts) d), s, ⟨fun A => ans_owed hs.ne ac lo, deed_owed (s := srt s) o, .inr ⟨_, rfl⟩⟩, I.up⟩
theorem step_strike {m : Int} {k : Nat} {s : PSt} {d : Int} (hk : k ≤ 60) (I : Inv k s) (g : 0 ≤ d ∧ d ≤ 100000) : ∃ a s', Stp m s (.strike d) a s' ∧ Inv (k + 1) s' := by
  have ls := lawstruck_run (es := s.es) (d := d) (by have := I.hl; omega)
  have none_ : (∀ e ∈ s.es, Ent.hit d e = false) → ∃ a s', Stp m s (.strike d) a s' ∧ Inv (k + 1) s' := fun h => by
    have b := struck_none h (log_small (by omega))
    rw [hit_same h] at ls
    have q : qEq (hist s.es) (hist s.es) = .ok (.bool true) := by rw [qEq_lay (lay_hist _) (lay_hist _), (lay_hist s.es).self]
    exact ⟨.str (wordOf 5), s, ⟨fun A => ans_strike (c := true) ls q, ex_strike (s := srt s) (c := 5) (by omega) b, wd_word 5⟩, I.up⟩
  rcases I.he with h | hs
  · exact none_ fun e he => by rw [h] at he; cases he
  · rcases hit_or hs d with h | ⟨n, e, hn, hh, ho⟩
    · exact none_ h
    · have b := struck_hit hn hh (fun i f hi hf => ho i f (by omega) hf) (by have := I.hl; omega)
      have hmp := hit_map hn hh ho
      rw [← hmp] at b
      have q := q_struck hn hh _ hmp
      refine ⟨.str sDone, ⟨s.es.map (hitM d), s.ts, s.bs⟩, ⟨fun A => ans_strike (c := false) ls q, deed_strike (s := srt s) b, wd_done⟩, ?_⟩
      refine inv_es I (.inr (hst_hits hs d)) (by have := I.hl; simp; omega) fun l hl => ?_
      rw [List.getLast?_map] at hl
      cases h2 : s.es.getLast? with
      | none => rw [h2] at hl; cases hl
      | some f =>
        rw [h2] at hl
        cases hl
        rw [hitM_day]
        have := I.hd f h2
        omega
theorem step_ok {m : Int} {k : Nat} {s : PSt} {q : Dq} (hm : 0 ≤ m ∧ m ≤ 1000000000000) (hk : k ≤ 60) (I : Inv k s) (g : Good k q) : ∃ a s', Stp m s q a s' ∧ Inv (k + 1) s' := by
  cases q with
  | ent e =>
    cases e with
    | start d z w => exact step_start I g
    | read d v x => exact step_read hm hk I g
    | change d v z w => exact step_change hk I g
  | tar t => exact step_tar hk I g
  | bill d => exact step_bill hm hk I g
  | strike d => exact step_strike hk I g
  | use d => exact step_use hm I g
  | owed d => exact step_owed hm I g
end K11

namespace K11
open PySem PySem.Spec PyProof.Rows L2 PD
/-! ### a drawn deed -/
theorem deedby_last {m n more : D} {k : Nat} {s : PSt} (I : Inv k s) : ∃ last : Int, 0 ≤ last ∧ last ≤ 200 + 10 * (k : Int) ∧ (∀ l, s.es.getLast? = some l → last = l.day) ∧
    b__law_deed_by [.val (hist s.es), .val m, .val n, .val more, .no, .no, .no, .no, .no, .no, .no, .no, .no, .no] = r__law_deed_by_2 [.val (hist s.es), .val m, .val n, .val more, .val (.int last), .no, .no, .no, .no, .no, .no, .no, .no, .no] := by
  have ln := len_hist s.es
  rcases I.he with h | hs
  · have h0 : ¬ (0 : Int) < ((s.es.length : Nat) : Int) := by simp [h]
    refine ⟨0, by omega, by omega, fun l hl => (by rw [h] at hl; cases hl), ?_⟩
    generalize hist s.es = H at *
    generalize ((s.es.length : Nat) : Int) = N at *
    simp [b__law_deed_by, r__law_deed_by_1, sqf, setE, vThen, sIf, PD.tThen, thn1, then1, bin2, rdw, ln, iCmp, h0, asB]
  · obtain ⟨l, hl, hb, l0, l1⟩ := hs.last
    have h0 : (0 : Int) < ((s.es.length : Nat) : Int) := by
      have := List.length_pos_iff.mpr hs.ne
      omega
    have ix := last_at hl
    have a1 := l.at1
    refine ⟨l.day, l0, I.hd l hl, fun l' hl' => (by rw [hl] at hl'; cases hl'; rfl), ?_⟩
    clear hl hb
    generalize hist s.es = H at *
    generalize ((s.es.length : Nat) : Int) = N at *
    generalize l.dat = L at *
    simp [b__law_deed_by, r__law_deed_by_1, sqf, setE, vThen, sIf, PD.tThen, thn1, then1, bin2, rdw, ln, iCmp, h0, asB, negI, ix, a1]
theorem deedby_mid {m n more last : Int} {k : Nat} {s : PSt} (hm : 0 ≤ m ∧ m ≤ 1000000000000) (hk : k ≤ 60) (I : Inv k s) (hl : 0 ≤ last ∧ last ≤ 200 + 10 * (k : Int)) (hn : 0 ≤ n ∧ n < 2147483647) (hq : 0 ≤ more ∧ more < 2147483629) :
    ∃ day size value gap near : Int, (0 ≤ day ∧ day ≤ 200 + 10 * (k + 1 : Int)) ∧ (0 ≤ value ∧ value ≤ 1000000000000) ∧
      r__law_deed_by_2 [.val (hist s.es), .val (.int m), .val (.int n), .val (.int more), .val (.int last), .no, .no, .no, .no, .no, .no, .no, .no, .no] =
      r__law_deed_by_8 [.val (hist s.es), .val (.int m), .val (.int n), .val (.int more), .val (.int last), .val (.int gap), .val (.int day), .val (.int size), .val (.int near), .val (.int value), .val (.int (n % 13)), .no, .no, .no] := by
  have sz := lawsize_run s.es
  have sh := shown_run (es := s.es) (by have := I.hl; omega)
  have zr : 0 < lastSize 10 s.es ∧ lastSize 10 s.es ≤ 1000000000000 := by
    rcases I.he with h | hs
    · rw [h]
      decide
    · rw [lastSize_ten hs]
      exact hs.size
  have d13 : iDiv (.int n) (.int 13) = .ok (.int (n / 13)) := iDiv_lit (by decide)
  have d117 : iDiv (.int n) (.int 117) = .ok (.int (n / 117)) := iDiv_lit (by decide)
  have d702 : iDiv (.int n) (.int 702) = .ok (.int (n / 702)) := iDiv_lit (by decide)
  obtain ⟨gap, hg⟩ : ∃ gap, gap = 1 + n / 13 % 9 := ⟨_, rfl⟩
  have gr : 1 ≤ gap ∧ gap ≤ 9 := by omega
  obtain ⟨day, hday, i1⟩ := ix_any [last + gap, last + gap, last + gap, last, if last - 1 > 0 then last - 1 else 0, n / 13 % 100] (j := n / 117 % 6) (by omega) (by simp; omega)
  have mg : iMul (.int m) (.int gap) = .ok (.int (m * gap)) := iMul_r (by omega)
  have mp : 0 ≤ m * gap := Int.mul_nonneg hm.1 (by omega)
  have mm : iMod (.int more) (.int (m * gap + 2)) = .ok (.int (more % (m * gap + 2))) := iMod_p (by omega)
  obtain ⟨size, hsz⟩ : ∃ size, size = lastSize 10 s.es := ⟨_, rfl⟩
  rw [← hsz] at sz zr
  obtain ⟨near, hnear⟩ : ∃ near, near = (shownNow s.es + more % (m * gap + 2)) % size := ⟨_, rfl⟩
  have nr : 0 ≤ near ∧ near < size := by rw [hnear]; exact ⟨Int.emod_nonneg _ (by omega), Int.emod_lt_of_pos _ zr.1⟩
  have mn : iMod (.int (shownNow s.es + more % (m * gap + 2))) (.int size) = .ok (.int near) := by rw [hnear]; exact iMod_p zr.1
  have ms : iMod (.int more) (.int size) = .ok (.int (more % size)) := iMod_p zr.1
  have msr : 0 ≤ more % size ∧ more % size < size := ⟨Int.emod_nonneg _ (by omega), Int.emod_lt_of_pos _ zr.1⟩
  obtain ⟨value, hval, i2⟩ := ix_any [near, more % size, size, size - 1] (j := n / 702 % 4) (by omega) (by simp; omega)
  simp only [List.map_cons, List.map_nil] at i1 i2
  refine ⟨day, size, value, gap, near, ?_, ?_, ?_⟩
  · simp at hday
    have : (if 0 < last - 1 then last - 1 else 0) ≤ last ∧ 0 ≤ (if 0 < last - 1 then last - 1 else 0) := by
      split <;> omega
    omega
  · simp at hval
    omega
  · clear hday hval hnear nr msr mp zr hsz
    have e9 : iMod (.int (n / 13)) (.int 9) = .ok (.int (n / 13 % 9)) := iMod_p (by decide)
    have e100 : iMod (.int (n / 13)) (.int 100) = .ok (.int (n / 13 % 100)) := iMod_p (by decide)
    have e6 : iMod (.int (n / 117)) (.int 6) = .ok (.int (n / 117 % 6)) := iMod_p (by decide)
    have e4 : iMod (.int (n / 702)) (.int 4) = .ok (.int (n / 702 % 4)) := iMod_p (by decide)
    have ek : iMod (.int n) (.int 13) = .ok (.int (n % 13)) := iMod_p (by decide)
    have eg : pAdd (.int 1) (.int (n / 13 % 9)) = .ok (.int gap) := by rw [hg]; rfl
    have el : pAdd (.int last) (.int gap) = .ok (.int (last + gap)) := rfl
    have es1 : iSub (.int last) (.int 1) = .ok (.int (last - 1)) := rfl
    have emx : bMax (.int 0) (.int (last - 1)) = .ok (.int (if last - 1 > 0 then last - 1 else 0)) := rfl
    have ez : iSub (.int size) (.int 1) = .ok (.int (size - 1)) := rfl
    have e2 : pAdd (.int (m * gap)) (.int 2) = .ok (.int (m * gap + 2)) := rfl
    have e3 : pAdd (.int (shownNow s.es)) (.int (more % (m * gap + 2))) = .ok (.int (shownNow s.es + more % (m * gap + 2))) := rfl
    clear hg
    generalize (if last - 1 > 0 then last - 1 else 0) = mx at *
    generalize shownNow s.es + more % (m * gap + 2) = q1 at *
    generalize more % (m * gap + 2) = q2 at *
    generalize m * gap + 2 = q3 at *
    generalize m * gap = q4 at *
    generalize shownNow s.es = q5 at *
    generalize more % size = q6 at *
    generalize size - 1 = q7 at *
    generalize last - 1 = q8 at *
    generalize last + gap = q9 at *
    generalize n / 702 % 4 = j1 at *
    generalize n / 702 = j2 at *
    generalize n / 117 % 6 = j3 at *
    generalize n / 117 = j4 at *
    generalize n / 13 % 100 = j5 at *
    generalize n / 13 % 9 = j6 at *
    generalize n / 13 = j7 at *
    generalize n % 13 = j8 at *
    generalize hist s.es = H at *
    simp only [r__law_deed_by_2, r__law_deed_by_3, r__law_deed_by_4, r__law_deed_by_5, r__law_deed_by_6, r__law_deed_by_7, sqf, setE, vThen, bin2, rd, rdw, List.set, List.getElem?_cons_zero, List.getElem?_cons_succ, bind_ok, fold_ok, seq_nx, lstA, consA, callE, outR, d13, d117, d702, e9, e100, e6, e4, ek, eg, el, es1, emx, ez, e2, e3, i1, i2, mg, mm, mn, ms, sz, sh]
theorem flag_run (x : Int) : bInt (.bool (x == 1)) = .ok (.int (if x = 1 then 1 else 0)) := by
  by_cases h : x = 1
  · simp [h, bInt]
  · have e : (x == 1) = false := by simpa using h
    rw [e, if_neg h]
    rfl
theorem deedby_end {m n more last gap day size near value : Int} {k : Nat} {s : PSt} (hm : 0 ≤ m ∧ m ≤ 1000000000000) (hk : k ≤ 60) (I : Inv k s) (hl : 0 ≤ last ∧ last ≤ 200 + 10 * (k : Int)) (hll : ∀ l, s.es.getLast? = some l → last = l.day) (hn : 0 ≤ n ∧ n < 2147483647) (hq : 0 ≤ more ∧ more < 2147483629) (hd : 0 ≤ day ∧ day ≤ 200 + 10 * (k + 1 : Int)) (hv : 0 ≤ value ∧ value ≤ 1000000000000) :
    ∃ q, Good k q ∧ r__law_deed_by_8 [.val (hist s.es), .val (.int m), .val (.int n), .val (.int more), .val (.int last), .val (.int gap), .val (.int day), .val (.int size), .val (.int near), .val (.int value), .val (.int (n % 13)), .no, .no, .no] = .rt q.dat := by
  have d13 : iDiv (.int n) (.int 13) = .ok (.int (n / 13)) := iDiv_lit (by decide)
  have d5k : iDiv (.int n) (.int 5000) = .ok (.int (n / 5000)) := iDiv_lit (by decide)
  have d3 : iDiv (.int more) (.int 3) = .ok (.int (more / 3)) := iDiv_lit (by decide)
  have d7 : iDiv (.int more) (.int 7) = .ok (.int (more / 7)) := iDiv_lit (by decide)
  have d5 : iDiv (.int more) (.int 5) = .ok (.int (more / 5)) := iDiv_lit (by decide)
  have d70 : iDiv (.int more) (.int 70) = .ok (.int (more / 70)) := iDiv_lit (by decide)
  have d9 : iDiv (.int more) (.int 9) = .ok (.int (more / 9)) := iDiv_lit (by decide)
  have d61 : iDiv (.int more) (.int 61) = .ok (.int (more / 61)) := iDiv_lit (by decide)
  have zrun := size_run (n := more / 3) (by omega)
  have zr := size_range (n := more / 3) (by omega)
  have fl := flag_run (n / 5000 % 8)
  have wr : ∀ f : Int, (f = 0 ∨ f = 1) → 0 ≤ more / 7 % (sizeBy (more / 3) + f) ∧ more / 7 % (sizeBy (more / 3) + f) ≤ sizeBy (more / 3) := fun f hf => by
    have h1 := Int.emod_nonneg (more / 7) (b := sizeBy (more / 3) + f) (by omega)
    have h2 := Int.emod_lt_of_pos (more / 7) (b := sizeBy (more / 3) + f) (by omega)
    omega
  have mw : ∀ f : Int, (f = 0 ∨ f = 1) → iMod (.int (more / 7)) (.int (sizeBy (more / 3) + f)) = .ok (.int (more / 7 % (sizeBy (more / 3) + f))) := fun f hf => iMod_p (by omega)
  have hf : (if n / 5000 % 8 = 1 then (1 : Int) else 0) = 0 ∨ (if n / 5000 % 8 = 1 then (1 : Int) else 0) = 1 := by split <;> simp
  generalize (if n / 5000 % 8 = 1 then (1 : Int) else 0) = f at *
  have mw := mw f hf
  have wr := wr f hf
  generalize sizeBy (more / 3) = z at *
  generalize hw : more / 7 % (z + f) = w at *
  have k0 := PD.eq_int (n % 13) 0
  have k1 := PD.eq_int (n % 13) 1
  have k6 := PD.eq_int (n % 13) 6
  have k7 := PD.eq_int (n % 13) 7
  by_cases c0 : n % 13 = 0
  · refine ⟨.ent (.start (n / 13 % 20) z w), ⟨by omega, zr, wr⟩, ?_⟩
    show _ = Out.rt (.tuple [.str sStart, .int (n / 13 % 20), .int z, .int w])
    have e20 : iMod (.int (n / 13)) (.int 20) = .ok (.int (n / 13 % 20)) := iMod_p (by decide)
    have e8 : iMod (.int (n / 5000)) (.int 8) = .ok (.int (n / 5000 % 8)) := iMod_p (by decide)
    have ea : pAdd (.int z) (.int f) = .ok (.int (z + f)) := rfl
    rw [c0] at k0 ⊢
    clear hw zr wr k1 k6 k7 c0
    generalize n / 13 % 20 = j1 at *
    generalize n / 5000 % 8 = j2 at *
    generalize n / 5000 = j3 at *
    generalize n / 13 = j4 at *
    generalize z + f = j5 at *
    generalize more / 7 = j6 at *
    generalize more / 3 = j7 at *
    simp [r__law_deed_by_8, sqf, sIf, PD.tThen, thn1, then1, bin2, rd, rdw, k0, asB, setE, vThen, callE, consA, d3, zrun, outR, retE, tupA, d13, e20, d7, d5k, e8, fl, ea, mw]
  · by_cases c1 : n % 13 = 1
    · refine ⟨.ent (.change day value z w), ⟨hd, hv, zr, wr⟩, ?_⟩
      show _ = Out.rt (.tuple [.str sChange, .int day, .int value, .int z, .int w])
      have e8 : iMod (.int (n / 5000)) (.int 8) = .ok (.int (n / 5000 % 8)) := iMod_p (by decide)
      have ea : pAdd (.int z) (.int f) = .ok (.int (z + f)) := rfl
      rw [c1] at k0 k1 ⊢
      clear hw zr wr k6 k7 c0 c1
      generalize n / 5000 % 8 = j2 at *
      generalize n / 5000 = j3 at *
      generalize z + f = j5 at *
      generalize more / 7 = j6 at *
      generalize more / 3 = j7 at *
      simp [r__law_deed_by_8, r__law_deed_by_9, sqf, sIf, PD.tThen, thn1, then1, bin2, rd, rdw, k0, k1, asB, setE, vThen, callE, consA, d3, zrun, outR, retE, tupA, d7, d5k, e8, fl, ea, mw]
    · by_cases c5 : n % 13 < 6
      · refine ⟨.ent (.read day value false), ⟨hd, hv⟩, ?_⟩
        show _ = Out.rt (.tuple [.str sRead, .int day, .int value])
        clear hw zr wr k6 k7
        generalize n % 13 = kk at *
        simp [r__law_deed_by_8, r__law_deed_by_9, r__law_deed_by_10, sqf, sIf, PD.tThen, thn1, then1, bin2, rd, rdw, k0, k1, c0, c1, c5, iCmp, asB, retE, vThen, tupA, consA]
      · by_cases c6 : n % 13 = 6
        · have ln := len_hist s.es
          rcases I.he with he | hs
          · refine ⟨.strike (more % 5), by show 0 ≤ more % 5 ∧ more % 5 ≤ 100000; omega, ?_⟩
            show _ = Out.rt (.tuple [.str sStrike, .int (more % 5)])
            have h0 : ¬ (0 : Int) < ((s.es.length : Nat) : Int) := by simp [he]
            have e5 : iMod (.int more) (.int 5) = .ok (.int (more % 5)) := iMod_p (by decide)
            rw [c6] at k0 k1 k6 ⊢
            clear hw zr wr k7 c0 c1 c5 c6 he
            generalize more % 5 = j1 at *
            generalize hist s.es = H at *
            generalize ((s.es.length : Nat) : Int) = N at *
            simp [r__law_deed_by_8, r__law_deed_by_9, r__law_deed_by_10, r__law_deed_by_11, r__law_deed_by_12, sqf, sIf, PD.tThen, andT, thn1, then1, bin2, rd, rdw, k0, k1, k6, iCmp, asB, ln, h0, retE, vThen, tupA, consA, e5]
          · have hp : 0 < s.es.length := List.length_pos_iff.mpr hs.ne
            have h0 : (0 : Int) < ((s.es.length : Nat) : Int) := by omega
            have em : iMod (.int more) (.int ((s.es.length : Nat) : Int)) = .ok (.int (more % ((s.es.length : Nat) : Int))) := iMod_p h0
            obtain ⟨j, hj⟩ : ∃ j : Nat, (j : Int) = more % ((s.es.length : Nat) : Int) := ⟨(more % ((s.es.length : Nat) : Int)).toNat, by have := Int.emod_nonneg more (b := ((s.es.length : Nat) : Int)) (by omega); omega⟩
            have jl : j < s.es.length := by
              have := Int.emod_lt_of_pos more h0
              omega
            have hjj := List.getElem?_eq_getElem jl
            generalize s.es[j] = e at hjj
            have ix : qIx (hist s.es) (.int (j : Int)) = .ok e.dat := qIx_at rfl (by rw [atI_cast, datL_get, hjj]; rfl)
            have a1 := e.at1
            obtain ⟨l, hll', hb, l0, l1⟩ := hs.last
            have eb : 0 ≤ e.day ∧ e.day ≤ 100000 := by
              have h1 := hb e (List.mem_of_getElem? hjj)
              have h2 := I.hd l hll'
              obtain ⟨d0, z0, w0, r0, e0, hr, _⟩ := hs
              have h3 : 0 ≤ e.day := by
                have hmem := List.mem_of_getElem? hjj
                rw [e0] at hmem
                have hd0 := hr.day
                rcases List.mem_cons.mp hmem with rfl | hmem
                · exact hd0
                · have := (hr.late e hmem).1
                  simp only at this hd0
                  omega
              omega
            have fl2 := flag_run (n / 13 % 4)
            have hf2 : (if n / 13 % 4 = 1 then (1 : Int) else 0) = 0 ∨ (if n / 13 % 4 = 1 then (1 : Int) else 0) = 1 := by split <;> simp
            generalize (if n / 13 % 4 = 1 then (1 : Int) else 0) = f2 at *
            refine ⟨.strike (e.day + f2), by
              have eh := I.hd l hll'
              have h1 := hb e (List.mem_of_getElem? hjj)
              show 0 ≤ e.day + f2 ∧ e.day + f2 ≤ 100000
              omega, ?_⟩
            show _ = Out.rt (.tuple [.str sStrike, .int (e.day + f2)])
            have e4 : iMod (.int (n / 13)) (.int 4) = .ok (.int (n / 13 % 4)) := iMod_p (by decide)
            have ea : pAdd (.int e.day) (.int f2) = .ok (.int (e.day + f2)) := rfl
            rw [← hj] at em
            rw [c6] at k0 k1 k6 ⊢
            clear hw zr wr k7 c0 c1 c5 c6 hj jl hjj hp hb eb hll hll' hs I
            generalize e.day + f2 = j1 at *
            generalize e.dat = E at *
            generalize ((j : Nat) : Int) = j2 at *
            generalize n / 13 % 4 = j3 at *
            generalize n / 13 = j4 at *
            generalize hist s.es = H at *
            generalize ((s.es.length : Nat) : Int) = N at *
            simp [r__law_deed_by_8, r__law_deed_by_9, r__law_deed_by_10, r__law_deed_by_11, sqf, sIf, PD.tThen, andT, thn1, then1, bin2, rd, rdw, k0, k1, k6, iCmp, asB, ln, h0, retE, vThen, tupA, consA, em, ix, a1, d13, e4, fl2, ea]
        · by_cases c7 : n % 13 = 7
          · obtain ⟨low, hlow, i1⟩ := ix_any [0, 1, more / 5 % 1000000001] (j := n / 13 % 3) (by omega) (by simp; omega)
            obtain ⟨lim, hlim, i2⟩ := ix_any [0, 3, more * 48271 % 1000000000001] (j := more % 3) (by omega) (by simp; omega)
            simp only [List.map_cons, List.map_nil] at i1 i2
            have ql : 0 ≤ low ∧ low ≤ 1000000000 := by
              have h1 := Int.emod_nonneg (more / 5) (b := 1000000001) (by decide)
              have h2 := Int.emod_lt_of_pos (more / 5) (b := 1000000001) (by decide)
              simp at hlow
              omega
            have qm : 0 ≤ lim ∧ lim ≤ 1000000000000 := by
              have h1 := Int.emod_nonneg (more * 48271) (b := 1000000000001) (by decide)
              have h2 := Int.emod_lt_of_pos (more * 48271) (b := 1000000000001) (by decide)
              simp at hlim
              omega
            refine ⟨.tar ⟨more % 70, more / 70 % 40, low, lim, more / 9 % 50⟩, ⟨by simp only; omega, by simp only; omega, ql, qm, by simp only; omega⟩, ?_⟩
            show _ = Out.rt (.tuple [.str sTariff, .int (more % 70), .int (more / 70 % 40), .int low, .int lim, .int (more / 9 % 50)])
            have e3 : iMod (.int (n / 13)) (.int 3) = .ok (.int (n / 13 % 3)) := iMod_p (by decide)
            have eb : iMod (.int (more / 5)) (.int 1000000001) = .ok (.int (more / 5 % 1000000001)) := iMod_p (by decide)
            have ec : iMod (.int (more * 48271)) (.int 1000000000001) = .ok (.int (more * 48271 % 1000000000001)) := iMod_p (by decide)
            have m3 : iMod (.int more) (.int 3) = .ok (.int (more % 3)) := iMod_p (by decide)
            have m70 : iMod (.int more) (.int 70) = .ok (.int (more % 70)) := iMod_p (by decide)
            have m40 : iMod (.int (more / 70)) (.int 40) = .ok (.int (more / 70 % 40)) := iMod_p (by decide)
            have m50 : iMod (.int (more / 9)) (.int 50) = .ok (.int (more / 9 % 50)) := iMod_p (by decide)
            have ml := iMul_lit_r more
            have p1 : pAdd (.int 1000000000) (.int 1) = .ok (.int 1000000001) := rfl
            have p2 : pAdd (.int 1000000000000) (.int 1) = .ok (.int 1000000000001) := rfl
            rw [c7] at k0 k1 k6 k7 ⊢
            clear hw zr wr c0 c1 c5 c6 c7 hlow hlim ql qm
            generalize more % 70 = j1 at *
            generalize more / 70 % 40 = j2 at *
            generalize more / 70 = j3 at *
            generalize more / 9 % 50 = j4 at *
            generalize more / 9 = j5 at *
            generalize more / 5 % 1000000001 = j6 at *
            generalize more / 5 = j7 at *
            generalize more * 48271 % 1000000000001 = j8 at *
            generalize more * 48271 = j9 at *
            generalize more % 3 = j10 at *
            generalize n / 13 % 3 = j11 at *
            generalize n / 13 = j12 at *
            simp [r__law_deed_by_8, r__law_deed_by_9, r__law_deed_by_10, r__law_deed_by_11, r__law_deed_by_12, r__law_deed_by_13, sqf, sIf, PD.tThen, andT, thn1, then1, bin2, rd, rdw, k0, k1, k6, k7, iCmp, asB, setE, lstA, consA, vThen, d13, e3, d5, eb, p1, p2, ml, ec, m3, i1, i2, retE, tupA, m70, d70, m40, d9, m50]
          · obtain ⟨day2, hday2, i2⟩ := ix_any [more % 61, last + more % 7] (j := more / 61 % 2) (by omega) (by simp; omega)
            simp only [List.map_cons, List.map_nil] at i2
            have dr : 0 ≤ day2 ∧ day2 ≤ 100000 := by
              simp at hday2
              omega
            have m61 : iMod (.int more) (.int 61) = .ok (.int (more % 61)) := iMod_p (by decide)
            have m7 : iMod (.int more) (.int 7) = .ok (.int (more % 7)) := iMod_p (by decide)
            have m2 : iMod (.int (more / 61)) (.int 2) = .ok (.int (more / 61 % 2)) := iMod_p (by decide)
            have p1 : pAdd (.int last) (.int (more % 7)) = .ok (.int (last + more % 7)) := rfl
            have main : ∀ x : Str, qIx (.list [.str sBill, .str sUse, .str sOwed, .str sBill, .str sBill]) (.int (n % 13 - 8)) = .ok (.str x) →
                r__law_deed_by_8 [.val (hist s.es), .val (.int m), .val (.int n), .val (.int more), .val (.int last), .val (.int gap), .val (.int day), .val (.int size), .val (.int near), .val (.int value), .val (.int (n % 13)), .no, .no, .no] = .rt (.tuple [.str x, .int day2]) := fun x hx => by
              have s8 : iSub (.int (n % 13)) (.int 8) = .ok (.int (n % 13 - 8)) := rfl
              clear hw zr wr hday2 dr I hll
              generalize n % 13 - 8 = j0 at *
              generalize n % 13 = kk at *
              generalize more % 61 = j1 at *
              generalize last + more % 7 = j2 at *
              generalize more % 7 = j3 at *
              generalize more / 61 % 2 = j4 at *
              generalize more / 61 = j5 at *
              generalize hist s.es = H at *
              simp [r__law_deed_by_8, r__law_deed_by_9, r__law_deed_by_10, r__law_deed_by_11, r__law_deed_by_12, r__law_deed_by_13, r__law_deed_by_14, sqf, sIf, PD.tThen, andT, thn1, then1, bin2, rd, rdw, k0, k1, k6, k7, c0, c1, c5, c6, c7, iCmp, asB, lstA, consA, vThen, retE, tupA, s8, hx, m61, m7, m2, d61, p1, i2]
            have nr : n % 13 = 8 ∨ n % 13 = 9 ∨ n % 13 = 10 ∨ n % 13 = 11 ∨ n % 13 = 12 := by omega
            rcases nr with h | h | h | h | h
            · exact ⟨.bill day2, dr, main sBill (by rw [h]; exact qIx_at rfl rfl)⟩
            · exact ⟨.use day2, dr, main sUse (by rw [h]; exact qIx_at rfl rfl)⟩
            · exact ⟨.owed day2, dr, main sOwed (by rw [h]; exact qIx_at rfl rfl)⟩
            · exact ⟨.bill day2, dr, main sBill (by rw [h]; exact qIx_at rfl rfl)⟩
            · exact ⟨.bill day2, dr, main sBill (by rw [h]; exact qIx_at rfl rfl)⟩
theorem deedby_run {m n more : Int} {k : Nat} {s : PSt} (hm : 0 ≤ m ∧ m ≤ 1000000000000) (hk : k ≤ 60) (I : Inv k s) (hn : 0 ≤ n ∧ n < 2147483647) (hq : 0 ≤ more ∧ more < 2147483629) :
    ∃ q, Good k q ∧ f__law_deed_by [hist s.es, .int m, .int n, .int more] = .rt q.dat := by
  obtain ⟨last, l0, l1, l2, e1⟩ := deedby_last (m := .int m) (n := .int n) (more := .int more) I
  obtain ⟨day, size, value, gap, near, hd, hv, e2⟩ := deedby_mid hm hk I ⟨l0, l1⟩ hn hq
  obtain ⟨q, hg, e3⟩ := deedby_end (gap := gap) (size := size) (near := near) hm hk I ⟨l0, l1⟩ l2 hn hq hd hv
  exact ⟨q, hg, e1.trans (e2.trans e3)⟩
end K11

namespace K11
open PySem PySem.Spec PyProof.Rows L2 PD
/-! ### a whole play -/
def datQ (ds : List Dq) : List D := ds.map Dq.dat
inductive Rn (m : Int) : PSt → List Dq → List D → PSt → Prop
  | nil {s : PSt} : Rn m s [] [] s
  | cons {s s1 s2 : PSt} {q : Dq} {ds : List Dq} {a : D} {as : List D} (h : f_answer_to [.int m, (srt s).dat, q.dat] = .rt (.tuple [a, (srt s1).dat])) (w : Wd a) (r : Rn m s1 ds as s2) : Rn m s (q :: ds) (a :: as) s2
theorem rn_snoc {m : Int} {s s1 s2 : PSt} {ds : List Dq} {as : List D} {q : Dq} {a : D} (h : Rn m s ds as s1) (h2 : Stp m s1 q a s2) : Rn m s (ds ++ [q]) (as ++ [a]) s2 := by
  induction h with
  | nil => exact .cons h2.prog h2.wd .nil
  | cons h w r ih => exact .cons h w (ih h2)
theorem rn_len {m : Int} {s s1 : PSt} {ds : List Dq} {as : List D} (h : Rn m s ds as s1) : as.length = ds.length := by
  induction h with
  | nil => rfl
  | cons h w r ih => simp [ih]
theorem rn_wd {m : Int} {s s1 : PSt} {ds : List Dq} {as : List D} (h : Rn m s ds as s1) : ∀ a ∈ as, Wd a := by
  induction h with
  | nil => exact fun a ha => by cases ha
  | cons h w r ih =>
    intro a ha
    rcases List.mem_cons.mp ha with rfl | ha
    · exact w
    · exact ih a ha
theorem playq_loop {m : Int} {L : D} {s s' : PSt} {ds : List Dq} {as : List D} (h : Rn m s ds as s') : ∀ (acc : List D) (x4 x5 : Sl), acc.length + ds.length < 10000 →
    ∃ y4 y5, forD (aName 4) lb_play_1 (datQ ds) [.val (.int m), .val L, .own acc, .val (srt s).dat, x4, x5] = .nx [.val (.int m), .val L, .own (acc ++ as), .val (srt s').dat, y4, y5] := by
  induction h with
  | nil => exact fun acc x4 x5 _ => ⟨x4, x5, by rw [List.append_nil]; exact forD_nil⟩
  | @cons s s1 s2 d ds a as h w r ih =>
    intro acc x4 x5 hl
    obtain ⟨y4, y5, q⟩ := ih (acc ++ [a]) (.val d.dat) (.val a) (by simp at hl ⊢; omega)
    refine ⟨y4, y5, ?_⟩
    rw [List.append_assoc] at q
    refine (forD_nx (ps := [(4, d.dat)]) (r2 := [.val (.int m), .val L, .own (acc ++ [a]), .val (srt s1).dat, .val d.dat, .val a]) rfl ?_).trans q
    clear q ih
    have ag : aTup [5, 3] (.tuple [a, (srt s1).dat]) = some [(5, a), (3, (srt s1).dat)] := rfl
    have la : acc.length < 16777216 := by simp at hl; omega
    generalize (srt s).dat = S at *
    generalize (srt s1).dat = S1 at *
    generalize d.dat = Dt at *
    generalize PyData.tuple [a, S1] = R at *
    simp [setsD, lb_play_1, sqf, sAsg, vThen, callE, consA, rd, h, outR, ag, apndE, apnd, la]
theorem playq_run {m : Int} {s' : PSt} {ds : List Dq} {as : List D} (h : Rn m ⟨[], [], []⟩ ds as s') (hl : ds.length < 9000) : f_play [.int m, .list (datQ ds)] = .rt (.tuple [.list as, (srt s').dat]) := by
  obtain ⟨y4, y5, q⟩ := playq_loop (L := .list (datQ ds)) h [] .no .no (by simp; omega)
  have ts : tarSort [] = [] := by simp [tarSort]
  have e0 : (srt (PSt.mk [] [] [])).dat = .tuple [.tuple [], .tuple [], .tuple []] := by
    unfold srt
    rw [ts]
    rfl
  rw [e0, List.nil_append] at q
  generalize (srt s').dat = S' at *
  generalize datQ ds = Ds at *
  simp [f_play, b_play, r_play_1, r_play_2, r_play_3, fnD, sqf, lThen, setE, vThen, tupA, consA, forE, asS, items, rd, q, frz, retE]
/-! ### the law's steps -/
theorem appS_run {i j : Nat} {gl : Rho → Res (List D)} {fc : FnSt} {r rr : Rho} {as ds ts bs ts' bs' : List D} {A : SA} {H H' a : D} (hij : i ≠ j) (hi : r[i]? = some (.own as)) (hj : r[j]? = some (.sta A H ts bs)) (hg : gl r = .ok ds) (hf : fc A H ts bs ds = .rt a rr) (h0 : rr[0]? = some (.sta A H' ts' bs')) (hl : as.length < 16777216) :
    appS i j gl fc r = .nx ((r.set j (.sta A H' ts' bs')).set i (.own (as ++ [a]))) := by
  unfold appS
  rw [hi, hj]
  simp only
  rw [hg, fold_ok]
  unfold goS
  rw [hj]
  simp only
  rw [hf]
  simp only
  rw [h0]
  simp only [if_true]
  unfold apnd
  rw [List.getElem?_set_ne (Ne.symm hij), hi]
  simp only
  rw [if_pos hl]
/-- the slots of the law while its account grows -/
def lawR (S : D) (m : Int) (A : SA) (s : PSt) (ds : List Dq) (as : List D) (x5 x6 x7 x8 : Sl) : Rho := [.val S, .val (.int m), .sta A (hist s.es) (tarsD s.ts) (billsD s.bs), .own (datQ ds), .own as, x5, x6, x7, x8, .no, .no, .no, .no, .no]
theorem last_deed (ds : List Dq) (q : Dq) : qIx (.list (datQ ds ++ [q.dat])) (.int (-1)) = .ok q.dat := qIx_at rfl (by rw [atI_m1]; simp)
theorem law_turn {S : D} {m c i : Int} {A : SA} {s : PSt} {ds : List Dq} {as : List D} {x5 x6 x7 x8 : Sl} {k : Nat} (hm : 0 ≤ m ∧ m ≤ 1000000000000) (hk : k ≤ 60) (I : Inv k s) (R : Rn m ⟨[], [], []⟩ ds as s) (hl : ds.length ≤ k) :
    ∃ s' q a y7 y8, Inv (k + 1) s' ∧ Rn m ⟨[], [], []⟩ (ds ++ [q]) (as ++ [a]) s' ∧ lb_law_1 (setsD (lawR S m A s ds as x5 x6 x7 x8) [(5, .int i), (6, .int c)]) = .nx (lawR S m A s' (ds ++ [q]) (as ++ [a]) (.val (.int i)) (.val (.int c)) y7 y8) := by
  obtain ⟨n0, hn0⟩ : ∃ n0, n0 = (c + 7919 * i) * 48271 % 2147483647 := ⟨_, rfl⟩
  obtain ⟨q0, hq0⟩ : ∃ q0, q0 = (c + 104729 * i) * 69621 % 2147483629 := ⟨_, rfl⟩
  have n0r : 0 ≤ n0 ∧ n0 < 2147483647 := by omega
  have q0r : 0 ≤ q0 ∧ q0 < 2147483629 := by omega
  obtain ⟨n, hn⟩ : ∃ n, n = n0 * n0 % 2147483647 := ⟨_, rfl⟩
  obtain ⟨more, hmr⟩ : ∃ more, more = q0 * q0 % 2147483629 := ⟨_, rfl⟩
  have nr : 0 ≤ n ∧ n < 2147483647 := by rw [hn]; exact ⟨Int.emod_nonneg _ (by decide), Int.emod_lt_of_pos _ (by decide)⟩
  have mr : 0 ≤ more ∧ more < 2147483629 := by rw [hmr]; exact ⟨Int.emod_nonneg _ (by decide), Int.emod_lt_of_pos _ (by decide)⟩
  obtain ⟨q, hg, dr⟩ := deedby_run hm hk I nr mr
  obtain ⟨a, s', st, I'⟩ := step_ok hm hk I hg
  obtain ⟨rr, l1, l2⟩ := st.law A
  have R' := rn_snoc R st
  have m1 : iMul (.int 7919) (.int i) = .ok (.int (7919 * i)) := iMul_l (by decide)
  have m2 : iMul (.int (c + 7919 * i)) (.int 48271) = .ok (.int ((c + 7919 * i) * 48271)) := iMul_r (by decide)
  have m3 : iMul (.int 104729) (.int i) = .ok (.int (104729 * i)) := iMul_l (by decide)
  have m4 : iMul (.int (c + 104729 * i)) (.int 69621) = .ok (.int ((c + 104729 * i) * 69621)) := iMul_r (by decide)
  have m5 : iMul (.int n0) (.int n0) = .ok (.int (n0 * n0)) := iMul_l (by omega)
  have m6 : iMul (.int q0) (.int q0) = .ok (.int (q0 * q0)) := iMul_l (by omega)
  have p1 : pAdd (.int c) (.int (7919 * i)) = .ok (.int (c + 7919 * i)) := rfl
  have p2 : pAdd (.int c) (.int (104729 * i)) = .ok (.int (c + 104729 * i)) := rfl
  have e1 : iMod (.int ((c + 7919 * i) * 48271)) (.int 2147483647) = .ok (.int n0) := by rw [hn0]; exact iMod_p (by decide)
  have e2 : iMod (.int ((c + 104729 * i) * 69621)) (.int 2147483629) = .ok (.int q0) := by rw [hq0]; exact iMod_p (by decide)
  have e3 : iMod (.int (n0 * n0)) (.int 2147483647) = .ok (.int n) := by rw [hn]; exact iMod_p (by decide)
  have e4 : iMod (.int (q0 * q0)) (.int 2147483629) = .ok (.int more) := by rw [hmr]; exact iMod_p (by decide)
  have ld : (datQ ds).length < 16777216 := by simp [datQ]; omega
  have la : as.length < 16777216 := by rw [rn_len R]; omega
  have ix := last_deed ds q
  have ap : datQ ds ++ [q.dat] = datQ (ds ++ [q]) := by simp [datQ]
  refine ⟨s', q, a, .val (.int n), .val (.int q0), I', R', ?_⟩
  unfold lawR
  rw [← ap]
  clear ap hn0 hq0 hn hmr n0r q0r nr mr I I' R R' st hg hl hk hm
  generalize (c + 7919 * i) * 48271 = j1 at *
  generalize (c + 104729 * i) * 69621 = j2 at *
  generalize c + 7919 * i = j3 at *
  generalize c + 104729 * i = j4 at *
  generalize 7919 * i = j5 at *
  generalize 104729 * i = j6 at *
  generalize n0 * n0 = j7 at *
  generalize q0 * q0 = j8 at *
  generalize hist s.es = H at *
  generalize tarsD s.ts = T at *
  generalize billsD s.bs = B at *
  generalize hist s'.es = H' at *
  generalize tarsD s'.ts = T' at *
  generalize billsD s'.bs = B' at *
  generalize datQ ds = Q at *
  generalize q.dat = qd at *
  have fin : appS 4 2 (consA (rd 1) (consA (bin2 qIx (rdw 3) (then1 (fun _ => .ok (.int 1)) negI)) (fun _ => .ok []))) f__law_answer
      [.val S, .val (.int m), .sta A H T B, .own (Q ++ [qd]), .own as, .val (.int i), .val (.int c), .val (.int n), .val (.int q0), .no, .no, .no, .no, .no] =
      .nx [.val S, .val (.int m), .sta A H' T' B', .own (Q ++ [qd]), .own (as ++ [a]), .val (.int i), .val (.int c), .val (.int n), .val (.int q0), .no, .no, .no, .no, .no] :=
    appS_run (as := as) (ds := [.int m, qd]) (A := A) (H := H) (ts := T) (bs := B) (by decide) rfl rfl (by simp [consA, rd, rdw, bin2, then1, negI, ix]) l1 l2 la
  simp [setsD, lb_law_1, sqf, setE, vThen, bin2, rd, rdw, m1, m2, m3, m4, m5, m6, p1, p2, e1, e2, e3, e4, apndE, apnd, callE, consA, staH, dr, outR, ld, fin]
theorem cut_cells (ns : List Int) : ∃ L : List Int, L.length ≤ 40 ∧ PD.cutD (ns.map PyData.int) (some 3) (some 43) = L.map PyData.int := by
  have e1 : HT.sIx (ns.map PyData.int).length 0 (some (3 : Int)) = min 3 (ns.map PyData.int).length := HT.sIx_nat _ 3 _
  have e2 : HT.sIx (ns.map PyData.int).length (ns.map PyData.int).length (some (43 : Int)) = min 43 (ns.map PyData.int).length := HT.sIx_nat _ 43 _
  refine ⟨(ns.drop (min 3 (ns.map PyData.int).length)).take (min 43 (ns.map PyData.int).length - min 3 (ns.map PyData.int).length), ?_, ?_⟩
  · rw [List.length_take]
    omega
  · unfold PD.cutD
    rw [e1, e2, List.map_take, List.map_drop]
theorem law_loop {S : D} {m : Int} {A : SA} {s : PSt} {ds : List Dq} {as : List D} (hm : 0 ≤ m ∧ m ≤ 1000000000000) (L : List Int) (hL : L.length ≤ 40) (I : Inv 1 s) (R : Rn m ⟨[], [], []⟩ ds as s) (hl : ds.length ≤ 1) :
    ∃ s' ds' as' y5 y6 y7 y8, Inv 41 s' ∧ Rn m ⟨[], [], []⟩ ds' as' s' ∧ ds'.length ≤ 41 ∧ forD (aTup [5, 6]) lb_law_1 (enumD (L.map PyData.int)) (lawR S m A s ds as .no .no .no .no) = .nx (lawR S m A s' ds' as' y5 y6 y7 y8) := by
  obtain ⟨r2, e2, s', ds', as', y5, y6, y7, y8, I', R', l', rfl⟩ := forD_inv (asg := aTup [5, 6]) (f := lb_law_1) (enumD (L.map PyData.int)) (lawR S m A s ds as .no .no .no .no)
    (fun i r => ∃ (s' : PSt) (ds' : List Dq) (as' : List D) (y5 y6 y7 y8 : Sl), Inv (1 + i) s' ∧ Rn m ⟨[], [], []⟩ ds' as' s' ∧ ds'.length ≤ 1 + i ∧ r = lawR S m A s' ds' as' y5 y6 y7 y8) 0 ⟨s, ds, as, .no, .no, .no, .no, I, R, hl, rfl⟩ (by
      rintro i d r hd ⟨s1, ds1, as1, y5, y6, y7, y8, I1, R1, l1, rfl⟩
      rw [enumD_get, List.getElem?_map] at hd
      cases hi : L[i]? with
      | none => rw [hi] at hd; cases hd
      | some c =>
        rw [hi] at hd
        cases hd
        have il : i < L.length := (List.getElem?_eq_some_iff.mp hi).1
        rw [Nat.zero_add] at I1 l1
        obtain ⟨s2, q, a, z7, z8, I2, R2, e⟩ := law_turn (S := S) (c := c) (i := (i : Nat)) (A := A) (x5 := y5) (x6 := y6) (x7 := y7) (x8 := y8) hm (by omega) I1 R1 l1
        refine ⟨[(5, .int (i : Nat)), (6, .int c)], _, rfl, .inl e, s2, ds1 ++ [q], as1 ++ [a], _, _, z7, z8, ?_, R2, by simp; omega, rfl⟩
        have e3 : 1 + (0 + i + 1) = 1 + i + 1 := by omega
        rw [e3]
        exact I2)
  have le : (enumD (L.map PyData.int)).length = L.length := by rw [enumD_length, List.length_map]
  rw [le] at I' l'
  have up : ∀ n k, Inv k s' → Inv (k + n) s' := fun n => by
    induction n with
    | zero => exact fun k h => h
    | succ n ih => exact fun k h => (ih k h).up
  have I2 := up (40 - L.length) _ I'
  have e4 : 1 + (0 + L.length) + (40 - L.length) = 41 := by omega
  rw [e4] at I2
  exact ⟨s', ds', as', y5, y6, y7, y8, I2, R', by omega, e2⟩
end K11

namespace K11
open PySem PySem.Spec PyProof.Rows L2 PD
/-! ### the law's end -/
theorem lay_q (q : Dq) : Lay 1 q.dat := by
  have ss : ∀ x : Str, PyData.strOk x = true → Lay 0 (.str x) := fun x h => lay_str h
  have two : ∀ (x : Str) (d : Int), PyData.strOk x = true → Lay 1 (.tuple [.str x, .int d]) := fun x d h => lay_tup fun e he => by
    rcases List.mem_cons.mp he with rfl | he
    · exact lay_str h
    · cases List.mem_singleton.mp he
      exact lay_int _
  cases q with
  | bill d => exact two sBill d (by decide +kernel)
  | strike d => exact two sStrike d (by decide +kernel)
  | use d => exact two sUse d (by decide +kernel)
  | owed d => exact two sOwed d (by decide +kernel)
  | tar t =>
    refine lay_tup fun e he => ?_
    rcases List.mem_cons.mp he with rfl | he
    · exact lay_str (by decide +kernel)
    · simp only [List.mem_cons, List.not_mem_nil, or_false] at he
      rcases he with rfl | rfl | rfl | rfl | rfl <;> exact lay_int _
  | ent e =>
    cases e with
    | start d s v =>
      refine lay_tup fun e he => ?_
      rcases List.mem_cons.mp he with rfl | he
      · exact lay_str (by decide +kernel)
      · simp only [List.mem_cons, List.not_mem_nil, or_false] at he
        rcases he with rfl | rfl | rfl <;> exact lay_int _
    | read d v x =>
      refine lay_tup fun e he => ?_
      rcases List.mem_cons.mp he with rfl | he
      · exact lay_str (by decide +kernel)
      · simp only [List.mem_cons, List.not_mem_nil, or_false] at he
        rcases he with rfl | rfl <;> exact lay_int _
    | change d v s w =>
      refine lay_tup fun e he => ?_
      rcases List.mem_cons.mp he with rfl | he
      · exact lay_str (by decide +kernel)
      · simp only [List.mem_cons, List.not_mem_nil, or_false] at he
        rcases he with rfl | rfl | rfl | rfl <;> exact lay_int _
theorem ne_deeds (ds : List Dq) : qNe (.list (datQ ds)) (.list (datQ ds)) = .ok (.bool false) := by
  have l : Lay 2 (.list (datQ ds)) := lay_list fun d hd => by
    obtain ⟨q, _, rfl⟩ := List.mem_map.mp hd
    exact lay_q q
  rw [qNe_lay l l, l.self]
  rfl
theorem ne_ints (i : Int) : qNe (.int i) (.int i) = .ok (.bool false) := by
  have l : Lay 0 (.int i) := lay_int i
  rw [qNe_lay l l, l.self]
  rfl
theorem ne_bools (i : Bool) : qNe (.bool i) (.bool i) = .ok (.bool false) := by
  have l : Lay 0 (.bool i) := lay_bool i
  rw [qNe_lay l l, l.self]
  rfl
theorem ne_wd {a : D} (h : Wd a) : qNe a a = .ok (.bool false) := by
  have l : Lay 0 a := by
    rcases h with ⟨x, rfl, hx⟩ | ⟨i, rfl⟩
    · exact lay_str hx
    · exact lay_int i
  rw [qNe_lay l l, l.self]
  rfl
theorem ty_wd {a : D} (h : Wd a) : (tyD a == "bool") = false := by
  rcases h with ⟨x, rfl, _⟩ | ⟨i, rfl⟩ <;> rfl
theorem zip_loop {S Q F : D} {m : Int} {st x3 x5 x6 x7 x8 x13 : Sl} {al : D} : ∀ (as : List D) (y11 y12 : Sl), (∀ a ∈ as, Wd a) → ∃ z11 z12, forD (aTup [11, 12]) lb_law_2 (zipD as as) [.val S, .val (.int m), st, x3, .val al, x5, x6, x7, x8, .val Q, .val F, y11, y12, x13] = .nx [.val S, .val (.int m), st, x3, .val al, x5, x6, x7, x8, .val Q, .val F, z11, z12, x13]
  | [], y11, y12, _ => ⟨y11, y12, forD_nil⟩
  | a :: as, y11, y12, h => by
    obtain ⟨z11, z12, q⟩ := zip_loop (S := S) (Q := Q) (F := F) (m := m) (st := st) (x3 := x3) (x5 := x5) (x6 := x6) (x7 := x7) (x8 := x8) (x13 := x13) (al := al) as (.val a) (.val a) fun b hb => h b (List.mem_cons_of_mem _ hb)
    have w := h a List.mem_cons_self
    have t := ty_wd w
    have n := ne_wd w
    have nb := fun b => ne_bools b
    refine ⟨z11, z12, (forD_nx (ps := [(11, a), (12, a)]) (r2 := [.val S, .val (.int m), st, x3, .val al, x5, x6, x7, x8, .val Q, .val F, .val a, .val a, x13]) rfl ?_).trans q⟩
    clear q
    simp [setsD, lb_law_2, sqf, sIf, PD.tThen, orT, thn1, then1, bin2, rdw, isiE, t, n, nb, tru, asB]
theorem hist_loop {S Q F : D} {m : Int} {st x3 x4 x5 x6 x7 x8 x11 x12 : Sl} : ∀ (es : List Ent) (y : Sl), ∃ z, forD (aName 13) lb_law_3 (datL es) [.val S, .val (.int m), st, x3, x4, x5, x6, x7, x8, .val Q, .val F, x11, x12, y] = .nx [.val S, .val (.int m), st, x3, x4, x5, x6, x7, x8, .val Q, .val F, x11, x12, z]
  | [], y => ⟨y, forD_nil⟩
  | e :: es, y => by
    obtain ⟨z, q⟩ := hist_loop (S := S) (Q := Q) (F := F) (m := m) (st := st) (x3 := x3) (x4 := x4) (x5 := x5) (x6 := x6) (x7 := x7) (x8 := x8) (x11 := x11) (x12 := x12) es (.val e.dat)
    refine ⟨z, (forD_nx (ps := [(13, e.dat)]) (r2 := [.val S, .val (.int m), st, x3, x4, x5, x6, x7, x8, .val Q, .val F, x11, x12, .val e.dat]) rfl ?_).trans q⟩
    clear q
    have a0 := e.at0
    cases e with
    | start d s v =>
      simp only [Ent.name] at a0
      generalize (Ent.start d s v).dat = T at *
      simp [setsD, lb_law_3, sqf, sIf, PD.tThen, andT, thn1, bin2, rdw, a0, q_sr, asB]
    | change d v s w =>
      simp only [Ent.name] at a0
      generalize (Ent.change d v s w).dat = T at *
      simp [setsD, lb_law_3, sqf, sIf, PD.tThen, andT, thn1, bin2, rdw, a0, q_cr, asB]
    | read d v x =>
      have a3 : qIx (Ent.read d v x).dat (.int 3) = .ok (.bool x) := by simp [Ent.dat, qIx, items]
      simp only [Ent.name] at a0
      generalize (Ent.read d v x).dat = T at *
      simp [setsD, lb_law_3, sqf, sIf, PD.tThen, andT, notT, thn1, then1, bin2, rdw, a0, a3, q_rr, asB, isiE, tyD, tru]
theorem law_tail {S : D} {m : Int} {A : SA} {s : PSt} {ds : List Dq} {as : List D} {x5 x6 x7 x8 : Sl} (I : Inv 41 s) (R : Rn m ⟨[], [], []⟩ ds as s) (hl : ds.length ≤ 41) : r_law_6 (lawR S m A s ds as x5 x6 x7 x8) = .rt (.bool true) := by
  have pl := playq_run R (by omega)
  have nd := ne_deeds ds
  have f0 : qIx (.tuple [.list as, (srt s).dat]) (.int 0) = .ok (.list as) := qIx_at rfl rfl
  have f1 : qIx (.tuple [.list as, (srt s).dat]) (.int 1) = .ok (srt s).dat := qIx_at rfl rfl
  have g0 : qIx (srt s).dat (.int 0) = .ok (hist s.es) := qIx_at rfl rfl
  have ln : bLen (.list as) = .ok (.int ((as.length : Nat) : Int)) := rfl
  have ni := ne_ints ((as.length : Nat) : Int)
  have n2 := ne_ints 2
  have l2 : bLen (.tuple [.list as, (srt s).dat]) = .ok (.int 2) := rfl
  obtain ⟨z11, z12, zl⟩ := zip_loop (S := S) (Q := .list (datQ ds)) (F := .tuple [.list as, (srt s).dat]) (m := m) (st := .sta A (hist s.es) (tarsD s.ts) (billsD s.bs)) (x3 := .own (datQ ds)) (x5 := x5) (x6 := x6) (x7 := x7) (x8 := x8) (x13 := .no) (al := .list as) as .no .no (rn_wd R)
  obtain ⟨z, hl2⟩ := hist_loop (S := S) (Q := .list (datQ ds)) (F := .tuple [.list as, (srt s).dat]) (m := m) (st := .sta A (hist s.es) (tarsD s.ts) (billsD s.bs)) (x3 := .own (datQ ds)) (x4 := .val (.list as)) (x5 := x5) (x6 := x6) (x7 := x7) (x8 := x8) (x11 := z11) (x12 := z12) s.es .no
  have so : bSortT (.list (tarsD s.ts)) = .ok (.list (tarsD (tarSort s.ts))) := by
    unfold bSortT
    simp only
    rw [if_pos (tars_ints s.ts), sortT_tars I.tn]
  have la : Lay 3 (srt s).dat := lay_tup fun d hd => by
    simp only [List.mem_cons, List.not_mem_nil, or_false] at hd
    rcases hd with rfl | rfl | rfl
    · exact lay_hist s.es
    · exact lay_tup fun t ht => by
        obtain ⟨u, _, rfl⟩ := List.mem_map.mp ht
        exact lay_tar u
    · exact lay_bills s.bs
  have eqf : qEq (srt s).dat (.tuple [hist s.es, .tuple (tarsD (tarSort s.ts)), .tuple (billsD s.bs)]) = .ok (.bool true) := by
    have z := qEq_lay la la
    rw [la.self] at z
    exact z
  have as0 : asS (bin2 qIx (bin2 qIx (rdw 10) (fun _ => .ok (.int 1))) (fun _ => .ok (.int 0))) [.val S, .val (.int m), .sta A (hist s.es) (tarsD s.ts) (billsD s.bs), .own (datQ ds), .val (.list as), x5, x6, x7, x8, .val (.list (datQ ds)), .val (.tuple [.list as, (srt s).dat]), z11, z12, .no] = .ok (datL s.es) := by
    have e : bin2 qIx (bin2 qIx (rdw 10) (fun _ => .ok (.int 1))) (fun _ => .ok (.int 0)) [.val S, .val (.int m), .sta A (hist s.es) (tarsD s.ts) (billsD s.bs), .own (datQ ds), .val (.list as), x5, x6, x7, x8, .val (.list (datQ ds)), .val (.tuple [.list as, (srt s).dat]), z11, z12, .no] = .ok (hist s.es) := by
      unfold bin2
      have r1 : rdw 10 [.val S, .val (.int m), .sta A (hist s.es) (tarsD s.ts) (billsD s.bs), .own (datQ ds), .val (.list as), x5, x6, x7, x8, .val (.list (datQ ds)), .val (.tuple [.list as, (srt s).dat]), z11, z12, .no] = .ok (.tuple [.list as, (srt s).dat]) := rfl
      rw [r1, bind_ok, bind_ok, f1, bind_ok, bind_ok]
      exact g0
    unfold asS
    rw [e]
    rfl
  have zp : zpE (bin2 qIx (rdw 10) (fun _ => .ok (.int 0))) (rd 4) [.val S, .val (.int m), .sta A (hist s.es) (tarsD s.ts) (billsD s.bs), .own (datQ ds), .val (.list as), x5, x6, x7, x8, .val (.list (datQ ds)), .val (.tuple [.list as, (srt s).dat]), .no, .no, .no] = .ok (zipD as as) := by
    have e : bin2 qIx (rdw 10) (fun _ => .ok (.int 0)) [.val S, .val (.int m), .sta A (hist s.es) (tarsD s.ts) (billsD s.bs), .own (datQ ds), .val (.list as), x5, x6, x7, x8, .val (.list (datQ ds)), .val (.tuple [.list as, (srt s).dat]), .no, .no, .no] = .ok (.list as) := by
      unfold bin2
      have r1 : rdw 10 [.val S, .val (.int m), .sta A (hist s.es) (tarsD s.ts) (billsD s.bs), .own (datQ ds), .val (.list as), x5, x6, x7, x8, .val (.list (datQ ds)), .val (.tuple [.list as, (srt s).dat]), .no, .no, .no] = .ok (.tuple [.list as, (srt s).dat]) := rfl
      rw [r1, bind_ok, bind_ok]
      exact f0
    unfold zpE
    rw [e]
    rfl
  unfold lawR
  clear la I R g0
  generalize hF : PyData.tuple [.list as, (srt s).dat] = F at *
  have tF : tyD F = "tuple" := by rw [← hF]; rfl
  have tL : tyD (.list as) = "list" := rfl
  clear hF
  generalize (srt s).dat = P at *
  generalize tarsD (tarSort s.ts) = T2 at *
  generalize hist s.es = H at *
  generalize tarsD s.ts = T at *
  generalize billsD s.bs = B at *
  generalize datL s.es = L at *
  generalize zipD as as = Z at *
  generalize datQ ds = Q at *
  generalize ((as.length : Nat) : Int) = N at *
  have s1 : r_law_6 [.val S, .val (.int m), .sta A H T B, .own Q, .own as, x5, x6, x7, x8, .no, .no, .no, .no, .no] = r_law_8 [.val S, .val (.int m), .sta A H T B, .own Q, .own as, x5, x6, x7, x8, .val (.list Q), .val F, .no, .no, .no] := by
    simp [r_law_6, r_law_7, sqf, setE, vThen, then1, rd, rdw, bList, callE, consA, pl, outR]
  have s2 : r_law_8 [.val S, .val (.int m), .sta A H T B, .own Q, .own as, x5, x6, x7, x8, .val (.list Q), .val F, .no, .no, .no] = r_law_9 [.val S, .val (.int m), .sta A H T B, .own Q, .own as, x5, x6, x7, x8, .val (.list Q), .val F, .no, .no, .no] := by
    simp [r_law_8, sqf, sIf, PD.tThen, orT, notT, thn1, then1, bin2, rdw, nd, asB, isiE, tF, tru, l2, n2, f0, tL]
  have s3 : r_law_9 [.val S, .val (.int m), .sta A H T B, .own Q, .own as, x5, x6, x7, x8, .val (.list Q), .val F, .no, .no, .no] = r_law_10 [.val S, .val (.int m), .sta A H T B, .own Q, .own as, x5, x6, x7, x8, .val (.list Q), .val F, .no, .no, .no] := by
    simp [r_law_9, sqf, sIf, PD.tThen, thn1, then1, bin2, rdw, f0, ln, ni, asB]
  have s4 : r_law_10 [.val S, .val (.int m), .sta A H T B, .own Q, .own as, x5, x6, x7, x8, .val (.list Q), .val F, .no, .no, .no] = r_law_11 [.val S, .val (.int m), .sta A H T B, .own Q, .val (.list as), x5, x6, x7, x8, .val (.list Q), .val F, z11, z12, .no] := by
    simp [r_law_10, frz, sqf, forE, lThen, zp, zl]
  have s5 : r_law_11 [.val S, .val (.int m), .sta A H T B, .own Q, .val (.list as), x5, x6, x7, x8, .val (.list Q), .val F, z11, z12, .no] = r_law_12 [.val S, .val (.int m), .sta A H T B, .own Q, .val (.list as), x5, x6, x7, x8, .val (.list Q), .val F, z11, z12, z] := by
    simp [r_law_11, sqf, forE, lThen, as0, hl2]
  rw [s1, s2, s3, s4, s5]
  simp [r_law_12, sqf, retE, vThen, bin2, rdw, f1, tupA, consA, staH, staT, staB, then1, so, bTuple, eqf]
theorem law_mid {S : D} {m : Int} {A : SA} {s : PSt} {ds : List Dq} {as : List D} {L : List D} (hm : 0 ≤ m ∧ m ≤ 1000000000000) (hS : S = .list L) (cl : ∃ Li : List Int, Li.length ≤ 40 ∧ PD.cutD L (some 3) (some 43) = Li.map PyData.int) (I : Inv 1 s) (R : Rn m ⟨[], [], []⟩ ds as s) (hl : ds.length ≤ 1) :
    r_law_5 (lawR S m A s ds as .no .no .no .no) = .rt (.bool true) := by
  obtain ⟨Li, hLi, ec⟩ := cl
  obtain ⟨s', ds', as', y5, y6, y7, y8, I', R', l', e⟩ := law_loop (S := S) (A := A) hm Li hLi I R hl
  have en : enL (cut3 (rdw 0) (optI (fun _ => .ok (.int 3))) (optI (fun _ => .ok (.int 43)))) (lawR S m A s ds as .no .no .no .no) = .ok (enumD (Li.map PyData.int)) := by
    have c : cut3 (rdw 0) (optI (fun _ => .ok (.int 3))) (optI (fun _ => .ok (.int 43))) (lawR S m A s ds as .no .no .no .no) = .ok (.list (Li.map PyData.int)) := by
      have r0 : rdw 0 (lawR S m A s ds as .no .no .no .no) = .ok (.list L) := by rw [hS]; rfl
      unfold cut3
      rw [r0, bind_ok]
      show Res.ok (PyData.list (PD.cutD L (some 3) (some 43))) = _
      rw [ec]
    unfold enL
    rw [c]
    rfl
  unfold r_law_5 sqf forE lThen
  rw [en, fold_ok]
  show (forD (aTup [5, 6]) lb_law_1 (enumD (Li.map PyData.int)) (lawR S m A s ds as .no .no .no .no)).seq r_law_6 = _
  rw [e, seq_nx]
  exact law_tail I' R' l'
theorem start_deed {m : Int} {z : Int} (hm : 0 ≤ m ∧ m ≤ 1000000000000) (hz : 2 ≤ z ∧ z ≤ 1000000000000) : ∃ a s', Stp m ⟨[], [], []⟩ (.ent (.start 2 z 1)) a s' ∧ Inv 1 s' := by
  have I0 : Inv 0 (PSt.mk [] [] []) := ⟨.inl rfl, Nat.le_refl _, fun l h => (by cases h), fun t h => (by cases h), List.nodup_nil, Nat.le_refl _, Nat.le_refl _, by decide⟩
  exact step_start I0 ⟨by omega, hz, by omega⟩
theorem law_true (ns : List Int) (hlen : ns.length ≤ 63) : outR (f_law [.list (ns.map PyData.int)]) = .ok (.bool true) := by
  have hm := most_range (cell ns 0)
  have mr := most_run (cell ns 0)
  have c0 := cell_run ns 0
  have c1 := cell_run ns 1
  have m2 := mixed_run ns 2
  have mx := mixed_range ns 2
  have zr := size_run mx
  have zz := size_range mx
  have cl := cut_cells ns
  have I0 : Inv 0 (PSt.mk [] [] []) := ⟨.inl rfl, Nat.le_refl _, fun l h => (by cases h), fun t h => (by cases h), List.nodup_nil, Nat.le_refl _, Nat.le_refl _, by decide⟩
  have key : ∀ A : SA, r_law_2 [.val (script ns), .val (.int (mostBy (cell ns 0))), .sta A (.tuple []) [] [], .no, .no, .no, .no, .no, .no, .no, .no, .no, .no, .no] = .rt (.bool true) := fun A => by
    have s0 : r_law_2 [.val (script ns), .val (.int (mostBy (cell ns 0))), .sta A (.tuple []) [] [], .no, .no, .no, .no, .no, .no, .no, .no, .no, .no, .no] = r_law_4 (lawR (script ns) (mostBy (cell ns 0)) A ⟨[], [], []⟩ [] [] .no .no .no .no) := rfl
    rw [s0]
    by_cases h : cell ns 1 % 3 > 0
    · obtain ⟨a, s', st, I1⟩ := start_deed (m := mostBy (cell ns 0)) (z := sizeBy (mixed ns 2)) hm zz
      obtain ⟨rr, l1, l2⟩ := st.law A
      have R1 := rn_snoc .nil st
      have mid := law_mid (S := script ns) (A := A) hm rfl cl I1 R1 (by simp)
      refine Eq.trans ?_ mid
      have e3 : iMod (.int (cell ns 1)) (.int 3) = .ok (.int (cell ns 1 % 3)) := iMod_p (by decide)
      have ix : qIx (.list [.tuple [.str sStart, .int 2, .int (sizeBy (mixed ns 2)), .int 1]]) (.int (-1)) = .ok (.tuple [.str sStart, .int 2, .int (sizeBy (mixed ns 2)), .int 1]) := qIx_at rfl rfl
      have ap : datQ ([] ++ [.ent (.start 2 (sizeBy (mixed ns 2)) 1)]) = [.tuple [.str sStart, .int 2, .int (sizeBy (mixed ns 2)), .int 1]] := rfl
      have l1' : f__law_answer A (hist []) (tarsD []) (billsD []) [.int (mostBy (cell ns 0)), .tuple [.str sStart, .int 2, .int (sizeBy (mixed ns 2)), .int 1]] = .rt a rr := l1
      unfold lawR
      rw [ap]
      have c1' : f__law_cell_at [script ns, .int 1] = .rt (.int (cell ns 1)) := c1
      have m2' : f__law_mixed [script ns, .int 2] = .rt (.int (mixed ns 2)) := m2
      have h' : 0 < cell ns 1 % 3 := h
      have q0 : datQ [] = [] := rfl
      rw [q0]
      clear l1 mid ap h cl I0 I1 R1 st c0 c1 m2 mx mr zz hm hlen
      show r_law_4 [.val (script ns), .val (.int (mostBy (cell ns 0))), .sta A (hist []) (tarsD []) (billsD []), .own [], .own [], .no, .no, .no, .no, .no, .no, .no, .no, .no] = r_law_5 [.val (script ns), .val (.int (mostBy (cell ns 0))), .sta A (hist s'.es) (tarsD s'.ts) (billsD s'.bs), .own [.tuple [.str sStart, .int 2, .int (sizeBy (mixed ns 2)), .int 1]], .own [a], .no, .no, .no, .no, .no, .no, .no, .no, .no]
      generalize sizeBy (mixed ns 2) = z at *
      generalize mixed ns 2 = mx at *
      generalize mostBy (cell ns 0) = m at *
      generalize cell ns 1 % 3 = j at *
      generalize cell ns 1 = c at *
      generalize script ns = S at *
      generalize hist [] = H at *
      generalize tarsD [] = T at *
      generalize billsD [] = B at *
      generalize hist s'.es = H' at *
      generalize tarsD s'.ts = T' at *
      generalize billsD s'.bs = B' at *
      have fin : appS 4 2 (consA (rd 1) (consA (bin2 qIx (rdw 3) (then1 (fun _ => .ok (.int 1)) negI)) (fun _ => .ok []))) f__law_answer
          [.val S, .val (.int m), .sta A H T B, .own [.tuple [.str sStart, .int 2, .int z, .int 1]], .own [], .no, .no, .no, .no, .no, .no, .no, .no, .no] =
          .nx [.val S, .val (.int m), .sta A H' T' B', .own [.tuple [.str sStart, .int 2, .int z, .int 1]], .own [a], .no, .no, .no, .no, .no, .no, .no, .no, .no] :=
        appS_run (as := []) (ds := [.int m, .tuple [.str sStart, .int 2, .int z, .int 1]]) (A := A) (H := H) (ts := T) (bs := B) (by decide) rfl rfl (by simp [consA, rd, rdw, bin2, then1, negI, ix]) l1' l2 (by decide)
      simp [r_law_4, sqf, sIf, PD.tThen, thn1, bin2, callE, consA, rd, c1', outR, e3, iCmp, h', asB, apndE, apnd, vThen, tupA, m2', zr, fin]
    · have mid := law_mid (S := script ns) (A := A) (ds := []) (as := []) hm rfl cl I0.up .nil (by simp)
      refine Eq.trans ?_ mid
      have e3 : iMod (.int (cell ns 1)) (.int 3) = .ok (.int (cell ns 1 % 3)) := iMod_p (by decide)
      have h' : ¬ 0 < cell ns 1 % 3 := h
      unfold lawR
      have c1' : f__law_cell_at [script ns, .int 1] = .rt (.int (cell ns 1)) := c1
      generalize cell ns 1 % 3 = j at *
      generalize script ns = S at *
      simp [r_law_4, sqf, sIf, PD.tThen, thn1, bin2, callE, consA, rd, c1', outR, e3, iCmp, h', asB]
  have nw : newS 2 r_law_2 [.val (script ns), .val (.int (mostBy (cell ns 0))), .no, .no, .no, .no, .no, .no, .no, .no, .no, .no, .no, .no] = .rt (.bool true) := by
    refine newS_eq (fun i A h ts bs e => ?_) key
    have hi : i < 14 := (List.getElem?_eq_some_iff.mp e).1
    have : i = 0 ∨ i = 1 ∨ i = 2 ∨ i = 3 ∨ i = 4 ∨ i = 5 ∨ i = 6 ∨ i = 7 ∨ i = 8 ∨ i = 9 ∨ i = 10 ∨ i = 11 ∨ i = 12 ∨ i = 13 := by omega
    rcases this with rfl | rfl | rfl | rfl | rfl | rfl | rfl | rfl | rfl | rfl | rfl | rfl | rfl | rfl <;> cases e
  have fin : f_law [script ns] = .rt (.bool true) := by
    generalize script ns = S at *
    have c0' : f__law_cell_at [S, .int 0] = .rt (.int (cell ns 0)) := c0
    simp [f_law, b_law, r_law_1, fnD, sqf, setE, vThen, callE, consA, rd, c0', mr, outR, nw]
  show outR (f_law [script ns]) = _
  rw [fin]
  rfl
end K11

namespace K11
open PySem PySem.Spec PyProof.Rows L2 PD
theorem all_mk {w : World} {K : PySem.W.Frag} {h : Heap} {mg : Str → Option Value} {fa : Addr} {a__law_most_by a_check_day a_check_value a_size_at a_size_now a_read_on a_gone a_use_since a_is_counting a_standing_behind a_points a_spans a_use_ahead a_share a_use_by a_uses a_cost a_tariff_on a_owed a_billed a_with_bill a_use_on a_begun a_known_to a_changed_on a_is_standing_reading a_struck a_with_tariff a_do_deed a_answer_to a_play a__law_cell_at a__law_size_now a__law_entry_of a__law_cost a__law_use a__law_owed a__law_account a__law_bill a__law_struck a__law_answer a__law_size_by a__law_shown_now a__law_deed_by a__law_mixed a_law : Addr}
    {oc__law_most_by kV__law_most_by dc__law_most_by pm__law_most_by cd__law_most_by ct__law_most_by oc_check_day kV_check_day dc_check_day pm_check_day cd_check_day ct_check_day oc_check_value kV_check_value dc_check_value pm_check_value cd_check_value ct_check_value oc_size_at kV_size_at dc_size_at pm_size_at cd_size_at ct_size_at oc_size_now kV_size_now dc_size_now pm_size_now cd_size_now ct_size_now oc_read_on kV_read_on dc_read_on pm_read_on cd_read_on ct_read_on oc_gone kV_gone dc_gone pm_gone cd_gone ct_gone oc_use_since kV_use_since dc_use_since pm_use_since cd_use_since ct_use_since oc_is_counting kV_is_counting dc_is_counting pm_is_counting cd_is_counting ct_is_counting oc_standing_behind kV_standing_behind dc_standing_behind pm_standing_behind cd_standing_behind ct_standing_behind oc_points kV_points dc_points pm_points cd_points ct_points oc_spans kV_spans dc_spans pm_spans cd_spans ct_spans oc_use_ahead kV_use_ahead dc_use_ahead pm_use_ahead cd_use_ahead ct_use_ahead oc_share kV_share dc_share pm_share cd_share ct_share oc_use_by kV_use_by dc_use_by pm_use_by cd_use_by ct_use_by oc_uses kV_uses dc_uses pm_uses cd_uses ct_uses oc_cost kV_cost dc_cost pm_cost cd_cost ct_cost oc_tariff_on kV_tariff_on dc_tariff_on pm_tariff_on cd_tariff_on ct_tariff_on oc_owed kV_owed dc_owed pm_owed ct_owed oc_billed kV_billed dc_billed pm_billed ct_billed oc_with_bill kV_with_bill dc_with_bill pm_with_bill cd_with_bill ct_with_bill oc_use_on kV_use_on dc_use_on pm_use_on cd_use_on ct_use_on oc_begun kV_begun dc_begun pm_begun cd_begun ct_begun oc_known_to kV_known_to dc_known_to pm_known_to cd_known_to ct_known_to oc_changed_on kV_changed_on dc_changed_on pm_changed_on cd_changed_on ct_changed_on oc_is_standing_reading kV_is_standing_reading dc_is_standing_reading pm_is_standing_reading cd_is_standing_reading ct_is_standing_reading oc_struck kV_struck dc_struck pm_struck cd_struck ct_struck oc_with_tariff kV_with_tariff dc_with_tariff pm_with_tariff ct_with_tariff oc_do_deed kV_do_deed dc_do_deed pm_do_deed cd_do_deed ct_do_deed oc_answer_to kV_answer_to dc_answer_to pm_answer_to cd_answer_to ct_answer_to oc_play kV_play dc_play pm_play cd_play ct_play oc__law_cell_at kV__law_cell_at dc__law_cell_at pm__law_cell_at cd__law_cell_at ct__law_cell_at oc__law_size_now kV__law_size_now dc__law_size_now pm__law_size_now cd__law_size_now ct__law_size_now oc__law_entry_of kV__law_entry_of dc__law_entry_of pm__law_entry_of cd__law_entry_of ct__law_entry_of oc__law_cost kV__law_cost dc__law_cost pm__law_cost cd__law_cost ct__law_cost oc__law_use kV__law_use dc__law_use pm__law_use cd__law_use ct__law_use oc__law_owed kV__law_owed dc__law_owed pm__law_owed cd__law_owed ct__law_owed oc__law_account kV__law_account dc__law_account pm__law_account cd__law_account ct__law_account oc__law_bill kV__law_bill dc__law_bill pm__law_bill cd__law_bill ct__law_bill oc__law_struck kV__law_struck dc__law_struck pm__law_struck cd__law_struck ct__law_struck oc__law_answer kV__law_answer dc__law_answer pm__law_answer cd__law_answer ct__law_answer oc__law_size_by kV__law_size_by dc__law_size_by pm__law_size_by cd__law_size_by ct__law_size_by oc__law_shown_now kV__law_shown_now dc__law_shown_now pm__law_shown_now cd__law_shown_now ct__law_shown_now oc__law_deed_by kV__law_deed_by dc__law_deed_by pm__law_deed_by cd__law_deed_by ct__law_deed_by oc__law_mixed kV__law_mixed dc__law_mixed pm__law_mixed cd__law_mixed ct__law_mixed oc_law kV_law dc_law pm_law cd_law ct_law : Value}
    {od__law_most_by an__law_most_by od_check_day an_check_day od_check_value an_check_value od_size_at an_size_at od_size_now an_size_now od_read_on an_read_on od_gone an_gone od_use_since an_use_since od_is_counting an_is_counting od_standing_behind an_standing_behind od_points an_points od_spans an_spans od_use_ahead an_use_ahead od_share an_share od_use_by an_use_by od_uses an_uses od_cost an_cost od_tariff_on an_tariff_on od_owed an_owed od_billed an_billed od_with_bill an_with_bill od_use_on an_use_on od_begun an_begun od_known_to an_known_to od_changed_on an_changed_on od_is_standing_reading an_is_standing_reading od_struck an_struck od_with_tariff an_with_tariff od_do_deed an_do_deed od_answer_to an_answer_to od_play an_play od__law_cell_at an__law_cell_at od__law_size_now an__law_size_now od__law_entry_of an__law_entry_of od__law_cost an__law_cost od__law_use an__law_use od__law_owed an__law_owed od__law_account an__law_account od__law_bill an__law_bill od__law_struck an__law_struck od__law_answer an__law_answer od__law_size_by an__law_size_by od__law_shown_now an__law_shown_now od__law_deed_by an__law_deed_by od__law_mixed an__law_mixed od_law an_law : Option Addr}
    {sl__law_most_by sl_check_day sl_check_value sl_size_at sl_size_now sl_read_on sl_gone sl_use_since sl_is_counting sl_standing_behind sl_points sl_spans sl_use_ahead sl_share sl_use_by sl_uses sl_cost sl_tariff_on sl_owed sl_billed sl_with_bill sl_use_on sl_begun sl_known_to sl_changed_on sl_is_standing_reading sl_struck sl_with_tariff sl_do_deed sl_answer_to sl_play sl__law_cell_at sl__law_size_now sl__law_entry_of sl__law_cost sl__law_use sl__law_owed sl__law_account sl__law_bill sl__law_struck sl__law_answer sl__law_size_by sl__law_shown_now sl__law_deed_by sl__law_mixed sl_law : Array (Option Value)} {c_MeterError c_NoMeter c_StandsAlready c_NotLater c_NoValue c_NoReading : Addr}
    {cc_owed P_owed cc_billed P_billed cc_with_tariff P_with_tariff : Addr} {ec_owed ec_billed ec_with_tariff : Value} {dx_owed dx_billed dx_with_tariff : Option Addr} {vc_owed vc_billed vc_with_tariff : Array Value} {sc_owed' sc_billed' sc_with_tariff' : Array (Option Value)}
    (X : K.In h) (G : h.Ns mainGlobals mg) (hfa : mg "law" = some (.ref fa))
    (i__law_most_by : PySem.W.nsIn K mainGlobals "_law_most_by" = some (some (.ref a__law_most_by))) (l__law_most_by : K.lookup a__law_most_by = some ⟨oc__law_most_by, od__law_most_by, .func (PySem.W.fnOf "_law_most_by" "_law_most_by" (defArgs s__law_most_by) (defBody s__law_most_by) (defScope s__law_most_by) .none kV__law_most_by dc__law_most_by pm__law_most_by an__law_most_by cd__law_most_by ct__law_most_by), sl__law_most_by⟩) (c__law_most_by : PySem.W.codeIn K cd__law_most_by "_law_most_by" = true) (k__law_most_by : PySem.W.keepIn K (.ref a__law_most_by) = true)
    (i_check_day : PySem.W.nsIn K mainGlobals "check_day" = some (some (.ref a_check_day))) (l_check_day : K.lookup a_check_day = some ⟨oc_check_day, od_check_day, .func (PySem.W.fnOf "check_day" "check_day" (defArgs s_check_day) (defBody s_check_day) (defScope s_check_day) .none kV_check_day dc_check_day pm_check_day an_check_day cd_check_day ct_check_day), sl_check_day⟩) (c_check_day : PySem.W.codeIn K cd_check_day "check_day" = true) (k_check_day : PySem.W.keepIn K (.ref a_check_day) = true)
    (i_check_value : PySem.W.nsIn K mainGlobals "check_value" = some (some (.ref a_check_value))) (l_check_value : K.lookup a_check_value = some ⟨oc_check_value, od_check_value, .func (PySem.W.fnOf "check_value" "check_value" (defArgs s_check_value) (defBody s_check_value) (defScope s_check_value) .none kV_check_value dc_check_value pm_check_value an_check_value cd_check_value ct_check_value), sl_check_value⟩) (c_check_value : PySem.W.codeIn K cd_check_value "check_value" = true) (k_check_value : PySem.W.keepIn K (.ref a_check_value) = true)
    (i_size_at : PySem.W.nsIn K mainGlobals "size_at" = some (some (.ref a_size_at))) (l_size_at : K.lookup a_size_at = some ⟨oc_size_at, od_size_at, .func (PySem.W.fnOf "size_at" "size_at" (defArgs s_size_at) (defBody s_size_at) (defScope s_size_at) .none kV_size_at dc_size_at pm_size_at an_size_at cd_size_at ct_size_at), sl_size_at⟩) (c_size_at : PySem.W.codeIn K cd_size_at "size_at" = true) (k_size_at : PySem.W.keepIn K (.ref a_size_at) = true)
    (i_size_now : PySem.W.nsIn K mainGlobals "size_now" = some (some (.ref a_size_now))) (l_size_now : K.lookup a_size_now = some ⟨oc_size_now, od_size_now, .func (PySem.W.fnOf "size_now" "size_now" (defArgs s_size_now) (defBody s_size_now) (defScope s_size_now) .none kV_size_now dc_size_now pm_size_now an_size_now cd_size_now ct_size_now), sl_size_now⟩) (c_size_now : PySem.W.codeIn K cd_size_now "size_now" = true) (k_size_now : PySem.W.keepIn K (.ref a_size_now) = true)
    (i_read_on : PySem.W.nsIn K mainGlobals "read_on" = some (some (.ref a_read_on))) (l_read_on : K.lookup a_read_on = some ⟨oc_read_on, od_read_on, .func (PySem.W.fnOf "read_on" "read_on" (defArgs s_read_on) (defBody s_read_on) (defScope s_read_on) .none kV_read_on dc_read_on pm_read_on an_read_on cd_read_on ct_read_on), sl_read_on⟩) (c_read_on : PySem.W.codeIn K cd_read_on "read_on" = true) (k_read_on : PySem.W.keepIn K (.ref a_read_on) = true)
    (i_gone : PySem.W.nsIn K mainGlobals "gone" = some (some (.ref a_gone))) (l_gone : K.lookup a_gone = some ⟨oc_gone, od_gone, .func (PySem.W.fnOf "gone" "gone" (defArgs s_gone) (defBody s_gone) (defScope s_gone) .none kV_gone dc_gone pm_gone an_gone cd_gone ct_gone), sl_gone⟩) (c_gone : PySem.W.codeIn K cd_gone "gone" = true) (k_gone : PySem.W.keepIn K (.ref a_gone) = true)
    (i_use_since : PySem.W.nsIn K mainGlobals "use_since" = some (some (.ref a_use_since))) (l_use_since : K.lookup a_use_since = some ⟨oc_use_since, od_use_since, .func (PySem.W.fnOf "use_since" "use_since" (defArgs s_use_since) (defBody s_use_since) (defScope s_use_since) .none kV_use_since dc_use_since pm_use_since an_use_since cd_use_since ct_use_since), sl_use_since⟩) (c_use_since : PySem.W.codeIn K cd_use_since "use_since" = true) (k_use_since : PySem.W.keepIn K (.ref a_use_since) = true)
    (i_is_counting : PySem.W.nsIn K mainGlobals "is_counting" = some (some (.ref a_is_counting))) (l_is_counting : K.lookup a_is_counting = some ⟨oc_is_counting, od_is_counting, .func (PySem.W.fnOf "is_counting" "is_counting" (defArgs s_is_counting) (defBody s_is_counting) (defScope s_is_counting) .none kV_is_counting dc_is_counting pm_is_counting an_is_counting cd_is_counting ct_is_counting), sl_is_counting⟩) (c_is_counting : PySem.W.codeIn K cd_is_counting "is_counting" = true) (k_is_counting : PySem.W.keepIn K (.ref a_is_counting) = true)
    (i_standing_behind : PySem.W.nsIn K mainGlobals "standing_behind" = some (some (.ref a_standing_behind))) (l_standing_behind : K.lookup a_standing_behind = some ⟨oc_standing_behind, od_standing_behind, .func (PySem.W.fnOf "standing_behind" "standing_behind" (defArgs s_standing_behind) (defBody s_standing_behind) (defScope s_standing_behind) .none kV_standing_behind dc_standing_behind pm_standing_behind an_standing_behind cd_standing_behind ct_standing_behind), sl_standing_behind⟩) (c_standing_behind : PySem.W.codeIn K cd_standing_behind "standing_behind" = true) (k_standing_behind : PySem.W.keepIn K (.ref a_standing_behind) = true)
    (i_points : PySem.W.nsIn K mainGlobals "points" = some (some (.ref a_points))) (l_points : K.lookup a_points = some ⟨oc_points, od_points, .func (PySem.W.fnOf "points" "points" (defArgs s_points) (defBody s_points) (defScope s_points) .none kV_points dc_points pm_points an_points cd_points ct_points), sl_points⟩) (c_points : PySem.W.codeIn K cd_points "points" = true) (k_points : PySem.W.keepIn K (.ref a_points) = true)
    (i_spans : PySem.W.nsIn K mainGlobals "spans" = some (some (.ref a_spans))) (l_spans : K.lookup a_spans = some ⟨oc_spans, od_spans, .func (PySem.W.fnOf "spans" "spans" (defArgs s_spans) (defBody s_spans) (defScope s_spans) .none kV_spans dc_spans pm_spans an_spans cd_spans ct_spans), sl_spans⟩) (c_spans : PySem.W.codeIn K cd_spans "spans" = true) (k_spans : PySem.W.keepIn K (.ref a_spans) = true)
    (i_use_ahead : PySem.W.nsIn K mainGlobals "use_ahead" = some (some (.ref a_use_ahead))) (l_use_ahead : K.lookup a_use_ahead = some ⟨oc_use_ahead, od_use_ahead, .func (PySem.W.fnOf "use_ahead" "use_ahead" (defArgs s_use_ahead) (defBody s_use_ahead) (defScope s_use_ahead) .none kV_use_ahead dc_use_ahead pm_use_ahead an_use_ahead cd_use_ahead ct_use_ahead), sl_use_ahead⟩) (c_use_ahead : PySem.W.codeIn K cd_use_ahead "use_ahead" = true) (k_use_ahead : PySem.W.keepIn K (.ref a_use_ahead) = true)
    (i_share : PySem.W.nsIn K mainGlobals "share" = some (some (.ref a_share))) (l_share : K.lookup a_share = some ⟨oc_share, od_share, .func (PySem.W.fnOf "share" "share" (defArgs s_share) (defBody s_share) (defScope s_share) .none kV_share dc_share pm_share an_share cd_share ct_share), sl_share⟩) (c_share : PySem.W.codeIn K cd_share "share" = true) (k_share : PySem.W.keepIn K (.ref a_share) = true)
    (i_use_by : PySem.W.nsIn K mainGlobals "use_by" = some (some (.ref a_use_by))) (l_use_by : K.lookup a_use_by = some ⟨oc_use_by, od_use_by, .func (PySem.W.fnOf "use_by" "use_by" (defArgs s_use_by) (defBody s_use_by) (defScope s_use_by) .none kV_use_by dc_use_by pm_use_by an_use_by cd_use_by ct_use_by), sl_use_by⟩) (c_use_by : PySem.W.codeIn K cd_use_by "use_by" = true) (k_use_by : PySem.W.keepIn K (.ref a_use_by) = true)
    (i_uses : PySem.W.nsIn K mainGlobals "uses" = some (some (.ref a_uses))) (l_uses : K.lookup a_uses = some ⟨oc_uses, od_uses, .func (PySem.W.fnOf "uses" "uses" (defArgs s_uses) (defBody s_uses) (defScope s_uses) .none kV_uses dc_uses pm_uses an_uses cd_uses ct_uses), sl_uses⟩) (c_uses : PySem.W.codeIn K cd_uses "uses" = true) (k_uses : PySem.W.keepIn K (.ref a_uses) = true)
    (i_cost : PySem.W.nsIn K mainGlobals "cost" = some (some (.ref a_cost))) (l_cost : K.lookup a_cost = some ⟨oc_cost, od_cost, .func (PySem.W.fnOf "cost" "cost" (defArgs s_cost) (defBody s_cost) (defScope s_cost) .none kV_cost dc_cost pm_cost an_cost cd_cost ct_cost), sl_cost⟩) (c_cost : PySem.W.codeIn K cd_cost "cost" = true) (k_cost : PySem.W.keepIn K (.ref a_cost) = true)
    (i_tariff_on : PySem.W.nsIn K mainGlobals "tariff_on" = some (some (.ref a_tariff_on))) (l_tariff_on : K.lookup a_tariff_on = some ⟨oc_tariff_on, od_tariff_on, .func (PySem.W.fnOf "tariff_on" "tariff_on" (defArgs s_tariff_on) (defBody s_tariff_on) (defScope s_tariff_on) .none kV_tariff_on dc_tariff_on pm_tariff_on an_tariff_on cd_tariff_on ct_tariff_on), sl_tariff_on⟩) (c_tariff_on : PySem.W.codeIn K cd_tariff_on "tariff_on" = true) (k_tariff_on : PySem.W.keepIn K (.ref a_tariff_on) = true)
    (i_owed : PySem.W.nsIn K mainGlobals "owed" = some (some (.ref a_owed))) (l_owed : K.lookup a_owed = some ⟨oc_owed, od_owed, .func (PySem.W.fnOf "owed" "owed" (defArgs s_owed) (defBody s_owed) (defScope s_owed) .none kV_owed dc_owed pm_owed an_owed (.ref cc_owed) ct_owed), sl_owed⟩) (c_owed : PySem.W.codeIn K (.ref cc_owed) "owed" = true) (k_owed : PySem.W.keepIn K (.ref a_owed) = true)
    (lc_owed : K.lookup cc_owed = some ⟨ec_owed, dx_owed, .fields vc_owed, sc_owed'⟩) (vp_owed : vc_owed[11]? = some (.ref P_owed)) (np_owed : K.lookup P_owed = none) (own_owed : OwnT mg h "owed")
    (i_billed : PySem.W.nsIn K mainGlobals "billed" = some (some (.ref a_billed))) (l_billed : K.lookup a_billed = some ⟨oc_billed, od_billed, .func (PySem.W.fnOf "billed" "billed" (defArgs s_billed) (defBody s_billed) (defScope s_billed) .none kV_billed dc_billed pm_billed an_billed (.ref cc_billed) ct_billed), sl_billed⟩) (c_billed : PySem.W.codeIn K (.ref cc_billed) "billed" = true) (k_billed : PySem.W.keepIn K (.ref a_billed) = true)
    (lc_billed : K.lookup cc_billed = some ⟨ec_billed, dx_billed, .fields vc_billed, sc_billed'⟩) (vp_billed : vc_billed[11]? = some (.ref P_billed)) (np_billed : K.lookup P_billed = none) (own_billed : OwnT mg h "billed")
    (i_with_bill : PySem.W.nsIn K mainGlobals "with_bill" = some (some (.ref a_with_bill))) (l_with_bill : K.lookup a_with_bill = some ⟨oc_with_bill, od_with_bill, .func (PySem.W.fnOf "with_bill" "with_bill" (defArgs s_with_bill) (defBody s_with_bill) (defScope s_with_bill) .none kV_with_bill dc_with_bill pm_with_bill an_with_bill cd_with_bill ct_with_bill), sl_with_bill⟩) (c_with_bill : PySem.W.codeIn K cd_with_bill "with_bill" = true) (k_with_bill : PySem.W.keepIn K (.ref a_with_bill) = true)
    (i_use_on : PySem.W.nsIn K mainGlobals "use_on" = some (some (.ref a_use_on))) (l_use_on : K.lookup a_use_on = some ⟨oc_use_on, od_use_on, .func (PySem.W.fnOf "use_on" "use_on" (defArgs s_use_on) (defBody s_use_on) (defScope s_use_on) .none kV_use_on dc_use_on pm_use_on an_use_on cd_use_on ct_use_on), sl_use_on⟩) (c_use_on : PySem.W.codeIn K cd_use_on "use_on" = true) (k_use_on : PySem.W.keepIn K (.ref a_use_on) = true)
    (i_begun : PySem.W.nsIn K mainGlobals "begun" = some (some (.ref a_begun))) (l_begun : K.lookup a_begun = some ⟨oc_begun, od_begun, .func (PySem.W.fnOf "begun" "begun" (defArgs s_begun) (defBody s_begun) (defScope s_begun) .none kV_begun dc_begun pm_begun an_begun cd_begun ct_begun), sl_begun⟩) (c_begun : PySem.W.codeIn K cd_begun "begun" = true) (k_begun : PySem.W.keepIn K (.ref a_begun) = true)
    (i_known_to : PySem.W.nsIn K mainGlobals "known_to" = some (some (.ref a_known_to))) (l_known_to : K.lookup a_known_to = some ⟨oc_known_to, od_known_to, .func (PySem.W.fnOf "known_to" "known_to" (defArgs s_known_to) (defBody s_known_to) (defScope s_known_to) .none kV_known_to dc_known_to pm_known_to an_known_to cd_known_to ct_known_to), sl_known_to⟩) (c_known_to : PySem.W.codeIn K cd_known_to "known_to" = true) (k_known_to : PySem.W.keepIn K (.ref a_known_to) = true)
    (i_changed_on : PySem.W.nsIn K mainGlobals "changed_on" = some (some (.ref a_changed_on))) (l_changed_on : K.lookup a_changed_on = some ⟨oc_changed_on, od_changed_on, .func (PySem.W.fnOf "changed_on" "changed_on" (defArgs s_changed_on) (defBody s_changed_on) (defScope s_changed_on) .none kV_changed_on dc_changed_on pm_changed_on an_changed_on cd_changed_on ct_changed_on), sl_changed_on⟩) (c_changed_on : PySem.W.codeIn K cd_changed_on "changed_on" = true) (k_changed_on : PySem.W.keepIn K (.ref a_changed_on) = true)
    (i_is_standing_reading : PySem.W.nsIn K mainGlobals "is_standing_reading" = some (some (.ref a_is_standing_reading))) (l_is_standing_reading : K.lookup a_is_standing_reading = some ⟨oc_is_standing_reading, od_is_standing_reading, .func (PySem.W.fnOf "is_standing_reading" "is_standing_reading" (defArgs s_is_standing_reading) (defBody s_is_standing_reading) (defScope s_is_standing_reading) .none kV_is_standing_reading dc_is_standing_reading pm_is_standing_reading an_is_standing_reading cd_is_standing_reading ct_is_standing_reading), sl_is_standing_reading⟩) (c_is_standing_reading : PySem.W.codeIn K cd_is_standing_reading "is_standing_reading" = true) (k_is_standing_reading : PySem.W.keepIn K (.ref a_is_standing_reading) = true)
    (i_struck : PySem.W.nsIn K mainGlobals "struck" = some (some (.ref a_struck))) (l_struck : K.lookup a_struck = some ⟨oc_struck, od_struck, .func (PySem.W.fnOf "struck" "struck" (defArgs s_struck) (defBody s_struck) (defScope s_struck) .none kV_struck dc_struck pm_struck an_struck cd_struck ct_struck), sl_struck⟩) (c_struck : PySem.W.codeIn K cd_struck "struck" = true) (k_struck : PySem.W.keepIn K (.ref a_struck) = true)
    (i_with_tariff : PySem.W.nsIn K mainGlobals "with_tariff" = some (some (.ref a_with_tariff))) (l_with_tariff : K.lookup a_with_tariff = some ⟨oc_with_tariff, od_with_tariff, .func (PySem.W.fnOf "with_tariff" "with_tariff" (defArgs s_with_tariff) (defBody s_with_tariff) (defScope s_with_tariff) .none kV_with_tariff dc_with_tariff pm_with_tariff an_with_tariff (.ref cc_with_tariff) ct_with_tariff), sl_with_tariff⟩) (c_with_tariff : PySem.W.codeIn K (.ref cc_with_tariff) "with_tariff" = true) (k_with_tariff : PySem.W.keepIn K (.ref a_with_tariff) = true)
    (lc_with_tariff : K.lookup cc_with_tariff = some ⟨ec_with_tariff, dx_with_tariff, .fields vc_with_tariff, sc_with_tariff'⟩) (vp_with_tariff : vc_with_tariff[11]? = some (.ref P_with_tariff)) (np_with_tariff : K.lookup P_with_tariff = none) (own_with_tariff : OwnT mg h "with_tariff")
    (i_do_deed : PySem.W.nsIn K mainGlobals "do_deed" = some (some (.ref a_do_deed))) (l_do_deed : K.lookup a_do_deed = some ⟨oc_do_deed, od_do_deed, .func (PySem.W.fnOf "do_deed" "do_deed" (defArgs s_do_deed) (defBody s_do_deed) (defScope s_do_deed) .none kV_do_deed dc_do_deed pm_do_deed an_do_deed cd_do_deed ct_do_deed), sl_do_deed⟩) (c_do_deed : PySem.W.codeIn K cd_do_deed "do_deed" = true) (k_do_deed : PySem.W.keepIn K (.ref a_do_deed) = true)
    (i_answer_to : PySem.W.nsIn K mainGlobals "answer_to" = some (some (.ref a_answer_to))) (l_answer_to : K.lookup a_answer_to = some ⟨oc_answer_to, od_answer_to, .func (PySem.W.fnOf "answer_to" "answer_to" (defArgs s_answer_to) (defBody s_answer_to) (defScope s_answer_to) .none kV_answer_to dc_answer_to pm_answer_to an_answer_to cd_answer_to ct_answer_to), sl_answer_to⟩) (c_answer_to : PySem.W.codeIn K cd_answer_to "answer_to" = true) (k_answer_to : PySem.W.keepIn K (.ref a_answer_to) = true)
    (i_play : PySem.W.nsIn K mainGlobals "play" = some (some (.ref a_play))) (l_play : K.lookup a_play = some ⟨oc_play, od_play, .func (PySem.W.fnOf "play" "play" (defArgs s_play) (defBody s_play) (defScope s_play) .none kV_play dc_play pm_play an_play cd_play ct_play), sl_play⟩) (c_play : PySem.W.codeIn K cd_play "play" = true) (k_play : PySem.W.keepIn K (.ref a_play) = true)
    (i__law_cell_at : PySem.W.nsIn K mainGlobals "_law_cell_at" = some (some (.ref a__law_cell_at))) (l__law_cell_at : K.lookup a__law_cell_at = some ⟨oc__law_cell_at, od__law_cell_at, .func (PySem.W.fnOf "_law_cell_at" "_law_cell_at" (defArgs s__law_cell_at) (defBody s__law_cell_at) (defScope s__law_cell_at) .none kV__law_cell_at dc__law_cell_at pm__law_cell_at an__law_cell_at cd__law_cell_at ct__law_cell_at), sl__law_cell_at⟩) (c__law_cell_at : PySem.W.codeIn K cd__law_cell_at "_law_cell_at" = true) (k__law_cell_at : PySem.W.keepIn K (.ref a__law_cell_at) = true)
    (i__law_size_now : PySem.W.nsIn K mainGlobals "_law_size_now" = some (some (.ref a__law_size_now))) (l__law_size_now : K.lookup a__law_size_now = some ⟨oc__law_size_now, od__law_size_now, .func (PySem.W.fnOf "_law_size_now" "_law_size_now" (defArgs s__law_size_now) (defBody s__law_size_now) (defScope s__law_size_now) .none kV__law_size_now dc__law_size_now pm__law_size_now an__law_size_now cd__law_size_now ct__law_size_now), sl__law_size_now⟩) (c__law_size_now : PySem.W.codeIn K cd__law_size_now "_law_size_now" = true) (k__law_size_now : PySem.W.keepIn K (.ref a__law_size_now) = true)
    (i__law_entry_of : PySem.W.nsIn K mainGlobals "_law_entry_of" = some (some (.ref a__law_entry_of))) (l__law_entry_of : K.lookup a__law_entry_of = some ⟨oc__law_entry_of, od__law_entry_of, .func (PySem.W.fnOf "_law_entry_of" "_law_entry_of" (defArgs s__law_entry_of) (defBody s__law_entry_of) (defScope s__law_entry_of) .none kV__law_entry_of dc__law_entry_of pm__law_entry_of an__law_entry_of cd__law_entry_of ct__law_entry_of), sl__law_entry_of⟩) (c__law_entry_of : PySem.W.codeIn K cd__law_entry_of "_law_entry_of" = true) (k__law_entry_of : PySem.W.keepIn K (.ref a__law_entry_of) = true)
    (i__law_cost : PySem.W.nsIn K mainGlobals "_law_cost" = some (some (.ref a__law_cost))) (l__law_cost : K.lookup a__law_cost = some ⟨oc__law_cost, od__law_cost, .func (PySem.W.fnOf "_law_cost" "_law_cost" (defArgs s__law_cost) (defBody s__law_cost) (defScope s__law_cost) .none kV__law_cost dc__law_cost pm__law_cost an__law_cost cd__law_cost ct__law_cost), sl__law_cost⟩) (c__law_cost : PySem.W.codeIn K cd__law_cost "_law_cost" = true) (k__law_cost : PySem.W.keepIn K (.ref a__law_cost) = true)
    (i__law_use : PySem.W.nsIn K mainGlobals "_law_use" = some (some (.ref a__law_use))) (l__law_use : K.lookup a__law_use = some ⟨oc__law_use, od__law_use, .func (PySem.W.fnOf "_law_use" "_law_use" (defArgs s__law_use) (defBody s__law_use) (defScope s__law_use) .none kV__law_use dc__law_use pm__law_use an__law_use cd__law_use ct__law_use), sl__law_use⟩) (c__law_use : PySem.W.codeIn K cd__law_use "_law_use" = true) (k__law_use : PySem.W.keepIn K (.ref a__law_use) = true)
    (i__law_owed : PySem.W.nsIn K mainGlobals "_law_owed" = some (some (.ref a__law_owed))) (l__law_owed : K.lookup a__law_owed = some ⟨oc__law_owed, od__law_owed, .func (PySem.W.fnOf "_law_owed" "_law_owed" (defArgs s__law_owed) (defBody s__law_owed) (defScope s__law_owed) .none kV__law_owed dc__law_owed pm__law_owed an__law_owed cd__law_owed ct__law_owed), sl__law_owed⟩) (c__law_owed : PySem.W.codeIn K cd__law_owed "_law_owed" = true) (k__law_owed : PySem.W.keepIn K (.ref a__law_owed) = true)
    (i__law_account : PySem.W.nsIn K mainGlobals "_law_account" = some (some (.ref a__law_account))) (l__law_account : K.lookup a__law_account = some ⟨oc__law_account, od__law_account, .func (PySem.W.fnOf "_law_account" "_law_account" (defArgs s__law_account) (defBody s__law_account) (defScope s__law_account) .none kV__law_account dc__law_account pm__law_account an__law_account cd__law_account ct__law_account), sl__law_account⟩) (c__law_account : PySem.W.codeIn K cd__law_account "_law_account" = true) (k__law_account : PySem.W.keepIn K (.ref a__law_account) = true)
    (i__law_bill : PySem.W.nsIn K mainGlobals "_law_bill" = some (some (.ref a__law_bill))) (l__law_bill : K.lookup a__law_bill = some ⟨oc__law_bill, od__law_bill, .func (PySem.W.fnOf "_law_bill" "_law_bill" (defArgs s__law_bill) (defBody s__law_bill) (defScope s__law_bill) .none kV__law_bill dc__law_bill pm__law_bill an__law_bill cd__law_bill ct__law_bill), sl__law_bill⟩) (c__law_bill : PySem.W.codeIn K cd__law_bill "_law_bill" = true) (k__law_bill : PySem.W.keepIn K (.ref a__law_bill) = true)
    (i__law_struck : PySem.W.nsIn K mainGlobals "_law_struck" = some (some (.ref a__law_struck))) (l__law_struck : K.lookup a__law_struck = some ⟨oc__law_struck, od__law_struck, .func (PySem.W.fnOf "_law_struck" "_law_struck" (defArgs s__law_struck) (defBody s__law_struck) (defScope s__law_struck) .none kV__law_struck dc__law_struck pm__law_struck an__law_struck cd__law_struck ct__law_struck), sl__law_struck⟩) (c__law_struck : PySem.W.codeIn K cd__law_struck "_law_struck" = true) (k__law_struck : PySem.W.keepIn K (.ref a__law_struck) = true)
    (i__law_answer : PySem.W.nsIn K mainGlobals "_law_answer" = some (some (.ref a__law_answer))) (l__law_answer : K.lookup a__law_answer = some ⟨oc__law_answer, od__law_answer, .func (PySem.W.fnOf "_law_answer" "_law_answer" (defArgs s__law_answer) (defBody s__law_answer) (defScope s__law_answer) .none kV__law_answer dc__law_answer pm__law_answer an__law_answer cd__law_answer ct__law_answer), sl__law_answer⟩) (c__law_answer : PySem.W.codeIn K cd__law_answer "_law_answer" = true) (k__law_answer : PySem.W.keepIn K (.ref a__law_answer) = true)
    (i__law_size_by : PySem.W.nsIn K mainGlobals "_law_size_by" = some (some (.ref a__law_size_by))) (l__law_size_by : K.lookup a__law_size_by = some ⟨oc__law_size_by, od__law_size_by, .func (PySem.W.fnOf "_law_size_by" "_law_size_by" (defArgs s__law_size_by) (defBody s__law_size_by) (defScope s__law_size_by) .none kV__law_size_by dc__law_size_by pm__law_size_by an__law_size_by cd__law_size_by ct__law_size_by), sl__law_size_by⟩) (c__law_size_by : PySem.W.codeIn K cd__law_size_by "_law_size_by" = true) (k__law_size_by : PySem.W.keepIn K (.ref a__law_size_by) = true)
    (i__law_shown_now : PySem.W.nsIn K mainGlobals "_law_shown_now" = some (some (.ref a__law_shown_now))) (l__law_shown_now : K.lookup a__law_shown_now = some ⟨oc__law_shown_now, od__law_shown_now, .func (PySem.W.fnOf "_law_shown_now" "_law_shown_now" (defArgs s__law_shown_now) (defBody s__law_shown_now) (defScope s__law_shown_now) .none kV__law_shown_now dc__law_shown_now pm__law_shown_now an__law_shown_now cd__law_shown_now ct__law_shown_now), sl__law_shown_now⟩) (c__law_shown_now : PySem.W.codeIn K cd__law_shown_now "_law_shown_now" = true) (k__law_shown_now : PySem.W.keepIn K (.ref a__law_shown_now) = true)
    (i__law_deed_by : PySem.W.nsIn K mainGlobals "_law_deed_by" = some (some (.ref a__law_deed_by))) (l__law_deed_by : K.lookup a__law_deed_by = some ⟨oc__law_deed_by, od__law_deed_by, .func (PySem.W.fnOf "_law_deed_by" "_law_deed_by" (defArgs s__law_deed_by) (defBody s__law_deed_by) (defScope s__law_deed_by) .none kV__law_deed_by dc__law_deed_by pm__law_deed_by an__law_deed_by cd__law_deed_by ct__law_deed_by), sl__law_deed_by⟩) (c__law_deed_by : PySem.W.codeIn K cd__law_deed_by "_law_deed_by" = true) (k__law_deed_by : PySem.W.keepIn K (.ref a__law_deed_by) = true)
    (i__law_mixed : PySem.W.nsIn K mainGlobals "_law_mixed" = some (some (.ref a__law_mixed))) (l__law_mixed : K.lookup a__law_mixed = some ⟨oc__law_mixed, od__law_mixed, .func (PySem.W.fnOf "_law_mixed" "_law_mixed" (defArgs s__law_mixed) (defBody s__law_mixed) (defScope s__law_mixed) .none kV__law_mixed dc__law_mixed pm__law_mixed an__law_mixed cd__law_mixed ct__law_mixed), sl__law_mixed⟩) (c__law_mixed : PySem.W.codeIn K cd__law_mixed "_law_mixed" = true) (k__law_mixed : PySem.W.keepIn K (.ref a__law_mixed) = true)
    (i_law : PySem.W.nsIn K mainGlobals "law" = some (some (.ref a_law))) (l_law : K.lookup a_law = some ⟨oc_law, od_law, .func (PySem.W.fnOf "law" "law" (defArgs s_law) (defBody s_law) (defScope s_law) .none kV_law dc_law pm_law an_law cd_law ct_law), sl_law⟩) (c_law : PySem.W.codeIn K cd_law "law" = true) (k_law : PySem.W.keepIn K (.ref a_law) = true)
    (z_len : PySem.W.nsIn K mainGlobals "len" = some none)
    (z_enumerate : PySem.W.nsIn K mainGlobals "enumerate" = some none)
    (z_range : PySem.W.nsIn K mainGlobals "range" = some none)
    (z_min : PySem.W.nsIn K mainGlobals "min" = some none)
    (z_sum : PySem.W.nsIn K mainGlobals "sum" = some none)
    (z_any : PySem.W.nsIn K mainGlobals "any" = some none)
    (z_tuple : PySem.W.nsIn K mainGlobals "tuple" = some none)
    (z_sorted : PySem.W.nsIn K mainGlobals "sorted" = some none)
    (z_int : PySem.W.nsIn K mainGlobals "int" = some none)
    (z_max : PySem.W.nsIn K mainGlobals "max" = some none)
    (z_isinstance : PySem.W.nsIn K mainGlobals "isinstance" = some none)
    (z_str : PySem.W.nsIn K mainGlobals "str" = some none)
    (z_list : PySem.W.nsIn K mainGlobals "list" = some none)
    (z_zip : PySem.W.nsIn K mainGlobals "zip" = some none)
    (z_bool : PySem.W.nsIn K mainGlobals "bool" = some none)
    (y_hn : PySem.W.specialIn K (.builtin "object.__class__") "__get__" = some (some (.builtin "getset_descriptor.__get__")))
    (y_ht : PySem.W.takesIn K (.builtin "object.__class__") = some true)
    (y_MeterError_i : PySem.W.nsIn K mainGlobals "MeterError" = some (some (.ref c_MeterError)))
    (y_NoMeter_i : PySem.W.nsIn K mainGlobals "NoMeter" = some (some (.ref c_NoMeter)))
    (y_StandsAlready_i : PySem.W.nsIn K mainGlobals "StandsAlready" = some (some (.ref c_StandsAlready)))
    (y_NotLater_i : PySem.W.nsIn K mainGlobals "NotLater" = some (some (.ref c_NotLater)))
    (y_NoValue_i : PySem.W.nsIn K mainGlobals "NoValue" = some (some (.ref c_NoValue)))
    (y_NoReading_i : PySem.W.nsIn K mainGlobals "NoReading" = some (some (.ref c_NoReading)))
    (y_MeterError_k : PySem.W.keepIn K (.ref c_MeterError) = true)
    (y_MeterError_q : PySem.W.excIn K c_MeterError PySem.HandSPX.veTail "ValueError.__new__" = true)
    (y_MeterError_b : PySem.W.subIn K (.ref c_MeterError) (.type "BaseException") = some true)
    (y_MeterError_t : PySem.W.typeIn K (.ref c_MeterError) = some (.type "type"))
    (y_MeterError_hg : PySem.W.findIn K (.ref c_MeterError) "__getattribute__" = some (some (.builtin "BaseException.__getattribute__")))
    (y_MeterError_hk : PySem.W.findIn K (.ref c_MeterError) "__getattr__" = some none)
    (y_MeterError_hd : PySem.W.hasDictIn K c_MeterError = true)
    (y_MeterError_ha : PySem.W.findIn K (.ref c_MeterError) "__class__" = some (some (.builtin "object.__class__")))
    (y_MeterError_hm : PySem.W.mroIn K c_MeterError (.type "object") = some true)
    (y_MeterError_v : PySem.W.kitOne K (.ref c_MeterError) (.type "ValueError") = some true)
    (y_MeterError_exm_NoMeter : PySem.W.subIn K (.ref c_MeterError) (.ref c_NoMeter) = some false)
    (y_MeterError_exm_StandsAlready : PySem.W.subIn K (.ref c_MeterError) (.ref c_StandsAlready) = some false)
    (y_MeterError_exm_NotLater : PySem.W.subIn K (.ref c_MeterError) (.ref c_NotLater) = some false)
    (y_MeterError_exm_NoValue : PySem.W.subIn K (.ref c_MeterError) (.ref c_NoValue) = some false)
    (y_MeterError_exm_NoReading : PySem.W.subIn K (.ref c_MeterError) (.ref c_NoReading) = some false)
    (y_NoMeter_k : PySem.W.keepIn K (.ref c_NoMeter) = true)
    (y_NoMeter_q : PySem.W.excIn K c_NoMeter PySem.HandSPX.veTail "ValueError.__new__" = true)
    (y_NoMeter_b : PySem.W.subIn K (.ref c_NoMeter) (.type "BaseException") = some true)
    (y_NoMeter_t : PySem.W.typeIn K (.ref c_NoMeter) = some (.type "type"))
    (y_NoMeter_hg : PySem.W.findIn K (.ref c_NoMeter) "__getattribute__" = some (some (.builtin "BaseException.__getattribute__")))
    (y_NoMeter_hk : PySem.W.findIn K (.ref c_NoMeter) "__getattr__" = some none)
    (y_NoMeter_hd : PySem.W.hasDictIn K c_NoMeter = true)
    (y_NoMeter_ha : PySem.W.findIn K (.ref c_NoMeter) "__class__" = some (some (.builtin "object.__class__")))
    (y_NoMeter_hm : PySem.W.mroIn K c_NoMeter (.type "object") = some true)
    (y_NoMeter_v : PySem.W.kitOne K (.ref c_NoMeter) (.type "ValueError") = some true)
    (y_NoMeter_exm_NoMeter : PySem.W.subIn K (.ref c_NoMeter) (.ref c_NoMeter) = some true)
    (y_NoMeter_exm_StandsAlready : PySem.W.subIn K (.ref c_NoMeter) (.ref c_StandsAlready) = some false)
    (y_NoMeter_exm_NotLater : PySem.W.subIn K (.ref c_NoMeter) (.ref c_NotLater) = some false)
    (y_NoMeter_exm_NoValue : PySem.W.subIn K (.ref c_NoMeter) (.ref c_NoValue) = some false)
    (y_NoMeter_exm_NoReading : PySem.W.subIn K (.ref c_NoMeter) (.ref c_NoReading) = some false)
    (y_StandsAlready_k : PySem.W.keepIn K (.ref c_StandsAlready) = true)
    (y_StandsAlready_q : PySem.W.excIn K c_StandsAlready PySem.HandSPX.veTail "ValueError.__new__" = true)
    (y_StandsAlready_b : PySem.W.subIn K (.ref c_StandsAlready) (.type "BaseException") = some true)
    (y_StandsAlready_t : PySem.W.typeIn K (.ref c_StandsAlready) = some (.type "type"))
    (y_StandsAlready_hg : PySem.W.findIn K (.ref c_StandsAlready) "__getattribute__" = some (some (.builtin "BaseException.__getattribute__")))
    (y_StandsAlready_hk : PySem.W.findIn K (.ref c_StandsAlready) "__getattr__" = some none)
    (y_StandsAlready_hd : PySem.W.hasDictIn K c_StandsAlready = true)
    (y_StandsAlready_ha : PySem.W.findIn K (.ref c_StandsAlready) "__class__" = some (some (.builtin "object.__class__")))
    (y_StandsAlready_hm : PySem.W.mroIn K c_StandsAlready (.type "object") = some true)
    (y_StandsAlready_v : PySem.W.kitOne K (.ref c_StandsAlready) (.type "ValueError") = some true)
    (y_StandsAlready_exm_NoMeter : PySem.W.subIn K (.ref c_StandsAlready) (.ref c_NoMeter) = some false)
    (y_StandsAlready_exm_StandsAlready : PySem.W.subIn K (.ref c_StandsAlready) (.ref c_StandsAlready) = some true)
    (y_StandsAlready_exm_NotLater : PySem.W.subIn K (.ref c_StandsAlready) (.ref c_NotLater) = some false)
    (y_StandsAlready_exm_NoValue : PySem.W.subIn K (.ref c_StandsAlready) (.ref c_NoValue) = some false)
    (y_StandsAlready_exm_NoReading : PySem.W.subIn K (.ref c_StandsAlready) (.ref c_NoReading) = some false)
    (y_NotLater_k : PySem.W.keepIn K (.ref c_NotLater) = true)
    (y_NotLater_q : PySem.W.excIn K c_NotLater PySem.HandSPX.veTail "ValueError.__new__" = true)
    (y_NotLater_b : PySem.W.subIn K (.ref c_NotLater) (.type "BaseException") = some true)
    (y_NotLater_t : PySem.W.typeIn K (.ref c_NotLater) = some (.type "type"))
    (y_NotLater_hg : PySem.W.findIn K (.ref c_NotLater) "__getattribute__" = some (some (.builtin "BaseException.__getattribute__")))
    (y_NotLater_hk : PySem.W.findIn K (.ref c_NotLater) "__getattr__" = some none)
    (y_NotLater_hd : PySem.W.hasDictIn K c_NotLater = true)
    (y_NotLater_ha : PySem.W.findIn K (.ref c_NotLater) "__class__" = some (some (.builtin "object.__class__")))
    (y_NotLater_hm : PySem.W.mroIn K c_NotLater (.type "object") = some true)
    (y_NotLater_v : PySem.W.kitOne K (.ref c_NotLater) (.type "ValueError") = some true)
    (y_NotLater_exm_NoMeter : PySem.W.subIn K (.ref c_NotLater) (.ref c_NoMeter) = some false)
    (y_NotLater_exm_StandsAlready : PySem.W.subIn K (.ref c_NotLater) (.ref c_StandsAlready) = some false)
    (y_NotLater_exm_NotLater : PySem.W.subIn K (.ref c_NotLater) (.ref c_NotLater) = some true)
    (y_NotLater_exm_NoValue : PySem.W.subIn K (.ref c_NotLater) (.ref c_NoValue) = some false)
    (y_NotLater_exm_NoReading : PySem.W.subIn K (.ref c_NotLater) (.ref c_NoReading) = some false)
    (y_NoValue_k : PySem.W.keepIn K (.ref c_NoValue) = true)
    (y_NoValue_q : PySem.W.excIn K c_NoValue PySem.HandSPX.veTail "ValueError.__new__" = true)
    (y_NoValue_b : PySem.W.subIn K (.ref c_NoValue) (.type "BaseException") = some true)
    (y_NoValue_t : PySem.W.typeIn K (.ref c_NoValue) = some (.type "type"))
    (y_NoValue_hg : PySem.W.findIn K (.ref c_NoValue) "__getattribute__" = some (some (.builtin "BaseException.__getattribute__")))
    (y_NoValue_hk : PySem.W.findIn K (.ref c_NoValue) "__getattr__" = some none)
    (y_NoValue_hd : PySem.W.hasDictIn K c_NoValue = true)
    (y_NoValue_ha : PySem.W.findIn K (.ref c_NoValue) "__class__" = some (some (.builtin "object.__class__")))
    (y_NoValue_hm : PySem.W.mroIn K c_NoValue (.type "object") = some true)
    (y_NoValue_v : PySem.W.kitOne K (.ref c_NoValue) (.type "ValueError") = some true)
    (y_NoValue_exm_NoMeter : PySem.W.subIn K (.ref c_NoValue) (.ref c_NoMeter) = some false)
    (y_NoValue_exm_StandsAlready : PySem.W.subIn K (.ref c_NoValue) (.ref c_StandsAlready) = some false)
    (y_NoValue_exm_NotLater : PySem.W.subIn K (.ref c_NoValue) (.ref c_NotLater) = some false)
    (y_NoValue_exm_NoValue : PySem.W.subIn K (.ref c_NoValue) (.ref c_NoValue) = some true)
    (y_NoValue_exm_NoReading : PySem.W.subIn K (.ref c_NoValue) (.ref c_NoReading) = some false)
    (y_NoReading_k : PySem.W.keepIn K (.ref c_NoReading) = true)
    (y_NoReading_q : PySem.W.excIn K c_NoReading PySem.HandSPX.veTail "ValueError.__new__" = true)
    (y_NoReading_b : PySem.W.subIn K (.ref c_NoReading) (.type "BaseException") = some true)
    (y_NoReading_t : PySem.W.typeIn K (.ref c_NoReading) = some (.type "type"))
    (y_NoReading_hg : PySem.W.findIn K (.ref c_NoReading) "__getattribute__" = some (some (.builtin "BaseException.__getattribute__")))
    (y_NoReading_hk : PySem.W.findIn K (.ref c_NoReading) "__getattr__" = some none)
    (y_NoReading_hd : PySem.W.hasDictIn K c_NoReading = true)
    (y_NoReading_ha : PySem.W.findIn K (.ref c_NoReading) "__class__" = some (some (.builtin "object.__class__")))
    (y_NoReading_hm : PySem.W.mroIn K c_NoReading (.type "object") = some true)
    (y_NoReading_v : PySem.W.kitOne K (.ref c_NoReading) (.type "ValueError") = some true)
    (y_NoReading_exm_NoMeter : PySem.W.subIn K (.ref c_NoReading) (.ref c_NoMeter) = some false)
    (y_NoReading_exm_StandsAlready : PySem.W.subIn K (.ref c_NoReading) (.ref c_StandsAlready) = some false)
    (y_NoReading_exm_NotLater : PySem.W.subIn K (.ref c_NoReading) (.ref c_NotLater) = some false)
    (y_NoReading_exm_NoValue : PySem.W.subIn K (.ref c_NoReading) (.ref c_NoValue) = some false)
    (y_NoReading_exm_NoReading : PySem.W.subIn K (.ref c_NoReading) (.ref c_NoReading) = some true)
    : ∃ (cs : List (Addr × Addr)) (fd : FuncData), (∀ p ∈ cs, ∃ nm f, TabIn K mg h nm f p.1 p.2) ∧ (∀ P, IsTab K P → P ∈ cs.map (·.2)) ∧ (∀ (s : Shared) (u : Value), BindsTo s fd ⟨[u], []⟩ [("_law_script", u)]) ∧ ∀ base : Heap, K.In base → base.Ns mainGlobals mg → (∀ p ∈ cs, LamX.TabB base mg p.1 p.2) → FnOk PySem.Challenge.rw_metergap_k11_whole_plays.prog w K mg base (L2.CX PySem.Challenge.rw_metergap_k11_whole_plays.prog w) 12 fa fd ["_law_script"] (spT K) := by
  have e := hfa.symm.trans (PySem.W.mg_of X G i_law)
  cases e
  have B : Bi mg := ⟨PySem.W.mg_none_of X G z_len, PySem.W.mg_none_of X G z_enumerate, PySem.W.mg_none_of X G z_range, PySem.W.mg_none_of X G z_min, PySem.W.mg_none_of X G z_sum, PySem.W.mg_none_of X G z_any, PySem.W.mg_none_of X G z_tuple, PySem.W.mg_none_of X G z_sorted, PySem.W.mg_none_of X G z_int, PySem.W.mg_none_of X G z_max, PySem.W.mg_none_of X G z_isinstance, PySem.W.mg_none_of X G z_str, PySem.W.mg_none_of X G z_list, PySem.W.mg_none_of X G z_zip, PySem.W.mg_none_of X G z_bool⟩
  have T : Txt K mg (fun n => ([c_MeterError, c_NoMeter, c_StandsAlready, c_NotLater, c_NoValue, c_NoReading] : List Addr).getD n c_MeterError) := ⟨⟨PySem.W.mg_of X G y_MeterError_i, y_MeterError_k, y_MeterError_q, y_MeterError_b, y_MeterError_t⟩,
    ⟨PySem.W.mg_of X G y_NoMeter_i, y_NoMeter_k, y_NoMeter_q, y_NoMeter_b, y_NoMeter_t⟩,
    ⟨PySem.W.mg_of X G y_StandsAlready_i, y_StandsAlready_k, y_StandsAlready_q, y_StandsAlready_b, y_StandsAlready_t⟩,
    ⟨PySem.W.mg_of X G y_NotLater_i, y_NotLater_k, y_NotLater_q, y_NotLater_b, y_NotLater_t⟩,
    ⟨PySem.W.mg_of X G y_NoValue_i, y_NoValue_k, y_NoValue_q, y_NoValue_b, y_NoValue_t⟩,
    ⟨PySem.W.mg_of X G y_NoReading_i, y_NoReading_k, y_NoReading_q, y_NoReading_b, y_NoReading_t⟩,
    (fun c => match c with | 0 => ⟨y_MeterError_hg, y_MeterError_hk, y_MeterError_b, y_MeterError_hd, y_MeterError_ha, y_hn, y_ht, y_MeterError_hm⟩ | 1 => ⟨y_NoMeter_hg, y_NoMeter_hk, y_NoMeter_b, y_NoMeter_hd, y_NoMeter_ha, y_hn, y_ht, y_NoMeter_hm⟩ | 2 => ⟨y_StandsAlready_hg, y_StandsAlready_hk, y_StandsAlready_b, y_StandsAlready_hd, y_StandsAlready_ha, y_hn, y_ht, y_StandsAlready_hm⟩ | 3 => ⟨y_NotLater_hg, y_NotLater_hk, y_NotLater_b, y_NotLater_hd, y_NotLater_ha, y_hn, y_ht, y_NotLater_hm⟩ | 4 => ⟨y_NoValue_hg, y_NoValue_hk, y_NoValue_b, y_NoValue_hd, y_NoValue_ha, y_hn, y_ht, y_NoValue_hm⟩ | 5 => ⟨y_NoReading_hg, y_NoReading_hk, y_NoReading_b, y_NoReading_hd, y_NoReading_ha, y_hn, y_ht, y_NoReading_hm⟩ | _ + 6 => ⟨y_MeterError_hg, y_MeterError_hk, y_MeterError_b, y_MeterError_hd, y_MeterError_ha, y_hn, y_ht, y_MeterError_hm⟩),
    (fun c => match c with | 0 => y_MeterError_v | 1 => y_NoMeter_v | 2 => y_StandsAlready_v | 3 => y_NotLater_v | 4 => y_NoValue_v | 5 => y_NoReading_v | _ + 6 => y_MeterError_v),
    (fun c => match c with | 0 => PySem.W.exm_ref y_NoMeter_b y_NoMeter_hd y_NoMeter_t y_MeterError_exm_NoMeter | 1 => PySem.W.exm_ref y_NoMeter_b y_NoMeter_hd y_NoMeter_t y_NoMeter_exm_NoMeter | 2 => PySem.W.exm_ref y_NoMeter_b y_NoMeter_hd y_NoMeter_t y_StandsAlready_exm_NoMeter | 3 => PySem.W.exm_ref y_NoMeter_b y_NoMeter_hd y_NoMeter_t y_NotLater_exm_NoMeter | 4 => PySem.W.exm_ref y_NoMeter_b y_NoMeter_hd y_NoMeter_t y_NoValue_exm_NoMeter | 5 => PySem.W.exm_ref y_NoMeter_b y_NoMeter_hd y_NoMeter_t y_NoReading_exm_NoMeter | _ + 6 => PySem.W.exm_ref y_NoMeter_b y_NoMeter_hd y_NoMeter_t y_MeterError_exm_NoMeter),
    (fun c => match c with | 0 => PySem.W.exm_ref y_StandsAlready_b y_StandsAlready_hd y_StandsAlready_t y_MeterError_exm_StandsAlready | 1 => PySem.W.exm_ref y_StandsAlready_b y_StandsAlready_hd y_StandsAlready_t y_NoMeter_exm_StandsAlready | 2 => PySem.W.exm_ref y_StandsAlready_b y_StandsAlready_hd y_StandsAlready_t y_StandsAlready_exm_StandsAlready | 3 => PySem.W.exm_ref y_StandsAlready_b y_StandsAlready_hd y_StandsAlready_t y_NotLater_exm_StandsAlready | 4 => PySem.W.exm_ref y_StandsAlready_b y_StandsAlready_hd y_StandsAlready_t y_NoValue_exm_StandsAlready | 5 => PySem.W.exm_ref y_StandsAlready_b y_StandsAlready_hd y_StandsAlready_t y_NoReading_exm_StandsAlready | _ + 6 => PySem.W.exm_ref y_StandsAlready_b y_StandsAlready_hd y_StandsAlready_t y_MeterError_exm_StandsAlready),
    (fun c => match c with | 0 => PySem.W.exm_ref y_NotLater_b y_NotLater_hd y_NotLater_t y_MeterError_exm_NotLater | 1 => PySem.W.exm_ref y_NotLater_b y_NotLater_hd y_NotLater_t y_NoMeter_exm_NotLater | 2 => PySem.W.exm_ref y_NotLater_b y_NotLater_hd y_NotLater_t y_StandsAlready_exm_NotLater | 3 => PySem.W.exm_ref y_NotLater_b y_NotLater_hd y_NotLater_t y_NotLater_exm_NotLater | 4 => PySem.W.exm_ref y_NotLater_b y_NotLater_hd y_NotLater_t y_NoValue_exm_NotLater | 5 => PySem.W.exm_ref y_NotLater_b y_NotLater_hd y_NotLater_t y_NoReading_exm_NotLater | _ + 6 => PySem.W.exm_ref y_NotLater_b y_NotLater_hd y_NotLater_t y_MeterError_exm_NotLater),
    (fun c => match c with | 0 => PySem.W.exm_ref y_NoValue_b y_NoValue_hd y_NoValue_t y_MeterError_exm_NoValue | 1 => PySem.W.exm_ref y_NoValue_b y_NoValue_hd y_NoValue_t y_NoMeter_exm_NoValue | 2 => PySem.W.exm_ref y_NoValue_b y_NoValue_hd y_NoValue_t y_StandsAlready_exm_NoValue | 3 => PySem.W.exm_ref y_NoValue_b y_NoValue_hd y_NoValue_t y_NotLater_exm_NoValue | 4 => PySem.W.exm_ref y_NoValue_b y_NoValue_hd y_NoValue_t y_NoValue_exm_NoValue | 5 => PySem.W.exm_ref y_NoValue_b y_NoValue_hd y_NoValue_t y_NoReading_exm_NoValue | _ + 6 => PySem.W.exm_ref y_NoValue_b y_NoValue_hd y_NoValue_t y_MeterError_exm_NoValue),
    (fun c => match c with | 0 => PySem.W.exm_ref y_NoReading_b y_NoReading_hd y_NoReading_t y_MeterError_exm_NoReading | 1 => PySem.W.exm_ref y_NoReading_b y_NoReading_hd y_NoReading_t y_NoMeter_exm_NoReading | 2 => PySem.W.exm_ref y_NoReading_b y_NoReading_hd y_NoReading_t y_StandsAlready_exm_NoReading | 3 => PySem.W.exm_ref y_NoReading_b y_NoReading_hd y_NoReading_t y_NotLater_exm_NoReading | 4 => PySem.W.exm_ref y_NoReading_b y_NoReading_hd y_NoReading_t y_NoValue_exm_NoReading | 5 => PySem.W.exm_ref y_NoReading_b y_NoReading_hd y_NoReading_t y_NoReading_exm_NoReading | _ + 6 => PySem.W.exm_ref y_NoReading_b y_NoReading_hd y_NoReading_t y_MeterError_exm_NoReading)⟩
  have F__law_most_by := fun_mk (st := s__law_most_by) l__law_most_by c__law_most_by k__law_most_by
  have b__law_most_by' := F__law_most_by.binds (ps := ["_law_cell"]) fun _ _ _ _ _ _ us hl => match us, hl with | [_], _ => rfl
  have F_check_day := fun_mk (st := s_check_day) l_check_day c_check_day k_check_day
  have b_check_day' := F_check_day.binds (ps := ["history", "day"]) fun _ _ _ _ _ _ us hl => match us, hl with | [_, _], _ => rfl
  have F_check_value := fun_mk (st := s_check_value) l_check_value c_check_value k_check_value
  have b_check_value' := F_check_value.binds (ps := ["size", "value"]) fun _ _ _ _ _ _ us hl => match us, hl with | [_, _], _ => rfl
  have F_size_at := fun_mk (st := s_size_at) l_size_at c_size_at k_size_at
  have b_size_at' := F_size_at.binds (ps := ["history", "place"]) fun _ _ _ _ _ _ us hl => match us, hl with | [_, _], _ => rfl
  have F_size_now := fun_mk (st := s_size_now) l_size_now c_size_now k_size_now
  have b_size_now' := F_size_now.binds (ps := ["history"]) fun _ _ _ _ _ _ us hl => match us, hl with | [_], _ => rfl
  have F_read_on := fun_mk (st := s_read_on) l_read_on c_read_on k_read_on
  have b_read_on' := F_read_on.binds (ps := ["history", "day", "value"]) fun _ _ _ _ _ _ us hl => match us, hl with | [_, _, _], _ => rfl
  have F_gone := fun_mk (st := s_gone) l_gone c_gone k_gone
  have b_gone' := F_gone.binds (ps := ["size", "one", "other"]) fun _ _ _ _ _ _ us hl => match us, hl with | [_, _, _], _ => rfl
  have F_use_since := fun_mk (st := s_use_since) l_use_since c_use_since k_use_since
  have b_use_since' := F_use_since.binds (ps := ["standing", "entry"]) fun _ _ _ _ _ _ us hl => match us, hl with | [_, _], _ => rfl
  have F_is_counting := fun_mk (st := s_is_counting) l_is_counting c_is_counting k_is_counting
  have b_is_counting' := F_is_counting.binds (ps := ["standing", "entry", "most"]) fun _ _ _ _ _ _ us hl => match us, hl with | [_, _, _], _ => rfl
  have F_standing_behind := fun_mk (st := s_standing_behind) l_standing_behind c_standing_behind k_standing_behind
  have b_standing_behind' := F_standing_behind.binds (ps := ["standing", "entry"]) fun _ _ _ _ _ _ us hl => match us, hl with | [_, _], _ => rfl
  have F_points := fun_mk (st := s_points) l_points c_points k_points
  have b_points' := F_points.binds (ps := ["history", "most"]) fun _ _ _ _ _ _ us hl => match us, hl with | [_, _], _ => rfl
  have F_spans := fun_mk (st := s_spans) l_spans c_spans k_spans
  have b_spans' := F_spans.binds (ps := ["history", "most"]) fun _ _ _ _ _ _ us hl => match us, hl with | [_, _], _ => rfl
  have F_use_ahead := fun_mk (st := s_use_ahead) l_use_ahead c_use_ahead k_use_ahead
  have b_use_ahead' := F_use_ahead.binds (ps := ["use", "days", "at"]) fun _ _ _ _ _ _ us hl => match us, hl with | [_, _, _], _ => rfl
  have F_share := fun_mk (st := s_share) l_share c_share k_share
  have b_share' := F_share.binds (ps := ["use", "days", "at"]) fun _ _ _ _ _ _ us hl => match us, hl with | [_, _, _], _ => rfl
  have F_use_by := fun_mk (st := s_use_by) l_use_by c_use_by k_use_by
  have b_use_by' := F_use_by.binds (ps := ["told", "at", "day"]) fun _ _ _ _ _ _ us hl => match us, hl with | [_, _, _], _ => rfl
  have F_uses := fun_mk (st := s_uses) l_uses c_uses k_uses
  have b_uses' := F_uses.binds (ps := ["history", "most", "low", "high"]) fun _ _ _ _ _ _ us hl => match us, hl with | [_, _, _, _], _ => rfl
  have F_cost := fun_mk (st := s_cost) l_cost c_cost k_cost
  have b_cost' := F_cost.binds (ps := ["tariff", "use"]) fun _ _ _ _ _ _ us hl => match us, hl with | [_, _], _ => rfl
  have F_tariff_on := fun_mk (st := s_tariff_on) l_tariff_on c_tariff_on k_tariff_on
  have b_tariff_on' := F_tariff_on.binds (ps := ["tariffs", "day"]) fun _ _ _ _ _ _ us hl => match us, hl with | [_, _], _ => rfl
  have F_owed := fun_mk (st := s_owed) l_owed c_owed k_owed
  have b_owed' := F_owed.binds (ps := ["history", "most", "tariffs", "day"]) fun _ _ _ _ _ _ us hl => match us, hl with | [_, _, _, _], _ => rfl
  have F_billed := fun_mk (st := s_billed) l_billed c_billed k_billed
  have b_billed' := F_billed.binds (ps := ["bills"]) fun _ _ _ _ _ _ us hl => match us, hl with | [_], _ => rfl
  have F_with_bill := fun_mk (st := s_with_bill) l_with_bill c_with_bill k_with_bill
  have b_with_bill' := F_with_bill.binds (ps := ["history", "most", "tariffs", "bills", "day"]) fun _ _ _ _ _ _ us hl => match us, hl with | [_, _, _, _, _], _ => rfl
  have F_use_on := fun_mk (st := s_use_on) l_use_on c_use_on k_use_on
  have b_use_on' := F_use_on.binds (ps := ["history", "most", "day"]) fun _ _ _ _ _ _ us hl => match us, hl with | [_, _, _], _ => rfl
  have F_begun := fun_mk (st := s_begun) l_begun c_begun k_begun
  have b_begun' := F_begun.binds (ps := ["history", "day", "size", "value"]) fun _ _ _ _ _ _ us hl => match us, hl with | [_, _, _, _], _ => rfl
  have F_known_to := fun_mk (st := s_known_to) l_known_to c_known_to k_known_to
  have b_known_to' := F_known_to.binds (ps := ["history", "most"]) fun _ _ _ _ _ _ us hl => match us, hl with | [_, _], _ => rfl
  have F_changed_on := fun_mk (st := s_changed_on) l_changed_on c_changed_on k_changed_on
  have b_changed_on' := F_changed_on.binds (ps := ["history", "day", "last", "size", "first"]) fun _ _ _ _ _ _ us hl => match us, hl with | [_, _, _, _, _], _ => rfl
  have F_is_standing_reading := fun_mk (st := s_is_standing_reading) l_is_standing_reading c_is_standing_reading k_is_standing_reading
  have b_is_standing_reading' := F_is_standing_reading.binds (ps := ["entry"]) fun _ _ _ _ _ _ us hl => match us, hl with | [_], _ => rfl
  have F_struck := fun_mk (st := s_struck) l_struck c_struck k_struck
  have b_struck' := F_struck.binds (ps := ["history", "day"]) fun _ _ _ _ _ _ us hl => match us, hl with | [_, _], _ => rfl
  have F_with_tariff := fun_mk (st := s_with_tariff) l_with_tariff c_with_tariff k_with_tariff
  have b_with_tariff' := F_with_tariff.binds (ps := ["tariffs", "tariff"]) fun _ _ _ _ _ _ us hl => match us, hl with | [_, _], _ => rfl
  have F_do_deed := fun_mk (st := s_do_deed) l_do_deed c_do_deed k_do_deed
  have b_do_deed' := F_do_deed.binds (ps := ["most", "state", "deed"]) fun _ _ _ _ _ _ us hl => match us, hl with | [_, _, _], _ => rfl
  have F_answer_to := fun_mk (st := s_answer_to) l_answer_to c_answer_to k_answer_to
  have b_answer_to' := F_answer_to.binds (ps := ["most", "state", "deed"]) fun _ _ _ _ _ _ us hl => match us, hl with | [_, _, _], _ => rfl
  have F_play := fun_mk (st := s_play) l_play c_play k_play
  have b_play' := F_play.binds (ps := ["most", "deeds"]) fun _ _ _ _ _ _ us hl => match us, hl with | [_, _], _ => rfl
  have F__law_cell_at := fun_mk (st := s__law_cell_at) l__law_cell_at c__law_cell_at k__law_cell_at
  have b__law_cell_at' := F__law_cell_at.binds (ps := ["_law_script", "_law_k"]) fun _ _ _ _ _ _ us hl => match us, hl with | [_, _], _ => rfl
  have F__law_size_now := fun_mk (st := s__law_size_now) l__law_size_now c__law_size_now k__law_size_now
  have b__law_size_now' := F__law_size_now.binds (ps := ["_law_history"]) fun _ _ _ _ _ _ us hl => match us, hl with | [_], _ => rfl
  have F__law_entry_of := fun_mk (st := s__law_entry_of) l__law_entry_of c__law_entry_of k__law_entry_of
  have b__law_entry_of' := F__law_entry_of.binds (ps := ["_law_history", "_law_deed"]) fun _ _ _ _ _ _ us hl => match us, hl with | [_, _], _ => rfl
  have F__law_cost := fun_mk (st := s__law_cost) l__law_cost c__law_cost k__law_cost
  have b__law_cost' := F__law_cost.binds (ps := ["_law_tariffs", "_law_day", "_law_use_here"]) fun _ _ _ _ _ _ us hl => match us, hl with | [_, _, _], _ => rfl
  have F__law_use := fun_mk (st := s__law_use) l__law_use c__law_use k__law_use
  have b__law_use' := F__law_use.binds (ps := ["_law_gaps", "_law_day"]) fun _ _ _ _ _ _ us hl => match us, hl with | [_, _], _ => rfl
  have F__law_owed := fun_mk (st := s__law_owed) l__law_owed c__law_owed k__law_owed
  have b__law_owed' := F__law_owed.binds (ps := ["_law_history", "_law_gaps", "_law_tariffs", "_law_day"]) fun _ _ _ _ _ _ us hl => match us, hl with | [_, _, _, _], _ => rfl
  have F__law_account := fun_mk (st := s__law_account) l__law_account c__law_account k__law_account
  have b__law_account' := F__law_account.binds (ps := ["_law_history", "_law_most"]) fun _ _ _ _ _ _ us hl => match us, hl with | [_, _], _ => rfl
  have F__law_bill := fun_mk (st := s__law_bill) l__law_bill c__law_bill k__law_bill
  have b__law_bill' := F__law_bill.binds (ps := ["_law_s", "_law_most", "_law_day"]) fun _ _ _ _ _ _ us hl => match us, hl with | [_, _, _], _ => rfl
  have F__law_struck := fun_mk (st := s__law_struck) l__law_struck c__law_struck k__law_struck
  have b__law_struck' := F__law_struck.binds (ps := ["_law_history", "_law_day"]) fun _ _ _ _ _ _ us hl => match us, hl with | [_, _], _ => rfl
  have F__law_answer := fun_mk (st := s__law_answer) l__law_answer c__law_answer k__law_answer
  have b__law_answer' := F__law_answer.binds (ps := ["_law_s", "_law_most", "_law_deed"]) fun _ _ _ _ _ _ us hl => match us, hl with | [_, _, _], _ => rfl
  have F__law_size_by := fun_mk (st := s__law_size_by) l__law_size_by c__law_size_by k__law_size_by
  have b__law_size_by' := F__law_size_by.binds (ps := ["_law_number"]) fun _ _ _ _ _ _ us hl => match us, hl with | [_], _ => rfl
  have F__law_shown_now := fun_mk (st := s__law_shown_now) l__law_shown_now c__law_shown_now k__law_shown_now
  have b__law_shown_now' := F__law_shown_now.binds (ps := ["_law_history"]) fun _ _ _ _ _ _ us hl => match us, hl with | [_], _ => rfl
  have F__law_deed_by := fun_mk (st := s__law_deed_by) l__law_deed_by c__law_deed_by k__law_deed_by
  have b__law_deed_by' := F__law_deed_by.binds (ps := ["_law_history", "_law_most", "_law_number", "_law_more"]) fun _ _ _ _ _ _ us hl => match us, hl with | [_, _, _, _], _ => rfl
  have F__law_mixed := fun_mk (st := s__law_mixed) l__law_mixed c__law_mixed k__law_mixed
  have b__law_mixed' := F__law_mixed.binds (ps := ["_law_script", "_law_k"]) fun _ _ _ _ _ _ us hl => match us, hl with | [_, _], _ => rfl
  have F_law := fun_mk (st := s_law) l_law c_law k_law
  have b_law' := F_law.binds (ps := ["_law_script"]) fun _ _ _ _ _ _ us hl => match us, hl with | [_], _ => rfl
  have TI_owed : TabIn K mg h "owed" a_owed cc_owed P_owed := tab_in X own_owed (PySem.W.mg_of X G i_owed) l_owed rfl rfl lc_owed vp_owed np_owed
  have IT_owed : IsTab K P_owed := ⟨"owed", tabN_owed, _, _, i_owed, TI_owed.tab⟩
  have TI_billed : TabIn K mg h "billed" a_billed cc_billed P_billed := tab_in X own_billed (PySem.W.mg_of X G i_billed) l_billed rfl rfl lc_billed vp_billed np_billed
  have IT_billed : IsTab K P_billed := ⟨"billed", tabN_billed, _, _, i_billed, TI_billed.tab⟩
  have TI_with_tariff : TabIn K mg h "with_tariff" a_with_tariff cc_with_tariff P_with_tariff := tab_in X own_with_tariff (PySem.W.mg_of X G i_with_tariff) l_with_tariff rfl rfl lc_with_tariff vp_with_tariff np_with_tariff
  have IT_with_tariff : IsTab K P_with_tariff := ⟨"with_tariff", tabN_with_tariff, _, _, i_with_tariff, TI_with_tariff.tab⟩
  have only : ∀ P, IsTab K P → P ∈ (([(cc_owed, P_owed), (cc_billed, P_billed), (cc_with_tariff, P_with_tariff)] : List (Addr × Addr)).map (·.2)) := by
    rintro P ⟨x, hx, f, c, e1, ta⟩
    rcases tabN_cases hx with rfl | rfl | rfl
    · obtain rfl := ref_inj (i_owed.symm.trans e1)
      exact TI_owed.only ta ▸ (by simp)
    · obtain rfl := ref_inj (i_billed.symm.trans e1)
      exact TI_billed.only ta ▸ (by simp)
    · obtain rfl := ref_inj (i_with_tariff.symm.trans e1)
      exact TI_with_tariff.only ta ▸ (by simp)
  refine ⟨[(cc_owed, P_owed), (cc_billed, P_billed), (cc_with_tariff, P_with_tariff)], PySem.W.fnOf "law" "law" (defArgs s_law) (defBody s_law) (defScope s_law) .none kV_law dc_law pm_law an_law cd_law ct_law, fun p hp => ?_, only, fun s u => .of_eq rfl, fun base _ _ hTB => ?_⟩
  · simp only [List.mem_cons, List.not_mem_nil, or_false] at hp
    rcases hp with rfl | rfl | rfl
    · exact ⟨_, _, TI_owed⟩
    · exact ⟨_, _, TI_billed⟩
    · exact ⟨_, _, TI_with_tariff⟩
  have TB_owed : LamX.TabB base mg cc_owed P_owed := hTB (cc_owed, P_owed) (by simp)
  have TB_billed : LamX.TabB base mg cc_billed P_billed := hTB (cc_billed, P_billed) (by simp)
  have TB_with_tariff : LamX.TabB base mg cc_with_tariff P_with_tariff := hTB (cc_with_tariff, P_with_tariff) (by simp)
  have G__law_most_by : Cal (fun n => ([c_MeterError, c_NoMeter, c_StandsAlready, c_NotLater, c_NoValue, c_NoReading] : List Addr).getD n c_MeterError) PySem.Challenge.rw_metergap_k11_whole_plays.prog w K mg base 1 1 "_law_most_by" f__law_most_by := ⟨_, _, _, fo__law_most_by F__law_most_by B, PySem.W.mg_of X G i__law_most_by, k__law_most_by, b__law_most_by'⟩
  have G_check_day : Cal (fun n => ([c_MeterError, c_NoMeter, c_StandsAlready, c_NotLater, c_NoValue, c_NoReading] : List Addr).getD n c_MeterError) PySem.Challenge.rw_metergap_k11_whole_plays.prog w K mg base 1 2 "check_day" f_check_day := ⟨_, _, _, fo_check_day F_check_day B T, PySem.W.mg_of X G i_check_day, k_check_day, b_check_day'⟩
  have G_check_value : Cal (fun n => ([c_MeterError, c_NoMeter, c_StandsAlready, c_NotLater, c_NoValue, c_NoReading] : List Addr).getD n c_MeterError) PySem.Challenge.rw_metergap_k11_whole_plays.prog w K mg base 1 2 "check_value" f_check_value := ⟨_, _, _, fo_check_value F_check_value B T, PySem.W.mg_of X G i_check_value, k_check_value, b_check_value'⟩
  have G_size_at : Cal (fun n => ([c_MeterError, c_NoMeter, c_StandsAlready, c_NotLater, c_NoValue, c_NoReading] : List Addr).getD n c_MeterError) PySem.Challenge.rw_metergap_k11_whole_plays.prog w K mg base 1 2 "size_at" f_size_at := ⟨_, _, _, fo_size_at F_size_at B, PySem.W.mg_of X G i_size_at, k_size_at, b_size_at'⟩
  have G_size_now : Cal (fun n => ([c_MeterError, c_NoMeter, c_StandsAlready, c_NotLater, c_NoValue, c_NoReading] : List Addr).getD n c_MeterError) PySem.Challenge.rw_metergap_k11_whole_plays.prog w K mg base 2 1 "size_now" f_size_now := ⟨_, _, _, fo_size_now F_size_now B G_size_at, PySem.W.mg_of X G i_size_now, k_size_now, b_size_now'⟩
  have G_read_on : Cal (fun n => ([c_MeterError, c_NoMeter, c_StandsAlready, c_NotLater, c_NoValue, c_NoReading] : List Addr).getD n c_MeterError) PySem.Challenge.rw_metergap_k11_whole_plays.prog w K mg base 3 3 "read_on" f_read_on := ⟨_, _, _, fo_read_on F_read_on B T G_check_day G_check_value G_size_now, PySem.W.mg_of X G i_read_on, k_read_on, b_read_on'⟩
  have G_gone : Cal (fun n => ([c_MeterError, c_NoMeter, c_StandsAlready, c_NotLater, c_NoValue, c_NoReading] : List Addr).getD n c_MeterError) PySem.Challenge.rw_metergap_k11_whole_plays.prog w K mg base 1 3 "gone" f_gone := ⟨_, _, _, fo_gone F_gone B, PySem.W.mg_of X G i_gone, k_gone, b_gone'⟩
  have G_use_since : Cal (fun n => ([c_MeterError, c_NoMeter, c_StandsAlready, c_NotLater, c_NoValue, c_NoReading] : List Addr).getD n c_MeterError) PySem.Challenge.rw_metergap_k11_whole_plays.prog w K mg base 2 2 "use_since" f_use_since := ⟨_, _, _, fo_use_since F_use_since B G_gone, PySem.W.mg_of X G i_use_since, k_use_since, b_use_since'⟩
  have G_is_counting : Cal (fun n => ([c_MeterError, c_NoMeter, c_StandsAlready, c_NotLater, c_NoValue, c_NoReading] : List Addr).getD n c_MeterError) PySem.Challenge.rw_metergap_k11_whole_plays.prog w K mg base 3 3 "is_counting" f_is_counting := ⟨_, _, _, fo_is_counting F_is_counting B G_use_since, PySem.W.mg_of X G i_is_counting, k_is_counting, b_is_counting'⟩
  have G_standing_behind : Cal (fun n => ([c_MeterError, c_NoMeter, c_StandsAlready, c_NotLater, c_NoValue, c_NoReading] : List Addr).getD n c_MeterError) PySem.Challenge.rw_metergap_k11_whole_plays.prog w K mg base 1 2 "standing_behind" f_standing_behind := ⟨_, _, _, fo_standing_behind F_standing_behind B, PySem.W.mg_of X G i_standing_behind, k_standing_behind, b_standing_behind'⟩
  have G_points : Cal (fun n => ([c_MeterError, c_NoMeter, c_StandsAlready, c_NotLater, c_NoValue, c_NoReading] : List Addr).getD n c_MeterError) PySem.Challenge.rw_metergap_k11_whole_plays.prog w K mg base 4 2 "points" f_points := ⟨_, _, _, fo_points F_points B G_is_counting G_standing_behind, PySem.W.mg_of X G i_points, k_points, b_points'⟩
  have G_spans : Cal (fun n => ([c_MeterError, c_NoMeter, c_StandsAlready, c_NotLater, c_NoValue, c_NoReading] : List Addr).getD n c_MeterError) PySem.Challenge.rw_metergap_k11_whole_plays.prog w K mg base 5 2 "spans" f_spans := ⟨_, _, _, fo_spans F_spans B G_points G_standing_behind G_use_since, PySem.W.mg_of X G i_spans, k_spans, b_spans'⟩
  have G_use_ahead : Cal (fun n => ([c_MeterError, c_NoMeter, c_StandsAlready, c_NotLater, c_NoValue, c_NoReading] : List Addr).getD n c_MeterError) PySem.Challenge.rw_metergap_k11_whole_plays.prog w K mg base 1 3 "use_ahead" f_use_ahead := ⟨_, _, _, fo_use_ahead F_use_ahead B, PySem.W.mg_of X G i_use_ahead, k_use_ahead, b_use_ahead'⟩
  have G_share : Cal (fun n => ([c_MeterError, c_NoMeter, c_StandsAlready, c_NotLater, c_NoValue, c_NoReading] : List Addr).getD n c_MeterError) PySem.Challenge.rw_metergap_k11_whole_plays.prog w K mg base 2 3 "share" f_share := ⟨_, _, _, fo_share F_share B G_use_ahead, PySem.W.mg_of X G i_share, k_share, b_share'⟩
  have G_use_by : Cal (fun n => ([c_MeterError, c_NoMeter, c_StandsAlready, c_NotLater, c_NoValue, c_NoReading] : List Addr).getD n c_MeterError) PySem.Challenge.rw_metergap_k11_whole_plays.prog w K mg base 3 3 "use_by" f_use_by := ⟨_, _, _, fo_use_by F_use_by B G_share, PySem.W.mg_of X G i_use_by, k_use_by, b_use_by'⟩
  have G_uses : Cal (fun n => ([c_MeterError, c_NoMeter, c_StandsAlready, c_NotLater, c_NoValue, c_NoReading] : List Addr).getD n c_MeterError) PySem.Challenge.rw_metergap_k11_whole_plays.prog w K mg base 6 4 "uses" f_uses := ⟨_, _, _, fo_uses F_uses B G_spans G_use_by, PySem.W.mg_of X G i_uses, k_uses, b_uses'⟩
  have G_cost : Cal (fun n => ([c_MeterError, c_NoMeter, c_StandsAlready, c_NotLater, c_NoValue, c_NoReading] : List Addr).getD n c_MeterError) PySem.Challenge.rw_metergap_k11_whole_plays.prog w K mg base 1 2 "cost" f_cost := ⟨_, _, _, fo_cost F_cost B, PySem.W.mg_of X G i_cost, k_cost, b_cost'⟩
  have G_tariff_on : Cal (fun n => ([c_MeterError, c_NoMeter, c_StandsAlready, c_NotLater, c_NoValue, c_NoReading] : List Addr).getD n c_MeterError) PySem.Challenge.rw_metergap_k11_whole_plays.prog w K mg base 1 2 "tariff_on" f_tariff_on := ⟨_, _, _, fo_tariff_on F_tariff_on B, PySem.W.mg_of X G i_tariff_on, k_tariff_on, b_tariff_on'⟩
  have G_owed : Cal (fun n => ([c_MeterError, c_NoMeter, c_StandsAlready, c_NotLater, c_NoValue, c_NoReading] : List Addr).getD n c_MeterError) PySem.Challenge.rw_metergap_k11_whole_plays.prog w K mg base 7 4 "owed" f_owed := ⟨_, _, _, fo_owed F_owed B T G_uses G_cost G_tariff_on ⟨_, _, l_owed, rfl, rfl⟩ TB_owed IT_owed, PySem.W.mg_of X G i_owed, k_owed, b_owed'⟩
  have G_billed : Cal (fun n => ([c_MeterError, c_NoMeter, c_StandsAlready, c_NotLater, c_NoValue, c_NoReading] : List Addr).getD n c_MeterError) PySem.Challenge.rw_metergap_k11_whole_plays.prog w K mg base 5 1 "billed" f_billed := ⟨_, _, _, fo_billed F_billed B ⟨_, _, l_billed, rfl, rfl⟩ TB_billed IT_billed, PySem.W.mg_of X G i_billed, k_billed, b_billed'⟩
  have G_with_bill : Cal (fun n => ([c_MeterError, c_NoMeter, c_StandsAlready, c_NotLater, c_NoValue, c_NoReading] : List Addr).getD n c_MeterError) PySem.Challenge.rw_metergap_k11_whole_plays.prog w K mg base 8 5 "with_bill" f_with_bill := ⟨_, _, _, fo_with_bill F_with_bill B T G_owed G_billed, PySem.W.mg_of X G i_with_bill, k_with_bill, b_with_bill'⟩
  have G_use_on : Cal (fun n => ([c_MeterError, c_NoMeter, c_StandsAlready, c_NotLater, c_NoValue, c_NoReading] : List Addr).getD n c_MeterError) PySem.Challenge.rw_metergap_k11_whole_plays.prog w K mg base 7 3 "use_on" f_use_on := ⟨_, _, _, fo_use_on F_use_on B G_uses, PySem.W.mg_of X G i_use_on, k_use_on, b_use_on'⟩
  have G_begun : Cal (fun n => ([c_MeterError, c_NoMeter, c_StandsAlready, c_NotLater, c_NoValue, c_NoReading] : List Addr).getD n c_MeterError) PySem.Challenge.rw_metergap_k11_whole_plays.prog w K mg base 2 4 "begun" f_begun := ⟨_, _, _, fo_begun F_begun B T G_check_value, PySem.W.mg_of X G i_begun, k_begun, b_begun'⟩
  have G_known_to : Cal (fun n => ([c_MeterError, c_NoMeter, c_StandsAlready, c_NotLater, c_NoValue, c_NoReading] : List Addr).getD n c_MeterError) PySem.Challenge.rw_metergap_k11_whole_plays.prog w K mg base 5 2 "known_to" f_known_to := ⟨_, _, _, fo_known_to F_known_to B G_points, PySem.W.mg_of X G i_known_to, k_known_to, b_known_to'⟩
  have G_changed_on : Cal (fun n => ([c_MeterError, c_NoMeter, c_StandsAlready, c_NotLater, c_NoValue, c_NoReading] : List Addr).getD n c_MeterError) PySem.Challenge.rw_metergap_k11_whole_plays.prog w K mg base 3 5 "changed_on" f_changed_on := ⟨_, _, _, fo_changed_on F_changed_on B T G_check_day G_check_value G_size_now, PySem.W.mg_of X G i_changed_on, k_changed_on, b_changed_on'⟩
  have G_is_standing_reading : Cal (fun n => ([c_MeterError, c_NoMeter, c_StandsAlready, c_NotLater, c_NoValue, c_NoReading] : List Addr).getD n c_MeterError) PySem.Challenge.rw_metergap_k11_whole_plays.prog w K mg base 1 1 "is_standing_reading" f_is_standing_reading := ⟨_, _, _, fo_is_standing_reading F_is_standing_reading B, PySem.W.mg_of X G i_is_standing_reading, k_is_standing_reading, b_is_standing_reading'⟩
  have G_struck : Cal (fun n => ([c_MeterError, c_NoMeter, c_StandsAlready, c_NotLater, c_NoValue, c_NoReading] : List Addr).getD n c_MeterError) PySem.Challenge.rw_metergap_k11_whole_plays.prog w K mg base 2 2 "struck" f_struck := ⟨_, _, _, fo_struck F_struck B T G_is_standing_reading, PySem.W.mg_of X G i_struck, k_struck, b_struck'⟩
  have G_with_tariff : Cal (fun n => ([c_MeterError, c_NoMeter, c_StandsAlready, c_NotLater, c_NoValue, c_NoReading] : List Addr).getD n c_MeterError) PySem.Challenge.rw_metergap_k11_whole_plays.prog w K mg base 5 2 "with_tariff" f_with_tariff := ⟨_, _, _, fo_with_tariff F_with_tariff B T ⟨_, _, l_with_tariff, rfl, rfl⟩ TB_with_tariff IT_with_tariff, PySem.W.mg_of X G i_with_tariff, k_with_tariff, b_with_tariff'⟩
  have G_do_deed : Cal (fun n => ([c_MeterError, c_NoMeter, c_StandsAlready, c_NotLater, c_NoValue, c_NoReading] : List Addr).getD n c_MeterError) PySem.Challenge.rw_metergap_k11_whole_plays.prog w K mg base 9 3 "do_deed" f_do_deed := ⟨_, _, _, fo_do_deed F_do_deed B T G_read_on G_with_bill G_use_on G_owed G_begun G_known_to G_changed_on G_struck G_with_tariff, PySem.W.mg_of X G i_do_deed, k_do_deed, b_do_deed'⟩
  have G_answer_to : Cal (fun n => ([c_MeterError, c_NoMeter, c_StandsAlready, c_NotLater, c_NoValue, c_NoReading] : List Addr).getD n c_MeterError) PySem.Challenge.rw_metergap_k11_whole_plays.prog w K mg base 10 3 "answer_to" f_answer_to := ⟨_, _, _, fo_answer_to F_answer_to B T G_do_deed, PySem.W.mg_of X G i_answer_to, k_answer_to, b_answer_to'⟩
  have G_play : Cal (fun n => ([c_MeterError, c_NoMeter, c_StandsAlready, c_NotLater, c_NoValue, c_NoReading] : List Addr).getD n c_MeterError) PySem.Challenge.rw_metergap_k11_whole_plays.prog w K mg base 11 2 "play" f_play := ⟨_, _, _, fo_play F_play B T G_answer_to, PySem.W.mg_of X G i_play, k_play, b_play'⟩
  have G__law_cell_at : Cal (fun n => ([c_MeterError, c_NoMeter, c_StandsAlready, c_NotLater, c_NoValue, c_NoReading] : List Addr).getD n c_MeterError) PySem.Challenge.rw_metergap_k11_whole_plays.prog w K mg base 1 2 "_law_cell_at" f__law_cell_at := ⟨_, _, _, fo__law_cell_at F__law_cell_at B, PySem.W.mg_of X G i__law_cell_at, k__law_cell_at, b__law_cell_at'⟩
  have G__law_size_now : Cal (fun n => ([c_MeterError, c_NoMeter, c_StandsAlready, c_NotLater, c_NoValue, c_NoReading] : List Addr).getD n c_MeterError) PySem.Challenge.rw_metergap_k11_whole_plays.prog w K mg base 1 1 "_law_size_now" f__law_size_now := ⟨_, _, _, fo__law_size_now F__law_size_now B, PySem.W.mg_of X G i__law_size_now, k__law_size_now, b__law_size_now'⟩
  have G__law_entry_of : Cal (fun n => ([c_MeterError, c_NoMeter, c_StandsAlready, c_NotLater, c_NoValue, c_NoReading] : List Addr).getD n c_MeterError) PySem.Challenge.rw_metergap_k11_whole_plays.prog w K mg base 2 2 "_law_entry_of" f__law_entry_of := ⟨_, _, _, fo__law_entry_of F__law_entry_of B G__law_size_now, PySem.W.mg_of X G i__law_entry_of, k__law_entry_of, b__law_entry_of'⟩
  have G__law_cost : Cal (fun n => ([c_MeterError, c_NoMeter, c_StandsAlready, c_NotLater, c_NoValue, c_NoReading] : List Addr).getD n c_MeterError) PySem.Challenge.rw_metergap_k11_whole_plays.prog w K mg base 1 3 "_law_cost" f__law_cost := ⟨_, _, _, fo__law_cost F__law_cost B, PySem.W.mg_of X G i__law_cost, k__law_cost, b__law_cost'⟩
  have G__law_use : Cal (fun n => ([c_MeterError, c_NoMeter, c_StandsAlready, c_NotLater, c_NoValue, c_NoReading] : List Addr).getD n c_MeterError) PySem.Challenge.rw_metergap_k11_whole_plays.prog w K mg base 1 2 "_law_use" f__law_use := ⟨_, _, _, fo__law_use F__law_use B, PySem.W.mg_of X G i__law_use, k__law_use, b__law_use'⟩
  have G__law_owed : Cal (fun n => ([c_MeterError, c_NoMeter, c_StandsAlready, c_NotLater, c_NoValue, c_NoReading] : List Addr).getD n c_MeterError) PySem.Challenge.rw_metergap_k11_whole_plays.prog w K mg base 2 4 "_law_owed" f__law_owed := ⟨_, _, _, fo__law_owed F__law_owed B G__law_cost G__law_use, PySem.W.mg_of X G i__law_owed, k__law_owed, b__law_owed'⟩
  have G__law_account : Cal (fun n => ([c_MeterError, c_NoMeter, c_StandsAlready, c_NotLater, c_NoValue, c_NoReading] : List Addr).getD n c_MeterError) PySem.Challenge.rw_metergap_k11_whole_plays.prog w K mg base 1 2 "_law_account" f__law_account := ⟨_, _, _, fo__law_account F__law_account B, PySem.W.mg_of X G i__law_account, k__law_account, b__law_account'⟩
  have G__law_bill : CalS PySem.Challenge.rw_metergap_k11_whole_plays.prog w K mg base 3 3 "_law_bill" f__law_bill := ⟨_, _, _, fo__law_bill (cs := (fun n => ([c_MeterError, c_NoMeter, c_StandsAlready, c_NotLater, c_NoValue, c_NoReading] : List Addr).getD n c_MeterError)) F__law_bill B G__law_owed G__law_account, PySem.W.mg_of X G i__law_bill, k__law_bill, b__law_bill'⟩
  have G__law_struck : Cal (fun n => ([c_MeterError, c_NoMeter, c_StandsAlready, c_NotLater, c_NoValue, c_NoReading] : List Addr).getD n c_MeterError) PySem.Challenge.rw_metergap_k11_whole_plays.prog w K mg base 1 2 "_law_struck" f__law_struck := ⟨_, _, _, fo__law_struck F__law_struck B, PySem.W.mg_of X G i__law_struck, k__law_struck, b__law_struck'⟩
  have G__law_answer : CalS PySem.Challenge.rw_metergap_k11_whole_plays.prog w K mg base 4 3 "_law_answer" f__law_answer := ⟨_, _, _, fo__law_answer (cs := (fun n => ([c_MeterError, c_NoMeter, c_StandsAlready, c_NotLater, c_NoValue, c_NoReading] : List Addr).getD n c_MeterError)) F__law_answer B G__law_entry_of G__law_bill G__law_use G__law_owed G__law_struck G__law_account, PySem.W.mg_of X G i__law_answer, k__law_answer, b__law_answer'⟩
  have G__law_size_by : Cal (fun n => ([c_MeterError, c_NoMeter, c_StandsAlready, c_NotLater, c_NoValue, c_NoReading] : List Addr).getD n c_MeterError) PySem.Challenge.rw_metergap_k11_whole_plays.prog w K mg base 1 1 "_law_size_by" f__law_size_by := ⟨_, _, _, fo__law_size_by F__law_size_by B, PySem.W.mg_of X G i__law_size_by, k__law_size_by, b__law_size_by'⟩
  have G__law_shown_now : Cal (fun n => ([c_MeterError, c_NoMeter, c_StandsAlready, c_NotLater, c_NoValue, c_NoReading] : List Addr).getD n c_MeterError) PySem.Challenge.rw_metergap_k11_whole_plays.prog w K mg base 1 1 "_law_shown_now" f__law_shown_now := ⟨_, _, _, fo__law_shown_now F__law_shown_now B, PySem.W.mg_of X G i__law_shown_now, k__law_shown_now, b__law_shown_now'⟩
  have G__law_deed_by : Cal (fun n => ([c_MeterError, c_NoMeter, c_StandsAlready, c_NotLater, c_NoValue, c_NoReading] : List Addr).getD n c_MeterError) PySem.Challenge.rw_metergap_k11_whole_plays.prog w K mg base 2 4 "_law_deed_by" f__law_deed_by := ⟨_, _, _, fo__law_deed_by F__law_deed_by B G__law_size_now G__law_size_by G__law_shown_now, PySem.W.mg_of X G i__law_deed_by, k__law_deed_by, b__law_deed_by'⟩
  have G__law_mixed : Cal (fun n => ([c_MeterError, c_NoMeter, c_StandsAlready, c_NotLater, c_NoValue, c_NoReading] : List Addr).getD n c_MeterError) PySem.Challenge.rw_metergap_k11_whole_plays.prog w K mg base 1 2 "_law_mixed" f__law_mixed := ⟨_, _, _, fo__law_mixed F__law_mixed B, PySem.W.mg_of X G i__law_mixed, k__law_mixed, b__law_mixed'⟩
  exact law_imp (cs := (fun n => ([c_MeterError, c_NoMeter, c_StandsAlready, c_NotLater, c_NoValue, c_NoReading] : List Addr).getD n c_MeterError)) (fo_law F_law B T G__law_most_by G_play G__law_cell_at G__law_answer G__law_deed_by G__law_size_by G__law_mixed) law_true
end K11
open PySem PySem.W PyProof.Rows
set_option maxRecDepth 100000 in
set_option maxHeartbeats 0 in
theorem PySem.Challenge.cw_metergap_k11_whole_plays_holds : PySem.Challenge.rw_metergap_k11_whole_plays.Holds := by
  w_on; o_law; k_head; (case hw => w_witness2)
  k_fill
  refine PD.walk_tab (l := PySem.Challenge.rw_metergap_k11_whole_plays) (k := 12) (x := "_law_script") rfl (by decide) rfl ⟨rfl, by decide, by decide⟩ (fun w h Y => by first | exact PySem.W.kIn_of Y | exact PySem.W.km_in_of Y) ?F
  case F =>
    intro w mg fa h KX G hmg own
    refine' K11.all_mk KX G hmg ?i__law_most_by ?l__law_most_by ?c__law_most_by ?k__law_most_by ?i_check_day ?l_check_day ?c_check_day ?k_check_day ?i_check_value ?l_check_value ?c_check_value ?k_check_value ?i_size_at ?l_size_at ?c_size_at ?k_size_at ?i_size_now ?l_size_now ?c_size_now ?k_size_now ?i_read_on ?l_read_on ?c_read_on ?k_read_on ?i_gone ?l_gone ?c_gone ?k_gone ?i_use_since ?l_use_since ?c_use_since ?k_use_since ?i_is_counting ?l_is_counting ?c_is_counting ?k_is_counting ?i_standing_behind ?l_standing_behind ?c_standing_behind ?k_standing_behind ?i_points ?l_points ?c_points ?k_points ?i_spans ?l_spans ?c_spans ?k_spans ?i_use_ahead ?l_use_ahead ?c_use_ahead ?k_use_ahead ?i_share ?l_share ?c_share ?k_share ?i_use_by ?l_use_by ?c_use_by ?k_use_by ?i_uses ?l_uses ?c_uses ?k_uses ?i_cost ?l_cost ?c_cost ?k_cost ?i_tariff_on ?l_tariff_on ?c_tariff_on ?k_tariff_on ?i_owed ?l_owed ?c_owed ?k_owed ?lc_owed ?vp_owed ?np_owed ?own_owed ?i_billed ?l_billed ?c_billed ?k_billed ?lc_billed ?vp_billed ?np_billed ?own_billed ?i_with_bill ?l_with_bill ?c_with_bill ?k_with_bill ?i_use_on ?l_use_on ?c_use_on ?k_use_on ?i_begun ?l_begun ?c_begun ?k_begun ?i_known_to ?l_known_to ?c_known_to ?k_known_to ?i_changed_on ?l_changed_on ?c_changed_on ?k_changed_on ?i_is_standing_reading ?l_is_standing_reading ?c_is_standing_reading ?k_is_standing_reading ?i_struck ?l_struck ?c_struck ?k_struck ?i_with_tariff ?l_with_tariff ?c_with_tariff ?k_with_tariff ?lc_with_tariff ?vp_with_tariff ?np_with_tariff ?own_with_tariff ?i_do_deed ?l_do_deed ?c_do_deed ?k_do_deed ?i_answer_to ?l_answer_to ?c_answer_to ?k_answer_to ?i_play ?l_play ?c_play ?k_play ?i__law_cell_at ?l__law_cell_at ?c__law_cell_at ?k__law_cell_at ?i__law_size_now ?l__law_size_now ?c__law_size_now ?k__law_size_now ?i__law_entry_of ?l__law_entry_of ?c__law_entry_of ?k__law_entry_of ?i__law_cost ?l__law_cost ?c__law_cost ?k__law_cost ?i__law_use ?l__law_use ?c__law_use ?k__law_use ?i__law_owed ?l__law_owed ?c__law_owed ?k__law_owed ?i__law_account ?l__law_account ?c__law_account ?k__law_account ?i__law_bill ?l__law_bill ?c__law_bill ?k__law_bill ?i__law_struck ?l__law_struck ?c__law_struck ?k__law_struck ?i__law_answer ?l__law_answer ?c__law_answer ?k__law_answer ?i__law_size_by ?l__law_size_by ?c__law_size_by ?k__law_size_by ?i__law_shown_now ?l__law_shown_now ?c__law_shown_now ?k__law_shown_now ?i__law_deed_by ?l__law_deed_by ?c__law_deed_by ?k__law_deed_by ?i__law_mixed ?l__law_mixed ?c__law_mixed ?k__law_mixed ?i_law ?l_law ?c_law ?k_law ?z_len ?z_enumerate ?z_range ?z_min ?z_sum ?z_any ?z_tuple ?z_sorted ?z_int ?z_max ?z_isinstance ?z_str ?z_list ?z_zip ?z_bool ?y_hn ?y_ht ?y_MeterError_i ?y_NoMeter_i ?y_StandsAlready_i ?y_NotLater_i ?y_NoValue_i ?y_NoReading_i ?y_MeterError_k ?y_MeterError_q ?y_MeterError_b ?y_MeterError_t ?y_MeterError_hg ?y_MeterError_hk ?y_MeterError_hd ?y_MeterError_ha ?y_MeterError_hm ?y_MeterError_v ?y_MeterError_exm_NoMeter ?y_MeterError_exm_StandsAlready ?y_MeterError_exm_NotLater ?y_MeterError_exm_NoValue ?y_MeterError_exm_NoReading ?y_NoMeter_k ?y_NoMeter_q ?y_NoMeter_b ?y_NoMeter_t ?y_NoMeter_hg ?y_NoMeter_hk ?y_NoMeter_hd ?y_NoMeter_ha ?y_NoMeter_hm ?y_NoMeter_v ?y_NoMeter_exm_NoMeter ?y_NoMeter_exm_StandsAlready ?y_NoMeter_exm_NotLater ?y_NoMeter_exm_NoValue ?y_NoMeter_exm_NoReading ?y_StandsAlready_k ?y_StandsAlready_q ?y_StandsAlready_b ?y_StandsAlready_t ?y_StandsAlready_hg ?y_StandsAlready_hk ?y_StandsAlready_hd ?y_StandsAlready_ha ?y_StandsAlready_hm ?y_StandsAlready_v ?y_StandsAlready_exm_NoMeter ?y_StandsAlready_exm_StandsAlready ?y_StandsAlready_exm_NotLater ?y_StandsAlready_exm_NoValue ?y_StandsAlready_exm_NoReading ?y_NotLater_k ?y_NotLater_q ?y_NotLater_b ?y_NotLater_t ?y_NotLater_hg ?y_NotLater_hk ?y_NotLater_hd ?y_NotLater_ha ?y_NotLater_hm ?y_NotLater_v ?y_NotLater_exm_NoMeter ?y_NotLater_exm_StandsAlready ?y_NotLater_exm_NotLater ?y_NotLater_exm_NoValue ?y_NotLater_exm_NoReading ?y_NoValue_k ?y_NoValue_q ?y_NoValue_b ?y_NoValue_t ?y_NoValue_hg ?y_NoValue_hk ?y_NoValue_hd ?y_NoValue_ha ?y_NoValue_hm ?y_NoValue_v ?y_NoValue_exm_NoMeter ?y_NoValue_exm_StandsAlready ?y_NoValue_exm_NotLater ?y_NoValue_exm_NoValue ?y_NoValue_exm_NoReading ?y_NoReading_k ?y_NoReading_q ?y_NoReading_b ?y_NoReading_t ?y_NoReading_hg ?y_NoReading_hk ?y_NoReading_hd ?y_NoReading_ha ?y_NoReading_hm ?y_NoReading_v ?y_NoReading_exm_NoMeter ?y_NoReading_exm_StandsAlready ?y_NoReading_exm_NotLater ?y_NoReading_exm_NoValue ?y_NoReading_exm_NoReading
    (case i__law_most_by => k_is)
    (case l__law_most_by => k_is)
    (case c__law_most_by => k_is)
    (case k__law_most_by => k_is)
    (case i_check_day => k_is)
    (case l_check_day => k_is)
    (case c_check_day => k_is)
    (case k_check_day => k_is)
    (case i_check_value => k_is)
    (case l_check_value => k_is)
    (case c_check_value => k_is)
    (case k_check_value => k_is)
    (case i_size_at => k_is)
    (case l_size_at => k_is)
    (case c_size_at => k_is)
    (case k_size_at => k_is)
    (case i_size_now => k_is)
    (case l_size_now => k_is)
    (case c_size_now => k_is)
    (case k_size_now => k_is)
    (case i_read_on => k_is)
    (case l_read_on => k_is)
    (case c_read_on => k_is)
    (case k_read_on => k_is)
    (case i_gone => k_is)
    (case l_gone => k_is)
    (case c_gone => k_is)
    (case k_gone => k_is)
    (case i_use_since => k_is)
    (case l_use_since => k_is)
    (case c_use_since => k_is)
    (case k_use_since => k_is)
    (case i_is_counting => k_is)
    (case l_is_counting => k_is)
    (case c_is_counting => k_is)
    (case k_is_counting => k_is)
    (case i_standing_behind => k_is)
    (case l_standing_behind => k_is)
    (case c_standing_behind => k_is)
    (case k_standing_behind => k_is)
    (case i_points => k_is)
    (case l_points => k_is)
    (case c_points => k_is)
    (case k_points => k_is)
    (case i_spans => k_is)
    (case l_spans => k_is)
    (case c_spans => k_is)
    (case k_spans => k_is)
    (case i_use_ahead => k_is)
    (case l_use_ahead => k_is)
    (case c_use_ahead => k_is)
    (case k_use_ahead => k_is)
    (case i_share => k_is)
    (case l_share => k_is)
    (case c_share => k_is)
    (case k_share => k_is)
    (case i_use_by => k_is)
    (case l_use_by => k_is)
    (case c_use_by => k_is)
    (case k_use_by => k_is)
    (case i_uses => k_is)
    (case l_uses => k_is)
    (case c_uses => k_is)
    (case k_uses => k_is)
    (case i_cost => k_is)
    (case l_cost => k_is)
    (case c_cost => k_is)
    (case k_cost => k_is)
    (case i_tariff_on => k_is)
    (case l_tariff_on => k_is)
    (case c_tariff_on => k_is)
    (case k_tariff_on => k_is)
    (case i_owed => k_is)
    (case l_owed => k_is)
    (case c_owed => k_is)
    (case k_owed => k_is)
    (case lc_owed => k_is)
    (case vp_owed => rfl)
    (case np_owed => rfl)
    (case own_owed => exact own _ (by decide +kernel))
    (case i_billed => k_is)
    (case l_billed => k_is)
    (case c_billed => k_is)
    (case k_billed => k_is)
    (case lc_billed => k_is)
    (case vp_billed => rfl)
    (case np_billed => rfl)
    (case own_billed => exact own _ (by decide +kernel))
    (case i_with_bill => k_is)
    (case l_with_bill => k_is)
    (case c_with_bill => k_is)
    (case k_with_bill => k_is)
    (case i_use_on => k_is)
    (case l_use_on => k_is)
    (case c_use_on => k_is)
    (case k_use_on => k_is)
    (case i_begun => k_is)
    (case l_begun => k_is)
    (case c_begun => k_is)
    (case k_begun => k_is)
    (case i_known_to => k_is)
    (case l_known_to => k_is)
    (case c_known_to => k_is)
    (case k_known_to => k_is)
    (case i_changed_on => k_is)
    (case l_changed_on => k_is)
    (case c_changed_on => k_is)
    (case k_changed_on => k_is)
    (case i_is_standing_reading => k_is)
    (case l_is_standing_reading => k_is)
    (case c_is_standing_reading => k_is)
    (case k_is_standing_reading => k_is)
    (case i_struck => k_is)
    (case l_struck => k_is)
    (case c_struck => k_is)
    (case k_struck => k_is)
    (case i_with_tariff => k_is)
    (case l_with_tariff => k_is)
    (case c_with_tariff => k_is)
    (case k_with_tariff => k_is)
    (case lc_with_tariff => k_is)
    (case vp_with_tariff => rfl)
    (case np_with_tariff => rfl)
    (case own_with_tariff => exact own _ (by decide +kernel))
    (case i_do_deed => k_is)
    (case l_do_deed => k_is)
    (case c_do_deed => k_is)
    (case k_do_deed => k_is)
    (case i_answer_to => k_is)
    (case l_answer_to => k_is)
    (case c_answer_to => k_is)
    (case k_answer_to => k_is)
    (case i_play => k_is)
    (case l_play => k_is)
    (case c_play => k_is)
    (case k_play => k_is)
    (case i__law_cell_at => k_is)
    (case l__law_cell_at => k_is)
    (case c__law_cell_at => k_is)
    (case k__law_cell_at => k_is)
    (case i__law_size_now => k_is)
    (case l__law_size_now => k_is)
    (case c__law_size_now => k_is)
    (case k__law_size_now => k_is)
    (case i__law_entry_of => k_is)
    (case l__law_entry_of => k_is)
    (case c__law_entry_of => k_is)
    (case k__law_entry_of => k_is)
    (case i__law_cost => k_is)
    (case l__law_cost => k_is)
    (case c__law_cost => k_is)
    (case k__law_cost => k_is)
    (case i__law_use => k_is)
    (case l__law_use => k_is)
    (case c__law_use => k_is)
    (case k__law_use => k_is)
    (case i__law_owed => k_is)
    (case l__law_owed => k_is)
    (case c__law_owed => k_is)
    (case k__law_owed => k_is)
    (case i__law_account => k_is)
    (case l__law_account => k_is)
    (case c__law_account => k_is)
    (case k__law_account => k_is)
    (case i__law_bill => k_is)
    (case l__law_bill => k_is)
    (case c__law_bill => k_is)
    (case k__law_bill => k_is)
    (case i__law_struck => k_is)
    (case l__law_struck => k_is)
    (case c__law_struck => k_is)
    (case k__law_struck => k_is)
    (case i__law_answer => k_is)
    (case l__law_answer => k_is)
    (case c__law_answer => k_is)
    (case k__law_answer => k_is)
    (case i__law_size_by => k_is)
    (case l__law_size_by => k_is)
    (case c__law_size_by => k_is)
    (case k__law_size_by => k_is)
    (case i__law_shown_now => k_is)
    (case l__law_shown_now => k_is)
    (case c__law_shown_now => k_is)
    (case k__law_shown_now => k_is)
    (case i__law_deed_by => k_is)
    (case l__law_deed_by => k_is)
    (case c__law_deed_by => k_is)
    (case k__law_deed_by => k_is)
    (case i__law_mixed => k_is)
    (case l__law_mixed => k_is)
    (case c__law_mixed => k_is)
    (case k__law_mixed => k_is)
    (case i_law => k_is)
    (case l_law => k_is)
    (case c_law => k_is)
    (case k_law => k_is)
    (case z_len => k_is)
    (case z_enumerate => k_is)
    (case z_range => k_is)
    (case z_min => k_is)
    (case z_sum => k_is)
    (case z_any => k_is)
    (case z_tuple => k_is)
    (case z_sorted => k_is)
    (case z_int => k_is)
    (case z_max => k_is)
    (case z_isinstance => k_is)
    (case z_str => k_is)
    (case z_list => k_is)
    (case z_zip => k_is)
    (case z_bool => k_is)
    (case y_hn => k_is)
    (case y_ht => k_is)
    (case y_MeterError_i => k_is)
    (case y_NoMeter_i => k_is)
    (case y_StandsAlready_i => k_is)
    (case y_NotLater_i => k_is)
    (case y_NoValue_i => k_is)
    (case y_NoReading_i => k_is)
    (case y_MeterError_k => k_is)
    (case y_MeterError_q => k_exc)
    (case y_MeterError_b => k_is)
    (case y_MeterError_t => k_is)
    (case y_MeterError_hg => k_is)
    (case y_MeterError_hk => k_is)
    (case y_MeterError_hd => k_is)
    (case y_MeterError_ha => k_is)
    (case y_MeterError_hm => k_is)
    (case y_MeterError_v => kit_is)
    (case y_MeterError_exm_NoMeter => k_is)
    (case y_MeterError_exm_StandsAlready => k_is)
    (case y_MeterError_exm_NotLater => k_is)
    (case y_MeterError_exm_NoValue => k_is)
    (case y_MeterError_exm_NoReading => k_is)
    (case y_NoMeter_k => k_is)
    (case y_NoMeter_q => k_exc)
    (case y_NoMeter_b => k_is)
    (case y_NoMeter_t => k_is)
    (case y_NoMeter_hg => k_is)
    (case y_NoMeter_hk => k_is)
    (case y_NoMeter_hd => k_is)
    (case y_NoMeter_ha => k_is)
    (case y_NoMeter_hm => k_is)
    (case y_NoMeter_v => kit_is)
    (case y_NoMeter_exm_NoMeter => k_is)
    (case y_NoMeter_exm_StandsAlready => k_is)
    (case y_NoMeter_exm_NotLater => k_is)
    (case y_NoMeter_exm_NoValue => k_is)
    (case y_NoMeter_exm_NoReading => k_is)
    (case y_StandsAlready_k => k_is)
    (case y_StandsAlready_q => k_exc)
    (case y_StandsAlready_b => k_is)
    (case y_StandsAlready_t => k_is)
    (case y_StandsAlready_hg => k_is)
    (case y_StandsAlready_hk => k_is)
    (case y_StandsAlready_hd => k_is)
    (case y_StandsAlready_ha => k_is)
    (case y_StandsAlready_hm => k_is)
    (case y_StandsAlready_v => kit_is)
    (case y_StandsAlready_exm_NoMeter => k_is)
    (case y_StandsAlready_exm_StandsAlready => k_is)
    (case y_StandsAlready_exm_NotLater => k_is)
    (case y_StandsAlready_exm_NoValue => k_is)
    (case y_StandsAlready_exm_NoReading => k_is)
    (case y_NotLater_k => k_is)
    (case y_NotLater_q => k_exc)
    (case y_NotLater_b => k_is)
    (case y_NotLater_t => k_is)
    (case y_NotLater_hg => k_is)
    (case y_NotLater_hk => k_is)
    (case y_NotLater_hd => k_is)
    (case y_NotLater_ha => k_is)
    (case y_NotLater_hm => k_is)
    (case y_NotLater_v => kit_is)
    (case y_NotLater_exm_NoMeter => k_is)
    (case y_NotLater_exm_StandsAlready => k_is)
    (case y_NotLater_exm_NotLater => k_is)
    (case y_NotLater_exm_NoValue => k_is)
    (case y_NotLater_exm_NoReading => k_is)
    (case y_NoValue_k => k_is)
    (case y_NoValue_q => k_exc)
    (case y_NoValue_b => k_is)
    (case y_NoValue_t => k_is)
    (case y_NoValue_hg => k_is)
    (case y_NoValue_hk => k_is)
    (case y_NoValue_hd => k_is)
    (case y_NoValue_ha => k_is)
    (case y_NoValue_hm => k_is)
    (case y_NoValue_v => kit_is)
    (case y_NoValue_exm_NoMeter => k_is)
    (case y_NoValue_exm_StandsAlready => k_is)
    (case y_NoValue_exm_NotLater => k_is)
    (case y_NoValue_exm_NoValue => k_is)
    (case y_NoValue_exm_NoReading => k_is)
    (case y_NoReading_k => k_is)
    (case y_NoReading_q => k_exc)
    (case y_NoReading_b => k_is)
    (case y_NoReading_t => k_is)
    (case y_NoReading_hg => k_is)
    (case y_NoReading_hk => k_is)
    (case y_NoReading_hd => k_is)
    (case y_NoReading_ha => k_is)
    (case y_NoReading_hm => k_is)
    (case y_NoReading_v => kit_is)
    (case y_NoReading_exm_NoMeter => k_is)
    (case y_NoReading_exm_StandsAlready => k_is)
    (case y_NoReading_exm_NotLater => k_is)
    (case y_NoReading_exm_NoValue => k_is)
    (case y_NoReading_exm_NoReading => k_is)


import PyProof.Rows.All
import Wide.All
import OpenK.AllK
import Wide.FinOn
import PySem.Challenge.RW_weldmill_k79_linkers_by_deeds
import KE.KStateDown
import HandS.Base
import HandS.Call
import HandS.Ends
import HandS.More
import HandS.Words
import HandS.WordsExc
import HandS.Defaults
import HandS.Head0
import HandS.Head1
import HandS.Head2
import HandS.HeadEnd
import HandS.HeadHook1
import HandS.HeadHook2
import HandS.HeadHook3
import HandS.HeadHook4
import HandS.HeadWalk
import HandS.ForMost
import HandS.Deep
import HandS.Wide
import HandS.TupAny
import HandS.EndTab
import PyProof.StrBlock2
import HandS.IsInst
import HandS.Steps
import HandS.Dict
import HandS.Iter
import HandS.List
import HandS.EndBits
import PyProof.ReprRoads
import PyProof.StrLawsRepr
set_option Elab.async false
set_option linter.all false
set_option maxRecDepth 100000
set_option maxHeartbeats 4000000
set_option autoImplicit false
/-! PL1: the pure calculus over the hand layer: data, typed mutable objects, states. -/
namespace PL
open PySem L2 PyProof.Rows

/-! ### data -/
mutual
inductive Da (K : PySem.W.Frag) (H : Hp) : V → PyData → Prop
  | non : Da K H .non .none
  | bl (b : Bool) : Da K H (.bl b) (.bool b)
  | int (i : Int) : Da K H (.int i) (.int i)
  | str (x : Str) : Da K H (.str x) (.str x)
  | lst {a : Addr} {xs : List V} {ds : List PyData} : Rd H a (.lst xs) → DaAll K H xs ds → Da K H (.ref a) (.list ds)
  | tup {a : Addr} {xs : List V} {ds : List PyData} : SqT K H a xs → DaAll K H xs ds → Da K H (.ref a) (.tuple ds)
inductive DaAll (K : PySem.W.Frag) (H : Hp) : List V → List PyData → Prop
  | nil : DaAll K H [] []
  | cons {v : V} {vs : List V} {d : PyData} {ds : List PyData} : Da K H v d → DaAll K H vs ds → DaAll K H (v :: vs) (d :: ds)
end
def Sub (H H' : Hp) : Prop := ∀ a o, H a = some o → H' a = some o
theorem Sub.refl (H : Hp) : Sub H H := fun _ _ h => h
theorem Sub.trans {A B C : Hp} (h : Sub A B) (g : Sub B C) : Sub A C := fun a o e => g a o (h a o e)
theorem Sub.rd {H H' : Hp} {a : Addr} {u : HO} (k : Sub H H') (h : Rd H a u) : Rd H' a u := h.elim (fun h => .inl (k _ _ h)) fun ⟨o, h⟩ => .inr ⟨o, k _ _ h⟩
theorem Sub.sqL {K : PySem.W.Frag} {H H' : Hp} {a : Addr} {xs : List V} (k : Sub H H') (h : SqL K H a xs) : SqL K H' a xs := h.elim (fun h => .inl (k.rd h)) .inr
theorem Sub.sqT {K : PySem.W.Frag} {H H' : Hp} {a : Addr} {xs : List V} (k : Sub H H') (h : SqT K H a xs) : SqT K H' a xs := h.elim (fun h => .inl (k.rd h)) .inr
mutual
theorem Da.mono {K : PySem.W.Frag} {H H' : Hp} (k : Sub H H') : ∀ {v : V} {d : PyData}, Da K H v d → Da K H' v d
  | _, _, .non => .non
  | _, _, .bl b => .bl b
  | _, _, .int i => .int i
  | _, _, .str x => .str x
  | _, _, .lst h a => .lst (k.rd h) (DaAll.mono k a)
  | _, _, .tup h a => .tup (k.sqT h) (DaAll.mono k a)
theorem DaAll.mono {K : PySem.W.Frag} {H H' : Hp} (k : Sub H H') : ∀ {vs : List V} {ds : List PyData}, DaAll K H vs ds → DaAll K H' vs ds
  | _, _, .nil => .nil
  | _, _, .cons h t => .cons (Da.mono k h) (DaAll.mono k t)
end
mutual
theorem Da.dp {K : PySem.W.Frag} {H : Hp} : ∀ {v : V} {d : PyData}, Da K H v d → Dp K H v d
  | _, _, .non => .non
  | _, _, .bl b => .bl b
  | _, _, .int i => .int i
  | _, _, .str x => .str x
  | _, _, .lst h a => .lst (.inl h) (DaAll.dp a)
  | _, _, .tup h a => .tup h (DaAll.dp a)
theorem DaAll.dp {K : PySem.W.Frag} {H : Hp} : ∀ {vs : List V} {ds : List PyData}, DaAll K H vs ds → DpAll K H vs ds
  | _, _, .nil => .nil
  | _, _, .cons h t => .cons (Da.dp h) (DaAll.dp t)
end
theorem DaAll.length {K : PySem.W.Frag} {H : Hp} : ∀ {vs : List V} {ds : List PyData}, DaAll K H vs ds → vs.length = ds.length
  | _, _, .nil => rfl
  | _, _, .cons _ t => congrArg (· + 1) t.length
theorem DaAll.append {K : PySem.W.Frag} {H : Hp} : ∀ {vs us : List V} {ds es : List PyData}, DaAll K H vs ds → DaAll K H us es → DaAll K H (vs ++ us) (ds ++ es)
  | _, _, _, _, .nil, h => h
  | _, _, _, _, .cons a t, h => .cons a (t.append h)
theorem DaAll.get {K : PySem.W.Frag} {H : Hp} : ∀ {vs : List V} {ds : List PyData} {i : Nat} {d : PyData}, DaAll K H vs ds → ds[i]? = some d → ∃ v, vs[i]? = some v ∧ Da K H v d
  | _, _, _, _, .nil, h => by simp at h
  | _, _, 0, _, .cons a _, h => by
    have e := Option.some.inj h
    subst e
    exact ⟨_, rfl, a⟩
  | _, _, i + 1, _, .cons _ t, h => t.get (i := i) h
theorem DaAll.get' {K : PySem.W.Frag} {H : Hp} : ∀ {vs : List V} {ds : List PyData} {i : Nat} {v : V}, DaAll K H vs ds → vs[i]? = some v → ∃ d, ds[i]? = some d ∧ Da K H v d
  | _, _, _, _, .nil, h => by simp at h
  | _, _, 0, _, .cons a _, h => by
    have e := Option.some.inj h
    subst e
    exact ⟨_, rfl, a⟩
  | _, _, i + 1, _, .cons _ t, h => t.get' (i := i) h
theorem DaAll.take {K : PySem.W.Frag} {H : Hp} : ∀ {vs : List V} {ds : List PyData} (n : Nat), DaAll K H vs ds → DaAll K H (vs.take n) (ds.take n)
  | _, _, 0, _ => .nil
  | _, _, _ + 1, .nil => .nil
  | _, _, n + 1, .cons a t => .cons a (t.take n)
theorem DaAll.drop {K : PySem.W.Frag} {H : Hp} : ∀ {vs : List V} {ds : List PyData} (n : Nat), DaAll K H vs ds → DaAll K H (vs.drop n) (ds.drop n)
  | _, _, 0, a => a
  | _, _, _ + 1, .nil => .nil
  | _, _, n + 1, .cons _ t => t.drop n
theorem DaAll.rep {K : PySem.W.Frag} {H : Hp} {vs : List V} {ds : List PyData} (h : DaAll K H vs ds) : ∀ n : Nat, DaAll K H (List.replicate n vs).flatten (List.replicate n ds).flatten
  | 0 => .nil
  | n + 1 => by
    rw [List.replicate_succ, List.replicate_succ, List.flatten_cons, List.flatten_cons]
    exact h.append (h.rep n)
theorem DaAll.ints {K : PySem.W.Frag} {H : Hp} : ∀ {ns : List Int} {vs : List V}, DaAll K H vs (ns.map PyData.int) → vs = ns.map V.int
  | [], _, .nil => rfl
  | n :: ns, _, .cons a t => by
    cases a
    rw [t.ints]
    rfl
theorem DaAll.bools {K : PySem.W.Frag} {H : Hp} : ∀ {ns : List Bool} {vs : List V}, DaAll K H vs (ns.map PyData.bool) → vs = ns.map V.bl
  | [], _, .nil => rfl
  | n :: ns, _, .cons a t => by
    cases a
    rw [t.bools]
    rfl
theorem DaAll.strs {K : PySem.W.Frag} {H : Hp} : ∀ {ns : List Str} {vs : List V}, DaAll K H vs (ns.map PyData.str) → vs = ns.map V.str
  | [], _, .nil => rfl
  | n :: ns, _, .cons a t => by
    cases a
    rw [t.strs]
    rfl
theorem daAll_ints {K : PySem.W.Frag} {H : Hp} : ∀ ns : List Int, DaAll K H (ns.map V.int) (ns.map PyData.int)
  | [] => .nil
  | n :: ns => .cons (.int n) (daAll_ints ns)
theorem daAll_strs {K : PySem.W.Frag} {H : Hp} : ∀ ns : List Str, DaAll K H (ns.map V.str) (ns.map PyData.str)
  | [] => .nil
  | n :: ns => .cons (.str n) (daAll_strs ns)

/-! ### types of mutable objects -/
inductive Ty where
  | scr (ns : List Int)
  | dat (P : PyData → Prop)
  | lst (id : Nat) (t : Ty)
  | rcd (ts : List Ty)
  | dic (id : Nat) (P : PyData → Prop)
  | its (P : PyData → Prop)
  | tpl (ts : List Ty)
  | pr (F : Nat → Nat → List Ty)
inductive GT where
  | ty (t : Ty)
  | own (ds : List PyData)
  /-- a table of code objects of the name q -/
  | tab (q : Str)
  /-- just this object -/
  | one (u : HO)
abbrev Gam := Addr → Option GT
/-- what is known of the objects: lists' least lengths, a greatest length of all, keys that dicts surely have, how many they have at most -/
structure Gh where
  lb : Nat → Nat
  ub : Nat
  ks : Nat → List (Str × PyData)
  kn : Nat → Nat
  pt : Nat → List (Nat × List Ty)
structure Gh.le (g g' : Gh) : Prop where
  lb : ∀ i, g.lb i ≤ g'.lb i
  ub : g.ub ≤ g'.ub
  ks : ∀ i s, s ∈ g.ks i → s ∈ g'.ks i
  pt : ∀ i s, s ∈ g.pt i → s ∈ g'.pt i
theorem Gh.le_refl (g : Gh) : g.le g := ⟨fun _ => Nat.le_refl _, Nat.le_refl _, fun _ _ h => h, fun _ _ h => h⟩
theorem Gh.le_trans {a b c : Gh} (h : a.le b) (k : b.le c) : a.le c := ⟨fun i => Nat.le_trans (h.lb i) (k.lb i), Nat.le_trans h.ub k.ub, fun i s q => k.ks i s (h.ks i s q), fun i s q => k.pt i s (h.pt i s q)⟩
def AllD (F : PyData → Prop) (ds : List PyData) : Prop := ∀ d, d ∈ ds → F d
def hid (Γ : Gam) (H : Hp) : Hp := fun a => match Γ a with
  | none => H a
  | some _ => none
theorem hid_none {Γ : Gam} {H : Hp} {a : Addr} (h : Γ a = none) : hid Γ H a = H a := by
  unfold hid
  rw [h]
theorem hid_some {Γ : Gam} {H : Hp} {a : Addr} {o : HO} (h : hid Γ H a = some o) : Γ a = none ∧ H a = some o := by
  unfold hid at h
  cases e : Γ a with
  | none =>
    rw [e] at h
    exact ⟨rfl, h⟩
  | some t =>
    rw [e] at h
    cases h
def TyOk (K : PySem.W.Frag) (Γ : Gam) (g : Gh) (H : Hp) : Ty → V → Prop
  | .scr ns, v => ∃ a : Addr, v = .ref a ∧ SqL K (hid Γ H) a (ns.map V.int)
  | .dat P, v => ∃ d, Da K (hid Γ H) v d ∧ P d
  | .lst i t, v => ∃ a, v = .ref a ∧ Γ a = some (.ty (.lst i t))
  | .rcd ts, v => ∃ a, v = .ref a ∧ Γ a = some (.ty (.rcd ts))
  | .dic n P, v => ∃ a, v = .ref a ∧ Γ a = some (.ty (.dic n P))
  | .its P, v => ∃ ds, Da K (hid Γ H) v (.list ds) ∧ AllD P ds ∧ ds.length ≤ g.ub
  | .tpl _, _ => False
  | .pr F, v => ∃ (i j : Nat) (a : Addr), v = .ref a ∧ Γ a = some (.ty (.rcd (F i j)))
/-- the tables that a program's lambdas stand in -/
class TBs where
  tb : List (Addr × Str)
/-- which texts are names -/
class Nms where
  nm : Str → Prop
variable [TBs] [Nms]
/-- a name -/
structure NmOk (s : Str) : Prop where
  l : s.length ≤ 40
  k : PyData.strOk s = true
  n : Nms.nm s
def ObOk (K : PySem.W.Frag) (Γ : Gam) (g : Gh) (H : Hp) : GT → HO → Prop
  | .one u, o => o = u
  | .tab q, o => ∃ ps : Array Value, o = .tbl ps ∧ TriplesOk ps.toList ∧ ∀ (pos : Pos) (cv : Value), codeAmong pos ps.toList = some cv → ∃ c, cv = .ref c ∧ hid Γ H c = some (LamX.CodeO c q)
  | .own ds, o => ∃ xs, o = .lst xs ∧ DaAll K (hid Γ H) xs ds
  | .ty (.lst i t), o => ∃ xs, o = .lst xs ∧ g.lb i ≤ xs.length ∧ xs.length ≤ g.ub ∧ (∀ x, x ∈ xs → TyOk K Γ g H t x) ∧ ∀ q : Nat × List Ty, q ∈ g.pt i → ∃ b : Addr, xs[q.1]? = some (.ref b) ∧ Γ b = some (.ty (.rcd q.2))
  | .ty (.rcd ts), o => ∃ xs, o = .lst xs ∧ Paired (TyOk K Γ g H) ts xs
  | .ty (.dic i P), o => ∃ kvs : List (Key × V), o = .dK kvs ∧ kvs.length ≤ g.kn i ∧ (∀ q : Str × PyData, q ∈ g.ks i → ∃ v, valV kvs (.inr q.1) = some v ∧ Da K (hid Γ H) v q.2) ∧ ∀ kv, kv ∈ kvs → (∃ s : Str, kv.1 = .inr s ∧ NmOk s) ∧ ∃ d, Da K (hid Γ H) kv.2 d ∧ P d
  | .ty (.scr _), _ => False
  | .ty (.dat _), _ => False
  | .ty (.its _), _ => False
  | .ty (.tpl _), _ => False
  | .ty (.pr _), _ => False

structure HeapOk (K : PySem.W.Frag) (Γ : Gam) (g : Gh) (H : Hp) : Prop where
  ob : ∀ a t, Γ a = some t → ∃ o, H a = some o ∧ ObOk K Γ g H t o
  idl : ∀ a i t, Γ a = some (.ty (.lst i t)) → i = a
  idd : ∀ a i t, Γ a = some (.ty (.dic i t)) → i = a
  lz : ∀ a, H a = none → g.lb a = 0 ∧ g.ks a = [] ∧ g.kn a = 0 ∧ g.pt a = []
  tb : ∀ p, p ∈ TBs.tb → Γ p.1 = some (.tab p.2)
theorem HeapOk.uq {K : PySem.W.Frag} {Γ : Gam} {g : Gh} {H : Hp} (h : HeapOk K Γ g H) (a b : Addr) (i : Nat) (t u : Ty) (x : Γ a = some (.ty (.lst i t))) (y : Γ b = some (.ty (.lst i u))) : a = b := (h.idl a i t x).symm.trans (h.idl b i u y)
theorem HeapOk.ud {K : PySem.W.Frag} {Γ : Gam} {g : Gh} {H : Hp} (h : HeapOk K Γ g H) (a b : Addr) (i : Nat) (t u : PyData → Prop) (x : Γ a = some (.ty (.dic i t))) (y : Γ b = some (.ty (.dic i u))) : a = b := (h.idd a i t x).symm.trans (h.idd b i u y)
theorem upd_none {H : Hp} {p a : Addr} {o : HO} (h : upd H p o a = none) : H a = none := by
  by_cases e : a = p
  · subst e
    rw [upd_same] at h
    cases h
  · rw [upd_ne e] at h
    exact h

/-! ### what may become of a state -/
structure Ext0 (Γ : Gam) (H : Hp) (Γ' : Gam) (H' : Hp) : Prop where
  un : ∀ a o, Γ a = none → H a = some o → Γ' a = none ∧ H' a = some o
  ty : ∀ a t, Γ a = some (.ty t) → Γ' a = some (.ty t)
structure Ext (Γ : Gam) (H : Hp) (Γ' : Gam) (H' : Hp) : Prop extends Ext0 Γ H Γ' H' where
  own : ∀ a ds, Γ a = some (.own ds) → Γ' a = some (.own ds)
  tab : ∀ a q, Γ a = some (.tab q) → Γ' a = some (.tab q)
  one : ∀ a u, Γ a = some (.one u) → Γ' a = some (.one u)
theorem Ext.of {Γ Γ' : Gam} {H H' : Hp} (h1 : ∀ a o, Γ a = none → H a = some o → Γ' a = none ∧ H' a = some o) (h2 : ∀ a t, Γ a = some t → Γ' a = some t) : Ext Γ H Γ' H' := ⟨⟨h1, fun a t h => h2 a _ h⟩, fun a t h => h2 a _ h, fun a t h => h2 a _ h, fun a t h => h2 a _ h⟩
theorem Ext.all {Γ Γ' : Gam} {H H' : Hp} (e : Ext Γ H Γ' H') (a : Addr) (t : GT) (h : Γ a = some t) : Γ' a = some t := by
  cases t with
  | ty t => exact e.ty a t h
  | own ds => exact e.own a ds h
  | tab q => exact e.tab a q h
  | one u => exact e.one a u h
theorem Ext.refl (Γ : Gam) (H : Hp) : Ext Γ H Γ H := .of (fun _ _ h k => ⟨h, k⟩) fun _ _ h => h
theorem Ext.trans {Γ Γ1 Γ2 : Gam} {H H1 H2 : Hp} (a : Ext Γ H Γ1 H1) (b : Ext Γ1 H1 Γ2 H2) : Ext Γ H Γ2 H2 :=
  .of (fun c o h k => let ⟨h1, k1⟩ := a.un c o h k; b.un c o h1 k1) fun c t h => b.all c t (a.all c t h)
theorem Ext0.sub {Γ Γ' : Gam} {H H' : Hp} (e : Ext0 Γ H Γ' H') : Sub (hid Γ H) (hid Γ' H') := fun a o h => by
  obtain ⟨h1, h2⟩ := hid_some h
  obtain ⟨k1, k2⟩ := e.un a o h1 h2
  rw [hid_none k1]
  exact k2
theorem TyOk.ext {K : PySem.W.Frag} {Γ Γ' : Gam} {g : Gh} {H H' : Hp} (e : Ext0 Γ H Γ' H') {t : Ty} {v : V} (h : TyOk K Γ g H t v) : TyOk K Γ' g H' t v := by
  cases t with
  | scr ns => obtain ⟨a, h1, h2⟩ := h; exact ⟨a, h1, e.sub.sqL h2⟩
  | dat P => obtain ⟨d, h1, h2⟩ := h; exact ⟨d, h1.mono e.sub, h2⟩
  | lst i t => obtain ⟨a, h1, h2⟩ := h; exact ⟨a, h1, e.ty _ _ h2⟩
  | rcd ts => obtain ⟨a, h1, h2⟩ := h; exact ⟨a, h1, e.ty _ _ h2⟩
  | dic n P => obtain ⟨a, h1, h2⟩ := h; exact ⟨a, h1, e.ty _ _ h2⟩
  | its P => obtain ⟨d, h1, h2⟩ := h; exact ⟨d, h1.mono e.sub, h2⟩
  | tpl _ => exact h
  | pr F => obtain ⟨i, j, a, h1, h2⟩ := h; exact ⟨i, j, a, h1, e.ty _ _ h2⟩
theorem TyOk.up {K : PySem.W.Frag} {Γ : Gam} {g g' : Gh} {H : Hp} (l : g.ub ≤ g'.ub) {t : Ty} {v : V} (h : TyOk K Γ g H t v) : TyOk K Γ g' H t v := by
  cases t with
  | its P => obtain ⟨d, h1, h2, h3⟩ := h; exact ⟨d, h1, h2, Nat.le_trans h3 l⟩
  | scr _ => exact h
  | dat _ => exact h
  | lst _ _ => exact h
  | rcd _ => exact h
  | dic _ _ => exact h
  | tpl _ => exact h
  | pr _ => exact h
def Gh.zero : Gh := ⟨fun _ => 0, 0, fun _ => [], fun _ => 0, fun _ => []⟩

/-! ### slots -/
inductive Sl where
  | un
  | d (x : PyData)
  | s (ns : List Int)
  | t (t : Ty)
  | own (ds : List PyData)
  | ob (f : Addr → HO)
/-- what a value is that is no slot's own list -/
def ROk (K : PySem.W.Frag) (Γ : Gam) (H : Hp) : Sl → V → Prop
  | .d x, v => Da K (hid Γ H) v x
  | .s ns, v => ∃ a, v = .ref a ∧ SqL K (hid Γ H) a (ns.map V.int)
  | .t (.lst i t), v => ∃ a, v = .ref a ∧ Γ a = some (.ty (.lst i t))
  | .t (.rcd ts), v => ∃ a, v = .ref a ∧ Γ a = some (.ty (.rcd ts))
  | .t (.dic n P), v => ∃ a, v = .ref a ∧ Γ a = some (.ty (.dic n P))
  | .t (.tpl ts), v => ∃ a xs, v = .ref a ∧ SqT K (hid Γ H) a xs ∧ Paired (TyOk K Γ Gh.zero H) ts xs
  | _, _ => False
theorem ROk.ext {K : PySem.W.Frag} {Γ Γ' : Gam} {H H' : Hp} (e : Ext0 Γ H Γ' H') {s : Sl} {v : V} (h : ROk K Γ H s v) : ROk K Γ' H' s v := by
  cases s with
  | un => exact h
  | d x => exact Da.mono e.sub h
  | s ns => obtain ⟨a, h1, h2⟩ := h; exact ⟨a, h1, e.sub.sqL h2⟩
  | own ds => exact h
  | ob f => exact h
  | t t =>
    cases t with
    | scr ns => exact h
    | dat P => exact h
    | lst i t => obtain ⟨a, h1, h2⟩ := h; exact ⟨a, h1, e.ty _ _ h2⟩
    | rcd ts => obtain ⟨a, h1, h2⟩ := h; exact ⟨a, h1, e.ty _ _ h2⟩
    | dic n P => obtain ⟨a, h1, h2⟩ := h; exact ⟨a, h1, e.ty _ _ h2⟩
    | its P => exact h
    | pr F => exact h
    | tpl ts => obtain ⟨a, xs, h1, h2, h3⟩ := h; exact ⟨a, xs, h1, e.sub.sqT h2, L2.Paired.mapP h3 fun _ _ q => TyOk.ext e q⟩
/-- the entry of a def -/
structure Ent where
  Γ : Gam
  H : Hp
  g : Gh
  pv : List (V × Sl)
def SOk (K : PySem.W.Frag) (E : Ent) (Γ : Gam) (H : Hp) : Sl → Option V → Prop
  | .un, _ => True
  | .own ds, ov => ∃ a, ov = some (.ref a) ∧ Γ a = some (.own ds) ∧ E.Γ a = none ∧ E.H a = none
  | .ob f, ov => ∃ a, ov = some (.ref a) ∧ Γ a = some (.one (f a)) ∧ E.Γ a = none ∧ E.H a = none
  | s, ov => ∃ v, ov = some v ∧ ROk K Γ H s v
def slot (σ : L2.St) (i : Nat) : Option V := (σ[i]?).getD none
structure EnvOk (K : PySem.W.Frag) (E : Ent) (Γ : Gam) (g : Gh) (ρ : List Sl) (σ : L2.St) (H : Hp) : Prop where
  len : σ.length = ρ.length
  sl : ∀ i s, ρ[i]? = some s → SOk K E Γ H s (slot σ i)
  dis : ∀ i j x y a, i ≠ j → ρ[i]? = some (.own x) → ρ[j]? = some (.own y) → slot σ i = some (.ref a) → slot σ j = some (.ref a) → False
  hp : HeapOk K Γ g H
  fr : Ext E.Γ E.H Γ H
  gle : E.g.le g
  pv : ∀ p, p ∈ E.pv → ROk K Γ H p.2 p.1
section
variable {K : PySem.W.Frag} {E : Ent} {Γ Γ' : Gam} {g g' : Gh} {ρ : List Sl} {σ : L2.St} {H H' : Hp}
theorem SOk.ext (e : Ext Γ H Γ' H') {s : Sl} {ov : Option V} (h : SOk K E Γ H s ov) : SOk K E Γ' H' s ov := by
  cases s with
  | un => trivial
  | own ds => obtain ⟨a, h1, h2, h3⟩ := h; exact ⟨a, h1, e.own _ _ h2, h3⟩
  | ob f => obtain ⟨a, h1, h2, h3⟩ := h; exact ⟨a, h1, e.one _ _ h2, h3⟩
  | d x => obtain ⟨v, h1, h2⟩ := h; exact ⟨v, h1, ROk.ext e.toExt0 h2⟩
  | s ns => obtain ⟨v, h1, h2⟩ := h; exact ⟨v, h1, ROk.ext e.toExt0 h2⟩
  | t t => obtain ⟨v, h1, h2⟩ := h; exact ⟨v, h1, ROk.ext e.toExt0 h2⟩
theorem EnvOk.ext (I : EnvOk K E Γ g ρ σ H) (e : Ext Γ H Γ' H') (hp : HeapOk K Γ' g' H') (hg : g.le g') : EnvOk K E Γ' g' ρ σ H' where
  len := I.len
  sl := fun i s h => (I.sl i s h).ext e
  dis := I.dis
  hp := hp
  fr := I.fr.trans e
  gle := Gh.le_trans I.gle hg
  pv := fun p h => (I.pv p h).ext e.toExt0
/-- a plain value goes to a slot -/
theorem SOk.of {s : Sl} {v : V} (h : ROk K Γ H s v) : SOk K E Γ H s (some v) := by
  cases s with
  | un => trivial
  | own ds => exact h.elim
  | ob _ => exact h.elim
  | d x => exact ⟨v, rfl, h⟩
  | s ns => exact ⟨v, rfl, h⟩
  | t t => exact ⟨v, rfl, h⟩
theorem slot_set {σ : L2.St} {i j : Nat} {o : Option V} (hi : i < σ.length) : slot (σ.set i o) j = if i = j then o else slot σ j := by
  unfold slot
  rw [List.getElem?_set]
  by_cases h : i = j
  · subst h
    rw [if_pos rfl, if_pos rfl, if_pos hi]
    rfl
  · rw [if_neg h, if_neg h]
theorem set_get {α : Type} {l : List α} {i j : Nat} {x y : α} (h : (l.set i x)[j]? = some y) : (i = j ∧ x = y) ∨ (i ≠ j ∧ l[j]? = some y) := by
  rw [List.getElem?_set] at h
  by_cases e : i = j
  · subst e
    rw [if_pos rfl] at h
    by_cases h2 : i < l.length
    · rw [if_pos h2] at h
      exact .inl ⟨rfl, Option.some.inj h⟩
    · rw [if_neg h2] at h
      cases h
  · rw [if_neg e] at h
    exact .inr ⟨e, h⟩
theorem EnvOk.set (I : EnvOk K E Γ g ρ σ H) {i : Nat} {s : Sl} {o : Option V} (hs : SOk K E Γ H s o) (hn : ∀ ds, s ≠ .own ds) (hi : i < ρ.length) : EnvOk K E Γ g (ρ.set i s) (σ.set i o) H where
  len := by rw [List.length_set, List.length_set]; exact I.len
  sl := fun j s' h => by
    rw [slot_set (by rw [I.len]; exact hi)]
    rcases set_get h with ⟨e, e2⟩ | ⟨e, e2⟩
    · rw [if_pos e, ← e2]
      exact hs
    · rw [if_neg e]
      exact I.sl j s' e2
  dis := fun j k x y a hjk h1 h2 h3 h4 => by
    have hi' : i < σ.length := by rw [I.len]; exact hi
    rcases set_get h1 with ⟨e, e2⟩ | ⟨e, e2⟩
    · exact hn _ e2
    · rcases set_get h2 with ⟨f, f2⟩ | ⟨f, f2⟩
      · exact hn _ f2
      · rw [slot_set hi', if_neg e] at h3
        rw [slot_set hi', if_neg f] at h4
        exact I.dis j k x y a hjk e2 f2 h3 h4
  hp := I.hp
  fr := I.fr
  gle := I.gle
  pv := I.pv
end
end PL
set_option maxRecDepth 100000
set_option maxHeartbeats 4000000
set_option autoImplicit false
/-! MV1: a calculus of owned trees over the hand layer: what a name holds is frozen data or a tree of objects that nobody else holds. -/
namespace MV
open PySem L2 PyProof.Rows PL
abbrev FP := Addr → Prop
def Emp (F : FP) : Prop := ∀ b, ¬ F b
def Dj (F G : FP) : Prop := ∀ b, F b → G b → False
def Or2 (F G : FP) : FP := fun b => F b ∨ G b
theorem Dj.symm {F G : FP} (h : Dj F G) : Dj G F := fun b x y => h b y x
theorem Dj.sub {F G F' G' : FP} (h : Dj F G) (a : ∀ b, F' b → F b) (c : ∀ b, G' b → G b) : Dj F' G' := fun b x y => h b (a b x) (c b y)
theorem emp_false : Emp (fun _ => False) := fun _ h => h
theorem Emp.dj {F G : FP} (h : Emp F) : Dj F G := fun b x _ => h b x
theorem Emp.dj' {F G : FP} (h : Emp F) : Dj G F := fun b _ x => h b x

inductive Stp where
  | ix (n : Nat)
  | fld (f : Str)
inductive Ow where
  | any
  | is (v : V)
  | d (p : PyData)
  | scr (ns : List Int)
  | pen (ns : List Int)
  | ls (ds : List PyData)
  | lst (xs : List Ow)
  | dc (kvs : List (Key × PyData))
  | ins (C : Addr) (fs : List (Str × Ow))
  | fz (o : Ow)
/-- what may be read again and again -/
def Ow.cp : Ow → Prop
  | .is _ => True
  | .d _ => True
  | .scr _ => True
  | .fz _ => True
  | _ => False
/-- the ints that a pen draws from -/
def Ints (K : PySem.W.Frag) (Z : Hp) (v : V) (ns : List Int) : Prop := ∃ a, v = .ref a ∧ SqL K Z a (ns.map V.int)

/-- a dict's keys and data -/
def DaKv (K : PySem.W.Frag) (Z : Hp) (vs : List (Key × V)) (ds : List (Key × PyData)) : Prop := Paired (fun (p : Key × V) (q : Key × PyData) => p.1 = q.1 ∧ Da K Z p.2 q.2) vs ds
mutual
/-- frozen -/
inductive FzOk (K : PySem.W.Frag) (Z : Hp) : Ow → V → Prop
  | d {v : V} {p : PyData} (h : Da K Z v p) : FzOk K Z (.d p) v
  | lst {a : Addr} {vs : List V} {xs : List Ow} (h : Z a = some (.lst vs)) (r : FzAll K Z xs vs) : FzOk K Z (.lst xs) (.ref a)
  | dc {a : Addr} {vs : List (Key × V)} {xs : List (Key × PyData)} (h : Z a = some (.dK vs)) (r : DaKv K Z vs xs) : FzOk K Z (.dc xs) (.ref a)
  | ins {a C dx : Addr} {vs : List (Str × V)} {xs : List (Str × Ow)} (h : Z a = some (.ins C dx vs)) (r : FzFs K Z xs vs) : FzOk K Z (.ins C xs) (.ref a)
inductive FzAll (K : PySem.W.Frag) (Z : Hp) : List Ow → List V → Prop
  | nil : FzAll K Z [] []
  | cons {x : Ow} {v : V} {xs : List Ow} {vs : List V} (h : FzOk K Z x v) (t : FzAll K Z xs vs) : FzAll K Z (x :: xs) (v :: vs)
inductive FzFs (K : PySem.W.Frag) (Z : Hp) : List (Str × Ow) → List (Str × V) → Prop
  | nil : FzFs K Z [] []
  | cons {f : Str} {x : Ow} {v : V} {xs : List (Str × Ow)} {vs : List (Str × V)} (h : FzOk K Z x v) (t : FzFs K Z xs vs) : FzFs K Z ((f, x) :: xs) ((f, v) :: vs)
end
mutual
inductive OwOk (K : PySem.W.Frag) (Z H : Hp) : Ow → V → FP → Prop
  | any {v : V} {F : FP} (e : Emp F) : OwOk K Z H .any v F
  | is {v : V} {F : FP} (e : Emp F) : OwOk K Z H (.is v) v F
  | d {v : V} {p : PyData} {F : FP} (h : Da K Z v p) (e : Emp F) : OwOk K Z H (.d p) v F
  | scr {v : V} {ns : List Int} {F : FP} (h : Ints K Z v ns) (e : Emp F) : OwOk K Z H (.scr ns) v F
  | pen {a : Addr} {v0 : V} {ns : List Int} {i c : Int} {F : FP} (h : H a = some (.lst [v0, .int i, .int c])) (z : Z a = none) (r : Ints K Z v0 ns) (hi : 0 ≤ i) (hc : 0 ≤ c) (e : ∀ b, F b ↔ b = a) : OwOk K Z H (.pen ns) (.ref a) F
  | lst {a : Addr} {vs : List V} {xs : List Ow} {F F1 : FP} (h : H a = some (.lst vs)) (z : Z a = none) (r : OwAll K Z H xs vs F1) (n : ¬ F1 a) (e : ∀ b, F b ↔ b = a ∨ F1 b) : OwOk K Z H (.lst xs) (.ref a) F
  | dc {a : Addr} {vs : List (Key × V)} {xs : List (Key × PyData)} {F : FP} (h : H a = some (.dK vs)) (z : Z a = none) (r : DaKv K Z vs xs) (e : ∀ b, F b ↔ b = a) : OwOk K Z H (.dc xs) (.ref a) F
  | ls {a : Addr} {vs : List V} {xs : List PyData} {F : FP} (h : H a = some (.lst vs)) (z : Z a = none) (r : DaAll K Z vs xs) (e : ∀ b, F b ↔ b = a) : OwOk K Z H (.ls xs) (.ref a) F
  | ins {a C dx : Addr} {vs : List (Str × V)} {xs : List (Str × Ow)} {F F1 : FP} (h : H a = some (.ins C dx vs)) (z : Z a = none) (r : OwFs K Z H xs vs F1) (n : ¬ F1 a) (e : ∀ b, F b ↔ b = a ∨ F1 b) : OwOk K Z H (.ins C xs) (.ref a) F
  | fz {v : V} {o : Ow} {F : FP} (h : FzOk K Z o v) (e : Emp F) : OwOk K Z H (.fz o) v F
inductive OwAll (K : PySem.W.Frag) (Z H : Hp) : List Ow → List V → FP → Prop
  | nil {F : FP} (e : Emp F) : OwAll K Z H [] [] F
  | cons {x : Ow} {v : V} {xs : List Ow} {vs : List V} {F F1 F2 : FP} (h : OwOk K Z H x v F1) (t : OwAll K Z H xs vs F2) (d : Dj F1 F2) (e : ∀ b, F b ↔ F1 b ∨ F2 b) : OwAll K Z H (x :: xs) (v :: vs) F
inductive OwFs (K : PySem.W.Frag) (Z H : Hp) : List (Str × Ow) → List (Str × V) → FP → Prop
  | nil {F : FP} (e : Emp F) : OwFs K Z H [] [] F
  | cons {f : Str} {x : Ow} {v : V} {xs : List (Str × Ow)} {vs : List (Str × V)} {F F1 F2 : FP} (h : OwOk K Z H x v F1) (t : OwFs K Z H xs vs F2) (d : Dj F1 F2) (e : ∀ b, F b ↔ F1 b ∨ F2 b) : OwFs K Z H ((f, x) :: xs) ((f, v) :: vs) F
end
section
variable {K : PySem.W.Frag} {Z Z' H H' : Hp} {F F' : FP}
theorem Ints.mono (k : Sub Z Z') {v : V} {ns : List Int} (h : Ints K Z v ns) : Ints K Z' v ns := let ⟨a, e, q⟩ := h; ⟨a, e, k.sqL q⟩
theorem DaKv.mono (k : Sub Z Z') {vs : List (Key × V)} {ds : List (Key × PyData)} (h : DaKv K Z vs ds) : DaKv K Z' vs ds := L2.Paired.mapP h fun _ _ q => ⟨q.1, q.2.mono k⟩
mutual
theorem FzOk.mono (k : Sub Z Z') : ∀ {o : Ow} {v : V}, FzOk K Z o v → FzOk K Z' o v
  | _, _, .d h => .d (h.mono k)
  | _, _, .lst h r => .lst (k _ _ h) (FzAll.mono k r)
  | _, _, .dc h r => .dc (k _ _ h) (r.mono k)
  | _, _, .ins h r => .ins (k _ _ h) (FzFs.mono k r)
theorem FzAll.mono (k : Sub Z Z') : ∀ {o : List Ow} {v : List V}, FzAll K Z o v → FzAll K Z' o v
  | _, _, .nil => .nil
  | _, _, .cons h t => .cons (FzOk.mono k h) (FzAll.mono k t)
theorem FzFs.mono (k : Sub Z Z') : ∀ {o : List (Str × Ow)} {v : List (Str × V)}, FzFs K Z o v → FzFs K Z' o v
  | _, _, .nil => .nil
  | _, _, .cons h t => .cons (FzOk.mono k h) (FzFs.mono k t)
end
mutual
/-- the objects owned are there, and not frozen -/
theorem OwOk.fp : ∀ {o : Ow} {v : V} {F : FP}, OwOk K Z H o v F → ∀ b, F b → (∃ u, H b = some u) ∧ Z b = none
  | _, _, _, .any e, b, h => (e b h).elim
  | _, _, _, .is e, b, h => (e b h).elim
  | _, _, _, .d _ e, b, h => (e b h).elim
  | _, _, _, .scr _ e, b, h => (e b h).elim
  | _, _, _, .fz _ e, b, h => (e b h).elim
  | _, _, _, .pen h z _ _ _ e, b, q => by rw [(e b).mp q]; exact ⟨⟨_, h⟩, z⟩
  | _, _, _, .lst h z r _ e, b, q => by
    rcases (e b).mp q with q | q
    · rw [q]; exact ⟨⟨_, h⟩, z⟩
    · exact OwAll.fp r b q
  | _, _, _, .dc h z _ e, b, q => by rw [(e b).mp q]; exact ⟨⟨_, h⟩, z⟩
  | _, _, _, .ls h z _ e, b, q => by rw [(e b).mp q]; exact ⟨⟨_, h⟩, z⟩
  | _, _, _, .ins h z r _ e, b, q => by
    rcases (e b).mp q with q | q
    · rw [q]; exact ⟨⟨_, h⟩, z⟩
    · exact OwFs.fp r b q
theorem OwAll.fp : ∀ {o : List Ow} {v : List V} {F : FP}, OwAll K Z H o v F → ∀ b, F b → (∃ u, H b = some u) ∧ Z b = none
  | _, _, _, .nil e, b, h => (e b h).elim
  | _, _, _, .cons h t _ e, b, q => ((e b).mp q).elim (OwOk.fp h b) (OwAll.fp t b)
theorem OwFs.fp : ∀ {o : List (Str × Ow)} {v : List (Str × V)} {F : FP}, OwFs K Z H o v F → ∀ b, F b → (∃ u, H b = some u) ∧ Z b = none
  | _, _, _, .nil e, b, h => (e b h).elim
  | _, _, _, .cons h t _ e, b, q => ((e b).mp q).elim (OwOk.fp h b) (OwFs.fp t b)
end
mutual
/-- what is owned stays where its objects stay -/
theorem OwOk.mv (k : Sub Z Z') : ∀ {o : Ow} {v : V} {F : FP}, OwOk K Z H o v F → (∀ b, F b → Z' b = none ∧ H' b = H b) → OwOk K Z' H' o v F
  | _, _, _, .any e, _ => .any e
  | _, _, _, .is e, _ => .is e
  | _, _, _, .d h e, _ => .d (h.mono k) e
  | _, _, _, .scr h e, _ => .scr (h.mono k) e
  | _, _, _, .fz h e, _ => .fz (h.mono k) e
  | _, _, _, .pen h z r hi hc e, q => .pen (by rw [(q _ ((e _).mpr rfl)).2]; exact h) (q _ ((e _).mpr rfl)).1 (r.mono k) hi hc e
  | _, _, _, .lst h z r n e, q => .lst (by rw [(q _ ((e _).mpr (.inl rfl))).2]; exact h) (q _ ((e _).mpr (.inl rfl))).1 (OwAll.mv k r fun b hb => q b ((e b).mpr (.inr hb))) n e
  | _, _, _, .dc h z r e, q => .dc (by rw [(q _ ((e _).mpr rfl)).2]; exact h) (q _ ((e _).mpr rfl)).1 (r.mono k) e
  | _, _, _, .ls h z r e, q => .ls (by rw [(q _ ((e _).mpr rfl)).2]; exact h) (q _ ((e _).mpr rfl)).1 (r.mono k) e
  | _, _, _, .ins h z r n e, q => .ins (by rw [(q _ ((e _).mpr (.inl rfl))).2]; exact h) (q _ ((e _).mpr (.inl rfl))).1 (OwFs.mv k r fun b hb => q b ((e b).mpr (.inr hb))) n e
theorem OwAll.mv (k : Sub Z Z') : ∀ {o : List Ow} {v : List V} {F : FP}, OwAll K Z H o v F → (∀ b, F b → Z' b = none ∧ H' b = H b) → OwAll K Z' H' o v F
  | _, _, _, .nil e, _ => .nil e
  | _, _, _, .cons h t d e, q => .cons (OwOk.mv k h fun b hb => q b ((e b).mpr (.inl hb))) (OwAll.mv k t fun b hb => q b ((e b).mpr (.inr hb))) d e
theorem OwFs.mv (k : Sub Z Z') : ∀ {o : List (Str × Ow)} {v : List (Str × V)} {F : FP}, OwFs K Z H o v F → (∀ b, F b → Z' b = none ∧ H' b = H b) → OwFs K Z' H' o v F
  | _, _, _, .nil e, _ => .nil e
  | _, _, _, .cons h t d e, q => .cons (OwOk.mv k h fun b hb => q b ((e b).mpr (.inl hb))) (OwFs.mv k t fun b hb => q b ((e b).mpr (.inr hb))) d e
end
theorem OwAll.length : ∀ {o : List Ow} {v : List V} {F : FP}, OwAll K Z H o v F → o.length = v.length
  | _, _, _, .nil _ => rfl
  | _, _, _, .cons _ t _ _ => congrArg (· + 1) t.length
theorem OwOk.cpF {o : Ow} {v : V} (c : o.cp) (h : OwOk K Z H o v F) : Emp F := by
  cases h with
  | is e => exact e
  | d _ e => exact e
  | scr _ e => exact e
  | fz _ e => exact e
  | any e => exact e
  | pen => exact c.elim
  | lst => exact c.elim
  | dc => exact c.elim
  | ls => exact c.elim
  | ins => exact c.elim

/-! ### slots -/
inductive SlAll (K : PySem.W.Frag) (Z H : Hp) : List Ow → L2.St → FP → Prop
  | nil {F : FP} (e : Emp F) : SlAll K Z H [] [] F
  | no {xs : List Ow} {σ : L2.St} {F : FP} (t : SlAll K Z H xs σ F) : SlAll K Z H (.any :: xs) (none :: σ) F
  | so {x : Ow} {v : V} {xs : List Ow} {σ : L2.St} {F F1 F2 : FP} (h : OwOk K Z H x v F1) (t : SlAll K Z H xs σ F2) (d : Dj F1 F2) (e : ∀ b, F b ↔ F1 b ∨ F2 b) : SlAll K Z H (x :: xs) (some v :: σ) F
theorem SlAll.fp : ∀ {o : List Ow} {v : L2.St} {F : FP}, SlAll K Z H o v F → ∀ b, F b → (∃ u, H b = some u) ∧ Z b = none
  | _, _, _, .nil e, b, h => (e b h).elim
  | _, _, _, .no t, b, h => SlAll.fp t b h
  | _, _, _, .so h t _ e, b, q => ((e b).mp q).elim (OwOk.fp h b) (SlAll.fp t b)
theorem SlAll.mv (k : Sub Z Z') : ∀ {o : List Ow} {v : L2.St} {F : FP}, SlAll K Z H o v F → (∀ b, F b → Z' b = none ∧ H' b = H b) → SlAll K Z' H' o v F
  | _, _, _, .nil e, _ => .nil e
  | _, _, _, .no t, q => .no (SlAll.mv k t q)
  | _, _, _, .so h t d e, q => .so (OwOk.mv k h fun b hb => q b ((e b).mpr (.inl hb))) (SlAll.mv k t fun b hb => q b ((e b).mpr (.inr hb))) d e
theorem SlAll.length : ∀ {o : List Ow} {v : L2.St} {F : FP}, SlAll K Z H o v F → v.length = o.length
  | _, _, _, .nil _ => rfl
  | _, _, _, .no t => congrArg (· + 1) t.length
  | _, _, _, .so _ t _ _ => congrArg (· + 1) t.length

/-! ### paths -/
def Ow.fzd : Ow → Ow
  | .d p => .d p
  | o => .fz o
def getF (f : Str) : List (Str × Ow) → Option Ow
  | [] => none
  | (g, x) :: r => if g = f then some x else getF f r
def setF (f : Str) (y : Ow) : List (Str × Ow) → List (Str × Ow)
  | [] => [(f, y)]
  | (g, x) :: r => if g = f then (g, y) :: r else (g, x) :: setF f y r
def Ow.get : Ow → List Stp → Option Ow
  | o, [] => some o
  | .lst xs, .ix n :: p => match xs[n]? with
    | some x => x.get p
    | none => none
  | .ins _ fs, .fld f :: p => match getF f fs with
    | some x => x.get p
    | none => none
  | _, _ => none
def Ow.put : Ow → List Stp → Ow → Ow
  | _, [], y => y
  | .lst xs, .ix n :: p, y => match xs[n]? with
    | some x => .lst (xs.set n (x.put p y))
    | none => .lst xs
  | .ins C fs, .fld f :: p, y => match getF f fs with
    | some x => .ins C (setF f (x.put p y) fs)
    | none => .ins C fs
  | o, _, _ => o
/-- where the path leads -/
def At (H : Hp) : V → List Stp → V → Prop
  | v, [], u => u = v
  | v, .ix n :: p, u => ∃ a vs x, v = .ref a ∧ H a = some (.lst vs) ∧ vs[n]? = some x ∧ At H x p u
  | v, .fld f :: p, u => ∃ a C dx fs x, v = .ref a ∧ H a = some (.ins C dx fs) ∧ fs.lookup f = some x ∧ At H x p u
theorem OwAll.get : ∀ {xs : List Ow} {vs : List V} {F : FP} {n : Nat} {x : Ow}, OwAll K Z H xs vs F → xs[n]? = some x →
    ∃ v F1 F2, vs[n]? = some v ∧ OwOk K Z H x v F1 ∧ Dj F1 F2 ∧ (∀ b, F b ↔ F1 b ∨ F2 b) ∧ ∀ (Z' H' : Hp) (x' : Ow) (v' : V) (F1' : FP), Sub Z Z' → (∀ b, F2 b → Z' b = none ∧ H' b = H b) → OwOk K Z' H' x' v' F1' → Dj F1' F2 →
      OwAll K Z' H' (xs.set n x') (vs.set n v') (Or2 F1' F2)
  | _, _, _, _, _, .nil _, h => by simp at h
  | _, _, _, 0, _, .cons (F1 := F1) (F2 := F2) a t d e, h => by
    have q := Option.some.inj h
    subst q
    exact ⟨_, F1, F2, rfl, a, d, e, fun Z' H' x' v' F1' k s o j => .cons o (t.mv k s) j fun b => Iff.rfl⟩
  | _, _, F, n + 1, _, .cons (F1 := F1) (F2 := F2) a t d e, h => by
    obtain ⟨v, G1, G2, h1, h2, h3, h4, h5⟩ := t.get (n := n) h
    refine ⟨v, G1, Or2 F1 G2, h1, h2, fun b x y => y.elim (fun y => d b y ((h4 b).mpr (.inl x))) (h3 b x), fun b => ?_, fun Z' H' x' v' F1' k s o j => ?_⟩
    · rw [e b, h4 b]
      show _ ↔ G1 b ∨ (F1 b ∨ G2 b)
      constructor
      · rintro (x | x | x)
        · exact .inr (.inl x)
        · exact .inl x
        · exact .inr (.inr x)
      · rintro (x | x | x)
        · exact .inr (.inl x)
        · exact .inl x
        · exact .inr (.inr x)
    · refine .cons (a.mv k fun b hb => s b (.inl hb)) (h5 Z' H' x' v' F1' k (fun b hb => s b (.inr hb)) o (j.sub (fun _ z => z) fun _ z => .inr z)) (fun b x y => y.elim (fun y => j b y (.inl x)) fun y => d b x ((h4 b).mpr (.inr y))) fun b => ?_
      show F1' b ∨ (F1 b ∨ G2 b) ↔ F1 b ∨ (F1' b ∨ G2 b)
      constructor
      · rintro (x | x | x)
        · exact .inr (.inl x)
        · exact .inl x
        · exact .inr (.inr x)
      · rintro (x | x | x)
        · exact .inr (.inl x)
        · exact .inl x
        · exact .inr (.inr x)
theorem beq_ne {f g : Str} (h : ¬ g = f) : (f == g) = false := beq_eq_false_iff_ne.mpr fun e => h e.symm
theorem OwFs.get : ∀ {xs : List (Str × Ow)} {vs : List (Str × V)} {F : FP} {f : Str} {x : Ow}, OwFs K Z H xs vs F → getF f xs = some x →
    ∃ v F1 F2, vs.lookup f = some v ∧ OwOk K Z H x v F1 ∧ Dj F1 F2 ∧ (∀ b, F b ↔ F1 b ∨ F2 b) ∧ ∀ (Z' H' : Hp) (x' : Ow) (v' : V) (F1' : FP), Sub Z Z' → (∀ b, F2 b → Z' b = none ∧ H' b = H b) → OwOk K Z' H' x' v' F1' → Dj F1' F2 →
      OwFs K Z' H' (setF f x' xs) (putF f v' vs) (Or2 F1' F2)
  | _, _, _, _, _, .nil _, h => by simp [getF] at h
  | (g, y) :: xs, _, F, f, x, .cons (v := w) (vs := vs) (F1 := F1) (F2 := F2) a t d e, h => by
    unfold getF at h
    by_cases q : g = f
    · rw [if_pos q] at h
      cases h
      subst q
      refine ⟨_, F1, F2, by simp [List.lookup], a, d, e, fun Z' H' x' v' F1' k s o j => ?_⟩
      unfold setF putF
      rw [if_pos rfl, if_pos rfl]
      exact .cons o (t.mv k s) j fun b => Iff.rfl
    · rw [if_neg q] at h
      obtain ⟨v, G1, G2, h1, h2, h3, h4, h5⟩ := t.get (f := f) h
      refine ⟨v, G1, Or2 F1 G2, by rw [List.lookup_cons, beq_ne q]; exact h1, h2, fun b x y => y.elim (fun y => d b y ((h4 b).mpr (.inl x))) (h3 b x), fun b => ?_, fun Z' H' x' v' F1' k s o j => ?_⟩
      · rw [e b, h4 b]
        show _ ↔ G1 b ∨ (F1 b ∨ G2 b)
        constructor
        · rintro (x | x | x)
          · exact .inr (.inl x)
          · exact .inl x
          · exact .inr (.inr x)
        · rintro (x | x | x)
          · exact .inr (.inl x)
          · exact .inl x
          · exact .inr (.inr x)
      · unfold setF putF
        rw [if_neg q, if_neg q]
        refine .cons (a.mv k fun b hb => s b (.inl hb)) (h5 Z' H' x' v' F1' k (fun b hb => s b (.inr hb)) o (j.sub (fun _ z => z) fun _ z => .inr z)) (fun b x y => y.elim (fun y => j b y (.inl x)) fun y => d b x ((h4 b).mpr (.inr y))) fun b => ?_
        show F1' b ∨ (F1 b ∨ G2 b) ↔ F1 b ∨ (F1' b ∨ G2 b)
        constructor
        · rintro (x | x | x)
          · exact .inr (.inl x)
          · exact .inl x
          · exact .inr (.inr x)
        · rintro (x | x | x)
          · exact .inr (.inl x)
          · exact .inl x
          · exact .inr (.inr x)
theorem putF_lookup_same : ∀ {f : Str} {v : V} {vs : List (Str × V)}, vs.lookup f = some v → putF f v vs = vs
  | _, _, [], h => by simp at h
  | f, v, (g, w) :: vs, h => by
    unfold putF
    rw [List.lookup_cons] at h
    by_cases q : g = f
    · subst q
      rw [if_pos rfl]
      simp at h
      rw [h]
    · rw [if_neg q]
      rw [beq_ne q] at h
      rw [putF_lookup_same h]
theorem set_same {α : Type} {l : List α} {n : Nat} {x : α} (h : l[n]? = some x) : l.set n x = l := by
  apply List.ext_getElem?
  intro j
  rw [List.getElem?_set]
  by_cases e : n = j
  · subst e
    rw [if_pos rfl, if_pos (List.getElem?_eq_some_iff.mp h).1, h]
  · rw [if_neg e]
/-- a part of a tree: what it is, and what else may stand there -/
theorem OwOk.focus : ∀ {p : List Stp} {o : Ow} {v : V} {F : FP} {o1 : Ow}, OwOk K Z H o v F → o.get p = some o1 →
    ∃ v1 F1 F2, At H v p v1 ∧ OwOk K Z H o1 v1 F1 ∧ Dj F1 F2 ∧ (∀ b, F b ↔ F1 b ∨ F2 b) ∧ ∀ (Z' H' : Hp) (o1' : Ow) (F1' : FP), Sub Z Z' → (∀ b, F2 b → Z' b = none ∧ H' b = H b) → OwOk K Z' H' o1' v1 F1' → Dj F1' F2 →
      OwOk K Z' H' (o.put p o1') v (Or2 F1' F2)
  | [], o, v, F, o1, h, g => by
    have e : o = o1 := by
      unfold Ow.get at g
      exact Option.some.inj g
    subst e
    refine ⟨v, F, fun _ => False, rfl, h, fun _ _ z => z, fun b => by simp, fun Z' H' o1' F1' k s q j => ?_⟩
    have e : Or2 F1' (fun _ => False) = F1' := funext fun b => propext (by simp [Or2])
    rw [e]
    unfold Ow.put
    exact q
  | .ix n :: p, o, v, F, o1, h, g => by
    cases o with
    | lst xs =>
      unfold Ow.get at g
      cases hx : xs[n]? with
      | none => rw [hx] at g; cases g
      | some x =>
        rw [hx] at g
        cases h with
        | @lst a vs _ _ G h1 z r nn e =>
          obtain ⟨w, G1, G2, w1, w2, w3, w4, w5⟩ := r.get hx
          obtain ⟨v1, E1, E2, a1, a2, a3, a4, a5⟩ := OwOk.focus (p := p) w2 g
          refine ⟨v1, E1, fun b => b = a ∨ E2 b ∨ G2 b, ⟨a, vs, w, rfl, h1, w1, a1⟩, a2, fun b x y => ?_, fun b => ?_, fun Z' H' o1' F1' k s q j => ?_⟩
          · rcases y with y | y | y
            · subst y
              exact nn ((w4 _).mpr (.inl ((a4 _).mpr (.inl x))))
            · exact a3 b x y
            · exact w3 b ((a4 _).mpr (.inl x)) y
          · rw [e b, w4 b, a4 b]
            constructor
            · rintro (x | (x | x) | x)
              · exact .inr (.inl x)
              · exact .inl x
              · exact .inr (.inr (.inl x))
              · exact .inr (.inr (.inr x))
            · rintro (x | x | x | x)
              · exact .inr (.inl (.inl x))
              · exact .inl x
              · exact .inr (.inl (.inr x))
              · exact .inr (.inr x)
          · have q2 := a5 Z' H' o1' F1' k (fun b hb => s b (.inr (.inl hb))) q (j.sub (fun _ z => z) fun _ z => .inr (.inl z))
            have dj2 : Dj (Or2 F1' E2) G2 := fun b x y => x.elim (fun x => j b x (.inr (.inr y))) fun x => w3 b ((a4 b).mpr (.inr x)) y
            have q3 := w5 Z' H' (x.put p o1') w _ k (fun b hb => s b (.inr (.inr hb))) q2 dj2
            rw [set_same w1] at q3
            unfold Ow.put
            rw [hx]
            have sa := s a (.inl rfl)
            refine .lst (by rw [sa.2]; exact h1) sa.1 q3 (fun z => ?_) fun b => ?_
            · rcases z with (z | z) | z
              · exact j a z (.inl rfl)
              · exact nn ((w4 a).mpr (.inl ((a4 a).mpr (.inr z))))
              · exact nn ((w4 a).mpr (.inr z))
            · show F1' b ∨ (b = a ∨ E2 b ∨ G2 b) ↔ b = a ∨ ((F1' b ∨ E2 b) ∨ G2 b)
              constructor
              · rintro (x | x | x | x)
                · exact .inr (.inl (.inl x))
                · exact .inl x
                · exact .inr (.inl (.inr x))
                · exact .inr (.inr x)
              · rintro (x | (x | x) | x)
                · exact .inr (.inl x)
                · exact .inl x
                · exact .inr (.inr (.inl x))
                · exact .inr (.inr (.inr x))
    | any => cases g
    | is _ => cases g
    | d _ => cases g
    | scr _ => cases g
    | pen _ => cases g
    | dc _ => cases g
    | ls _ => cases g
    | ins _ _ => cases g
    | fz _ => cases g
  | .fld f :: p, o, v, F, o1, h, g => by
    cases o with
    | ins C xs =>
      unfold Ow.get at g
      cases hx : getF f xs with
      | none => rw [hx] at g; cases g
      | some x =>
        rw [hx] at g
        cases h with
        | @ins a _ dx vs _ _ G h1 z r nn e =>
          obtain ⟨w, G1, G2, w1, w2, w3, w4, w5⟩ := r.get hx
          obtain ⟨v1, E1, E2, a1, a2, a3, a4, a5⟩ := OwOk.focus (p := p) w2 g
          refine ⟨v1, E1, fun b => b = a ∨ E2 b ∨ G2 b, ⟨a, C, dx, vs, w, rfl, h1, w1, a1⟩, a2, fun b x y => ?_, fun b => ?_, fun Z' H' o1' F1' k s q j => ?_⟩
          · rcases y with y | y | y
            · subst y
              exact nn ((w4 _).mpr (.inl ((a4 _).mpr (.inl x))))
            · exact a3 b x y
            · exact w3 b ((a4 _).mpr (.inl x)) y
          · rw [e b, w4 b, a4 b]
            constructor
            · rintro (x | (x | x) | x)
              · exact .inr (.inl x)
              · exact .inl x
              · exact .inr (.inr (.inl x))
              · exact .inr (.inr (.inr x))
            · rintro (x | x | x | x)
              · exact .inr (.inl (.inl x))
              · exact .inl x
              · exact .inr (.inl (.inr x))
              · exact .inr (.inr x)
          · have q2 := a5 Z' H' o1' F1' k (fun b hb => s b (.inr (.inl hb))) q (j.sub (fun _ z => z) fun _ z => .inr (.inl z))
            have dj2 : Dj (Or2 F1' E2) G2 := fun b x y => x.elim (fun x => j b x (.inr (.inr y))) fun x => w3 b ((a4 b).mpr (.inr x)) y
            have q3 := w5 Z' H' (x.put p o1') w _ k (fun b hb => s b (.inr (.inr hb))) q2 dj2
            rw [putF_lookup_same w1] at q3
            unfold Ow.put
            rw [hx]
            have sa := s a (.inl rfl)
            refine .ins (by rw [sa.2]; exact h1) sa.1 q3 (fun z => ?_) fun b => ?_
            · rcases z with (z | z) | z
              · exact j a z (.inl rfl)
              · exact nn ((w4 a).mpr (.inl ((a4 a).mpr (.inr z))))
              · exact nn ((w4 a).mpr (.inr z))
            · show F1' b ∨ (b = a ∨ E2 b ∨ G2 b) ↔ b = a ∨ ((F1' b ∨ E2 b) ∨ G2 b)
              constructor
              · rintro (x | x | x | x)
                · exact .inr (.inl (.inl x))
                · exact .inl x
                · exact .inr (.inl (.inr x))
                · exact .inr (.inr x)
              · rintro (x | (x | x) | x)
                · exact .inr (.inl x)
                · exact .inl x
                · exact .inr (.inr (.inl x))
                · exact .inr (.inr (.inr x))
    | any => cases g
    | is _ => cases g
    | d _ => cases g
    | scr _ => cases g
    | pen _ => cases g
    | dc _ => cases g
    | ls _ => cases g
    | lst _ => cases g
    | fz _ => cases g
theorem At.fn : ∀ {p : List Stp} {v u w : V}, At H v p u → At H v p w → u = w
  | [], _, _, _, h, k => by
    have h : _ = _ := h
    have k : _ = _ := k
    rw [h, k]
  | .ix n :: p, _, _, _, h, k => by
    obtain ⟨a, vs, x, e, h1, h2, h3⟩ := h
    obtain ⟨a', vs', x', e', k1, k2, k3⟩ := k
    rw [e] at e'
    cases e'
    rw [h1] at k1
    cases k1
    rw [h2] at k2
    cases k2
    exact At.fn h3 k3
  | .fld f :: p, _, _, _, h, k => by
    obtain ⟨a, C, dx, vs, x, e, h1, h2, h3⟩ := h
    obtain ⟨a', C', dx', vs', x', e', k1, k2, k3⟩ := k
    rw [e] at e'
    cases e'
    rw [h1] at k1
    cases k1
    rw [h2] at k2
    cases k2
    exact At.fn h3 k3
end
end MV
set_option maxRecDepth 100000
set_option maxHeartbeats 4000000
set_option autoImplicit false
/-! MV2: states, what may become of them, what a term promises. -/
namespace MV
open PySem L2 PyProof.Rows PL
section
variable {K : PySem.W.Frag} {Z Z' Z1 Z2 H H' H1 H2 : Hp} {F F' F1 F2 G G' : FP} {ρ ρ' : List Ow} {σ σ' : L2.St}
theorem SlAll.get : ∀ {ρ : List Ow} {σ : L2.St} {F : FP} {n : Nat} {x : Ow}, SlAll K Z H ρ σ F → ρ[n]? = some x → x ≠ .any →
    ∃ v F1 F2, σ[n]? = some (some v) ∧ OwOk K Z H x v F1 ∧ Dj F1 F2 ∧ (∀ b, F b ↔ F1 b ∨ F2 b) ∧ ∀ (Z' H' : Hp) (x' : Ow) (v' : V) (F1' : FP), Sub Z Z' → (∀ b, F2 b → Z' b = none ∧ H' b = H b) → OwOk K Z' H' x' v' F1' → Dj F1' F2 →
      SlAll K Z' H' (ρ.set n x') (σ.set n (some v')) (Or2 F1' F2)
  | _, _, _, _, _, .nil _, h, _ => by simp at h
  | _, _, _, 0, _, .no t, h, hn => by
    have q := Option.some.inj h
    exact absurd q.symm hn
  | _, _, _, 0, _, .so (F1 := F1) (F2 := F2) a t d e, h, _ => by
    have q := Option.some.inj h
    subst q
    exact ⟨_, F1, F2, rfl, a, d, e, fun Z' H' x' v' F1' k s o j => .so o (t.mv k s) j fun b => Iff.rfl⟩
  | _, _, F, n + 1, _, .no t, h, hn => by
    obtain ⟨v, G1, G2, h1, h2, h3, h4, h5⟩ := t.get (n := n) h hn
    exact ⟨v, G1, G2, h1, h2, h3, h4, fun Z' H' x' v' F1' k s o j => .no (h5 Z' H' x' v' F1' k s o j)⟩
  | _, _, F, n + 1, _, .so (F1 := F1) (F2 := F2) a t d e, h, hn => by
    obtain ⟨v, G1, G2, h1, h2, h3, h4, h5⟩ := t.get (n := n) h hn
    refine ⟨v, G1, Or2 F1 G2, h1, h2, fun b x y => y.elim (fun y => d b y ((h4 b).mpr (.inl x))) (h3 b x), fun b => ?_, fun Z' H' x' v' F1' k s o j => ?_⟩
    · rw [e b, h4 b]
      show _ ↔ G1 b ∨ (F1 b ∨ G2 b)
      constructor
      · rintro (x | x | x)
        · exact .inr (.inl x)
        · exact .inl x
        · exact .inr (.inr x)
      · rintro (x | x | x)
        · exact .inr (.inl x)
        · exact .inl x
        · exact .inr (.inr x)
    · refine .so (a.mv k fun b hb => s b (.inl hb)) (h5 Z' H' x' v' F1' k (fun b hb => s b (.inr hb)) o (j.sub (fun _ z => z) fun _ z => .inr z)) (fun b x y => y.elim (fun y => j b y (.inl x)) fun y => d b x ((h4 b).mpr (.inr y))) fun b => ?_
      show F1' b ∨ (F1 b ∨ G2 b) ↔ F1 b ∨ (F1' b ∨ G2 b)
      constructor
      · rintro (x | x | x)
        · exact .inr (.inl x)
        · exact .inl x
        · exact .inr (.inr x)
      · rintro (x | x | x)
        · exact .inr (.inl x)
        · exact .inl x
        · exact .inr (.inr x)
/-- a name is bound anew: what it held is nobody's -/
theorem SlAll.bind : ∀ {ρ : List Ow} {σ : L2.St} {F : FP} {n : Nat}, SlAll K Z H ρ σ F → n < ρ.length →
    ∃ F2 : FP, (∀ b, F2 b → F b) ∧ ∀ (Z' H' : Hp) (x' : Ow) (v' : V) (F1' : FP), Sub Z Z' → (∀ b, F2 b → Z' b = none ∧ H' b = H b) → OwOk K Z' H' x' v' F1' → Dj F1' F2 →
      SlAll K Z' H' (ρ.set n x') (σ.set n (some v')) (Or2 F1' F2)
  | _, _, _, _, .nil _, h => by simp at h
  | _, _, F, 0, .no t, h => ⟨F, fun _ z => z, fun Z' H' x' v' F1' k s o j => .so o (t.mv k s) j fun b => Iff.rfl⟩
  | _, _, F, 0, .so (F1 := F1) (F2 := F2) a t d e, h => ⟨F2, fun b z => (e b).mpr (.inr z), fun Z' H' x' v' F1' k s o j => .so o (t.mv k s) j fun b => Iff.rfl⟩
  | _, _, F, n + 1, .no t, h => by
    obtain ⟨G2, h1, h5⟩ := t.bind (n := n) (Nat.lt_of_succ_lt_succ h)
    exact ⟨G2, h1, fun Z' H' x' v' F1' k s o j => .no (h5 Z' H' x' v' F1' k s o j)⟩
  | _, _, F, n + 1, .so (F1 := F1) (F2 := F2) a t d e, h => by
    obtain ⟨G2, h1, h5⟩ := t.bind (n := n) (Nat.lt_of_succ_lt_succ h)
    refine ⟨Or2 F1 G2, fun b z => (e b).mpr (z.imp id (h1 b)), fun Z' H' x' v' F1' k s o j => ?_⟩
    refine .so (a.mv k fun b hb => s b (.inl hb)) (h5 Z' H' x' v' F1' k (fun b hb => s b (.inr hb)) o (j.sub (fun _ z => z) fun _ z => .inr z)) (fun b x y => y.elim (fun y => j b y (.inl x)) fun y => d b x (h1 b y)) fun b => ?_
    show F1' b ∨ (F1 b ∨ G2 b) ↔ F1 b ∨ (F1' b ∨ G2 b)
    constructor
    · rintro (x | x | x)
      · exact .inr (.inl x)
      · exact .inl x
      · exact .inr (.inr x)
    · rintro (x | x | x)
      · exact .inr (.inl x)
      · exact .inl x
      · exact .inr (.inr x)
def getS (ρ : List Ow) (i : Nat) (p : List Stp) : Option Ow := match ρ[i]? with
  | some o => o.get p
  | none => none
def putS (ρ : List Ow) (i : Nat) (p : List Stp) (y : Ow) : List Ow := match ρ[i]? with
  | some o => ρ.set i (o.put p y)
  | none => ρ
def AtS (H : Hp) (σ : L2.St) (i : Nat) (p : List Stp) (v : V) : Prop := ∃ v0, σ[i]? = some (some v0) ∧ At H v0 p v
theorem AtS.fn {i : Nat} {p : List Stp} {u v : V} (h : AtS H σ i p u) (k : AtS H σ i p v) : u = v := by
  obtain ⟨a, h1, h2⟩ := h
  obtain ⟨b, k1, k2⟩ := k
  rw [h1] at k1
  cases k1
  exact At.fn h2 k2
theorem any_get {p : List Stp} {o : Ow} (h : Ow.any.get p = some o) (n : o ≠ .any) : False := by
  cases p with
  | nil =>
    unfold Ow.get at h
    exact n (Option.some.inj h).symm
  | cons s p => cases s <;> cases h
theorem SlAll.focus {i : Nat} {p : List Stp} {o1 : Ow} (h : SlAll K Z H ρ σ F) (g : getS ρ i p = some o1) (hn : o1 ≠ .any) :
    ∃ v1 F1 F2, AtS H σ i p v1 ∧ OwOk K Z H o1 v1 F1 ∧ Dj F1 F2 ∧ (∀ b, F b ↔ F1 b ∨ F2 b) ∧ ∀ (Z' H' : Hp) (o1' : Ow) (F1' : FP), Sub Z Z' → (∀ b, F2 b → Z' b = none ∧ H' b = H b) → OwOk K Z' H' o1' v1 F1' → Dj F1' F2 →
      SlAll K Z' H' (putS ρ i p o1') σ (Or2 F1' F2) := by
  unfold getS at g
  cases ho : ρ[i]? with
  | none => rw [ho] at g; cases g
  | some o =>
    rw [ho] at g
    have on : o ≠ .any := by
      rintro rfl
      exact any_get g hn
    obtain ⟨v, G1, G2, w1, w2, w3, w4, w5⟩ := h.get ho on
    obtain ⟨v1, E1, E2, a1, a2, a3, a4, a5⟩ := OwOk.focus w2 g
    refine ⟨v1, E1, Or2 E2 G2, ⟨v, w1, a1⟩, a2, fun b x y => y.elim (a3 b x) (w3 b ((a4 b).mpr (.inl x))), fun b => ?_, fun Z' H' o1' F1' k s q j => ?_⟩
    · rw [w4 b, a4 b]
      exact or_assoc
    · have q2 := a5 Z' H' o1' F1' k (fun b hb => s b (.inl hb)) q (j.sub (fun _ z => z) fun _ z => .inl z)
      have q3 := w5 Z' H' (o.put p o1') v _ k (fun b hb => s b (.inr hb)) q2 (fun b x y => x.elim (fun x => j b x (.inr y)) fun x => w3 b ((a4 b).mpr (.inr x)) y)
      rw [set_same w1] at q3
      have e : Or2 (Or2 F1' E2) G2 = Or2 F1' (Or2 E2 G2) := funext fun b => propext or_assoc
      rw [e] at q3
      unfold putS
      rw [ho]
      exact q3

/-! ### what may become of a state -/
structure Keep (Z H : Hp) (F : FP) (Z' H' : Hp) (F' : FP) : Prop where
  sub : Sub Z Z'
  new : ∀ a o, Z' a = some o → Z a = some o ∨ F a ∨ H a = none
  fr : ∀ a o, H a = some o → ¬ F a → H' a = some o
  fp : ∀ a, F' a → F a ∨ H a = none
theorem Keep.refl (Z H : Hp) (F : FP) : Keep Z H F Z H F := ⟨Sub.refl Z, fun _ _ h => .inl h, fun _ _ h _ => h, fun _ h => .inl h⟩
theorem Keep.none_of (k : Keep Z H F Z' H' F') {a : Addr} (h : H' a = none) (hn : ¬ F a) : H a = none := by
  cases e : H a with
  | none => rfl
  | some o =>
    rw [k.fr a o e hn] at h
    cases h
theorem Keep.trans (k : Keep Z H F Z1 H1 F1) (l : Keep Z1 H1 F1 Z2 H2 F2) : Keep Z H F Z2 H2 F2 where
  sub := k.sub.trans l.sub
  new := fun a o h => by
    by_cases hF : F a
    · exact .inr (.inl hF)
    · rcases l.new a o h with h | h | h
      · exact k.new a o h
      · exact .inr (k.fp a h)
      · exact .inr (.inr (k.none_of h hF))
  fr := fun a o h n => l.fr a o (k.fr a o h n) fun z => (k.fp a z).elim n fun z => by rw [h] at z; cases z
  fp := fun a h => by
    by_cases hF : F a
    · exact .inl hF
    · rcases l.fp a h with h | h
      · exact k.fp a h
      · exact .inr (k.none_of h hF)
theorem Keep.src (k : Keep Z H F Z' H' F') (h : ∀ b, F b → G b) : Keep Z H G Z' H' F' := ⟨k.sub, fun a o q => (k.new a o q).imp id fun z => z.imp (h a) id, fun a o q n => k.fr a o q fun z => n (h a z), fun a q => (k.fp a q).imp (h a) id⟩
theorem Keep.dst (k : Keep Z H F Z' H' F') (h : ∀ b, G b → F b ∨ H b = none) : Keep Z H F Z' H' G := ⟨k.sub, k.new, k.fr, h⟩
theorem Keep.dst' (k : Keep Z H F Z' H' F') (h : ∀ b, G b → F' b) : Keep Z H F Z' H' G := k.dst fun b q => k.fp b (h b q)
/-- with more owned ahead and behind -/
theorem Keep.more (k : Keep Z H F Z' H' F') : Keep Z H (Or2 F G) Z' H' (Or2 F' G) := (k.src fun _ h => .inl h).dst fun b h => h.elim (fun h => (k.fp b h).imp .inl id) fun h => .inl (.inr h)
/-- new objects: one that is owned, one that is frozen -/
theorem Keep.own {p : Addr} {o : HO} (hp : H p = none) : Keep Z H F Z (upd H p o) (Or2 F fun b => b = p) :=
  ⟨Sub.refl Z, fun _ _ h => .inl h, fun a u h _ => by rw [upd_ne (ne_of_none h hp)]; exact h, fun a h => h.imp id fun h => by rw [h]; exact hp⟩
theorem Keep.frz {p : Addr} {o : HO} (hp : H p = none) (hz : Sub Z H) : Keep Z H F (upd Z p o) (upd H p o) F where
  sub := fun a u h => by
    rw [upd_ne (ne_of_none (hz a u h) hp)]
    exact h
  new := fun a u h => by
    by_cases e : a = p
    · subst e
      exact .inr (.inr hp)
    · rw [upd_ne e] at h
      exact .inl h
  fr := fun a u h _ => by rw [upd_ne (ne_of_none h hp)]; exact h
  fp := fun a h => .inl h
theorem Keep.trash {p : Addr} {o : HO} (hp : H p = none) : Keep Z H F Z (upd H p o) F := (Keep.own hp).dst fun _ h => .inl h
theorem sub_upd {p : Addr} {o : HO} (hp : H p = none) (hz : Sub Z H) : Sub Z (upd H p o) := fun a u h => by
  have q := hz a u h
  rw [upd_ne (ne_of_none q hp)]
  exact q
theorem sub_upd2 {p : Addr} {o : HO} (hz : Sub Z H) : Sub (upd Z p o) (upd H p o) := fun a u h => by
  by_cases e : a = p
  · subst e
    rw [upd_same] at h ⊢
    exact h
  · rw [upd_ne e] at h ⊢
    exact hz a u h
/-- an owned object changes -/
theorem Keep.chg {p : Addr} {o : HO} (hp : F p) : Keep Z H F Z (upd H p o) F :=
  ⟨Sub.refl Z, fun _ _ h => .inl h, fun a u h n => by
    have e : a ≠ p := fun z => n (by rw [z]; exact hp)
    rw [upd_ne e]
    exact h, fun a h => .inl h⟩
theorem sub_chg {p : Addr} {o : HO} (hp : Z p = none) (hz : Sub Z H) : Sub Z (upd H p o) := fun a u h => by
  have e : a ≠ p := fun z => by rw [z, hp] at h; cases h
  rw [upd_ne e]
  exact hz a u h
theorem Keep.apart (k : Keep Z H F Z' H' F') (h : ∀ b, G b → (∃ u, H b = some u) ∧ Z b = none) (d : Dj G F) : (∀ b, G b → Z' b = none ∧ H' b = H b) ∧ Dj G F' := by
  refine ⟨fun b hb => ⟨?_, ?_⟩, fun b x y => ?_⟩
  · cases e : Z' b with
    | none => rfl
    | some o =>
      obtain ⟨⟨u, hu⟩, hz⟩ := h b hb
      rcases k.new b o e with q | q | q
      · rw [hz] at q; cases q
      · exact (d b hb q).elim
      · rw [hu] at q; cases q
  · obtain ⟨⟨u, hu⟩, hz⟩ := h b hb
    rw [hu]
    exact k.fr b u hu fun z => d b hb z
  · obtain ⟨⟨u, hu⟩, hz⟩ := h b x
    rcases k.fp b y with q | q
    · exact d b x q
    · rw [hu] at q; cases q

structure StOk (K : PySem.W.Frag) (Z H : Hp) (ρ : List Ow) (σ : L2.St) (F : FP) : Prop where
  sub : Sub Z H
  sl : SlAll K Z H ρ σ F
theorem StOk.tr (I : StOk K Z H ρ σ F) (k : Keep Z H G Z' H' G') (hs : Sub Z' H') (d : Dj F G) : StOk K Z' H' ρ σ F ∧ Dj F G' :=
  let ⟨q1, q2⟩ := k.apart (fun b hb => I.sl.fp b hb) d
  ⟨⟨hs, I.sl.mv k.sub q1⟩, q2⟩
theorem OwOk.tr {o : Ow} {v : V} (I : OwOk K Z H o v F) (k : Keep Z H G Z' H' G') (d : Dj F G) : OwOk K Z' H' o v F ∧ Dj F G' :=
  let ⟨q1, q2⟩ := k.apart (fun b hb => I.fp b hb) d
  ⟨I.mv k.sub q1, q2⟩
theorem OwAll.tr {o : List Ow} {v : List V} (I : OwAll K Z H o v F) (k : Keep Z H G Z' H' G') (d : Dj F G) : OwAll K Z' H' o v F ∧ Dj F G' :=
  let ⟨q1, q2⟩ := k.apart (fun b hb => I.fp b hb) d
  ⟨I.mv k.sub q1, q2⟩
/-- a new object besides -/
theorem StOk.trash (I : StOk K Z H ρ σ F) {p : Addr} {o : HO} (hp : H p = none) : StOk K Z (upd H p o) ρ σ F :=
  ⟨sub_upd hp I.sub, I.sl.mv (Sub.refl Z) fun b hb => ⟨(I.sl.fp b hb).2, by
    obtain ⟨⟨u, hu⟩, _⟩ := I.sl.fp b hb
    rw [upd_ne (ne_of_none hu hp)]⟩⟩
theorem StOk.frz (I : StOk K Z H ρ σ F) {p : Addr} {o : HO} (hp : H p = none) : StOk K (upd Z p o) (upd H p o) ρ σ F := (I.tr (G := fun _ => False) (Keep.frz hp I.sub) (sub_upd2 I.sub) emp_false.dj').1

/-! ### what terms promise -/
def XE (K : PySem.W.Frag) (te : TE) (ρ : List Ow) (P : Ow → List Ow → Prop) : Prop :=
  ∀ (Z : Hp) (σ : L2.St) (H : Hp) (F : FP) (Q : VK), StOk K Z H ρ σ F → (∀ Z' H' F' Fo v o ρ', Keep Z H F Z' H' (Or2 F' Fo) → StOk K Z' H' ρ' σ F' → OwOk K Z' H' o v Fo → Dj Fo F' → P o ρ' → Q v H') → te σ H Q
def XT (K : PySem.W.Frag) (tt : TT) (ρ : List Ow) (P : Bool → List Ow → Prop) : Prop :=
  ∀ (Z : Hp) (σ : L2.St) (H : Hp) (F : FP) (Q : Bool → Hp → Prop), StOk K Z H ρ σ F → (∀ Z' H' F' b ρ', Keep Z H F Z' H' F' → StOk K Z' H' ρ' σ F' → P b ρ' → Q b H') → tt σ H Q
/-- no change: a value that may be copied -/
def XV (K : PySem.W.Frag) (te : TE) (ρ : List Ow) (d : PyData) : Prop :=
  ∀ (Z : Hp) (σ : L2.St) (H : Hp) (F : FP) (Q : VK), StOk K Z H ρ σ F → (∀ v, Da K Z v d → Q v H) → te σ H Q
/-- no change: what stands at a path -/
def XP (K : PySem.W.Frag) (te : TE) (ρ : List Ow) (i : Nat) (p : List Stp) : Prop :=
  ∀ (Z : Hp) (σ : L2.St) (H : Hp) (F : FP) (Q : VK), StOk K Z H ρ σ F → (∀ v, AtS H σ i p v → Q v H) → te σ H Q
inductive Arg where
  | val (o : Ow)
  | bor (i : Nat) (p : List Stp) (v : V) (o : Ow)
def Arg.ow : Arg → Ow
  | .val o => o
  | .bor _ _ _ o => o
def BorOk : List Arg → List V → Prop
  | [], _ => True
  | .val _ :: as, vs => BorOk as vs.tail
  | .bor _ _ v _ :: as, vs => vs.head? = some v ∧ BorOk as vs.tail
def XA (K : PySem.W.Frag) (ta : TA) (ρ : List Ow) (P : List Arg → List Ow → Prop) : Prop :=
  ∀ (Z : Hp) (σ : L2.St) (H : Hp) (F : FP) (Q : List V → Hp → Prop), StOk K Z H ρ σ F → (∀ Z' H' F' Fo vs as ρ', Keep Z H F Z' H' (Or2 F' Fo) → StOk K Z' H' ρ' σ F' → OwAll K Z' H' (as.map Arg.ow) vs Fo → BorOk as vs → Dj Fo F' → P as ρ' → Q vs H') → ta σ H Q
structure PD where
  nx : List Ow → Prop
  rt : Ow → List Ow → Prop
  bk : List Ow → Prop := fun _ => False
  ct : List Ow → Prop := fun _ => False
def Lck (L : List Nat) (σ σ' : L2.St) : Prop := σ'.length = σ.length ∧ ∀ i, i ∈ L → σ'[i]? = σ[i]?
theorem Lck.refl (L : List Nat) (σ : L2.St) : Lck L σ σ := ⟨rfl, fun _ _ => rfl⟩
theorem Lck.trans {L : List Nat} {σ σ1 σ2 : L2.St} (h : Lck L σ σ1) (k : Lck L σ1 σ2) : Lck L σ σ2 := ⟨k.1.trans h.1, fun i hi => (k.2 i hi).trans (h.2 i hi)⟩
theorem Lck.set {L : List Nat} {σ : L2.St} {i : Nat} {o : Option V} (h : i ∉ L) : Lck L σ (σ.set i o) := ⟨List.length_set, fun j hj => by
  rw [List.getElem?_set]
  rw [if_neg fun e => h (by rw [e]; exact hj)]⟩
structure DOk (K : PySem.W.Frag) (L : List Nat) (Z H : Hp) (F : FP) (σ : L2.St) (D : Ends) (p : PD) : Prop where
  nx : ∀ Z' H' F' ρ' σ', Keep Z H F Z' H' F' → Lck L σ σ' → StOk K Z' H' ρ' σ' F' → p.nx ρ' → D.nx σ' H'
  rt : ∀ Z' H' F' Fo v o ρ' σ', Keep Z H F Z' H' (Or2 F' Fo) → Lck L σ σ' → StOk K Z' H' ρ' σ' F' → OwOk K Z' H' o v Fo → Dj Fo F' → p.rt o ρ' → D.rt v H'
  bk : ∀ Z' H' F' ρ' σ', Keep Z H F Z' H' F' → Lck L σ σ' → StOk K Z' H' ρ' σ' F' → p.bk ρ' → D.bk σ' H'
  ct : ∀ Z' H' F' ρ' σ', Keep Z H F Z' H' F' → Lck L σ σ' → StOk K Z' H' ρ' σ' F' → p.ct ρ' → D.ct σ' H'
theorem DOk.re {L : List Nat} {D : Ends} {p : PD} (d : DOk K L Z H F σ D p) (k : Keep Z H F Z' H' F') (l : Lck L σ σ') : DOk K L Z' H' F' σ' D p :=
  ⟨fun Z1 H1 F1 ρ1 σ1 k1 l1 => d.nx Z1 H1 F1 ρ1 σ1 (k.trans k1) (l.trans l1), fun Z1 H1 F1 Fo v o ρ1 σ1 k1 l1 => d.rt Z1 H1 F1 Fo v o ρ1 σ1 (k.trans k1) (l.trans l1),
   fun Z1 H1 F1 ρ1 σ1 k1 l1 => d.bk Z1 H1 F1 ρ1 σ1 (k.trans k1) (l.trans l1), fun Z1 H1 F1 ρ1 σ1 k1 l1 => d.ct Z1 H1 F1 ρ1 σ1 (k.trans k1) (l.trans l1)⟩
def XS (K : PySem.W.Frag) (L : List Nat) (t : TS) (p : PD) (ρ : List Ow) : Prop :=
  ∀ (Z : Hp) (σ : L2.St) (H : Hp) (F : FP) (D : Ends), StOk K Z H ρ σ F → DOk K L Z H F σ D p → t D σ H
end
end MV
set_option maxRecDepth 100000
set_option maxHeartbeats 4000000
set_option autoImplicit false
namespace MV
open PySem L2 PyProof.Rows PL
/-! ### rules of operators that the layer has not: readable lists, texts times ints -/
section
variable {X : Cx}
theorem rdM {pins : List (Addr × Obj)} {σ : L2.St} {H : Hp} {s : Shared} {l : Addr} {xs : List V} (I : Inv X pins σ H s) (hH : Rd H l (.lst xs)) : xs.length ≤ sizeLine ∧ ∃ (its : List Value) (n : Nat), Vals xs its ∧ xs.length = its.length ∧ s.heap.get? l = some { cls := .type "list", data := .seq its.toArray n } := by
  obtain ⟨z, its, n, r, e⟩ := hH.ok I.hok
  exact ⟨z, its, n, r, r.length, e⟩
def rCatR : R2 := fun x y H Q => ∃ l b xs zs, x = .ref l ∧ y = .ref b ∧ Rd H l (.lst xs) ∧ Rd H b (.lst zs) ∧ xs.length + zs.length ≤ sizeLine ∧ ∀ p, H p = none → Q (.ref p) (upd H p (.lst (xs ++ zs)))
theorem op_catR : OpR X (binaryOp .Add) rCatR := by
  intro pins s σ H x y v u Q I rx ry h
  obtain ⟨l, b, xs, zs, rfl, rfl, hH, hB, hz, q⟩ := h
  cases rx
  cases ry
  obtain ⟨z, its, n, r, hl, e⟩ := rdM I hH
  obtain ⟨z2, its2, n2, r2, hl2, e2⟩ := rdM I hB
  refine PySem.P.add_list e e2 ?_ (by rw [List.size_toArray, List.size_toArray]; omega)
  have ea : its.toArray ++ its2.toArray = (its ++ its2).toArray := by simp
  rw [ea]
  exact ⟨.ref _, _, I.lnew (t' := s.toks) (r.append r2) (by rw [List.length_append]; omega), rfl, q _ I.fresh⟩
def rRepR : R2 := fun x y H Q => ∃ l k xs, x = .ref l ∧ y = .int k ∧ Rd H l (.lst xs) ∧ -(2 ^ 63) ≤ k ∧ k < 2 ^ 63 ∧ xs.length * k.toNat ≤ sizeLine ∧
  ∀ p, H p = none → Q (.ref p) (upd H p (.lst (List.replicate k.toNat xs).flatten))
theorem op_repR : OpR X (binaryOp .Mult) rRepR := by
  intro pins s σ H x y v u Q I rx ry h
  obtain ⟨l, k, xs, rfl, rfl, hH, h1, h2, hz, q⟩ := h
  cases rx
  obtain ⟨t, rfl⟩ := ry
  obtain ⟨z, its, n, r, hl, e⟩ := rdM I hH
  have hlen : its.toArray.size * k.toNat ≤ sizeLine := by rw [List.size_toArray, ← hl]; exact hz
  have hcap : ¬ its.toArray.size * k.toNat > (2 ^ 63 - 1) / 8 := by
    have : (sizeLine : Nat) ≤ (2 ^ 63 - 1) / 8 := by decide
    omega
  have hfit : ¬ (!Builtin.List.listFitsIndex k) = true := by
    rw [fitsIndex_both h1 h2]
    exact Bool.false_ne_true
  have hlong : ¬ Builtin.List.listTooLong (its.toArray.size * k.toNat) = true := by
    rw [notLongL hlen]
    exact Bool.false_ne_true
  have hnew : List.foldl (fun x1 x2 => x1 ++ x2) #[] (List.replicate (if its.toArray.isEmpty = true then 0 else k.toNat) its.toArray) = (List.replicate k.toNat its).flatten.toArray := by
    have f0 : ∀ m : Nat, List.foldl (fun x1 x2 => x1 ++ x2) #[] (List.replicate m its.toArray) = (List.replicate m its).flatten.toArray := fun m => by
      have := foldl_rep its m []
      rw [List.nil_append] at this
      exact this
    rw [f0]
    cases its with
    | nil => simp
    | cons a r' => rw [if_neg (by simp)]
  refine wpAny_binaryOp_repeat_ref (T := "list") (U := "int") (by decide) ⟨_, e, rfl⟩ (fun s' => typeIs_int s' k t) noFill_list_mul F.fills_int_mul F.slot_int_rmul repeat_list F.slot_int_index.lookup
    (call_meets F.slot_int_rmul (typeIs_int s k t) F.entry_int_rmul (F.args_int_rmul_2 _ _) (int___rmul___int_list k t l its.toArray n)
      ⟨e, rfl, ⟨_, e, rfl⟩, call_meets F.slot_list_mul ⟨_, e, rfl⟩ F.entry_list_mul (F.args_list_mul_2 _ _) (AutoListH.list___mul___list_int_3 l its.toArray n k t hfit hcap hlong) ⟨e, ?_⟩⟩)
  rw [hnew]
  exact ⟨.ref _, _, I.lnew (t' := s.toks) (r.rep k.toNat) (by rw [PyProof.Rows.lm_len_rep_flat, Nat.mul_comm]; exact hz), rfl, q _ I.fresh⟩
/-- a text times an int -/
def rRepS : R2 := fun x y H Q => ∃ (z : Str) (k : Int), x = .str z ∧ y = .int k ∧ 0 ≤ k ∧ k ≤ 1000 ∧ z.length ≤ 1000 ∧ Q (.str (Txt.mul z k)) H
theorem op_repS : OpR X (binaryOp .Mult) rRepS := by
  intro pins s σ H x y v u Q I rx ry h
  obtain ⟨z, k, rfl, rfl, h0, h1, h2, q⟩ := h
  obtain ⟨t, rfl⟩ := rx
  obtain ⟨t', rfl⟩ := ry
  refine PySem.SB.mul ⟨?_, fun hk _ => ?_, fun hk _ => ?_⟩ fun t' k' => ⟨.str (Txt.mul z k), H, I.tok _, ⟨_, rfl⟩, q⟩
  · rw [Bool.or_eq_false_iff]
    exact ⟨decide_eq_false (by omega), decide_eq_false (by omega)⟩
  · have : (2 ^ 63 - 1) / k ≥ (2 ^ 63 - 1) / 1000 := by
      have hk0 : 0 < k := by omega
      rw [ge_iff_le, Int.le_ediv_iff_mul_le hk0]
      have : (2 ^ 63 - 1) / 1000 * k ≤ (2 ^ 63 - 1) / 1000 * 1000 := Int.mul_le_mul_of_nonneg_left h1 (by decide)
      omega
    omega
  · have hm : z.length * k.toNat ≤ 1000 * 1000 := Nat.mul_le_mul h2 (by omega)
    have hs := sizeLine_eq
    unfold Builtin.Str.tooLong
    first
      | exact decide_eq_false (by omega)
      | (simp; omega)
def rPlus (K : PySem.W.Frag) : R2 := fun x y H Q => rI0 (fun i j => .int (i + j)) x y H Q ∨ (∃ i j, x = .str i ∧ y = .str j ∧ i.length + j.length ≤ sizeLine ∧ Q (.str (i ++ j)) H) ∨ rCatR x y H Q ∨ rCatA K x y H Q
theorem op_plus : OpR X (binaryOp .Add) (rPlus X.K) := op_add.or (op_add_str.or (op_catR.or op_catA))
def rTimes : R2 := fun x y H Q => rI CMul (fun i j => .int (i * j)) x y H Q ∨ rRepR x y H Q ∨ rRepS x y H Q
theorem op_times : OpR X (binaryOp .Mult) rTimes := op_mul.or (op_repR.or op_repS)
def rEqu (K : PySem.W.Frag) : R2 := fun x y H Q => rEq x y H Q ∨ rEqD K x y H Q
theorem op_equ (hu : X.A.units + 64 < cLine) : OpR X (compareOp .Eq) (rEqu X.K) := op_eq.or (op_eqD hu)
def rNeq (K : PySem.W.Frag) : R2 := fun x y H Q => rNe x y H Q ∨ rNeD K x y H Q
theorem op_neq (hu : X.A.units + 64 < cLine) : OpR X (compareOp .NotEq) (rNeq X.K) := op_ne.or (op_neD hu)
def rInS2 : R2 := fun x y H Q => ∃ i j, x = .str i ∧ y = .str j ∧ Q (.bl (!(Builtin.Str.occurrences j i 0 j.length 1).isEmpty)) H
def rNotInS2 : R2 := fun x y H Q => ∃ i j, x = .str i ∧ y = .str j ∧ Q (.bl (!(!(Builtin.Str.occurrences j i 0 j.length 1).isEmpty))) H
def rInn (K : PySem.W.Frag) : R2 := fun x y H Q => rIn K false x y H Q ∨ rInD K x y H Q ∨ rInS2 x y H Q
theorem op_inn (hu : X.A.units + 65 < cLine) : OpR X (compareOp .In) (rInn X.K) := op_in_seq.or ((op_inD hu).or op_in_str)
def rNin (K : PySem.W.Frag) : R2 := fun x y H Q => rIn K true x y H Q ∨ rNotInD K x y H Q ∨ rNotInS2 x y H Q
theorem op_nin (hu : X.A.units + 65 < cLine) : OpR X (compareOp .NotIn) (rNin X.K) := op_notIn_seq.or ((op_notInD hu).or op_notin_str)
def rSli (K : PySem.W.Frag) : V → Option Int → Option Int → Hp → VK → Prop := fun x lo hi H Q => rSlL K x lo hi H Q ∨ rSlA K x lo hi H Q ∨ rSlS x lo hi H Q
theorem sl_any : SlR X (rSli X.K) := sl_list.or (sl_tupA.or sl_str)
end
theorem room65 {A : Around} {k : Nat} (hr : Room k A) : A.units + 65 < cLine := by have := hr.un; omega
theorem room64 {A : Around} {k : Nat} (hr : Room k A) : A.units + 64 < cLine := by have := hr.un; omega

end MV
set_option maxRecDepth 100000
set_option maxHeartbeats 4000000
set_option autoImplicit false
/-! MV3: names, constants, operators, tests, arguments, displays, calls. -/
namespace MV
open PySem L2 PyProof.Rows PL
abbrev emp : FP := fun _ => False
theorem or2_emp (F : FP) : Or2 F emp = F := funext fun b => propext (by simp [Or2])
theorem emp_or2 (F : FP) : Or2 emp F = F := funext fun b => propext (by simp [Or2])
theorem Emp.eq {F : FP} (h : Emp F) : F = emp := funext fun b => propext ⟨fun z => h b z, fun z => z.elim⟩
section
variable {K : PySem.W.Frag} {Z Z' Z1 Z2 H H' H1 H2 : Hp} {F F' F1 F2 G G' : FP} {ρ ρ' : List Ow} {σ σ' : L2.St}
theorem da_int {H : Hp} {v : V} {i : Int} (h : Da K H v (.int i)) : v = .int i := by cases h; rfl
theorem da_str {H : Hp} {v : V} {i : Str} (h : Da K H v (.str i)) : v = .str i := by cases h; rfl
theorem da_bl {H : Hp} {v : V} {i : Bool} (h : Da K H v (.bool i)) : v = .bl i := by cases h; rfl
theorem da_non {H : Hp} {v : V} (h : Da K H v .none) : v = .non := by cases h; rfl
theorem da_list {H : Hp} {v : V} {ds : List PyData} (h : Da K H v (.list ds)) : ∃ a xs, v = .ref a ∧ Rd H a (.lst xs) ∧ DaAll K H xs ds := by
  cases h with
  | lst h a => exact ⟨_, _, rfl, h, a⟩
theorem da_tup {H : Hp} {v : V} {ds : List PyData} (h : Da K H v (.tuple ds)) : ∃ a xs, v = .ref a ∧ SqT K H a xs ∧ DaAll K H xs ds := by
  cases h with
  | tup h a => exact ⟨_, _, rfl, h, a⟩
theorem OwOk.ofD {v : V} {p : PyData} (h : Da K Z v p) : OwOk K Z H (.d p) v emp := .d h emp_false
theorem OwOk.toD {v : V} {p : PyData} (h : OwOk K Z H (.d p) v F) : Da K Z v p := by
  cases h with
  | d h e => exact h

/-! ### own trees as data -/
mutual
def Ow.dat : Ow → Option PyData
  | .d p => some p
  | .ls ds => some (.list ds)
  | .lst xs => match datL xs with
    | some ds => some (.list ds)
    | none => none
  | _ => none
def datL : List Ow → Option (List PyData)
  | [] => some []
  | x :: xs => match x.dat, datL xs with
    | some d, some ds => some (d :: ds)
    | _, _ => none
end
mutual
theorem OwOk.dat (hs : Sub Z H) : ∀ {o : Ow} {v : V} {F : FP} {p : PyData}, OwOk K Z H o v F → o.dat = some p → Da K H v p
  | _, _, _, _, .d h _, e => by
    simp only [Ow.dat, Option.some.injEq] at e
    subst e
    exact h.mono hs
  | _, _, _, _, .ls h z r _, e => by
    simp only [Ow.dat, Option.some.injEq] at e
    subst e
    exact .lst (.inl h) (r.mono hs)
  | .lst xs, _, _, _, .lst h z r _ _, e => by
    simp only [Ow.dat] at e
    cases q : datL xs with
    | none => rw [q] at e; cases e
    | some ds =>
      rw [q] at e
      simp only [Option.some.injEq] at e
      subst e
      exact .lst (.inl h) (OwAll.dat hs r q)
  | _, _, _, _, .any _, e => by simp [Ow.dat] at e
  | _, _, _, _, .is _, e => by simp [Ow.dat] at e
  | _, _, _, _, .scr _ _, e => by simp [Ow.dat] at e
  | _, _, _, _, .pen _ _ _ _ _ _, e => by simp [Ow.dat] at e
  | _, _, _, _, .dc _ _ _ _, e => by simp [Ow.dat] at e
  | _, _, _, _, .ins _ _ _ _ _, e => by simp [Ow.dat] at e
  | _, _, _, _, .fz _ _, e => by simp [Ow.dat] at e
theorem OwAll.dat (hs : Sub Z H) : ∀ {o : List Ow} {v : List V} {F : FP} {p : List PyData}, OwAll K Z H o v F → datL o = some p → DaAll K H v p
  | _, _, _, _, .nil _, e => by
    simp only [datL, Option.some.injEq] at e
    subst e
    exact .nil
  | x :: xs, _, _, _, .cons h t _ _, e => by
    simp only [datL] at e
    cases q1 : x.dat with
    | none => rw [q1] at e; simp at e
    | some d =>
      cases q2 : datL xs with
      | none => rw [q1, q2] at e; simp at e
      | some ds =>
        rw [q1, q2] at e
        simp only [Option.some.injEq] at e
        subst e
        exact .cons (OwOk.dat hs h q1) (OwAll.dat hs t q2)
end
open Classical in
/-- the frozen objects and those at F -/
noncomputable def frzZ (Z H : Hp) (F : FP) : Hp := fun b => if F b then H b else Z b
theorem frzZ_sub (hs : Sub Z H) : Sub (frzZ Z H F) H := fun a o h => by
  unfold frzZ at h
  by_cases q : F a
  · rw [if_pos q] at h; exact h
  · rw [if_neg q] at h; exact hs a o h
theorem frzZ_le (h : ∀ b, F b → Z b = none) : Sub Z (frzZ Z H F) := fun a o e => by
  unfold frzZ
  by_cases q : F a
  · rw [h a q] at e; cases e
  · rw [if_neg q]; exact e
theorem frzZ_ne {a : Addr} (h : ¬ F a) : frzZ Z H F a = Z a := by
  unfold frzZ
  rw [if_neg h]
mutual
theorem OwOk.datZ (hle : ∀ b, F b → Z b = none) : ∀ {o : Ow} {v : V} {G : FP} {p : PyData}, OwOk K Z H o v G → (∀ b, G b → F b) → o.dat = some p → Da K (frzZ Z H F) v p
  | _, _, _, _, .d h _, g, e => by
    simp only [Ow.dat, Option.some.injEq] at e
    subst e
    exact h.mono (frzZ_le hle)
  | _, _, _, _, .ls h z r q, g, e => by
    simp only [Ow.dat, Option.some.injEq] at e
    subst e
    refine .lst (.inl ?_) (r.mono (frzZ_le hle))
    unfold frzZ
    rw [if_pos (g _ ((q _).mpr rfl))]
    exact h
  | .lst xs, _, _, _, .lst h z r _ q, g, e => by
    simp only [Ow.dat] at e
    cases q2 : datL xs with
    | none => rw [q2] at e; cases e
    | some ds =>
      rw [q2] at e
      simp only [Option.some.injEq] at e
      subst e
      refine .lst (.inl ?_) (OwAll.datZ hle r (fun b hb => g b ((q b).mpr (.inr hb))) q2)
      unfold frzZ
      rw [if_pos (g _ ((q _).mpr (.inl rfl)))]
      exact h
  | _, _, _, _, .any _, g, e => by simp [Ow.dat] at e
  | _, _, _, _, .is _, g, e => by simp [Ow.dat] at e
  | _, _, _, _, .scr _ _, g, e => by simp [Ow.dat] at e
  | _, _, _, _, .pen _ _ _ _ _ _, g, e => by simp [Ow.dat] at e
  | _, _, _, _, .dc _ _ _ _, g, e => by simp [Ow.dat] at e
  | _, _, _, _, .ins _ _ _ _ _, g, e => by simp [Ow.dat] at e
  | _, _, _, _, .fz _ _, g, e => by simp [Ow.dat] at e
theorem OwAll.datZ (hle : ∀ b, F b → Z b = none) : ∀ {o : List Ow} {v : List V} {G : FP} {p : List PyData}, OwAll K Z H o v G → (∀ b, G b → F b) → datL o = some p → DaAll K (frzZ Z H F) v p
  | _, _, _, _, .nil _, g, e => by
    simp only [datL, Option.some.injEq] at e
    subst e
    exact .nil
  | x :: xs, _, _, _, .cons h t _ q, g, e => by
    simp only [datL] at e
    cases q1 : x.dat with
    | none => rw [q1] at e; simp at e
    | some d =>
      cases q2 : datL xs with
      | none => rw [q1, q2] at e; simp at e
      | some ds =>
        rw [q1, q2] at e
        simp only [Option.some.injEq] at e
        subst e
        exact .cons (OwOk.datZ hle h (fun b hb => g b ((q b).mpr (.inl hb))) q1) (OwAll.datZ hle t (fun b hb => g b ((q b).mpr (.inr hb))) q2)
end
/-- what is owned is frozen from here on -/
theorem StOk.freeze {Fo : FP} (I : StOk K Z H ρ σ F) (h : ∀ b, Fo b → (∃ u, H b = some u) ∧ Z b = none) (d : Dj Fo F) : StOk K (frzZ Z H Fo) H ρ σ F ∧ Sub Z (frzZ Z H Fo) := by
  have le := frzZ_le (Z := Z) (H := H) fun b hb => (h b hb).2
  exact ⟨⟨frzZ_sub I.sub, I.sl.mv le fun b hb => ⟨by rw [frzZ_ne fun z => d b z hb]; exact (I.sl.fp b hb).2, rfl⟩⟩, le⟩
theorem Keep.freeze {Fo : FP} (k : Keep Z H F Z' H' (Or2 F' Fo)) (h : ∀ b, Fo b → Z' b = none) : Keep Z H F (frzZ Z' H' Fo) H' F' where
  sub := k.sub.trans (frzZ_le h)
  new := fun a o e => by
    by_cases q : Fo a
    · exact .inr (k.fp a (.inr q))
    · rw [frzZ_ne q] at e
      exact k.new a o e
  fr := k.fr
  fp := fun a h => k.fp a (.inl h)

section
variable {P : Ow → List Ow → Prop} {ta tb tc te : TE} {tt tu : TT} {t u : TS} {p : PD} {L : List Nat}
theorem XE.imp {P' : Ow → List Ow → Prop} (h : XE K te ρ P) (f : ∀ o ρ, P o ρ → P' o ρ) : XE K te ρ P' := fun Z σ H F Q I q => h Z σ H F Q I fun Z' H' F' Fo v o ρ' k I' r d x => q Z' H' F' Fo v o ρ' k I' r d (f o ρ' x)
/-- as data -/
theorem xe_fz (h : XE K te ρ fun o ρ1 => ∃ p, o.dat = some p ∧ P (.d p) ρ1) : XE K te ρ P := fun Z σ H F Q I q => h Z σ H F Q I fun Z' H' F' Fo v o ρ' k I' r d ⟨p, e, x⟩ => by
  have fp := r.fp
  have I2 := (I'.freeze fp d).1
  refine q (frzZ Z' H' Fo) H' F' emp v (.d p) ρ' (by rw [or2_emp]; exact k.freeze fun b hb => (fp b hb).2) I2 (.ofD (r.datZ (fun b hb => (fp b hb).2) (fun _ z => z) e)) emp_false.dj x
/-! ### names, constants -/
theorem Ow.cp_any {o : Ow} (h : o.cp) : o ≠ .any := by
  rintro rfl
  exact h
theorem OwOk.copy {o : Ow} {v : V} (c : o.cp) (h : OwOk K Z H o v F) : OwOk K Z H o v emp := by
  have e := h.cpF c
  rw [← e.eq]
  exact h
theorem slA {i : Nat} {o : Ow} (I : StOk K Z H ρ σ F) (h : ρ[i]? = some o) (n : o ≠ .any) : ∃ v F1, σ[i]? = some (some v) ∧ OwOk K Z H o v F1 ∧ (∀ b, F1 b → F b) := by
  obtain ⟨v, F1, F2, h1, h2, _, h4, _⟩ := I.sl.get h n
  exact ⟨v, F1, h1, h2, fun b hb => (h4 b).mpr (.inl hb)⟩
theorem xe_var {i : Nat} {o : Ow} (h : ρ[i]? = some o) (c : o.cp) (q : P o ρ) : XE K (tVar i) ρ P := fun Z σ H F Q I k => by
  obtain ⟨v, F1, e, r, _⟩ := slA I h (Ow.cp_any c)
  exact ⟨v, e, k Z H F emp v o ρ (by rw [or2_emp]; exact Keep.refl Z H F) I (r.copy c) emp_false.dj q⟩
theorem xe_vd {i : Nat} {x : PyData} (h : ρ[i]? = some (.d x)) (q : P (.d x) ρ) : XE K (tVar i) ρ P := xe_var h trivial q
theorem xe_ofD {v : V} {x : PyData} (f : ∀ Z, Da K Z v x) (q : P (.d x) ρ) : XE K (tC v) ρ P := fun Z σ H F Q I k => k Z H F emp v _ ρ (by rw [or2_emp]; exact Keep.refl Z H F) I (.ofD (f Z)) emp_false.dj q
theorem xe_int {i : Int} (q : P (.d (.int i)) ρ) : XE K (tC (.int i)) ρ P := xe_ofD (fun _ => .int i) q
theorem xe_str {i : Str} (q : P (.d (.str i)) ρ) : XE K (tC (.str i)) ρ P := xe_ofD (fun _ => .str i) q
theorem xe_bl {i : Bool} (q : P (.d (.bool i)) ρ) : XE K (tC (.bl i)) ρ P := xe_ofD (fun _ => .bl i) q
theorem xe_non (q : P (.d .none) ρ) : XE K (tC .non) ρ P := xe_ofD (fun _ => .non) q
/-- a value that is computed without a change -/
theorem xe_val {x : PyData} (h : XV K te ρ x) (q : P (.d x) ρ) : XE K te ρ P := fun Z σ H F Q I k => h Z σ H F Q I fun v r => k Z H F emp v _ ρ (by rw [or2_emp]; exact Keep.refl Z H F) I (.ofD r) emp_false.dj q
theorem xv_var {i : Nat} {x : PyData} (h : ρ[i]? = some (.d x)) : XV K (tVar i) ρ x := fun Z σ H F Q I k => by
  obtain ⟨v, F1, e, r, _⟩ := slA I h (Ow.cp_any trivial)
  exact ⟨v, e, k v r.toD⟩
theorem xv_int {i : Int} : XV K (tC (.int i)) ρ (.int i) := fun Z σ H F Q I k => k _ (.int i)
theorem xv_str {i : Str} : XV K (tC (.str i)) ρ (.str i) := fun Z σ H F Q I k => k _ (.str i)
theorem xv_op {r : R2} {x y z : PyData} (ha : XV K ta ρ x) (hb : XV K tb ρ y) (h : ∀ (Z H : Hp) (v u : V) (Q : VK), Sub Z H → Da K Z v x → Da K Z u y → (∀ w, Da K Z w z → Q w H) → r v u H Q) : XV K (tOp r ta tb) ρ z := fun Z σ H F Q I k =>
  ha Z σ H F _ I fun v r1 => hb Z σ H F _ I fun u r2 => h Z H v u Q I.sub r1 r2 k
/-! ### operators -/
def R2X (K : PySem.W.Frag) (r : R2) (x y : Ow) (P : Ow → Prop) : Prop :=
  ∀ (Z H : Hp) (v u : V) (F1 F2 : FP) (Q : VK), Sub Z H → OwOk K Z H x v F1 → OwOk K Z H y u F2 → (∀ Z' H' Fo w o, Keep Z H emp Z' H' Fo → Sub Z' H' → OwOk K Z' H' o w Fo → P o → Q w H') → r v u H Q
theorem xe_op {r : R2} (h : XE K ta ρ fun x ρ1 => XE K tb ρ1 fun y ρ2 => R2X K r x y fun o => P o ρ2) : XE K (tOp r ta tb) ρ P := fun Z σ H F Q I k => by
  refine h Z σ H F _ I fun Z1 H1 F1 Fx v x ρ1 k1 I1 r1 d1 q1 => ?_
  refine q1 Z1 σ H1 F1 _ I1 fun Z2 H2 F2 Fy u y ρ2 k2 I2 r2 d2 q2 => ?_
  obtain ⟨r1', d1'⟩ := r1.tr k2 d1
  refine q2 Z2 H2 v u Fx Fy Q I2.sub r1' r2 fun Z3 H3 Fo w o k3 s3 r3 x3 => ?_
  obtain ⟨I3, d3⟩ := I2.tr k3 s3 emp_false.dj'
  have k12 : Keep Z H F Z2 H2 F2 := (k1.trans (k2.src fun _ h => .inl h)).dst' fun b hb => .inl hb
  have k3' : Keep Z2 H2 F2 Z3 H3 (Or2 F2 Fo) := (k3.src (G := F2) fun _ z => z.elim).dst fun b hb => hb.elim .inl fun hb => (k3.fp b hb).elim (fun z => z.elim) .inr
  exact k Z3 H3 F2 Fo w o ρ2 (k12.trans k3') I3 r3 d3.symm x3
/-- an operation without a new object -/
theorem r2_val {r : R2} {x y : Ow} {z : PyData} {P : Ow → Prop} (q : P (.d z)) (h : ∀ (Z H : Hp) (v u : V) (F1 F2 : FP), Sub Z H → OwOk K Z H x v F1 → OwOk K Z H y u F2 → ∃ w, Da K Z w z ∧ ∀ Q : VK, Q w H → r v u H Q) : R2X K r x y P := fun Z H v u F1 F2 Q s r1 r2 k => by
  obtain ⟨w, rw', f⟩ := h Z H v u F1 F2 s r1 r2
  exact f Q (k Z H emp w (.d z) (Keep.refl Z H emp) s (.ofD rw') q)
theorem R2X.l {r r' : R2} {x y : Ow} {P : Ow → Prop} (h : R2X K r x y P) : R2X K (fun x y H Q => r x y H Q ∨ r' x y H Q) x y P := fun Z H v u F1 F2 Q s r1 r2 k => .inl (h Z H v u F1 F2 Q s r1 r2 k)
theorem R2X.r {r r' : R2} {x y : Ow} {P : Ow → Prop} (h : R2X K r' x y P) : R2X K (fun x y H Q => r x y H Q ∨ r' x y H Q) x y P := fun Z H v u F1 F2 Q s r1 r2 k => .inr (h Z H v u F1 F2 Q s r1 r2 k)
/-- a new list of data, owned; a new tuple -/
theorem new_ls {p : Addr} {ws : List V} {ds : List PyData} (hp : H p = none) (hs : Sub Z H) (h : DaAll K Z ws ds) : Keep Z H emp Z (upd H p (.lst ws)) (fun b => b = p) ∧ OwOk K Z (upd H p (.lst ws)) (.ls ds) (.ref p) fun b => b = p := by
  refine ⟨?_, .ls upd_same ?_ h fun b => Iff.rfl⟩
  · have k := Keep.own (F := emp) (Z := Z) (o := .lst ws) hp
    rw [emp_or2] at k
    exact k
  · cases e : Z p with
    | none => rfl
    | some o => rw [hs p o e] at hp; cases hp
/-- what the items tell, in the heap; a list of them that is new: its items may come from owned lists that are given up -/
theorem r2_newL {r : R2} {x y : Ow} {ds : List PyData} {P : Ow → Prop} (q : P (.ls ds)) (h : ∀ (Z H : Hp) (v u : V) (F1 F2 : FP), Sub Z H → OwOk K Z H x v F1 → OwOk K Z H y u F2 → ∃ ws, DaAll K Z ws ds ∧ ∀ Q : VK, (∀ p, H p = none → Q (.ref p) (upd H p (.lst ws))) → r v u H Q) : R2X K r x y P := fun Z H v u F1 F2 Q s r1 r2 k => by
  obtain ⟨ws, a, f⟩ := h Z H v u F1 F2 s r1 r2
  exact f Q fun p np => k Z _ _ _ _ (new_ls np s a).1 (sub_upd np s) (new_ls np s a).2 q
theorem r2_newT {r : R2} {x y : Ow} {ds : List PyData} {P : Ow → Prop} (q : P (.d (.tuple ds))) (h : ∀ (Z H : Hp) (v u : V) (F1 F2 : FP), Sub Z H → OwOk K Z H x v F1 → OwOk K Z H y u F2 → ∃ ws, DaAll K Z ws ds ∧ ∀ Q : VK, (∀ p, H p = none → Q (.ref p) (upd H p (.tup ws))) → r v u H Q) : R2X K r x y P := fun Z H v u F1 F2 Q s r1 r2 k => by
  obtain ⟨ws, a, f⟩ := h Z H v u F1 F2 s r1 r2
  exact f Q fun p np => k (upd Z p (.tup ws)) _ emp _ (.d (.tuple ds)) (Keep.frz np s) (sub_upd2 s) (.ofD (.tup (SqT.of upd_same) (a.mono (Keep.frz (F := emp) np s).sub))) q
/-- a list of data, frozen or owned -/
def Ow.lsD : Ow → Option (List PyData)
  | .d (.list ds) => some ds
  | .ls ds => some ds
  | _ => none
theorem OwOk.lsD {o : Ow} {v : V} {ds : List PyData} (h : OwOk K Z H o v F) (hs : Sub Z H) (e : o.lsD = some ds) : ∃ a xs, v = .ref a ∧ Rd H a (.lst xs) ∧ DaAll K Z xs ds := by
  cases h with
  | d h _ =>
    cases h with
    | lst h a =>
      simp only [Ow.lsD, Option.some.injEq] at e
      subst e
      exact ⟨_, _, rfl, hs.rd h, a⟩
    | _ => simp [Ow.lsD] at e
  | ls h z r _ =>
    simp only [Ow.lsD, Option.some.injEq] at e
    subst e
    exact ⟨_, _, rfl, .inl h, r⟩
  | _ => simp [Ow.lsD] at e
variable {P : Ow → Prop}
theorem r2_I0 {f : Int → Int → Int} {i j : Int} (q : P (.d (.int (f i j)))) : R2X K (rI0 fun i j => .int (f i j)) (.d (.int i)) (.d (.int j)) P := r2_val q fun Z H v u F1 F2 s r1 r2 => by
  cases da_int r1.toD
  cases da_int r2.toD
  exact ⟨_, Da.int _, fun Q h => ⟨i, j, rfl, rfl, h⟩⟩
theorem r2_B0 {f : Int → Int → Bool} {i j : Int} (q : P (.d (.bool (f i j)))) : R2X K (rI0 fun i j => .bl (f i j)) (.d (.int i)) (.d (.int j)) P := r2_val q fun Z H v u F1 F2 s r1 r2 => by
  cases da_int r1.toD
  cases da_int r2.toD
  exact ⟨_, Da.bl _, fun Q h => ⟨i, j, rfl, rfl, h⟩⟩
theorem r2_I {C : Int → Int → Prop} {f : Int → Int → Int} {i j : Int} (c : C i j) (q : P (.d (.int (f i j)))) : R2X K (rI C fun i j => .int (f i j)) (.d (.int i)) (.d (.int j)) P := r2_val q fun Z H v u F1 F2 s r1 r2 => by
  cases da_int r1.toD
  cases da_int r2.toD
  exact ⟨_, Da.int _, fun Q h => ⟨i, j, rfl, rfl, c, h⟩⟩
theorem r2_ge {i j : Int} (q : P (.d (.bool (decide (j ≤ i))))) : R2X K (rI0 fun i j => .bl (decide (j ≤ i))) (.d (.int i)) (.d (.int j)) P := r2_B0 (f := fun i j => decide (j ≤ i)) q
theorem r2_gt {i j : Int} (q : P (.d (.bool (decide (j < i))))) : R2X K (rI0 fun i j => .bl (decide (j < i))) (.d (.int i)) (.d (.int j)) P := r2_B0 (f := fun i j => decide (j < i)) q
theorem r2_le {i j : Int} (q : P (.d (.bool (decide (i ≤ j))))) : R2X K (rI0 fun i j => .bl (decide (i ≤ j))) (.d (.int i)) (.d (.int j)) P := r2_B0 (f := fun i j => decide (i ≤ j)) q
theorem r2_lt {i j : Int} (q : P (.d (.bool (decide (i < j))))) : R2X K (rI0 fun i j => .bl (decide (i < j))) (.d (.int i)) (.d (.int j)) P := r2_B0 (f := fun i j => decide (i < j)) q
theorem r2_sub {i j : Int} (q : P (.d (.int (i - j)))) : R2X K (rI0 fun i j => .int (i - j)) (.d (.int i)) (.d (.int j)) P := r2_I0 (f := fun i j => i - j) q
theorem r2_mod {i j : Int} (c : 0 < j) (q : P (.d (.int (i % j)))) : R2X K (rI (fun _ j => 0 < j) fun i j => .int (i % j)) (.d (.int i)) (.d (.int j)) P := r2_I (C := fun _ j => 0 < j) (f := fun i j => i % j) c q
theorem r2_fdiv {i j : Int} (c : CDiv i j) (q : P (.d (.int (i / j)))) : R2X K (rI CDiv fun i j => .int (i / j)) (.d (.int i)) (.d (.int j)) P := r2_I (C := CDiv) (f := fun i j => i / j) c q
theorem r2_pow {i j : Int} (c : CPow i j) (q : P (.d (.int (i ^ j.toNat)))) : R2X K (rI CPow fun i j => .int (i ^ j.toNat)) (.d (.int i)) (.d (.int j)) P := r2_I (C := CPow) (f := fun i j => i ^ j.toNat) c q
theorem r2_plus_int {i j : Int} (q : P (.d (.int (i + j)))) : R2X K (rPlus K) (.d (.int i)) (.d (.int j)) P := R2X.l (r2_I0 (f := fun i j => i + j) q)
theorem r2_plus_str {i j : Str} (hl : i.length + j.length ≤ sizeLine) (q : P (.d (.str (i ++ j)))) : R2X K (rPlus K) (.d (.str i)) (.d (.str j)) P := R2X.r (R2X.l (r2_val q fun Z H v u F1 F2 s r1 r2 => by
  cases da_str r1.toD
  cases da_str r2.toD
  exact ⟨_, Da.str _, fun Q h => ⟨i, j, rfl, rfl, hl, h⟩⟩))
theorem r2_plus_list {x y : Ow} {xs ys : List PyData} (hx : x.lsD = some xs) (hy : y.lsD = some ys) (hl : xs.length + ys.length ≤ sizeLine) (q : P (.ls (xs ++ ys))) : R2X K (rPlus K) x y P := R2X.r (R2X.r (R2X.l (r2_newL q fun Z H v u F1 F2 s r1 r2 => by
  obtain ⟨a, vs, rfl, h1, h2⟩ := r1.lsD s hx
  obtain ⟨b, us, rfl, k1, k2⟩ := r2.lsD s hy
  exact ⟨_, h2.append k2, fun Q f => ⟨a, b, vs, us, rfl, rfl, h1, k1, by rw [h2.length, k2.length]; exact hl, f⟩⟩)))
theorem r2_plus_tup {xs ys : List PyData} (hl : xs.length + ys.length ≤ sizeLine) (q : P (.d (.tuple (xs ++ ys)))) : R2X K (rPlus K) (.d (.tuple xs)) (.d (.tuple ys)) P := R2X.r (R2X.r (R2X.r fun Z H v u F1 F2 Q s r1 r2 k => by
  obtain ⟨a, vs, rfl, h1, h2⟩ := da_tup r1.toD
  obtain ⟨b, us, rfl, k1, k2⟩ := da_tup r2.toD
  refine ⟨a, b, vs, us, rfl, rfl, s.sqT h1, s.sqT k1, by rw [h2.length, k2.length]; exact hl, fun e => ?_, fun _ e => ?_, fun _ _ p np => ?_⟩
  · subst e
    cases h2
    exact k Z H emp _ _ (Keep.refl Z H emp) s (OwOk.copy (o := .d _) trivial r2) q
  · subst e
    cases k2
    rw [List.append_nil] at q
    exact k Z H emp _ _ (Keep.refl Z H emp) s (OwOk.copy (o := .d _) trivial r1) q
  · exact k (upd Z p _) _ emp _ (.d (.tuple (xs ++ ys))) (Keep.frz np s) (sub_upd2 s) (.ofD (.tup (SqT.of upd_same) ((h2.append k2).mono (Keep.frz (F := emp) np s).sub))) q))
theorem r2_times_int {i j : Int} (c : CMul i j) (q : P (.d (.int (i * j)))) : R2X K rTimes (.d (.int i)) (.d (.int j)) P := R2X.l (r2_I (C := CMul) (f := fun i j => i * j) c q)
theorem r2_times_list {x : Ow} {xs : List PyData} {k : Int} (hx : x.lsD = some xs) (h0 : 0 ≤ k) (hl : xs.length * k.toNat ≤ sizeLine) (h1 : k < 2 ^ 63) (q : P (.ls (List.replicate k.toNat xs).flatten)) : R2X K rTimes x (.d (.int k)) P := R2X.r (R2X.l (r2_newL q fun Z H v u F1 F2 s r1 r2 => by
  obtain ⟨a, vs, rfl, h1', h2⟩ := r1.lsD s hx
  cases da_int r2.toD
  exact ⟨_, h2.rep k.toNat, fun Q f => ⟨a, k, vs, rfl, rfl, h1', by omega, h1, by rw [h2.length]; exact hl, f⟩⟩))
theorem r2_times_str {z : Str} {k : Int} (h0 : 0 ≤ k) (h1 : k ≤ 1000) (hz : z.length ≤ 1000) (q : P (.d (.str (Txt.mul z k)))) : R2X K rTimes (.d (.str z)) (.d (.int k)) P := R2X.r (R2X.r (r2_val q fun Z H v u F1 F2 s r1 r2 => by
  cases da_str r1.toD
  cases da_int r2.toD
  exact ⟨_, Da.str _, fun Q h => ⟨z, k, rfl, rfl, h0, h1, hz, h⟩⟩))
/-- == : ints, texts, data -/
theorem r2_eq_int {i j : Int} (q : P (.d (.bool (decide (i = j))))) : R2X K (rEqu K) (.d (.int i)) (.d (.int j)) P := R2X.l (r2_val q fun Z H v u F1 F2 s r1 r2 => by
  cases da_int r1.toD
  cases da_int r2.toD
  refine ⟨_, Da.bl _, fun Q h => ⟨rfl, ?_⟩⟩
  have e : decide (V.int i = V.int j) = decide (i = j) := by simp
  rw [e]
  exact h)
theorem r2_eq_str {i j : Str} (q : P (.d (.bool (decide (i = j))))) : R2X K (rEqu K) (.d (.str i)) (.d (.str j)) P := R2X.l (r2_val q fun Z H v u F1 F2 s r1 r2 => by
  cases da_str r1.toD
  cases da_str r2.toD
  refine ⟨_, Da.bl _, fun Q h => ⟨rfl, ?_⟩⟩
  have e : decide (V.str i = V.str j) = decide (i = j) := by simp
  rw [e]
  exact h)
theorem r2_ne_int {i j : Int} (q : P (.d (.bool (!decide (i = j))))) : R2X K (rNeq K) (.d (.int i)) (.d (.int j)) P := R2X.l (r2_val q fun Z H v u F1 F2 s r1 r2 => by
  cases da_int r1.toD
  cases da_int r2.toD
  refine ⟨_, Da.bl _, fun Q h => ⟨rfl, ?_⟩⟩
  have e : decide (V.int i = V.int j) = decide (i = j) := by simp
  rw [e]
  exact h)
theorem r2_ne_str {i j : Str} (q : P (.d (.bool (!decide (i = j))))) : R2X K (rNeq K) (.d (.str i)) (.d (.str j)) P := R2X.l (r2_val q fun Z H v u F1 F2 s r1 r2 => by
  cases da_str r1.toD
  cases da_str r2.toD
  refine ⟨_, Da.bl _, fun Q h => ⟨rfl, ?_⟩⟩
  have e : decide (V.str i = V.str j) = decide (i = j) := by simp
  rw [e]
  exact h)
theorem r2_eq_data {x y : Ow} {d e : PyData} (hx : x.dat = some d) (hy : y.dat = some e) (sd : SeqAt.shaped d = true) (se : SeqAt.shaped e = true) (q : P (.d (.bool (PyData.eqv d e)))) : R2X K (rEqu K) x y P := R2X.r (r2_val q fun Z H v u F1 F2 s r1 r2 =>
  ⟨_, Da.bl _, fun Q h => ⟨d, e, (r1.dat s hx).dp, (r2.dat s hy).dp, sd, se, h⟩⟩)
theorem r2_ne_data {x y : Ow} {d e : PyData} (hx : x.dat = some d) (hy : y.dat = some e) (sd : SeqAt.shaped d = true) (se : SeqAt.shaped e = true) (q : P (.d (.bool (!PyData.eqv d e)))) : R2X K (rNeq K) x y P := R2X.r (r2_val q fun Z H v u F1 F2 s r1 r2 =>
  ⟨_, Da.bl _, fun Q h => ⟨d, e, (r1.dat s hx).dp, (r2.dat s hy).dp, sd, se, h⟩⟩)
theorem r2_in_list {x y : Ow} {d : PyData} {ds : List PyData} (hx : x.dat = some d) (hy : y.dat = some (.list ds)) (sd : SeqAt.shaped d = true) (se : SeqAt.shaped (.list ds) = true) (q : P (.d (.bool (ds.any fun z => PyData.eqv z d)))) : R2X K (rInn K) x y P := R2X.r (R2X.l (r2_val q fun Z H v u F1 F2 s r1 r2 =>
  ⟨_, Da.bl _, fun Q h => ⟨d, ds, (r1.dat s hx).dp, (r2.dat s hy).dp, sd, se, h⟩⟩))
theorem r2_nin_list {x y : Ow} {d : PyData} {ds : List PyData} (hx : x.dat = some d) (hy : y.dat = some (.list ds)) (sd : SeqAt.shaped d = true) (se : SeqAt.shaped (.list ds) = true) (q : P (.d (.bool (!ds.any fun z => PyData.eqv z d)))) : R2X K (rNin K) x y P := R2X.r (R2X.l (r2_val q fun Z H v u F1 F2 s r1 r2 =>
  ⟨_, Da.bl _, fun Q h => ⟨d, ds, (r1.dat s hx).dp, (r2.dat s hy).dp, sd, se, h⟩⟩))
/-- x is None -/
abbrev isNon : PyData → Bool
  | .none => true
  | _ => false
theorem r2_isN {d : PyData} (q : P (.d (.bool (isNon d)))) : R2X K (fun x y H Q => y = V.non ∧ Q (V.bl (decide (x = V.non))) H) (.d d) (.d .none) P := r2_val q fun Z H v u F1 F2 s r1 r2 => by
  have e : decide (v = V.non) = isNon d := by
    have r := r1.toD
    cases r <;> simp [isNon]
  refine ⟨_, Da.bl _, fun Q h => ⟨da_non r2.toD, ?_⟩⟩
  rw [e]
  exact h
theorem r2_notN {d : PyData} (q : P (.d (.bool (!isNon d)))) : R2X K (fun x y H Q => y = V.non ∧ Q (V.bl (!decide (x = V.non))) H) (.d d) (.d .none) P := r2_val q fun Z H v u F1 F2 s r1 r2 => by
  have e : decide (v = V.non) = isNon d := by
    have r := r1.toD
    cases r <;> simp [isNon]
  refine ⟨_, Da.bl _, fun Q h => ⟨da_non r2.toD, ?_⟩⟩
  rw [e]
  exact h
/-- subscripts -/
theorem atI_da {H : Hp} {xs : List V} {ds : List PyData} {i : Int} {d : PyData} (h : DaAll K H xs ds) (a : atI ds i = some d) : ∃ v, atI xs i = some v ∧ Da K H v d := by
  unfold atI at a ⊢
  rw [h.length]
  cases e : ixN ds.length i with
  | none =>
    rw [e] at a
    cases a
  | some j =>
    rw [e] at a
    exact h.get a
theorem r2_ix_list {x : Ow} {ds : List PyData} {i : Int} {d : PyData} (hx : x.lsD = some ds) (a : atI ds i = some d) (q : P (.d d)) : R2X K (rIx K) x (.d (.int i)) P := R2X.l (r2_val q fun Z H v u F1 F2 s r1 r2 => by
  obtain ⟨l, xs, rfl, h1, h2⟩ := r1.lsD s hx
  cases da_int r2.toD
  obtain ⟨w, e, f⟩ := atI_da h2 a
  exact ⟨w, f, fun Q h => ⟨l, xs, i, w, rfl, rfl, .inl h1, e, h⟩⟩)
theorem r2_ix_tup {ds : List PyData} {i : Int} {d : PyData} (a : atI ds i = some d) (q : P (.d d)) : R2X K (rIx K) (.d (.tuple ds)) (.d (.int i)) P := R2X.r (R2X.l (r2_val q fun Z H v u F1 F2 s r1 r2 => by
  obtain ⟨l, xs, rfl, h1, h2⟩ := da_tup r1.toD
  cases da_int r2.toD
  obtain ⟨w, e, f⟩ := atI_da h2 a
  exact ⟨w, f, fun Q h => ⟨l, xs, i, w, rfl, rfl, s.sqT h1, e, h⟩⟩))
theorem r2_ix_str {z : Str} {i : Int} {c : Nat} (hz : z.length ≤ sizeLine) (a : atI z.cps.toList i = some c) (q : P (.d (.str ⟨#[c]⟩))) : R2X K (rIx K) (.d (.str z)) (.d (.int i)) P := R2X.r (R2X.r (r2_val q fun Z H v u F1 F2 s r1 r2 => by
  cases da_str r1.toD
  cases da_int r2.toD
  exact ⟨_, Da.str _, fun Q h => ⟨z, i, c, rfl, rfl, hz, a, h⟩⟩))
theorem r2_ix_scr {ns : List Int} {i : Int} {n : Int} (a : atI ns i = some n) (q : P (.d (.int n))) : R2X K (rIx K) (.scr ns) (.d (.int i)) P := R2X.l (r2_val q fun Z H v u F1 F2 s r1 r2 => by
  cases r1 with
  | scr r1 _ =>
    obtain ⟨l, rfl, h1⟩ := r1
    cases da_int r2.toD
    refine ⟨.int n, Da.int n, fun Q h => ⟨l, _, i, _, rfl, rfl, s.sqL h1, ?_, h⟩⟩
    unfold atI at a ⊢
    rw [List.length_map]
    cases e : ixN ns.length i with
    | none =>
      rw [e] at a
      cases a
    | some j =>
      rw [e] at a
      show (ns.map V.int)[j]? = _
      rw [List.getElem?_map, show ns[j]? = some n from a]
      rfl)
end
end
end MV
set_option maxRecDepth 100000
set_option maxHeartbeats 4000000
set_option autoImplicit false
/-! MV4: tests, arguments, displays, calls, paths, statements. -/
namespace MV
open PySem L2 PyProof.Rows PL
section
variable {K : PySem.W.Frag} {Z Z' Z1 Z2 H H' H1 H2 : Hp} {F F' F1 F2 G G' : FP} {ρ ρ' : List Ow} {σ σ' : L2.St}
variable {P : Ow → List Ow → Prop} {B : Bool → List Ow → Prop} {ta tb tc te : TE} {tt tu : TT} {t u : TS} {p : PD} {L : List Nat}
/-! ### tests -/
theorem xt_tst (h : XE K te ρ fun s ρ1 => ∃ b, s = .d (.bool b) ∧ B b ρ1) : XT K (tTest te) ρ B := fun Z σ H F Q I k => h Z σ H F _ I fun Z' H' F' Fo v o ρ' kp I' r d ⟨b, es, q⟩ => by
  subst es
  exact ⟨b, da_bl r.toD, k Z' H' F' b ρ' (kp.dst' fun _ => .inl) I' q⟩
theorem xt_B (h : XE K te ρ fun s ρ1 => ∃ b, s = .d (.bool b) ∧ B b ρ1) : XT K (tB te) ρ B := fun Z σ H F Q I k => h Z σ H F _ I fun Z' H' F' Fo v o ρ' kp I' r d ⟨b, es, q⟩ => by
  subst es
  exact ⟨b, da_bl r.toD, k Z' H' F' b ρ' (kp.dst' fun _ => .inl) I' q⟩
theorem xt_not (h : XT K tt ρ fun b ρ1 => B (!b) ρ1) : XT K (tNot tt) ρ B := fun Z σ H F Q I k => h Z σ H F _ I fun Z' H' F' b ρ' kp I' q => k Z' H' F' _ ρ' kp I' q
theorem xt_and (h : XT K tt ρ fun b ρ1 => if b = true then XT K tu ρ1 B else B false ρ1) : XT K (tAnd tt tu) ρ B := fun Z σ H F Q I k => h Z σ H F _ I fun Z1 H1 F1 b ρ1 k1 I1 q => by
  cases b with
  | true => exact q Z1 σ H1 F1 Q I1 fun Z2 H2 F2 b2 ρ2 k2 I2 q2 => k Z2 H2 F2 b2 ρ2 (k1.trans k2) I2 q2
  | false => exact k Z1 H1 F1 false ρ1 k1 I1 q
theorem xt_or (h : XT K tt ρ fun b ρ1 => if b = true then B true ρ1 else XT K tu ρ1 B) : XT K (tOr tt tu) ρ B := fun Z σ H F Q I k => h Z σ H F _ I fun Z1 H1 F1 b ρ1 k1 I1 q => by
  cases b with
  | false => exact q Z1 σ H1 F1 Q I1 fun Z2 H2 F2 b2 ρ2 k2 I2 q2 => k Z2 H2 F2 b2 ρ2 (k1.trans k2) I2 q2
  | true => exact k Z1 H1 F1 true ρ1 k1 I1 q
theorem xt_yes (h : B true ρ) : XT K tYes ρ B := fun Z σ H F Q I k => k Z H F true ρ (Keep.refl Z H F) I h
theorem XE.after {Q : VK} {te : TE} (h : XE K te ρ' P) (k1 : Keep Z H F Z1 H1 F1) (I1 : StOk K Z1 H1 ρ' σ F1) (k : ∀ Z' H' F' Fo v o ρ', Keep Z H F Z' H' (Or2 F' Fo) → StOk K Z' H' ρ' σ F' → OwOk K Z' H' o v Fo → Dj Fo F' → P o ρ' → Q v H') : te σ H1 Q :=
  h Z1 σ H1 F1 Q I1 fun Z2 H2 F2 Fo v o ρ2 k2 I2 r d q => k Z2 H2 F2 Fo v o ρ2 (k1.trans k2) I2 r d q
theorem xe_if (h : XT K tt ρ fun b ρ1 => if b = true then XE K ta ρ1 P else XE K tb ρ1 P) : XE K (tIf tt ta tb) ρ P := fun Z σ H F Q I k => h Z σ H F _ I fun Z1 H1 F1 b ρ1 k1 I1 q => by
  cases b with
  | true => exact XE.after q k1 I1 k
  | false => exact XE.after q k1 I1 k
theorem xe_andV (h : XE K ta ρ fun s ρ1 => ∃ b, s = .d (.bool b) ∧ if b = true then XE K tb ρ1 P else P (.d (.bool false)) ρ1) : XE K (tAndV ta tb) ρ P := fun Z σ H F Q I k => h Z σ H F _ I fun Z1 H1 F1 Fo v o ρ1 k1 I1 r d ⟨b, es, q⟩ => by
  subst es
  refine ⟨b, da_bl r.toD, ?_⟩
  cases b with
  | true => exact XE.after q (k1.dst' fun _ => .inl) I1 k
  | false => exact k Z1 H1 F1 emp _ (.d (.bool false)) ρ1 (by rw [or2_emp]; exact k1.dst' fun _ => .inl) I1 (.ofD (Da.bl _)) emp_false.dj q
theorem xe_orV (h : XE K ta ρ fun s ρ1 => ∃ b, s = .d (.bool b) ∧ if b = true then P (.d (.bool true)) ρ1 else XE K tb ρ1 P) : XE K (tOrV ta tb) ρ P := fun Z σ H F Q I k => h Z σ H F _ I fun Z1 H1 F1 Fo v o ρ1 k1 I1 r d ⟨b, es, q⟩ => by
  subst es
  refine ⟨b, da_bl r.toD, ?_⟩
  cases b with
  | false => exact XE.after q (k1.dst' fun _ => .inl) I1 k
  | true => exact k Z1 H1 F1 emp _ (.d (.bool true)) ρ1 (by rw [or2_emp]; exact k1.dst' fun _ => .inl) I1 (.ofD (Da.bl _)) emp_false.dj q
theorem xe_notV (h : XE K ta ρ fun s ρ1 => ∃ b, s = .d (.bool b) ∧ P (.d (.bool (!b))) ρ1) : XE K (tNotV ta) ρ P := fun Z σ H F Q I k => h Z σ H F _ I fun Z1 H1 F1 Fo v o ρ1 k1 I1 r d ⟨b, es, q⟩ => by
  subst es
  exact ⟨b, da_bl r.toD, k Z1 H1 F1 emp _ (.d (.bool (!b))) ρ1 (by rw [or2_emp]; exact k1.dst' fun _ => .inl) I1 (.ofD (Da.bl _)) emp_false.dj q⟩
theorem xe_neg {te : TE} (h : XE K te ρ fun s ρ1 => ∃ i, s = .d (.int i) ∧ P (.d (.int (-i))) ρ1) : XE K (tUn (rU fun i => .int (-i)) te) ρ P := fun Z σ H F Q I k => h Z σ H F _ I fun Z1 H1 F1 Fo v o ρ1 k1 I1 r d ⟨i, es, q⟩ => by
  subst es
  exact ⟨i, da_int r.toD, k Z1 H1 F1 emp _ (.d (.int (-i))) ρ1 (by rw [or2_emp]; exact k1.dst' fun _ => .inl) I1 (.ofD (Da.int _)) emp_false.dj q⟩
theorem ifd {c A B : Prop} [Decidable c] (h1 : c → A) (h2 : ¬ c → B) : if decide c = true then A else B := by
  by_cases h : c
  · rw [if_pos (decide_eq_true h)]
    exact h1 h
  · rw [if_neg (by rw [decide_eq_true_eq]; exact h)]
    exact h2 h
theorem ifn {c A B : Prop} [Decidable c] (h1 : ¬ c → A) (h2 : c → B) : if (!decide c) = true then A else B := by
  by_cases h : c
  · rw [decide_eq_true h, Bool.not_true, if_neg Bool.false_ne_true]
    exact h2 h
  · rw [decide_eq_false h, Bool.not_false, if_pos rfl]
    exact h1 h
theorem ifb {b : Bool} {A B : Prop} (h1 : b = true → A) (h2 : b = false → B) : if b = true then A else B := by
  cases b with
  | true => exact h1 rfl
  | false => exact h2 rfl

/-! ### paths -/
/-- no change: what is looked at -/
def XW (K : PySem.W.Frag) (te : TE) (ρ : List Ow) (o : Ow) : Prop :=
  ∀ (Z : Hp) (σ : L2.St) (H : Hp) (F : FP) (Q : VK), StOk K Z H ρ σ F → (∀ v F1, OwOk K Z H o v F1 → Q v H) → te σ H Q
theorem xp_var {i : Nat} {o : Ow} (h : ρ[i]? = some o) (n : o ≠ .any) : XP K (tVar i) ρ i [] := fun Z σ H F Q I k => by
  obtain ⟨v, F1, e, r, _⟩ := slA I h n
  exact ⟨v, e, k v ⟨v, e, rfl⟩⟩
theorem Ow.get_app {o o1 : Ow} {q : List Stp} : ∀ {p : List Stp} {o : Ow}, o.get p = some o1 → o.get (p ++ q) = o1.get q
  | [], o, h => by
    unfold Ow.get at h
    cases (Option.some.inj h)
    rfl
  | .ix n :: p, o, h => by
    cases o with
    | lst xs =>
      unfold Ow.get at h
      rw [List.cons_append]
      conv => lhs; unfold Ow.get
      cases e : xs[n]? with
      | none => rw [e] at h; cases h
      | some x =>
        rw [e] at h
        exact Ow.get_app (o := x) h
    | _ => cases h
  | .fld f :: p, o, h => by
    cases o with
    | ins C fs =>
      unfold Ow.get at h
      rw [List.cons_append]
      conv => lhs; unfold Ow.get
      cases e : getF f fs with
      | none => rw [e] at h; cases h
      | some x =>
        rw [e] at h
        exact Ow.get_app (o := x) h
    | _ => cases h
theorem At.app {u w : V} {q : List Stp} : ∀ {p : List Stp} {v : V}, At H v p u → At H u q w → At H v (p ++ q) w
  | [], v, h, k => by
    have h : u = v := h
    subst h
    exact k
  | .ix n :: p, v, ⟨a, vs, x, e, h1, h2, h3⟩, k => ⟨a, vs, x, e, h1, h2, h3.app k⟩
  | .fld f :: p, v, ⟨a, C, dx, vs, x, e, h1, h2, h3⟩, k => ⟨a, C, dx, vs, x, e, h1, h2, h3.app k⟩
/-- what the path says of the value -/
theorem StOk.at {i : Nat} {q : List Stp} {o : Ow} {v : V} (I : StOk K Z H ρ σ F) (g : getS ρ i q = some o) (n : o ≠ .any) (a : AtS H σ i q v) : ∃ F1, OwOk K Z H o v F1 ∧ (∀ b, F1 b → F b) := by
  obtain ⟨v1, F1, F2, h1, h2, _, h4, _⟩ := I.sl.focus g n
  rw [a.fn h1]
  exact ⟨F1, h2, fun b hb => (h4 b).mpr (.inl hb)⟩
theorem xp_fld {i : Nat} {q : List Stp} {C : Addr} {fs : List (Str × Ow)} {f : Str} {o : Ow} (h : XP K ta ρ i q) (g : getS ρ i q = some (.ins C fs)) (c : Cls K C) (na : NoAttr K C f) (e : getF f fs = some o) : XP K (tFld K ta f) ρ i (q ++ [.fld f]) := fun Z σ H F Q I k => h Z σ H F _ I fun v a => by
  obtain ⟨F1, r, _⟩ := I.at g (by intro z; cases z) a
  cases r with
  | ins h1 z r n e1 =>
    obtain ⟨w, G1, G2, l, _⟩ := r.get e
    obtain ⟨v0, a1, a2⟩ := a
    exact ⟨_, C, _, _, w, rfl, h1, c, na, l, k w ⟨v0, a1, a2.app ⟨_, _, _, _, w, rfl, h1, l, rfl⟩⟩⟩
theorem getS_app {i : Nat} {q r : List Stp} {o : Ow} (g : getS ρ i q = some o) : getS ρ i (q ++ r) = o.get r := by
  unfold getS at g ⊢
  cases e : ρ[i]? with
  | none => rw [e] at g; cases g
  | some x =>
    rw [e] at g
    exact Ow.get_app (o := x) g
theorem ix_lst {a : Addr} {xs : List Ow} {vs : List V} {F : FP} {n : Int} {j : Nat} {o : Ow} (r : OwAll K Z H xs vs F) (hj : ixN xs.length n = some j) (hx : xs[j]? = some o) : ∃ w, atI vs n = some w ∧ vs[j]? = some w := by
  obtain ⟨w, _, _, h1, _⟩ := r.get hx
  refine ⟨w, ?_, h1⟩
  unfold atI
  rw [← r.length, hj]
  exact h1
theorem xp_ix {i : Nat} {q : List Stp} {xs : List Ow} {n : Int} {j : Nat} {o : Ow} (h : XP K ta ρ i q) (g : getS ρ i q = some (.lst xs)) (hi : XV K tb ρ (.int n)) (hj : ixN xs.length n = some j) (hx : xs[j]? = some o) : XP K (tOp (rIx K) ta tb) ρ i (q ++ [.ix j]) := fun Z σ H F Q I k => h Z σ H F _ I fun v a => hi Z σ H F _ I fun u ru => by
  cases da_int ru
  obtain ⟨F1, r, _⟩ := I.at g (by intro z; cases z) a
  cases r with
  | lst h1 z r nn e1 =>
    obtain ⟨w, w1, w2⟩ := ix_lst (a := 0) r hj hx
    obtain ⟨v0, a1, a2⟩ := a
    exact .inl ⟨_, _, n, w, rfl, rfl, SqL.of h1, w1, k w ⟨v0, a1, a2.app ⟨_, _, w, rfl, h1, w2, rfl⟩⟩⟩
/-- reading at a path -/
theorem xe_path {i : Nat} {q : List Stp} {o : Ow} (h : XP K te ρ i q) (g : getS ρ i q = some o) (c : o.cp) (x : P o ρ) : XE K te ρ P := fun Z σ H F Q I k => h Z σ H F _ I fun v a => by
  obtain ⟨F1, r, _⟩ := I.at g (Ow.cp_any c) a
  exact k Z H F emp v o ρ (by rw [or2_emp]; exact Keep.refl Z H F) I (r.copy c) emp_false.dj x
theorem xw_path {i : Nat} {q : List Stp} {o : Ow} (h : XP K te ρ i q) (g : getS ρ i q = some o) (n : o ≠ .any) : XW K te ρ o := fun Z σ H F Q I k => h Z σ H F _ I fun v a => by
  obtain ⟨F1, r, _⟩ := I.at g n a
  exact k v F1 r
theorem xw_var {i : Nat} {o : Ow} (h : ρ[i]? = some o) (n : o ≠ .any) : XW K (tVar i) ρ o := fun Z σ H F Q I k => by
  obtain ⟨v, F1, e, r, _⟩ := slA I h n
  exact ⟨v, e, k v F1 r⟩
theorem xw_val {d : PyData} (h : XV K te ρ d) : XW K te ρ (.d d) := fun Z σ H F Q I k => h Z σ H F _ I fun v r => k v emp (.ofD r)
theorem xv_path {i : Nat} {q : List Stp} {d : PyData} (h : XP K te ρ i q) (g : getS ρ i q = some (.d d)) : XV K te ρ d := fun Z σ H F Q I k => h Z σ H F _ I fun v a => by
  obtain ⟨F1, r, _⟩ := I.at g (by intro z; cases z) a
  exact k v r.toD
theorem xv_of {o : Ow} {d : PyData} (h : XW K te ρ o) (e : o = .d d) : XV K te ρ d := fun Z σ H F Q I k => h Z σ H F _ I fun v F1 r => by
  subst e
  exact k v r.toD
/-- an operation on what is looked at -/
theorem xe_opW {r : R2} {x y : Ow} (ha : XW K ta ρ x) (hb : XW K tb ρ y) (h : R2X K r x y fun o => P o ρ) : XE K (tOp r ta tb) ρ P := fun Z σ H F Q I k => ha Z σ H F _ I fun v F1 r1 => hb Z σ H F _ I fun u F2 r2 => by
  refine h Z H v u F1 F2 Q I.sub r1 r2 fun Z3 H3 Fo w o k3 s3 r3 x3 => ?_
  obtain ⟨I3, d3⟩ := I.tr k3 s3 emp_false.dj'
  refine k Z3 H3 F Fo w o ρ ((k3.src (G := F) fun _ z => z.elim).dst fun b hb => hb.elim .inl fun hb => (k3.fp b hb).elim (fun z => z.elim) .inr) I3 r3 d3.symm x3
/-- on what is looked at and a value -/
theorem xe_opWV {r : R2} {x : Ow} (ha : XW K ta ρ x) (h : ∃ y, XV K tb ρ y ∧ R2X K r x (.d y) fun o => P o ρ) : XE K (tOp r ta tb) ρ P := let ⟨y, h1, h2⟩ := h; xe_opW ha (xw_val h1) h2

/-! ### arguments, displays -/
theorem xa_nil {A : List Arg → List Ow → Prop} (h : A [] ρ) : XA K tNil ρ A := fun Z σ H F Q I k => k Z H F emp [] [] ρ (by rw [or2_emp]; exact Keep.refl Z H F) I (.nil emp_false) trivial emp_false.dj h
theorem or2_assoc (A B C : FP) : Or2 (Or2 A B) C = Or2 A (Or2 B C) := funext fun b => propext or_assoc
theorem or2_comm (A B : FP) : Or2 A B = Or2 B A := funext fun b => propext or_comm
/-- a first argument, the others -/
theorem xa_join {a : Arg} {v : V} {Fx : FP} {σ : L2.St} {ts : TA} {A : List Arg → List Ow → Prop} {ρ1 : List Ow} {Q : List V → Hp → Prop} (k1 : Keep Z H F Z1 H1 (Or2 F1 Fx)) (I1 : StOk K Z1 H1 ρ1 σ F1) (r1 : OwOk K Z1 H1 a.ow v Fx) (d1 : Dj Fx F1)
    (hb : ∀ as vs, BorOk as vs → BorOk (a :: as) (v :: vs)) (h : XA K ts ρ1 fun as ρ2 => A (a :: as) ρ2)
    (k : ∀ Z' H' F' Fo vs as ρ', Keep Z H F Z' H' (Or2 F' Fo) → StOk K Z' H' ρ' σ F' → OwAll K Z' H' (as.map Arg.ow) vs Fo → BorOk as vs → Dj Fo F' → A as ρ' → Q vs H') : ts σ H1 fun xs H2 => Q (v :: xs) H2 := by
  refine h Z1 σ H1 F1 _ I1 fun Z2 H2 F2 Fo vs as ρ2 k2 I2 r2 b2 d2 q2 => ?_
  obtain ⟨r1', d1'⟩ := r1.tr k2 d1
  have k2' := k2.more (G := Fx)
  refine k Z2 H2 F2 (Or2 Fx Fo) (v :: vs) (a :: as) ρ2 ((k1.trans k2').dst' fun b hb => ?_) I2 (.cons r1' r2 (d1'.sub (fun _ z => z) fun _ z => .inr z) fun _ => Iff.rfl) (hb _ _ b2) (fun b x y => x.elim (fun x => d1' b x (.inl y)) fun x => d2 b x y) q2
  rcases hb with hb | hb | hb
  · exact .inl (.inl hb)
  · exact .inr hb
  · exact .inl (.inr hb)
theorem xa_consO {ts : TA} {A : List Arg → List Ow → Prop} (h : XE K te ρ fun o ρ1 => XA K ts ρ1 fun as ρ2 => A (.val o :: as) ρ2) : XA K (tCons te ts) ρ A := fun Z σ H F Q I k => h Z σ H F _ I fun Z1 H1 F1 Fx v x ρ1 k1 I1 r1 d1 q1 =>
  xa_join (a := .val x) k1 I1 r1 d1 (fun _ _ b => b) q1 k
/-- data -/
theorem xa_cons {ts : TA} {A : List Arg → List Ow → Prop} (h : XE K te ρ fun o ρ1 => ∃ p, o.dat = some p ∧ XA K ts ρ1 fun as ρ2 => A (.val (.d p) :: as) ρ2) : XA K (tCons te ts) ρ A :=
  xa_consO (xe_fz h)
/-- lent -/
theorem xa_bor {ts : TA} {A : List Arg → List Ow → Prop} {i : Nat} {q : List Stp} {o : Ow} (h : XP K te ρ i q) (g : getS ρ i q = some o) (n : o ≠ .any) (x : ∀ v, XA K ts (putS ρ i q (.is v)) fun as ρ2 => A (.bor i q v o :: as) ρ2) : XA K (tCons te ts) ρ A := fun Z σ H F Q I k => h Z σ H F _ I fun v a => by
  obtain ⟨v1, F1, F2, h1, h2, h3, h4, h5⟩ := I.sl.focus g n
  have e := a.fn h1
  subst e
  have I1 : StOk K Z H (putS ρ i q (.is v)) σ F2 := ⟨I.sub, by
    have q := h5 Z H (.is v) emp (Sub.refl Z) (fun b hb => ⟨(I.sl.fp b ((h4 b).mpr (.inr hb))).2, rfl⟩) (.is emp_false) emp_false.dj
    rw [emp_or2] at q
    exact q⟩
  exact xa_join (a := .bor i q v o) ((Keep.refl Z H F).dst' fun b hb => (h4 b).mpr (hb.symm)) I1 h2 h3 (fun _ _ b => ⟨rfl, b⟩) (x v) k
def argD : List Arg → Option (List PyData)
  | [] => some []
  | .val (.d x) :: r => match argD r with
    | some l => some (x :: l)
    | none => none
  | _ :: _ => none
theorem argD_all : ∀ {as : List Arg} {vs : List V} {ds : List PyData} {F : FP}, OwAll K Z H (as.map Arg.ow) vs F → argD as = some ds → DaAll K Z vs ds ∧ Emp F
  | [], _, _, _, .nil e, h => by
    cases h
    exact ⟨.nil, e⟩
  | .val (.d x) :: r, _, ds, F, .cons a t d e, h => by
    unfold argD at h
    cases q : argD r with
    | none => rw [q] at h; cases h
    | some l =>
      rw [q] at h
      cases h
      obtain ⟨h1, h2⟩ := argD_all t q
      refine ⟨.cons a.toD h1, fun b hb => ?_⟩
      rcases (e b).mp hb with z | z
      · exact OwOk.cpF (o := .d x) trivial a b z
      · exact h2 b z
  | .bor _ _ _ _ :: r, _, _, _, _, h => by cases h
  | .val .any :: r, _, _, _, _, h => by cases h
  | .val (.is _) :: r, _, _, _, _, h => by cases h
  | .val (.scr _) :: r, _, _, _, _, h => by cases h
  | .val (.pen _) :: r, _, _, _, _, h => by cases h
  | .val (.ls _) :: r, _, _, _, _, h => by cases h
  | .val (.lst _) :: r, _, _, _, _, h => by cases h
  | .val (.dc _) :: r, _, _, _, _, h => by cases h
  | .val (.ins _ _) :: r, _, _, _, _, h => by cases h
  | .val (.fz _) :: r, _, _, _, _, h => by cases h
theorem xe_tup {ts : TA} (h : XA K ts ρ fun as ρ1 => ∃ ds, argD as = some ds ∧ ds.length ≤ sizeLine ∧ P (.d (.tuple ds)) ρ1) : XE K (tTup ts) ρ P := fun Z σ H F Q I k => h Z σ H F _ I fun Z1 H1 F1 Fo vs as ρ1 k1 I1 r1 _ d1 ⟨ds, hd, hl, q⟩ => by
  obtain ⟨a, _⟩ := argD_all r1 hd
  refine ⟨by rw [a.length]; exact hl, fun p np => ?_⟩
  refine k (upd Z1 p (.tup vs)) _ F1 emp _ (.d (.tuple ds)) ρ1 ?_ (I1.frz np) (.ofD (.tup (SqT.of upd_same) (a.mono (Keep.frz (F := emp) np I1.sub).sub))) emp_false.dj q
  rw [or2_emp]
  exact (k1.dst' fun _ => .inl).trans (Keep.frz np I1.sub)
/-- a list of data: owned -/
theorem own_new {o : HO} {p : Addr} (k1 : Keep Z H F Z1 H1 G) (I1 : StOk K Z1 H1 ρ σ F1) (np : H1 p = none) : Keep Z H F Z1 (upd H1 p o) (Or2 G fun b => b = p) ∧ StOk K Z1 (upd H1 p o) ρ σ F1 ∧ Dj (fun b => b = p) F1 ∧ Z1 p = none := by
  refine ⟨k1.trans (Keep.own np), I1.trash np, fun b x y => ?_, ?_⟩
  · subst x
    obtain ⟨⟨u, hu⟩, _⟩ := I1.sl.fp b y
    rw [np] at hu
    cases hu
  · cases e : Z1 p with
    | none => rfl
    | some u => rw [I1.sub p u e] at np; cases np
theorem xe_lst {ts : TA} (h : XA K ts ρ fun as ρ1 => ∃ ds, argD as = some ds ∧ ds.length ≤ sizeLine ∧ P (.ls ds) ρ1) : XE K (tLst ts) ρ P := fun Z σ H F Q I k => h Z σ H F _ I fun Z1 H1 F1 Fo vs as ρ1 k1 I1 r1 _ d1 ⟨ds, hd, hl, q⟩ => by
  obtain ⟨a, _⟩ := argD_all r1 hd
  refine ⟨by rw [a.length]; exact hl, fun p np => ?_⟩
  obtain ⟨x1, x2, x3, x4⟩ := own_new (o := .lst vs) (k1.dst' fun _ => .inl) I1 np
  exact k Z1 _ F1 _ _ (.ls ds) ρ1 x1 x2 (.ls upd_same x4 a fun _ => Iff.rfl) x3 q
/-- a list of what is owned -/
theorem xe_lstO {ts : TA} (h : XA K ts ρ fun as ρ1 => as.length ≤ sizeLine ∧ P (.lst (as.map Arg.ow)) ρ1) : XE K (tLst ts) ρ P := fun Z σ H F Q I k => h Z σ H F _ I fun Z1 H1 F1 Fo vs as ρ1 k1 I1 r1 _ d1 ⟨hl, q⟩ => by
  refine ⟨by rw [← r1.length, List.length_map]; exact hl, fun p np => ?_⟩
  have nFo : ¬ Fo p := fun z => by
    obtain ⟨⟨u, hu⟩, _⟩ := r1.fp p z
    rw [np] at hu
    cases hu
  obtain ⟨x1, x2, x3, x4⟩ := own_new (o := .lst vs) k1 I1 np
  refine k Z1 _ F1 (fun b => b = p ∨ Fo b) _ (.lst _) ρ1 (x1.dst' fun b hb => ?_) x2 (.lst upd_same x4 ?_ nFo fun _ => Iff.rfl) (fun b x y => x.elim (fun x => x3 b x y) fun x => d1 b x y) q
  · rcases hb with hb | hb | hb
    · exact .inl (.inl hb)
    · exact .inr hb
    · exact .inl (.inr hb)
  · refine r1.mv (Sub.refl Z1) fun b hb => ⟨(r1.fp b hb).2, ?_⟩
    rw [upd_ne fun e => nFo (by rw [← e]; exact hb)]

/-! ### calls -/
abbrev FS := List Ow → (Ow → List Ow → Prop) → Prop
def spM (K : PySem.W.Frag) (f : FS) : Sp := fun vs H Q _ => ∃ (Z : Hp) (F : FP) (os : List Ow) (P : Ow → List Ow → Prop), Sub Z H ∧ OwAll K Z H os vs F ∧ f os P ∧
  ∀ Z' H' F' Fo v o os', Keep Z H F Z' H' (Or2 F' Fo) → Sub Z' H' → OwAll K Z' H' os' vs F' → OwOk K Z' H' o v Fo → Dj Fo F' → P o os' → Q v H'
/-- what was lent comes back -/
def Fill : List Arg → List Ow → List Ow → (List Ow → Prop) → Prop
  | [], _, ρ, k => k ρ
  | .val _ :: as, _ :: os, ρ, k => Fill as os ρ k
  | .bor i q v _ :: as, o :: os, ρ, k => getS ρ i q = some (.is v) ∧ Fill as os (putS ρ i q o) k
  | _ :: _, [], _, _ => False
theorem fill_ok {k : List Ow → Prop} (hs : Sub Z H) : ∀ {as : List Arg} {os : List Ow} {vs : List V} {ρ : List Ow} {F Fa : FP}, SlAll K Z H ρ σ F → OwAll K Z H os vs Fa → BorOk as vs → Dj Fa F → Fill as os ρ k → ∃ ρ' F', SlAll K Z H ρ' σ F' ∧ (∀ b, F' b → F b ∨ Fa b) ∧ k ρ'
  | [], os, vs, ρ, F, Fa, I, r, b, d, h => ⟨ρ, F, I, fun _ => .inl, h⟩
  | .val _ :: as, _ :: os, _, ρ, F, Fa, I, .cons a t dd e, b, d, h => by
    obtain ⟨ρ', F', h1, h2, h3⟩ := fill_ok hs I t b (d.sub (fun b z => (e b).mpr (.inr z)) fun _ z => z) h
    exact ⟨ρ', F', h1, fun b hb => (h2 b hb).imp id fun z => (e b).mpr (.inr z), h3⟩
  | .bor i q v _ :: as, o :: os, _, ρ, F, Fa, I, .cons (v := v') (F1 := A1) (F2 := A2) a t dd e, b, d, h => by
    obtain ⟨g, h⟩ := h
    obtain ⟨b1, b2⟩ := b
    have ev : v' = v := by
      simp at b1
      exact b1
    subst ev
    obtain ⟨v1, F1, F2, h1, h2, h3, h4, h5⟩ := I.focus g (by intro z; cases z)
    cases h2 with
    | is e1 =>
      have I1 := h5 Z H o A1 (Sub.refl Z) (fun b hb => ⟨(I.fp b ((h4 b).mpr (.inr hb))).2, rfl⟩) a (d.sub (fun b z => (e b).mpr (.inl z)) fun b z => (h4 b).mpr (.inr z))
      obtain ⟨ρ', F', k1, k2, k3⟩ := fill_ok hs I1 t b2 (fun b x y => y.elim (fun y => dd b y x) fun y => d b ((e b).mpr (.inr x)) ((h4 b).mpr (.inr y))) h
      refine ⟨ρ', F', k1, fun b hb => ?_, k3⟩
      rcases k2 b hb with (z | z) | z
      · exact .inr ((e b).mpr (.inl z))
      · exact .inl ((h4 b).mpr (.inr z))
      · exact .inr ((e b).mpr (.inr z))
  | .val _ :: _, [], _, _, _, _, _, .nil _, _, _, h => h.elim
  | .bor _ _ _ _ :: _, [], _, _, _, _, _, .nil _, _, _, h => h.elim
theorem run_call {f : FS} {X : XK} {as : List Arg} {vs : List V} {Fo : FP} {Q : VK} {os : List Ow} (k1 : Keep Z H F Z1 H1 (Or2 F1 Fo)) (I1 : StOk K Z1 H1 ρ σ F1) (r1 : OwAll K Z1 H1 os vs Fo) (b1 : BorOk as vs) (d1 : Dj Fo F1) (q : f os fun r os' => Fill as os' ρ (P r))
    (k : ∀ Z' H' F' Fo v o ρ', Keep Z H F Z' H' (Or2 F' Fo) → StOk K Z' H' ρ' σ F' → OwOk K Z' H' o v Fo → Dj Fo F' → P o ρ' → Q v H') : spM K f vs H1 Q X := by
  refine ⟨Z1, Fo, os, _, I1.sub, r1, q, fun Z2 H2 F2 Fr v o os' k2 s2 r2 rr dr q2 => ?_⟩
  obtain ⟨I2, d2⟩ := I1.tr k2 s2 d1.symm
  obtain ⟨ρ', F', h1, h2, h3⟩ := fill_ok s2 I2.sl r2 b1 (d2.symm.sub (fun _ z => .inl z) fun _ z => z) q2
  have k2' := k2.more (G := F1)
  have k12 := k1.trans (by rw [or2_comm F1 Fo]; exact k2')
  refine k Z2 H2 F' Fr v o ρ' (k12.dst' fun b hb => ?_) ⟨s2, h1⟩ rr (fun b x y => ?_) h3
  · rcases hb with hb | hb
    · rcases h2 b hb with z | z
      · exact .inr z
      · exact .inl (.inl z)
    · exact .inl (.inr hb)
  · rcases h2 b y with z | z
    · exact d2 b z (.inr x)
    · exact dr b x z
theorem xe_call {f : FS} {X : XK} {ts : TA} (h : XA K ts ρ fun as ρ1 => f (as.map Arg.ow) fun r os' => Fill as os' ρ1 (P r)) : XE K (tCall (spM K f) [] X ts) ρ P := fun Z σ H F Q I k => h Z σ H F _ I fun Z1 H1 F1 Fo vs as ρ1 k1 I1 r1 b1 d1 q => by
  show spM K f (vs ++ []) H1 Q X
  rw [List.append_nil]
  exact run_call k1 I1 r1 b1 d1 q k
/-- o.m(..), o at a path -/
theorem OwFs.noF : ∀ {xs : List (Str × Ow)} {vs : List (Str × V)} {F : FP} {f : Str}, OwFs K Z H xs vs F → getF f xs = none → vs.lookup f = none
  | [], _, _, f, .nil _, _ => rfl
  | (g, x) :: xs, _, _, f, .cons a t d e, h => by
    unfold getF at h
    by_cases q : g = f
    · rw [if_pos q] at h
      cases h
    · rw [if_neg q] at h
      rw [List.lookup_cons, beq_ne q]
      exact t.noF h
theorem xe_meth {f : FS} {X : XK} {C : Addr} {m : Str} {ts : TA} {i : Nat} {q : List Stp} {fs : List (Str × Ow)} (h : XP K ta ρ i q) (g : getS ρ i q = some (.ins C fs)) (nf : getF m fs = none)
    (x : ∀ v, XA K ts (putS ρ i q (.is v)) fun as ρ1 => f (.ins C fs :: as.map Arg.ow) fun r os' => Fill (.bor i q v (.ins C fs) :: as) os' ρ1 (P r)) : XE K (tMeth C m (spM K f) [] X ta ts) ρ P := fun Z σ H F Q I k => h Z σ H F _ I fun v a => by
  obtain ⟨v1, F1, F2, h1, h2, h3, h4, h5⟩ := I.sl.focus g (by intro z; cases z)
  have e := a.fn h1
  subst e
  have I1 : StOk K Z H (putS ρ i q (.is v)) σ F2 := ⟨I.sub, by
    have q := h5 Z H (.is v) emp (Sub.refl Z) (fun b hb => ⟨(I.sl.fp b ((h4 b).mpr (.inr hb))).2, rfl⟩) (.is emp_false) emp_false.dj
    rw [emp_or2] at q
    exact q⟩
  have va : ∃ b dx vs, v = .ref b ∧ H b = some (.ins C dx vs) ∧ vs.lookup m = none := by
    cases h2 with
    | ins z1 z2 z3 _ _ => exact ⟨_, _, _, rfl, z1, z3.noF nf⟩
  obtain ⟨b, dx, vs, e1, e2, e3⟩ := va
  refine ⟨b, dx, vs, e1, e2, e3, ?_⟩
  refine xa_join (a := .bor i q v (.ins C fs)) (Q := fun xs H2 => spM K f (xs ++ []) H2 Q X) ((Keep.refl Z H F).dst' fun b hb => (h4 b).mpr (hb.symm)) I1 h2 h3 (fun _ _ b => ⟨rfl, b⟩)
    (A := fun as ρ1 => f (as.map Arg.ow) fun r os' => Fill as os' ρ1 (P r)) (x v) fun Z' H' F' Fo vs as ρ' k1 I2 r1 b1 d1 q => ?_
  rw [List.append_nil]
  exact run_call k1 I2 r1 b1 d1 q k
/-- C(..) -/
theorem xe_make {f : FS} {X : XK} {C : Addr} {ts : TA} (h : XA K ts ρ fun as ρ1 => f (.ins C [] :: as.map Arg.ow) fun r os' => r = .d .none ∧ ∃ o os2, os' = o :: os2 ∧ o ≠ .any ∧ Fill as os2 ρ1 (P o)) : XE K (tMake C (spM K f) [] X ts) ρ P := fun Z σ H F Q I k => h Z σ H F _ I fun Z1 H1 F1 Fo vs as ρ1 k1 I1 r1 b1 d1 q => by
  show ∀ x dx, H1 x = none → H1 dx = none → dx ≠ x → spM K f (V.ref x :: (vs ++ [])) (upd (upd H1 dx (.own x)) x (.ins C dx [])) _ X
  intro x dx hx hdx ne
  rw [List.append_nil]
  have hx' : upd H1 dx (.own x) x = none := by rw [upd_ne ne.symm]; exact hx
  have k2 : Keep Z1 H1 (Or2 F1 Fo) Z1 (upd H1 dx (.own x)) (Or2 F1 Fo) := Keep.trash hdx
  have k3 : Keep Z1 (upd H1 dx (.own x)) (Or2 F1 Fo) Z1 (upd (upd H1 dx (.own x)) x (.ins C dx [])) (Or2 (Or2 F1 Fo) fun b => b = x) := Keep.own hx'
  have I3 : StOk K Z1 (upd (upd H1 dx (.own x)) x (.ins C dx [])) ρ1 σ F1 := (I1.trash hdx).trash hx'
  have nx : ¬ Or2 F1 Fo x := fun z => by
    rcases z with z | z
    · obtain ⟨⟨u, hu⟩, _⟩ := I1.sl.fp x z
      rw [hx] at hu; cases hu
    · obtain ⟨⟨u, hu⟩, _⟩ := r1.fp x z
      rw [hx] at hu; cases hu
  have zx : Z1 x = none := by
    cases e : Z1 x with
    | none => rfl
    | some u => rw [I1.sub x u e] at hx; cases hx
  have r3 : OwAll K Z1 (upd (upd H1 dx (.own x)) x (.ins C dx [])) (as.map Arg.ow) vs Fo := r1.mv (Sub.refl Z1) fun b hb => ⟨(r1.fp b hb).2, by
    obtain ⟨⟨u, hu⟩, _⟩ := r1.fp b hb
    rw [upd_ne (fun e => nx (by rw [← e]; exact .inr hb)), upd_ne (ne_of_none hu hdx)]⟩
  have rx : OwOk K Z1 (upd (upd H1 dx (.own x)) x (.ins C dx [])) (.ins C []) (.ref x) (fun b => b = x ∨ emp b) := .ins upd_same zx (.nil emp_false) (fun z => z) fun _ => Iff.rfl
  have dj : Dj (fun b => b = x ∨ emp b) Fo := fun b z y => z.elim (fun z => nx (by rw [← z]; exact .inr y)) fun z => z
  refine ⟨Z1, fun b => (b = x ∨ emp b) ∨ Fo b, _, _, I3.sub, .cons rx r3 dj fun _ => Iff.rfl, q, fun Z4 H4 F4 Fr v o os' k4 s4 r4 rr dr ⟨eo, y, os2, e2, ny, q4⟩ => ?_⟩
  subst eo e2
  have I3d : Dj F1 (fun b => (b = x ∨ emp b) ∨ Fo b) := fun b z y => by
    rcases y with (y | y) | y
    · exact nx (by rw [← y]; exact .inl z)
    · exact y
    · exact d1 b y z
  obtain ⟨I4, d4⟩ := I3.tr k4 s4 I3d
  cases r4 with
  | @cons _ _ _ _ _ A1 A2 a t dd e =>
    obtain ⟨ρ', F', h1, h2, h3⟩ := fill_ok s4 I4.sl t b1 (fun b z y => d4 b y (.inl ((e b).mpr (.inr z)))) q4
    refine ⟨da_non rr.toD, k Z4 H4 F' A1 _ y ρ' ?_ ⟨s4, h1⟩ a (fun b z y => ?_) h3⟩
    · have k5 := k4.more (G := F1)
      have k13 := ((k1.trans k2).trans k3).dst' (G := Or2 (fun b => (b = x ∨ emp b) ∨ Fo b) F1) fun b hb => by
        rcases hb with ((hb | hb) | hb) | hb
        · exact .inr hb
        · exact hb.elim
        · exact .inl (.inr hb)
        · exact .inl (.inl hb)
      refine (k13.trans k5).dst' fun b hb => ?_
      rcases hb with hb | hb
      · rcases h2 b hb with z | z
        · exact .inr z
        · exact .inl (.inl ((e b).mpr (.inr z)))
      · exact .inl (.inl ((e b).mpr (.inl hb)))
    · rcases h2 b y with y | y
      · exact d4 b y (.inl ((e b).mpr (.inl z)))
      · exact dd b z y
end
end MV
set_option maxRecDepth 100000
set_option maxHeartbeats 4000000
set_option autoImplicit false
/-! MV5: statements, changes of what is owned, a def's body. -/
namespace MV
open PySem L2 PyProof.Rows PL
section
variable {K : PySem.W.Frag} {Z Z' Z1 Z2 H H' H1 H2 : Hp} {F F' F1 F2 G G' : FP} {ρ ρ' : List Ow} {σ σ' : L2.St}
variable {P : Ow → List Ow → Prop} {B : Bool → List Ow → Prop} {ta tb tc te to ti : TE} {tt tu : TT} {t u : TS} {p : PD} {L : List Nat}
theorem XS.imp {p' : PD} (h : XS K L t p ρ) (h1 : ∀ ρ, p.nx ρ → p'.nx ρ) (h2 : ∀ o ρ, p.rt o ρ → p'.rt o ρ) (h3 : ∀ ρ, p.bk ρ → p'.bk ρ) (h4 : ∀ ρ, p.ct ρ → p'.ct ρ) : XS K L t p' ρ := fun Z σ H F D I d => h Z σ H F D I
  ⟨fun Z' H' F' ρ' σ' k l I q => d.nx Z' H' F' ρ' σ' k l I (h1 _ q), fun Z' H' F' Fo v o ρ' σ' k l I r j q => d.rt Z' H' F' Fo v o ρ' σ' k l I r j (h2 _ _ q), fun Z' H' F' ρ' σ' k l I q => d.bk Z' H' F' ρ' σ' k l I (h3 _ q), fun Z' H' F' ρ' σ' k l I q => d.ct Z' H' F' ρ' σ' k l I (h4 _ q)⟩
theorem xs_seq (h : XS K L t { p with nx := fun ρ => XS K L u p ρ } ρ) : XS K L (tSeq t u) p ρ := fun Z σ H F D I d => h Z σ H F { D with nx := u D } I
  ⟨fun Z' H' F' ρ' σ' k l I q => q Z' σ' H' F' D I (d.re k l), d.rt, d.bk, d.ct⟩
theorem xs_cut (M : List Ow → Prop) (h : XS K L t { p with nx := M } ρ) (k : ∀ ρ, M ρ → XS K L u p ρ) : XS K L (tSeq t u) p ρ := xs_seq (h.imp k (fun _ _ h => h) (fun _ h => h) fun _ h => h)
theorem xs_next (h : p.nx ρ) : XS K L tNext p ρ := fun Z σ H F D I d => d.nx Z H F ρ σ (Keep.refl Z H F) (Lck.refl L σ) I h
theorem xs_brk (h : p.bk ρ) : XS K L tBreak p ρ := fun Z σ H F D I d => d.bk Z H F ρ σ (Keep.refl Z H F) (Lck.refl L σ) I h
theorem xs_cont (h : p.ct ρ) : XS K L tCont p ρ := fun Z σ H F D I d => d.ct Z H F ρ σ (Keep.refl Z H F) (Lck.refl L σ) I h
theorem xs_ret (h : XE K te ρ p.rt) : XS K L (tRet te) p ρ := fun Z σ H F D I d => h Z σ H F _ I fun Z' H' F' Fo v o ρ' k I' r j q => d.rt Z' H' F' Fo v o ρ' σ k (Lck.refl L σ) I' r j q
theorem xs_retN (h : p.rt (.d .none) ρ) : XS K L tRetN p ρ := fun Z σ H F D I d => d.rt Z H F emp .non (.d .none) ρ σ (by rw [or2_emp]; exact Keep.refl Z H F) (Lck.refl L σ) I (.ofD .non) emp_false.dj h
theorem xs_drop (h : XE K te ρ fun _ ρ1 => p.nx ρ1) : XS K L (tDrop te) p ρ := fun Z σ H F D I d => h Z σ H F _ I fun Z' H' F' Fo v o ρ' k I' r j q => d.nx Z' H' F' ρ' σ (k.dst' fun _ => .inl) (Lck.refl L σ) I' q
theorem xs_if (h : XT K tt ρ fun b ρ1 => if b = true then XS K L t p ρ1 else XS K L u p ρ1) : XS K L (tIfS tt t u) p ρ := fun Z σ H F D I d => h Z σ H F _ I fun Z1 H1 F1 b ρ1 k1 I1 q => by
  cases b with
  | true => exact q Z1 σ H1 F1 D I1 (d.re k1 (Lck.refl L σ))
  | false => exact q Z1 σ H1 F1 D I1 (d.re k1 (Lck.refl L σ))
/-- a name gets a value that is held: the state, what the value owns -/
theorem StOk.bind {Fo : FP} {v : V} {o : Ow} {i : Nat} (I : StOk K Z H ρ σ F) (r : OwOk K Z H o v Fo) (j : Dj Fo F) (hi : i < ρ.length) : ∃ F', StOk K Z H (ρ.set i o) (σ.set i (some v)) F' ∧ ∀ b, F' b → F b ∨ Fo b := by
  obtain ⟨F2, h1, h2⟩ := I.sl.bind hi
  exact ⟨Or2 Fo F2, ⟨I.sub, h2 Z H o v Fo (Sub.refl Z) (fun b hb => ⟨(I.sl.fp b (h1 b hb)).2, rfl⟩) r (j.sub (fun _ z => z) h1)⟩, fun b hb => hb.elim .inr fun z => .inl (h1 b z)⟩
/-- targets -/
def XG (K : PySem.W.Frag) (L : List Nat) (tg : TG) (is : List Nat) (o : Ow) (ρ : List Ow) (M : List Ow → Prop) : Prop :=
  ∀ (Z : Hp) (σ : L2.St) (H : Hp) (F Fo : FP) (v : V) (Q : L2.St → Hp → Prop), StOk K Z H ρ σ F → OwOk K Z H o v Fo → Dj Fo F →
    (∀ Z' H' F' ρ' σ', Keep Z H (Or2 F Fo) Z' H' F' → StOk K Z' H' ρ' σ' F' → Lck L σ σ' → (∀ j, j ∉ is → σ'[j]? = σ[j]?) → M ρ' → Q σ' H') → tg v σ H Q
theorem xg_name {i : Nat} {o : Ow} {M : List Ow → Prop} (hi : i < ρ.length) (hL : i ∉ L) (h : M (ρ.set i o)) : XG K L (gName i) [i] o ρ M := fun Z σ H F Fo v Q I r j k => by
  obtain ⟨F', I', s⟩ := I.bind r j hi
  exact k Z H F' _ _ ((Keep.refl Z H _).dst' s) I' (Lck.set hL) (fun m hm => by
    rw [List.getElem?_set]
    rw [if_neg fun e => hm (by rw [← e]; exact List.mem_singleton.mpr rfl)]) h
def XGs (K : PySem.W.Frag) (L : List Nat) (tg : TGs) (is : List Nat) (ds : List PyData) (ρ : List Ow) (M : List Ow → Prop) : Prop :=
  ∀ (Z : Hp) (σ : L2.St) (H : Hp) (F : FP) (vs : List V) (Q : L2.St → Hp → Prop), StOk K Z H ρ σ F → DaAll K Z vs ds →
    (∀ Z' H' F' ρ' σ', Keep Z H F Z' H' F' → StOk K Z' H' ρ' σ' F' → Lck L σ σ' → (∀ j, j ∉ is → σ'[j]? = σ[j]?) → M ρ' → Q σ' H') → tg vs σ H Q
theorem xgs_nil {M : List Ow → Prop} (h : M ρ) : XGs K L gNil [] [] ρ M := fun Z σ H F vs Q I r k => by
  cases r
  exact ⟨rfl, k Z H F ρ σ (Keep.refl Z H F) I (Lck.refl L σ) (fun _ _ => rfl) h⟩
theorem xgs_cons {tg : TG} {tgs : TGs} {is js : List Nat} {d : PyData} {ds : List PyData} {M : List Ow → Prop} (h : XG K L tg is (.d d) ρ fun ρ1 => XGs K L tgs js ds ρ1 M) : XGs K L (gCons tg tgs) (is ++ js) (d :: ds) ρ M := fun Z σ H F vs Q I r k => by
  cases r with
  | cons r0 rr =>
    refine ⟨_, _, rfl, ?_⟩
    refine h Z σ H F emp _ _ I (.ofD r0) emp_false.dj fun Z1 H1 F1 ρ1 σ1 k1 I1 l1 s1 q1 => ?_
    refine q1 Z1 σ1 H1 F1 _ _ I1 (rr.mono k1.sub) fun Z2 H2 F2 ρ2 σ2 k2 I2 l2 s2 q2 => ?_
    rw [or2_emp] at k1
    exact k Z2 H2 F2 ρ2 σ2 (k1.trans k2) I2 (l1.trans l2) (fun j hj => (s2 j fun z => hj (List.mem_append_right _ z)).trans (s1 j fun z => hj (List.mem_append_left _ z))) q2
theorem xg_tup {tgs : TGs} {is : List Nat} {n : Nat} {ds : List PyData} {M : List Ow → Prop} (hn : ds.length = n) (h : XGs K L tgs is ds ρ M) : XG K L (gTup K n tgs) is (.d (.tuple ds)) ρ M := fun Z σ H F Fo v Q I r j k => by
  obtain ⟨a, xs, rfl, h1, h2⟩ := da_tup r.toD
  refine ⟨a, xs, rfl, I.sub.sqT h1, by rw [h2.length]; exact hn, h Z σ H F xs Q I h2 fun Z' H' F' ρ' σ' k1 => k Z' H' F' ρ' σ' (k1.src fun _ => .inl)⟩
theorem xs_asgG {tg : TG} {is : List Nat} (h : XE K te ρ fun o ρ1 => XG K L tg is o ρ1 p.nx) : XS K L (tAsg te tg) p ρ := fun Z σ H F D I d => h Z σ H F _ I fun Z1 H1 F1 Fo v o ρ1 k1 I1 r1 j1 q1 =>
  q1 Z1 σ H1 F1 Fo v _ I1 r1 j1 fun Z2 H2 F2 ρ2 σ2 k2 I2 l2 _ q2 => d.nx Z2 H2 F2 ρ2 σ2 (k1.trans k2) l2 I2 q2
/-- x = e: what e made is x's own; as data -/
theorem xs_asgO {i : Nat} (hi : i < ρ.length) (hL : i ∉ L) (h : XE K te ρ fun o ρ1 => ρ1.length = ρ.length ∧ p.nx (ρ1.set i o)) : XS K L (tAsg te (gName i)) p ρ := xs_asgG (h.imp fun o ρ1 ⟨e, q⟩ => xg_name (by rw [e]; exact hi) hL q)
theorem xs_asg {i : Nat} (hi : i < ρ.length) (hL : i ∉ L) (h : XE K te ρ fun o ρ1 => ∃ d, o.dat = some d ∧ ρ1.length = ρ.length ∧ p.nx (ρ1.set i (.d d))) : XS K L (tAsg te (gName i)) p ρ := xs_asgO hi hL (xe_fz (h.imp fun o ρ1 ⟨d, e, q⟩ => ⟨d, e, q⟩))
/-- a change of what stands at a path: the same object, its new content -/
theorem StOk.chg {i : Nat} {q : List Stp} {o o' : Ow} {v : V} {a : Addr} {x : HO} (I : StOk K Z H ρ σ F) (g : getS ρ i q = some o) (n : o ≠ .any) (at_ : AtS H σ i q v) (hv : v = .ref a)
    (h : ∀ F1, OwOk K Z H o v F1 → F1 a ∧ ∃ F1', OwOk K Z (upd H a x) o' v F1' ∧ ∀ b, F1' b → F1 b) : ∃ F', StOk K Z (upd H a x) (putS ρ i q o') σ F' ∧ Keep Z H F Z (upd H a x) F' := by
  obtain ⟨v1, F1, F2, h1, h2, h3, h4, h5⟩ := I.sl.focus g n
  have e := at_.fn h1
  subst e
  obtain ⟨w1, F1', w2, w3⟩ := h F1 h2
  have za : Z a = none := (I.sl.fp a ((h4 a).mpr (.inl w1))).2
  refine ⟨Or2 F1' F2, ⟨sub_chg za I.sub, h5 Z (upd H a x) o' F1' (Sub.refl Z) (fun b hb => ⟨(I.sl.fp b ((h4 b).mpr (.inr hb))).2, ?_⟩) w2 (h3.sub w3 fun _ z => z)⟩, ?_⟩
  · have ne : b ≠ a := fun z => h3 b (by rw [z]; exact w1) hb
    rw [upd_ne ne]
  · exact (Keep.chg ((h4 a).mpr (.inl w1))).dst' fun b hb => (h4 b).mpr (hb.imp (w3 b) id)
/-- .. taking up what is held besides -/
theorem StOk.chg2 {i : Nat} {q : List Stp} {o o' : Ow} {v : V} {a : Addr} {x : HO} {Fo : FP} (I : StOk K Z H ρ σ F) (jo : Dj Fo F) (fo : ∀ b, Fo b → ∃ u, H b = some u) (g : getS ρ i q = some o) (n : o ≠ .any) (at_ : AtS H σ i q v) (hv : v = .ref a)
    (h : ∀ F1, OwOk K Z H o v F1 → Dj Fo F1 → F1 a ∧ ∃ F1', OwOk K Z (upd H a x) o' v F1' ∧ ∀ b, F1' b → F1 b ∨ Fo b) : ∃ F', StOk K Z (upd H a x) (putS ρ i q o') σ F' ∧ Keep Z H (Or2 F Fo) Z (upd H a x) F' := by
  obtain ⟨v1, F1, F2, h1, h2, h3, h4, h5⟩ := I.sl.focus g n
  have e := at_.fn h1
  subst e
  obtain ⟨w1, F1', w2, w3⟩ := h F1 h2 (jo.sub (fun _ z => z) fun b z => (h4 b).mpr (.inl z))
  have za : Z a = none := (I.sl.fp a ((h4 a).mpr (.inl w1))).2
  refine ⟨Or2 F1' F2, ⟨sub_chg za I.sub, h5 Z (upd H a x) o' F1' (Sub.refl Z) (fun b hb => ⟨(I.sl.fp b ((h4 b).mpr (.inr hb))).2, ?_⟩) w2 (fun b x y => (w3 b x).elim (fun x => h3 b x y) fun x => jo b x ((h4 b).mpr (.inr y)))⟩, ?_⟩
  · have ne : b ≠ a := fun z => h3 b (by rw [z]; exact w1) hb
    rw [upd_ne ne]
  · exact (Keep.chg (.inl ((h4 a).mpr (.inl w1)))).dst' fun b hb => by
      rcases hb with hb | hb
      · rcases w3 b hb with z | z
        · exact .inl ((h4 b).mpr (.inl z))
        · exact .inr z
      · exact .inl ((h4 b).mpr (.inr hb))
theorem OwFs.setF {f : Str} {x' : Ow} {v' : V} {F1' : FP} (r : OwOk K Z H x' v' F1') : ∀ {xs : List (Str × Ow)} {vs : List (Str × V)} {F : FP}, OwFs K Z H xs vs F → Dj F1' F → ∃ F', OwFs K Z H (setF f x' xs) (putF f v' vs) F' ∧ ∀ b, F' b → F b ∨ F1' b
  | [], _, F, .nil e, j => ⟨F1', by
      unfold MV.setF putF
      exact .cons r (.nil emp_false) emp_false.dj' fun b => ⟨.inl, fun z => z.elim id fun z => z.elim⟩, fun b z => .inr z⟩
  | (g, y) :: xs, (_, w) :: vs, F, .cons (F1 := A1) (F2 := A2) a t d e, j => by
    unfold MV.setF putF
    by_cases q : g = f
    · rw [if_pos q, if_pos q]
      exact ⟨Or2 F1' A2, .cons r t (j.sub (fun _ z => z) fun b z => (e b).mpr (.inr z)) fun _ => Iff.rfl, fun b z => z.elim .inr fun z => .inl ((e b).mpr (.inr z))⟩
    · rw [if_neg q, if_neg q]
      obtain ⟨F', h1, h2⟩ := OwFs.setF r t (j.sub (fun _ z => z) fun b z => (e b).mpr (.inr z))
      refine ⟨Or2 A1 F', .cons a h1 (fun b x y => (h2 b y).elim (d b x) fun y => j b y ((e b).mpr (.inl x))) fun _ => Iff.rfl, fun b z => ?_⟩
      rcases z with z | z
      · exact .inl ((e b).mpr (.inl z))
      · exact (h2 b z).imp (fun z => (e b).mpr (.inr z)) id
theorem OwFs.length : ∀ {xs : List (Str × Ow)} {vs : List (Str × V)} {F : FP}, OwFs K Z H xs vs F → vs.length = xs.length
  | _, _, _, .nil _ => rfl
  | _, _, _, .cons _ t _ _ => congrArg (· + 1) t.length
/-- o.f = e -/
theorem xs_fld {f : Str} {i : Nat} {q : List Stp} (h : XE K te ρ fun o ρ1 => XP K ta ρ1 i q ∧ ∃ C fs, getS ρ1 i q = some (.ins C fs) ∧ Cls K C ∧ NoAttr K C f ∧ fs.length < 1000 ∧ p.nx (putS ρ1 i q (.ins C (setF f o fs)))) : XS K L (sFld K ta te f) p ρ := fun Z σ H F D I d => h Z σ H F _ I fun Z1 H1 F1 Fo v o ρ1 k1 I1 r1 j1 ⟨hp, C, fs, g, c, na, hl, q1⟩ => by
  refine hp Z1 σ H1 F1 _ I1 fun va at_ => ?_
  obtain ⟨G1, ra, sub⟩ := I1.at g (by intro z; cases z) at_
  cases ra with
  | @ins a _ dx vs _ _ E1 z1 z2 z3 z4 z5 =>
    refine ⟨a, C, dx, vs, rfl, z1, c, na, by rw [z3.length]; exact hl, ?_⟩
    obtain ⟨F', I2, k2⟩ := I1.chg2 (o' := .ins C (setF f o fs)) (x := .ins C dx (putF f v vs)) j1 (fun b hb => (r1.fp b hb).1) g (by intro z; cases z) at_ rfl fun A1 rr jj => by
      cases rr with
      | @ins _ _ dx' vs' _ _ E2 y1 y2 y3 y4 y5 =>
        rw [z1] at y1
        cases y1
        refine ⟨(y5 a).mpr (.inl rfl), ?_⟩
        obtain ⟨F'', x1, x2⟩ := OwFs.setF (f := f) r1 y3 (jj.sub (fun _ z => z) fun b z => (y5 b).mpr (.inr z))
        have na' : ¬ F'' a := fun z => (x2 a z).elim y4 fun z => jj a z ((y5 a).mpr (.inl rfl))
        refine ⟨fun b => b = a ∨ F'' b, .ins upd_same y2 (x1.mv (Sub.refl Z1) fun b hb => ⟨(x1.fp b hb).2, ?_⟩) na' fun _ => Iff.rfl, fun b hb => ?_⟩
        · rw [upd_ne fun e => na' (by rw [← e]; exact hb)]
        · rcases hb with hb | hb
          · exact .inl ((y5 b).mpr (.inl hb))
          · exact (x2 b hb).imp (fun z => (y5 b).mpr (.inr z)) id
    exact d.nx Z1 _ F' _ σ (k1.trans k2) (Lck.refl L σ) I2 q1
/-- o[n] = e, o a list at a path, the place computed without a change -/
theorem ixN_lt {n : Nat} {i : Int} {j : Nat} (h : ixN n i = some j) : j < n := by
  unfold ixN at h
  split at h
  · split at h
    · cases h; omega
    · cases h
  · split at h
    · cases h; omega
    · cases h
theorem DaAll.set {v : V} {d : PyData} (r : Da K Z v d) : ∀ {vs : List V} {ds : List PyData} (n : Nat), DaAll K Z vs ds → DaAll K Z (vs.set n v) (ds.set n d)
  | _, _, _, .nil => .nil
  | _, _, 0, .cons _ t => .cons r t
  | _, _, n + 1, .cons a t => .cons a (DaAll.set r n t)
theorem xs_setL {i : Nat} {q : List Stp} (h : XE K te ρ fun o ρ1 => XP K to ρ1 i q ∧ ∃ n e ds j, XV K ti ρ1 (.int n) ∧ getS ρ1 i q = some (.ls ds) ∧ o = .d e ∧ ixN ds.length n = some j ∧ p.nx (putS ρ1 i q (.ls (ds.set j e)))) : XS K L (tAsg te (gSub to ti rSetL)) p ρ := fun Z σ H F D I d => h Z σ H F _ I fun Z1 H1 F1 Fo v o ρ1 k1 I1 r1 j1 ⟨hp, n, e, ds, j, hi, g, eo, hj, q1⟩ => by
  subst eo
  refine hp Z1 σ H1 F1 _ I1 fun va at_ => hi Z1 σ H1 F1 _ I1 fun vi ri => ?_
  cases da_int ri
  obtain ⟨G1, ra, sub⟩ := I1.at g (by intro z; cases z) at_
  cases ra with
  | @ls a vs _ _ z1 z2 z3 z4 =>
    refine ⟨a, vs, n, j, rfl, rfl, z1, by rw [z3.length]; exact hj, ?_⟩
    obtain ⟨F', I2, k2⟩ := I1.chg (o' := .ls (ds.set j e)) (x := .lst (vs.set j v)) g (by intro z; cases z) at_ rfl fun A1 rr => by
      cases rr with
      | ls y1 y2 y3 y4 =>
        rw [z1] at y1
        cases y1
        exact ⟨(y4 a).mpr rfl, A1, .ls upd_same y2 (DaAll.set r1.toD j y3) y4, fun _ z => z⟩
    exact d.nx Z1 _ F' _ σ ((k1.dst' fun _ => .inl).trans k2) (Lck.refl L σ) I2 q1
theorem OwAll.setO {x' : Ow} {v' : V} {F1' : FP} (r : OwOk K Z H x' v' F1') : ∀ {xs : List Ow} {vs : List V} {F : FP} (n : Nat), OwAll K Z H xs vs F → Dj F1' F → ∃ F', OwAll K Z H (xs.set n x') (vs.set n v') F' ∧ ∀ b, F' b → F b ∨ F1' b
  | _, _, F, _, .nil e, j => ⟨F, .nil e, fun _ => .inl⟩
  | _, _, F, 0, .cons (F1 := A1) (F2 := A2) a t d e, j => ⟨Or2 F1' A2, .cons r t (j.sub (fun _ z => z) fun b z => (e b).mpr (.inr z)) fun _ => Iff.rfl, fun b z => z.elim .inr fun z => .inl ((e b).mpr (.inr z))⟩
  | _, _, F, n + 1, .cons (F1 := A1) (F2 := A2) a t d e, j => by
    obtain ⟨F', h1, h2⟩ := OwAll.setO r n t (j.sub (fun _ z => z) fun b z => (e b).mpr (.inr z))
    refine ⟨Or2 A1 F', .cons a h1 (fun b x y => (h2 b y).elim (d b x) fun y => j b y ((e b).mpr (.inl x))) fun _ => Iff.rfl, fun b z => ?_⟩
    rcases z with z | z
    · exact .inl ((e b).mpr (.inl z))
    · exact (h2 b z).imp (fun z => (e b).mpr (.inr z)) id
/-- .. of a list that owns -/
theorem xs_setO {i : Nat} {q : List Stp} (h : XE K te ρ fun o ρ1 => XP K to ρ1 i q ∧ ∃ n xs j, XV K ti ρ1 (.int n) ∧ getS ρ1 i q = some (.lst xs) ∧ ixN xs.length n = some j ∧ p.nx (putS ρ1 i q (.lst (xs.set j o)))) : XS K L (tAsg te (gSub to ti rSetL)) p ρ := fun Z σ H F D I d => h Z σ H F _ I fun Z1 H1 F1 Fo v o ρ1 k1 I1 r1 j1 ⟨hp, n, xs, j, hi, g, hj, q1⟩ => by
  refine hp Z1 σ H1 F1 _ I1 fun va at_ => hi Z1 σ H1 F1 _ I1 fun vi ri => ?_
  cases da_int ri
  obtain ⟨G1, ra, sub⟩ := I1.at g (by intro z; cases z) at_
  cases ra with
  | @lst a vs _ _ E1 z1 z2 z3 z4 z5 =>
    refine ⟨a, vs, n, j, rfl, rfl, z1, by rw [← z3.length]; exact hj, ?_⟩
    obtain ⟨F', I2, k2⟩ := I1.chg2 (o' := .lst (xs.set j o)) (x := .lst (vs.set j v)) j1 (fun b hb => (r1.fp b hb).1) g (by intro z; cases z) at_ rfl fun A1 rr jj => by
      cases rr with
      | lst y1 y2 y3 y4 y5 =>
        rw [z1] at y1
        cases y1
        refine ⟨(y5 a).mpr (.inl rfl), ?_⟩
        obtain ⟨F'', x1, x2⟩ := OwAll.setO r1 j y3 (jj.sub (fun _ z => z) fun b z => (y5 b).mpr (.inr z))
        have na' : ¬ F'' a := fun z => (x2 a z).elim y4 fun z => jj a z ((y5 a).mpr (.inl rfl))
        refine ⟨fun b => b = a ∨ F'' b, .lst upd_same y2 (x1.mv (Sub.refl Z1) fun b hb => ⟨(x1.fp b hb).2, ?_⟩) na' fun _ => Iff.rfl, fun b hb => ?_⟩
        · rw [upd_ne fun e => na' (by rw [← e]; exact hb)]
        · rcases hb with hb | hb
          · exact .inl ((y5 b).mpr (.inl hb))
          · exact (x2 b hb).imp (fun z => (y5 b).mpr (.inr z)) id
    exact d.nx Z1 _ F' _ σ (k1.trans k2) (Lck.refl L σ) I2 q1
/-- x.append(e), x a name -/
theorem atS_var {i : Nat} {v : V} : AtS H σ i [] v ↔ σ[i]? = some (some v) := ⟨fun ⟨v0, h1, h2⟩ => by
  have h2 : v = v0 := h2
  rw [h2]; exact h1, fun h => ⟨v, h, rfl⟩⟩
theorem getS_var {i : Nat} {o : Ow} (h : ρ[i]? = some o) : getS ρ i [] = some o := by
  unfold getS
  rw [h]
  unfold Ow.get
  rfl
theorem putS_var {i : Nat} {o y : Ow} (h : ρ[i]? = some o) : putS ρ i [] y = ρ.set i y := by
  unfold putS
  rw [h]
  show ρ.set i (o.put [] y) = _
  unfold Ow.put
  rfl
theorem app_ls {i : Nat} {q : List Stp} {ds : List PyData} {v va : V} {e : PyData} (I1 : StOk K Z1 H1 ρ σ F1) (g : getS ρ i q = some (.ls ds)) (at_ : AtS H1 σ i q va) (r : Da K Z1 v e) : ∃ a vs, va = .ref a ∧ H1 a = some (.lst vs) ∧ vs.length = ds.length ∧ ∃ F', StOk K Z1 (upd H1 a (.lst (vs ++ [v]))) (putS ρ i q (.ls (ds ++ [e]))) σ F' ∧ Keep Z1 H1 F1 Z1 (upd H1 a (.lst (vs ++ [v]))) F' := by
  obtain ⟨G1, ra, sub⟩ := I1.at g (by intro z; cases z) at_
  cases ra with
  | @ls a vs _ _ z1 z2 z3 z4 =>
    refine ⟨a, vs, rfl, z1, z3.length, I1.chg (o' := .ls (ds ++ [e])) (x := .lst (vs ++ [v])) g (by intro z; cases z) at_ rfl fun A1 rr => ?_⟩
    cases rr with
    | ls y1 y2 y3 y4 =>
      rw [z1] at y1
      cases y1
      exact ⟨(y4 a).mpr rfl, A1, .ls upd_same y2 (y3.append (.cons r .nil)) y4, fun _ z => z⟩
theorem xs_append {i : Nat} {ds0 : List PyData} (h0 : ρ[i]? = some (.ls ds0)) (h : XE K te ρ fun o ρ1 => ∃ e ds, o.dat = some e ∧ ρ1[i]? = some (.ls ds) ∧ ds.length < sizeLine ∧ p.nx (ρ1.set i (.ls (ds ++ [e])))) : XS K L (tDrop (tBM K "list" rAppend (tVar i) (tCons te tNil))) p ρ := fun Z σ H F D I d => by
  obtain ⟨v0, G0, e0, r0, _⟩ := slA I h0 (by intro z; cases z)
  cases r0 with
  | @ls a0 vs0 _ _ z1 z2 z3 z4 =>
    refine ⟨_, e0, .inl ⟨rfl, vs0, SqL.of z1⟩, ?_⟩
    refine (xe_fz (P := fun o ρ1 => ∃ e ds, o = .d e ∧ ρ1[i]? = some (.ls ds) ∧ ds.length < sizeLine ∧ p.nx (ρ1.set i (.ls (ds ++ [e])))) (h.imp fun o ρ1 ⟨e, ds, h1, h2⟩ => ⟨e, h1, e, ds, rfl, h2⟩)) Z σ H F _ I fun Z1 H1 F1 Fo v o ρ1 k1 I1 r1 j1 ⟨e, ds, eo, g, hl, q1⟩ => ?_
    subst eo
    obtain ⟨a, vs, ea, h1, h2, F', I2, k2⟩ := app_ls I1 (getS_var g) (atS_var.mpr e0) r1.toD
    cases ea
    refine ⟨a0, vs, v, rfl, rfl, h1, by rw [h2]; exact hl, ?_⟩
    rw [putS_var g] at I2
    exact d.nx Z1 _ F' _ σ ((k1.dst' fun _ => .inl).trans k2) (Lck.refl L σ) I2 q1
/-- .. at a path: held while e is computed -/
theorem StOk.hold {i : Nat} {q : List Stp} {o : Ow} {v : V} (I : StOk K Z H ρ σ F) (g : getS ρ i q = some o) (n : o ≠ .any) (a : AtS H σ i q v) : ∃ F1 F2, OwOk K Z H o v F1 ∧ StOk K Z H (putS ρ i q (.is v)) σ F2 ∧ Dj F1 F2 ∧ ∀ b, F b ↔ F1 b ∨ F2 b := by
  obtain ⟨v1, F1, F2, h1, h2, h3, h4, h5⟩ := I.sl.focus g n
  have e := a.fn h1
  subst e
  refine ⟨F1, F2, h2, ⟨I.sub, ?_⟩, h3, h4⟩
  have q := h5 Z H (.is v) emp (Sub.refl Z) (fun b hb => ⟨(I.sl.fp b ((h4 b).mpr (.inr hb))).2, rfl⟩) (.is emp_false) emp_false.dj
  rw [emp_or2] at q
  exact q
/-- what was held is put back -/
theorem StOk.giveback {i : Nat} {q : List Stp} {o : Ow} {v : V} {Fo : FP} (I : StOk K Z H ρ σ F) (g : getS ρ i q = some (.is v)) (r : OwOk K Z H o v Fo) (j : Dj Fo F) : ∃ F', StOk K Z H (putS ρ i q o) σ F' ∧ (∀ b, F' b → F b ∨ Fo b) ∧ AtS H σ i q v := by
  obtain ⟨v1, F1, F2, h1, h2, h3, h4, h5⟩ := I.sl.focus g (by intro z; cases z)
  cases h2 with
  | is e1 => exact ⟨Or2 Fo F2, ⟨I.sub, h5 Z H o Fo (Sub.refl Z) (fun b hb => ⟨(I.sl.fp b ((h4 b).mpr (.inr hb))).2, rfl⟩) r (j.sub (fun _ z => z) fun b z => (h4 b).mpr (.inr z))⟩, fun b hb => hb.elim .inr fun z => .inl ((h4 b).mpr (.inr z)), h1⟩
theorem xs_appendP {i : Nat} {q : List Stp} {ds : List PyData} (hp : XP K to ρ i q) (g : getS ρ i q = some (.ls ds)) (hl : ds.length < sizeLine) (h : ∀ v, XE K te (putS ρ i q (.is v)) fun o ρ1 => ∃ e, o.dat = some e ∧ getS ρ1 i q = some (.is v) ∧ p.nx (putS ρ1 i q (.ls (ds ++ [e])))) : XS K L (tDrop (tBM K "list" rAppend to (tCons te tNil))) p ρ := fun Z σ H F D I d => hp Z σ H F _ I fun va at_ => by
  obtain ⟨G1, G2, ra, I0, j0, f0⟩ := I.hold g (by intro z; cases z) at_
  cases ra with
  | @ls a vs _ _ z1 z2 z3 z4 =>
    refine ⟨.inl ⟨rfl, vs, SqL.of z1⟩, ?_⟩
    refine (xe_fz (P := fun o ρ1 => ∃ e, o = .d e ∧ getS ρ1 i q = some (.is (.ref a)) ∧ p.nx (putS ρ1 i q (.ls (ds ++ [e])))) ((h _).imp fun o ρ1 ⟨e, h1, h2⟩ => ⟨e, h1, e, rfl, h2⟩)) Z σ H G2 _ I0 fun Z1 H1 F1 Fo v o ρ1 k1 I1 r1 j1 ⟨e, eo, g1, q1⟩ => ?_
    subst eo
    have ra : OwOk K Z H (.ls ds) (.ref a) G1 := .ls z1 z2 z3 z4
    obtain ⟨ra', ja⟩ := ra.tr k1 j0
    cases ra' with
    | @ls _ vs' _ _ y1 y2 y3 y4 =>
      refine ⟨a, vs', v, rfl, rfl, y1, by rw [y3.length]; exact hl, ?_⟩
      have I2 : StOk K Z1 (upd H1 a (.lst (vs' ++ [v]))) ρ1 σ F1 := ⟨sub_chg y2 I1.sub, I1.sl.mv (Sub.refl Z1) fun b hb => ⟨(I1.sl.fp b hb).2, by
        rw [upd_ne fun e => ja b (by rw [e]; exact (y4 a).mpr rfl) (.inl hb)]⟩⟩
      obtain ⟨F', I3, s3, _⟩ := I2.giveback g1 (.ls upd_same y2 (y3.append (.cons r1.toD .nil)) y4) (ja.sub (fun _ z => z) fun _ => .inl)
      have kk : Keep Z H F Z1 H1 (Or2 F1 G1) := ((k1.dst' (G := F1) fun _ => .inl).more (G := G1)).src fun b hb => by
        rcases hb with hb | hb
        · exact (f0 b).mpr (.inr hb)
        · exact (f0 b).mpr (.inl hb)
      refine d.nx Z1 _ F' _ σ ((kk.trans (Keep.chg (.inr ((y4 a).mpr rfl)))).dst' s3) (Lck.refl L σ) I3 q1
/-- x.pop(), x at a path -/
theorem xe_popP {i : Nat} {q : List Stp} {ds : List PyData} {e : PyData} (hp : XP K to ρ i q) (g : getS ρ i q = some (.ls (ds ++ [e]))) (h : P (.d e) (putS ρ i q (.ls ds))) : XE K (tBM0 K "list" rPop to) ρ P := fun Z σ H F Q I k => hp Z σ H F _ I fun va at_ => by
  obtain ⟨G1, ra, sub⟩ := I.at g (by intro z; cases z) at_
  cases ra with
  | @ls a vs _ _ z1 z2 z3 z4 =>
    refine ⟨.inl ⟨rfl, vs, SqL.of z1⟩, ?_⟩
    have hlen := z3.length
    rw [List.length_append, List.length_singleton] at hlen
    have hlast : ∃ w, vs[vs.length - 1]? = some w ∧ Da K Z w e ∧ DaAll K Z vs.dropLast ds := by
      have h1 : (ds ++ [e])[vs.length - 1]? = some e := by rw [hlen]; simp
      obtain ⟨w, w1, w2⟩ := z3.get h1
      refine ⟨w, w1, w2, ?_⟩
      have h2 := z3.take ds.length
      rw [List.take_left] at h2
      rw [List.dropLast_eq_take, hlen]
      exact h2
    obtain ⟨w, w1, w2, w3⟩ := hlast
    refine ⟨a, vs, w, rfl, rfl, z1, w1, ?_⟩
    obtain ⟨F', I2, k2⟩ := I.chg (o' := .ls ds) (x := .lst vs.dropLast) g (by intro z; cases z) at_ rfl fun A1 rr => by
      cases rr with
      | ls y1 y2 y3 y4 =>
        rw [z1] at y1
        cases y1
        exact ⟨(y4 a).mpr rfl, A1, .ls upd_same y2 w3 y4, fun _ z => z⟩
    exact k Z _ F' emp w (.d e) _ (by rw [or2_emp]; exact k2) I2 (.ofD w2) emp_false.dj h
/-- a pen is opened, is shut -/
theorem xs_openPen (i : Nat) {ns : List Int} (h : ρ[i]? = some (.pen ns)) (q : ∀ (a c : Int), 0 ≤ a → 0 ≤ c → XS K L t p (ρ.set i (.lst [.scr ns, .d (.int a), .d (.int c)]))) : XS K L t p ρ := fun Z σ H F D I d => by
  obtain ⟨v, F1, F2, e, r, j, s, f⟩ := I.sl.get h (by intro z; cases z)
  cases r with
  | @pen a v0 _ i0 c0 _ z1 z2 z3 z4 z5 z6 =>
    have r : OwOk K Z H (.lst [.scr ns, .d (.int i0), .d (.int c0)]) (.ref a) (fun b => b = a ∨ emp b) :=
      .lst z1 z2 (.cons (.scr z3 emp_false) (.cons (.ofD (.int _)) (.cons (.ofD (.int _)) (.nil emp_false) emp_false.dj fun b => ⟨fun z => z.elim, fun z => z.elim id id⟩) emp_false.dj fun b => ⟨fun z => z.elim, fun z => z.elim id id⟩) emp_false.dj fun b => ⟨fun z => z.elim, fun z => z.elim id id⟩) (fun z => z) fun _ => Iff.rfl
    have I1 := f Z H _ _ _ (Sub.refl Z) (fun b hb => ⟨(I.sl.fp b ((s b).mpr (.inr hb))).2, rfl⟩) r (fun b x y => x.elim (fun x => j b ((z6 b).mpr x) y) fun x => x)
    rw [set_same e] at I1
    have eF : F = Or2 (fun b => b = a ∨ emp b) F2 := funext fun b => propext (by
      rw [s b, z6 b]
      show _ ↔ (b = a ∨ False) ∨ F2 b
      simp)
    rw [← eF] at I1
    exact q i0 c0 z4 z5 Z σ H F D ⟨I.sub, I1⟩ d
theorem shutPen {a c : Int} {ns : List Int} {x : Ow} (hx : x = .scr ns ∨ x = .d (.list (ns.map PyData.int))) (ha : 0 ≤ a) (hc : 0 ≤ c) {v : V} (h : OwOk K Z H (.lst [x, .d (.int a), .d (.int c)]) v F) : OwOk K Z H (.pen ns) v F := by
  cases h with
  | @lst l vs _ _ E z1 z2 z3 z4 z5 =>
    cases z3 with
    | @cons _ w0 _ _ _ A1 A2 x1 x2 x3 x4 =>
      cases x2 with
      | @cons _ w1 _ _ _ B1 B2 y1 y2 y3 y4 =>
        cases y2 with
        | @cons _ w2 _ _ _ C1 C2 u1 u2 u3 u4 =>
          cases u2 with
          | nil u5 =>
            cases da_int y1.toD
            cases da_int u1.toD
            have em : Emp A1 ∧ Ints K Z w0 ns := by
              rcases hx with rfl | rfl
              · cases x1 with
                | scr q e => exact ⟨e, q⟩
              · cases x1 with
                | d q e =>
                  refine ⟨e, ?_⟩
                  obtain ⟨b, xs, rfl, h1, h2⟩ := da_list q
                  rw [h2.ints] at h1
                  exact ⟨b, rfl, .inl h1⟩
            refine .pen z1 z2 em.2 ha hc fun b => ?_
            rw [z5 b]
            constructor
            · rintro (z | z)
              · exact z
              · rcases (x4 b).mp z with z | z
                · exact (em.1 b z).elim
                · rcases (y4 b).mp z with z | z
                  · exact (OwOk.cpF (o := .d (.int a)) trivial y1 b z).elim
                  · rcases (u4 b).mp z with z | z
                    · exact (OwOk.cpF (o := .d (.int c)) trivial u1 b z).elim
                    · exact (u5 b z).elim
            · exact .inl
/-- a name's content seen otherwise -/
theorem xs_see (i : Nat) {o o' : Ow} (h : ρ[i]? = some o) (n : o ≠ .any) (w : ∀ (Z H : Hp) (v : V) (F : FP), Sub Z H → OwOk K Z H o v F → OwOk K Z H o' v F) (q : XS K L t p (ρ.set i o')) : XS K L t p ρ := fun Z σ H F D I d => by
  obtain ⟨v, F1, F2, e, r, j, s, f⟩ := I.sl.get h n
  have I1 := f Z H o' v F1 (Sub.refl Z) (fun b hb => ⟨(I.sl.fp b ((s b).mpr (.inr hb))).2, rfl⟩) (w Z H v F1 I.sub r) j
  rw [set_same e] at I1
  have eF : F = Or2 F1 F2 := funext fun b => propext (s b)
  rw [← eF] at I1
  exact q Z σ H F D ⟨I.sub, I1⟩ d
/-- a name's list is data from here on -/
theorem xs_freeze (i : Nat) {o : Ow} {d0 : PyData} (h : ρ[i]? = some o) (e0 : o.dat = some d0) (q : XS K L t p (ρ.set i (.d d0))) : XS K L t p ρ := fun Z σ H F D I d => by
  have n : o ≠ .any := by
    rintro rfl
    simp [Ow.dat] at e0
  obtain ⟨v, F1, F2, e, r, j, s, f⟩ := I.sl.get h n
  have fp := fun b hb => I.sl.fp b ((s b).mpr (.inl hb))
  have le := frzZ_le (Z := Z) (H := H) (F := F1) fun b hb => (fp b hb).2
  have I1 := f (frzZ Z H F1) H (.d d0) v emp le (fun b hb => ⟨by rw [frzZ_ne fun z => j b z hb]; exact (I.sl.fp b ((s b).mpr (.inr hb))).2, rfl⟩) (.ofD (r.datZ (fun b hb => (fp b hb).2) (fun _ z => z) e0)) emp_false.dj
  rw [set_same e, emp_or2] at I1
  have k : Keep Z H F (frzZ Z H F1) H F2 := Keep.freeze ((Keep.refl Z H F).dst' fun b hb => (s b).mpr hb.symm) fun b hb => (fp b hb).2
  exact q _ σ H F2 D ⟨frzZ_sub I.sub, I1⟩ (d.re k (Lck.refl L σ))
/-- return x, x what a name owns -/
theorem xe_move {i : Nat} {o : Ow} (h : ρ[i]? = some o) (n : o ≠ .any) (q : P o (ρ.set i .any)) : XE K (tVar i) ρ P := fun Z σ H F Q I k => by
  obtain ⟨v, F1, F2, e, r, j, s, f⟩ := I.sl.get h n
  have I1 := f Z H .any v emp (Sub.refl Z) (fun b hb => ⟨(I.sl.fp b ((s b).mpr (.inr hb))).2, rfl⟩) (.any emp_false) emp_false.dj
  rw [set_same e, emp_or2] at I1
  exact ⟨v, e, k Z H F2 F1 v o _ ((Keep.refl Z H F).dst' fun b hb => (s b).mpr hb.symm) ⟨I.sub, I1⟩ r j q⟩
end
end MV
set_option maxRecDepth 100000
set_option maxHeartbeats 4000000
set_option autoImplicit false
/-! MV6: loops, comprehensions, a def's run. -/
namespace MV
open PySem L2 PyProof.Rows PL
section
variable {K : PySem.W.Frag} {Z Z' Z1 Z2 H H' H1 H2 : Hp} {F F' F1 F2 G G' : FP} {ρ ρ' : List Ow} {σ σ' : L2.St}
variable {P : Ow → List Ow → Prop} {B : Bool → List Ow → Prop} {ta tb tc te to ti : TE} {tt tu : TT} {t u : TS} {p : PD} {L : List Nat} {wi : TI} {tg : TG}
/-! ### what a loop walks -/
structure ItOk (K : PySem.W.Frag) (Z : Hp) (J : It) (n : Nat) (y : Nat → Ow) : Prop where
  go : ∀ Z' H' k, Sub Z Z' → Sub Z' H' → k < n → J.go k H'
  stop : ∀ Z' H', Sub Z Z' → Sub Z' H' → J.stop n H'
  yld : ∀ Z' H' k x H'', Sub Z Z' → Sub Z' H' → k < n → J.yld k H' x H'' → ∃ Z'', Keep Z' H' emp Z'' H'' emp ∧ Sub Z'' H'' ∧ OwOk K Z'' H'' (y k) x emp
theorem ItOk.mono {J : It} {n : Nat} {y : Nat → Ow} (h : ItOk K Z J n y) (k : Sub Z Z1) : ItOk K Z1 J n y := ⟨fun Z' H' i s => h.go Z' H' i (k.trans s), fun Z' H' s => h.stop Z' H' (k.trans s), fun Z' H' i x H'' s => h.yld Z' H' i x H'' (k.trans s)⟩
def XI (K : PySem.W.Frag) (wi : TI) (ρ : List Ow) (M : Nat → (Nat → Ow) → List Ow → Prop) : Prop :=
  ∀ (Z : Hp) (σ : L2.St) (H : Hp) (F : FP) (R : It → Hp → Prop), StOk K Z H ρ σ F → (∀ Z' H' F' ρ' J n y, Keep Z H F Z' H' F' → StOk K Z' H' ρ' σ F' → ItOk K Z' J n y → M n y ρ' → R J H') → wi σ H R
theorem xi_range1 {M : Nat → (Nat → Ow) → List Ow → Prop} (h : XE K ta ρ fun s ρ1 => ∃ n : Int, s = .d (.int n) ∧ (-(2 ^ 62) ≤ n ∧ n < 2 ^ 62) ∧ M n.toNat (fun k => .d (.int (k : Int))) ρ1) : XI K (iRng1 (tCons ta tNil)) ρ M := fun Z σ H F R I k => by
  refine h Z σ H F _ I fun Z1 H1 F1 Fo v o ρ1 k1 I1 r1 j1 ⟨n, es, ⟨b1, b2⟩, q⟩ => ?_
  subst es
  cases da_int r1.toD
  refine ⟨n, rfl, b1, b2, k Z1 H1 F1 ρ1 _ n.toNat _ (k1.dst' fun _ => .inl) I1 ⟨fun _ _ k _ _ hk => hk, fun _ _ _ _ => Nat.le_refl _, fun Z' H' k x H'' s1 s2 hk y => ?_⟩ q⟩
  obtain ⟨rfl, rfl⟩ := y
  exact ⟨Z', Keep.refl _ _ _, s2, .ofD (by rw [Int.zero_add]; exact Da.int _)⟩
theorem xi_range2 {M : Nat → (Nat → Ow) → List Ow → Prop} (h : XE K ta ρ fun s ρ1 => ∃ lo : Int, s = .d (.int lo) ∧ XE K tb ρ1 fun s2 ρ2 => ∃ hi : Int, s2 = .d (.int hi) ∧ (-(2 ^ 62) ≤ lo ∧ lo < 2 ^ 62 ∧ -(2 ^ 62) ≤ hi ∧ hi < 2 ^ 62) ∧ M (hi - lo).toNat (fun k => .d (.int (lo + (k : Int)))) ρ2) : XI K (iRng2 (tCons ta (tCons tb tNil))) ρ M := fun Z σ H F R I k => by
  refine h Z σ H F _ I fun Z1 H1 F1 Fo v o ρ1 k1 I1 r1 j1 ⟨lo, es, q1⟩ => ?_
  subst es
  cases da_int r1.toD
  refine q1 Z1 σ H1 F1 _ I1 fun Z2 H2 F2 Fo2 v2 o2 ρ2 k2 I2 r2 j2 ⟨hi, es, b, q⟩ => ?_
  subst es
  cases da_int r2.toD
  refine ⟨lo, hi, rfl, b, k Z2 H2 F2 ρ2 _ (hi - lo).toNat _ ((k1.dst' fun _ => .inl).trans (k2.dst' fun _ => .inl)) I2 ⟨fun _ _ k _ _ hk => hk, fun _ _ _ _ => Nat.le_refl _, fun Z' H' k x H'' s1 s2 hk y => ?_⟩ q⟩
  obtain ⟨rfl, rfl⟩ := y
  exact ⟨Z', Keep.refl _ _ _, s2, .ofD (Da.int _)⟩
def nth (ds : List PyData) (k : Nat) : PyData := ds.getD k .none
theorem nth_get {ds : List PyData} {k : Nat} {d : PyData} (h : ds[k]? = some d) : nth ds k = d := by
  unfold nth
  rw [List.getD_eq_getElem?_getD, h]
  rfl
theorem xi_list {M : Nat → (Nat → Ow) → List Ow → Prop} (h : XE K te ρ fun s ρ1 => ∃ ds, s.dat = some (.list ds) ∧ M ds.length (fun k => .d (nth ds k)) ρ1) : XI K (iList K te) ρ M := fun Z σ H F R I k => by
  refine xe_fz (P := fun s ρ1 => ∃ ds, s = .d (.list ds) ∧ M ds.length (fun k => .d (nth ds k)) ρ1) (h.imp fun o ρ1 ⟨ds, e, q⟩ => ⟨.list ds, e, ds, rfl, q⟩) Z σ H F _ I fun Z1 H1 F1 Fo v o ρ1 k1 I1 r1 j1 ⟨ds, es, q⟩ => ?_
  subst es
  obtain ⟨a, xs, rfl, h1, h2⟩ := da_list r1.toD
  have r0 := r1.toD
  have pinned : ∀ {Z' H'}, Sub Z1 Z' → Sub Z' H' → ∃ xs, SqL K H' a xs ∧ DaAll K Z' xs ds := fun {Z' H'} s1 s2 => by
    obtain ⟨a', xs', e, h1, h2⟩ := da_list (r0.mono s1)
    cases e
    exact ⟨xs', .inl (s2.rd h1), h2⟩
  refine ⟨a, rfl, ⟨xs, .inl (I1.sub.rd h1)⟩, k Z1 H1 F1 ρ1 _ ds.length _ (k1.dst' fun _ => .inl) I1 ⟨fun Z' H' k s1 s2 hk => ?_, fun Z' H' s1 s2 => ?_, fun Z' H' k x H'' s1 s2 hk y => ?_⟩ q⟩
  · obtain ⟨xs, q1, q2⟩ := pinned s1 s2
    have hk' : k < xs.length := by
      rw [q2.length]
      exact hk
    exact ⟨xs, xs[k], q1, List.getElem?_eq_getElem hk'⟩
  · obtain ⟨xs, q1, q2⟩ := pinned s1 s2
    exact ⟨xs, q1, by rw [q2.length]; exact Nat.le_refl _⟩
  · obtain ⟨xs, q1, q2⟩ := pinned s1 s2
    obtain ⟨rfl, y⟩ := y
    obtain ⟨d, hd, q⟩ := q2.get' (y xs q1)
    exact ⟨Z', Keep.refl _ _ _, s2, .ofD (by rw [nth_get hd]; exact q)⟩
theorem xi_tup {M : Nat → (Nat → Ow) → List Ow → Prop} (h : XE K te ρ fun s ρ1 => ∃ ds, s = .d (.tuple ds) ∧ M ds.length (fun k => .d (nth ds k)) ρ1) : XI K (iTup K te) ρ M := fun Z σ H F R I k => by
  refine h Z σ H F _ I fun Z1 H1 F1 Fo v o ρ1 k1 I1 r1 j1 ⟨ds, es, q⟩ => ?_
  subst es
  obtain ⟨a, xs, rfl, h1, h2⟩ := da_tup r1.toD
  have r0 := r1.toD
  have pinned : ∀ {Z' H'}, Sub Z1 Z' → Sub Z' H' → ∃ xs, SqT K H' a xs ∧ DaAll K Z' xs ds := fun {Z' H'} s1 s2 => by
    obtain ⟨a', xs', e, h1, h2⟩ := da_tup (r0.mono s1)
    cases e
    exact ⟨xs', s2.sqT h1, h2⟩
  refine ⟨a, rfl, ⟨xs, I1.sub.sqT h1⟩, k Z1 H1 F1 ρ1 _ ds.length _ (k1.dst' fun _ => .inl) I1 ⟨fun Z' H' k s1 s2 hk => ?_, fun Z' H' s1 s2 => ?_, fun Z' H' k x H'' s1 s2 hk y => ?_⟩ q⟩
  · obtain ⟨xs, q1, q2⟩ := pinned s1 s2
    have hk' : k < xs.length := by
      rw [q2.length]
      exact hk
    exact ⟨xs, xs[k], q1, List.getElem?_eq_getElem hk'⟩
  · obtain ⟨xs, q1, q2⟩ := pinned s1 s2
    exact ⟨xs, q1, by rw [q2.length]; exact Nat.le_refl _⟩
  · obtain ⟨xs, q1, q2⟩ := pinned s1 s2
    obtain ⟨rfl, y⟩ := y
    obtain ⟨d, hd, q⟩ := q2.get' (y xs q1)
    exact ⟨Z', Keep.refl _ _ _, s2, .ofD (by rw [nth_get hd]; exact q)⟩
theorem keep_yield {Z'' H'' : Hp} (I : StOk K Z H ρ σ F) (k : Keep Z H emp Z'' H'' emp) (s : Sub Z'' H'') : StOk K Z'' H'' ρ σ F ∧ Keep Z H F Z'' H'' F := ⟨(I.tr k s emp_false.dj').1, (k.src (G := F) fun _ z => z.elim).dst fun _ h => .inl h⟩
theorem xs_for {is : List Nat} (h : XI K wi ρ fun n y ρ1 => ∃ I : Nat → List Ow → Prop, I 0 ρ1 ∧
    (∀ k ρ', k < n → I k ρ' → XG K L tg is (y k) ρ' fun ρ2 => XS K L t { nx := I (k + 1), ct := I (k + 1), bk := p.nx, rt := p.rt } ρ2) ∧ ∀ ρ', I n ρ' → p.nx ρ') : XS K L (tFor wi tg t) p ρ := fun Z σ H F D Iv d => by
  refine h Z σ H F _ Iv fun Z1 H1 F1 ρ1 J n y k1 I1 it ⟨I, i0, step, fin⟩ => ?_
  have d1 := d.re k1 (Lck.refl L σ)
  refine ⟨fun i m σ' H' => m = n - i ∧ i ≤ n ∧ ∃ Z' F' ρ', Keep Z1 H1 F1 Z' H' F' ∧ Lck L σ σ' ∧ StOk K Z' H' ρ' σ' F' ∧ I i ρ', ⟨n, by simp, Nat.zero_le _, Z1, F1, ρ1, Keep.refl _ _ _, Lck.refl L σ, I1, i0⟩, ?_⟩
  rintro i m σ2 H2 ⟨rfl, hi, Z2, F2, ρ2, k2, l2, I2, p2⟩
  by_cases hlt : i < n
  · refine .inr ⟨it.go Z2 H2 i k2.sub I2.sub hlt, fun σ' H' => ∃ Z' F' ρ', Keep Z1 H1 F1 Z' H' F' ∧ Lck L σ σ' ∧ StOk K Z' H' ρ' σ' F' ∧ I (i + 1) ρ', fun σ' H' hN => ⟨n - (i + 1), by omega, rfl, hlt, hN⟩, fun x H3 yl => ?_⟩
    obtain ⟨Z3, e3, s3, r3⟩ := it.yld Z2 H2 i x H3 k2.sub I2.sub hlt yl
    obtain ⟨I3, k3⟩ := keep_yield I2 e3 s3
    refine step i ρ2 hlt p2 Z3 σ2 H3 F2 emp x _ I3 r3 emp_false.dj fun Z4 H4 F4 ρ4 σ4 k4 I4 l4 _ q4 => ?_
    rw [or2_emp] at k4
    have k14 := (k2.trans k3).trans k4
    have l14 := l2.trans l4
    exact q4 Z4 σ4 H4 F4 _ I4 ⟨fun Z' H' F' ρ' σ' k l I q => ⟨Z', F', ρ', k14.trans k, l14.trans l, I, q⟩, fun Z' H' F' Fo v o ρ' σ' k l I r j q => d1.rt Z' H' F' Fo v o ρ' σ' (k14.trans k) (l14.trans l) I r j q,
      fun Z' H' F' ρ' σ' k l I q => d1.nx Z' H' F' ρ' σ' (k14.trans k) (l14.trans l) I q, fun Z' H' F' ρ' σ' k l I q => ⟨Z', F', ρ', k14.trans k, l14.trans l, I, q⟩⟩
  · have e : i = n := by omega
    subst e
    exact .inl ⟨it.stop Z2 H2 k2.sub I2.sub, d1.nx Z2 H2 F2 ρ2 σ2 k2 l2 I2 (fin ρ2 p2)⟩
theorem xs_while (I : Nat → List Ow → Prop) (m0 : Nat) (i0 : I m0 ρ) (h : ∀ m ρ', I m ρ' → XT K tt ρ' fun b ρ2 => if b = true then XS K L t { nx := fun ρ3 => ∃ m', m' < m ∧ I m' ρ3, ct := fun ρ3 => ∃ m', m' < m ∧ I m' ρ3, bk := p.nx, rt := p.rt } ρ2 else p.nx ρ2) : XS K L (tWhile tt t) p ρ := fun Z σ H F D Iv d => by
  refine ⟨fun m σ' H' => ∃ Z' F' ρ', Keep Z H F Z' H' F' ∧ Lck L σ σ' ∧ StOk K Z' H' ρ' σ' F' ∧ I m ρ', ⟨m0, Z, F, ρ, Keep.refl _ _ _, Lck.refl L σ, Iv, i0⟩, ?_⟩
  rintro m σ1 H1 ⟨Z1, F1, ρ1, k1, l1, I1, p1⟩
  refine h m ρ1 p1 Z1 σ1 H1 F1 _ I1 fun Z2 H2 F2 b ρ2 k2 I2 q2 => ?_
  have k12 := k1.trans k2
  cases b with
  | false => exact d.nx Z2 H2 F2 ρ2 σ1 k12 l1 I2 q2
  | true =>
    rw [if_pos rfl]
    refine ⟨fun σ' H' => ∃ m', m' < m ∧ ∃ Z' F' ρ', Keep Z H F Z' H' F' ∧ Lck L σ σ' ∧ StOk K Z' H' ρ' σ' F' ∧ I m' ρ', fun σ' H' hN => hN, ?_⟩
    rw [if_pos rfl] at q2
    exact q2 Z2 σ1 H2 F2 _ I2 ⟨fun Z' H' F' ρ' σ' k l I ⟨m', hm, q⟩ => ⟨m', hm, Z', F', ρ', k12.trans k, l1.trans l, I, q⟩, fun Z' H' F' Fo v o ρ' σ' k l I r j q => d.rt Z' H' F' Fo v o ρ' σ' (k12.trans k) (l1.trans l) I r j q,
      fun Z' H' F' ρ' σ' k l I q => d.nx Z' H' F' ρ' σ' (k12.trans k) (l1.trans l) I q, fun Z' H' F' ρ' σ' k l I ⟨m', hm, q⟩ => ⟨m', hm, Z', F', ρ', k12.trans k, l1.trans l, I, q⟩⟩

/-! ### comprehensions -/
theorem wipe_get {σ : L2.St} {j : Nat} : ∀ {vs : List Nat}, (wipe σ vs)[j]? = if j ∈ vs then (if j < σ.length then some none else none) else σ[j]?
  | [] => by simp [wipe]
  | v :: vs => by
    unfold wipe
    rw [List.getElem?_set, wipe_length, wipe_get]
    by_cases h : v = j
    · subst h
      simp
    · have h' : ¬ j = v := fun z => h z.symm
      simp [h, h']
theorem wipe_same {σ σ' : L2.St} {is vs : List Nat} (hs : ∀ j, j ∈ is → j ∈ vs) (hl : σ'.length = (wipe σ vs).length) (h : ∀ j, j ∉ is → σ'[j]? = (wipe σ vs)[j]?) : wipe σ' vs = wipe σ vs := by
  apply List.ext_getElem?
  intro j
  have hl : σ'.length = σ.length := by rw [hl, wipe_length]
  by_cases hj : j ∈ vs
  · rw [wipe_get, wipe_get, if_pos hj, if_pos hj, hl]
  · rw [wipe_get, if_neg hj, h j fun z => hj (hs j z)]
def wipeS (ρ : List Ow) : List Nat → List Ow
  | [] => ρ
  | v :: vs => (wipeS ρ vs).set v .any
theorem wipeS_length (ρ : List Ow) : ∀ vs : List Nat, (wipeS ρ vs).length = ρ.length
  | [] => rfl
  | v :: vs => by unfold wipeS; rw [List.length_set, wipeS_length ρ vs]
theorem wipeS_any (ρ : List Ow) {v : Nat} : ∀ {vs : List Nat}, v ∈ vs → v < ρ.length → (wipeS ρ vs)[v]? = some .any
  | w :: vs, h, hl => by
    unfold wipeS
    rw [List.getElem?_set, wipeS_length]
    by_cases e : w = v
    · rw [if_pos e, e, if_pos hl]
    · rw [if_neg e]
      rcases List.mem_cons.mp h with z | z
      · exact absurd z.symm e
      · exact wipeS_any ρ z hl
theorem SlAll.drop : ∀ {ρ : List Ow} {σ : L2.St} {F : FP} (n : Nat), SlAll K Z H ρ σ F → ∃ F2 : FP, (∀ b, F2 b → F b) ∧ SlAll K Z H (ρ.set n .any) (σ.set n none) F2
  | _, _, F, _, .nil e => ⟨F, fun _ z => z, .nil e⟩
  | _, _, F, 0, .no t => ⟨F, fun _ z => z, .no t⟩
  | _, _, F, 0, .so (F1 := F1) (F2 := F2) a t d e => ⟨F2, fun b z => (e b).mpr (.inr z), .no t⟩
  | _, _, F, n + 1, .no t => let ⟨F2, h1, h2⟩ := t.drop n; ⟨F2, h1, .no h2⟩
  | _, _, F, n + 1, .so (F1 := F1) (F2 := F2) a t d e => by
    obtain ⟨G, h1, h2⟩ := t.drop n
    exact ⟨Or2 F1 G, fun b z => (e b).mpr (z.imp id (h1 b)), .so a h2 (d.sub (fun _ z => z) h1) fun _ => Iff.rfl⟩
theorem SlAll.wipe (h : SlAll K Z H ρ σ F) : ∀ vs : List Nat, ∃ F2 : FP, (∀ b, F2 b → F b) ∧ SlAll K Z H (wipeS ρ vs) (L2.wipe σ vs) F2
  | [] => ⟨F, fun _ z => z, h⟩
  | v :: vs => by
    obtain ⟨F2, h1, h2⟩ := SlAll.wipe h vs
    obtain ⟨F3, h3, h4⟩ := h2.drop v
    exact ⟨F3, fun b z => h1 b (h3 b z), h4⟩
/-- names of which nothing is told may hold what they like -/
theorem SlAll.loose : ∀ {ρ : List Ow} {σ σ' : L2.St} {F : FP}, SlAll K Z H ρ σ F → σ'.length = σ.length → (∀ i : Nat, σ'[i]? = σ[i]? ∨ ρ[i]? = some .any) → SlAll K Z H ρ σ' F
  | _, _, σ', F, .nil e, hl, h => by
    cases σ' with
    | nil => exact .nil e
    | cons _ _ => simp at hl
  | _, _, σ', F, .no t, hl, h => by
    cases σ' with
    | nil => simp at hl
    | cons ov σ' =>
      have t' := t.loose (σ' := σ') (by simpa using hl) fun i => by simpa using h (i + 1)
      cases ov with
      | none => exact .no t'
      | some v => exact .so (F1 := emp) (.any emp_false) t' emp_false.dj fun b => ⟨.inr, fun z => z.elim (fun z => z.elim) id⟩
  | x :: _, _, σ', F, .so (v := v) (F1 := F1) (F2 := F2) a t d e, hl, h => by
    cases σ' with
    | nil => simp at hl
    | cons ov σ' =>
      have t' := t.loose (σ' := σ') (by simpa using hl) fun i => by simpa using h (i + 1)
      rcases h 0 with q | q
      · simp at q
        subst q
        exact .so a t' d e
      · simp at q
        subst q
        have em : Emp F1 := by
          cases a with
          | any e => exact e
        have eF : F = F2 := funext fun b => propext (by
          rw [e b]
          exact ⟨fun z => z.elim (fun z => (em b z).elim) id, .inr⟩)
        rw [eF]
        cases ov with
        | none => exact .no t'
        | some u => exact .so (F1 := emp) (.any emp_false) t' emp_false.dj fun b => ⟨.inr, fun z => z.elim (fun z => z.elim) id⟩
theorem set_any {ρ : List Ow} {v w : Nat} (h : ρ[w]? = some .any) : (ρ.set v .any)[w]? = some .any := by
  rw [List.getElem?_set]
  by_cases e : v = w
  · rw [if_pos e, if_pos (by rw [e]; exact (List.getElem?_eq_some_iff.mp h).1)]
  · rw [if_neg e]
    exact h
theorem xe_lc {is vs : List Nat} (hs : ∀ j, j ∈ is → j ∈ vs) (h : XI K wi ρ fun n y ρ1 => n ≤ sizeLine ∧ (∀ v, v ∈ vs → v < ρ1.length) ∧ ∃ J : Nat → List PyData → List Ow → Prop, J 0 [] (wipeS ρ1 vs) ∧
    (∀ k acc ρ', k < n → acc.length ≤ k → J k acc ρ' → ρ'.length = ρ1.length → XG K [] tg is (y k) ρ' fun ρ2 => XT K tt ρ2 fun b ρ3 => if b = true then XE K te ρ3 fun o ρ4 => ∃ d, o.dat = some d ∧ ρ4.length = ρ1.length ∧ J (k + 1) (acc ++ [d]) (wipeS ρ4 vs) else ρ3.length = ρ1.length ∧ J (k + 1) acc (wipeS ρ3 vs)) ∧
    ∀ acc ρ', acc.length ≤ n → J n acc ρ' → P (.ls acc) ρ') : XE K (tLc wi tg tt te vs) ρ P := fun Z σ H F Q Iv kk => by
  refine h Z σ H F _ Iv fun Z1 H1 F1 ρ1 Jt n y k1 I1 it ⟨hn, hv, J, j0, step, fin⟩ D nD => ?_
  obtain ⟨Fw, w1, w2⟩ := I1.sl.wipe vs
  obtain ⟨x1, x2, x3, x4⟩ := own_new (o := .lst []) (G := Fw) (F1 := Fw) ((Keep.refl Z1 H1 F1).dst' w1) (⟨I1.sub, w2⟩ : StOk K Z1 H1 (wipeS ρ1 vs) (wipe σ vs) Fw) nD
  refine ⟨fun i m H' => m = n - i ∧ i ≤ n ∧ ∃ Z' F' ρ' acc, Keep Z1 H1 F1 Z' H' (Or2 F' fun b => b = D) ∧ StOk K Z' H' ρ' (wipe σ vs) F' ∧ ρ'.length = ρ1.length ∧ (∀ v, v ∈ vs → ρ'[v]? = some .any) ∧ OwOk K Z' H' (.ls acc) (.ref D) (fun b => b = D) ∧ Dj (fun b => b = D) F' ∧ acc.length ≤ i ∧ J i acc ρ',
    ⟨n, by simp, Nat.zero_le _, Z1, Fw, wipeS ρ1 vs, [], x1, x2, wipeS_length _ _, fun v hv' => wipeS_any _ hv' (hv v hv'), .ls upd_same x4 .nil fun _ => Iff.rfl, x3, Nat.zero_le _, j0⟩, ?_⟩
  rintro i m H2 ⟨rfl, hi, Z2, F2, ρ2, acc, k2, I2, l2, a2, r2, d2, la, jv⟩
  by_cases hlt : i < n
  · refine .inr ⟨it.go Z2 H2 i k2.sub I2.sub hlt, _, fun H' hN => ⟨n - (i + 1), by omega, rfl, hlt, hN⟩, fun x H3 yl => ?_⟩
    obtain ⟨Z3, e3, s3, r3⟩ := it.yld Z2 H2 i x H3 k2.sub I2.sub hlt yl
    obtain ⟨I3, k3⟩ := keep_yield I2 e3 s3
    have r2' := (r2.tr e3 emp_false.dj').1
    refine step i acc ρ2 hlt la jv l2 Z3 (wipe σ vs) H3 F2 emp x _ I3 r3 emp_false.dj fun Z4 H4 F4 ρ4 σ4 k4 I4 l4 s4 q4 => ?_
    rw [or2_emp] at k4
    have hw := wipe_same hs l4.1 s4
    refine ⟨hw, ?_⟩
    obtain ⟨r4, d4⟩ := r2'.tr k4 d2
    refine q4 Z4 σ4 H4 F4 _ I4 fun Z5 H5 F5 b ρ5 k5 I5 q5 => ?_
    obtain ⟨r5, d5⟩ := r4.tr k5 d4
    have k25 : Keep Z2 H2 F2 Z5 H5 F5 := (k3.trans k4).trans k5
    have fin2 : ∀ {Z6 H6 F6 ρ6}, StOk K Z6 H6 ρ6 σ4 F6 → ρ6.length = ρ1.length → ∃ F7 : FP, (∀ b, F7 b → F6 b) ∧ StOk K Z6 H6 (wipeS ρ6 vs) (wipe σ vs) F7 ∧ (wipeS ρ6 vs).length = ρ1.length ∧ ∀ v, v ∈ vs → (wipeS ρ6 vs)[v]? = some .any := fun {Z6 H6 F6 ρ6} I6 l6 => by
      obtain ⟨F7, y1, y2⟩ := I6.sl.wipe vs
      rw [hw] at y2
      exact ⟨F7, y1, ⟨I6.sub, y2⟩, by rw [wipeS_length]; exact l6, fun v hv' => wipeS_any _ hv' (by rw [l6]; exact hv v hv')⟩
    cases b with
    | false =>
      rw [if_neg Bool.false_ne_true] at q5 ⊢
      obtain ⟨F7, y1, y2, y3, y4⟩ := fin2 I5 q5.1
      exact ⟨Z5, F7, _, acc, (k2.trans (k25.more (G := fun b => b = D))).dst' (fun b hb => hb.imp (y1 b) id), y2, y3, y4, r5, d5.sub (fun _ z => z) y1, by omega, q5.2⟩
    | true =>
      rw [if_pos rfl] at q5 ⊢
      refine xe_fz (P := fun o ρ4 => ∃ d, o = .d d ∧ ρ4.length = ρ1.length ∧ J (i + 1) (acc ++ [d]) (wipeS ρ4 vs)) (q5.imp fun o ρ1 ⟨d, e, q⟩ => ⟨d, e, d, rfl, q⟩) Z5 σ4 H5 F5 _ I5 fun Z6 H6 F6 Fo v o ρ6 k6 I6 r6 j6 ⟨d, es, l6, q6⟩ => ?_
      subst es
      have k6' := k6.dst' (G := F6) fun _ => .inl
      obtain ⟨rD, dD⟩ := r5.tr k6' d5
      obtain ⟨F7, y1, y2, y3, y4⟩ := fin2 I6 l6
      cases rD with
      | @ls _ ws _ _ z1 z2 z3 z4 =>
        have hlw := z3.length
        refine ⟨ws, z1, by omega, Z6, F7, _, acc ++ [d], ((k2.trans ((k25.trans k6').more (G := fun b => b = D))).trans (Keep.chg (.inr rfl))).dst' (fun b hb => hb.imp (y1 b) id), ⟨sub_chg z2 y2.sub, y2.sl.mv (Sub.refl Z6) fun b hb => ⟨(y2.sl.fp b hb).2, ?_⟩⟩, y3, y4, .ls upd_same z2 (z3.append (.cons r6.toD .nil)) fun _ => Iff.rfl, dD.sub (fun _ z => z) y1, by rw [List.length_append, List.length_singleton]; omega, q6⟩
        rw [upd_ne fun e => dD D rfl (by rw [← e]; exact y1 b hb)]
  · have e : i = n := by omega
    subst e
    refine .inl ⟨it.stop Z2 H2 k2.sub I2.sub, ?_⟩
    have I3 : StOk K Z2 H2 ρ2 σ F2 := ⟨I2.sub, I2.sl.loose (by rw [wipe_length]) fun j => by
      by_cases hj : j ∈ vs
      · exact .inr (a2 j hj)
      · exact .inl (by rw [wipe_get, if_neg hj])⟩
    exact kk Z2 H2 F2 _ _ _ ρ2 (k1.trans k2) I3 r2 d2 (fin acc ρ2 la jv)

/-! ### a def's run -/
def lkA : Nat → List Bool → List Nat
  | _, [] => []
  | i, true :: m => i :: lkA (i + 1) m
  | i, false :: m => lkA (i + 1) m
def lk (m : List Bool) : List Nat := lkA 0 m
theorem lkA_mem : ∀ {m : List Bool} {i j : Nat}, m[j]? = some true → i + j ∈ lkA i m
  | [], _, _, h => by simp at h
  | true :: m, i, 0, _ => by simp [lkA]
  | false :: m, i, 0, h => by simp at h
  | true :: m, i, j + 1, h => by
    unfold lkA
    have := lkA_mem (i := i + 1) (m := m) (j := j) (by simpa using h)
    exact List.mem_cons_of_mem _ (by rw [show i + (j + 1) = i + 1 + j by omega]; exact this)
  | false :: m, i, j + 1, h => by
    unfold lkA
    have := lkA_mem (i := i + 1) (m := m) (j := j) (by simpa using h)
    rw [show i + (j + 1) = i + 1 + j by omega]; exact this
def back : List Bool → List Ow → List Ow → List Ow
  | [], os, _ => os
  | _ :: _, [], _ => []
  | true :: m, _ :: os, r :: ρ => r :: back m os ρ
  | false :: m, o :: os, _ :: ρ => o :: back m os ρ
  | _ :: _, os, [] => os
def BackOk : List Bool → List Ow → Prop
  | [], os => ∀ o, o ∈ os → o.cp
  | _ :: _, [] => True
  | true :: m, _ :: os => BackOk m os
  | false :: m, o :: os => o.cp ∧ BackOk m os
theorem OwAll.cps : ∀ {os : List Ow} {vs : List V} {F : FP}, OwAll K Z H os vs F → (∀ o, o ∈ os → o.cp) → Sub Z Z' → OwAll K Z' H' os vs emp
  | _, _, _, .nil _, _, _ => .nil emp_false
  | _, _, _, .cons a t d e, c, k => by
    have a0 := a.copy (c _ List.mem_cons_self)
    exact .cons (F1 := emp) (F2 := emp) (a0.mv k fun b z => z.elim) (t.cps (fun o ho => c o (List.mem_cons_of_mem _ ho)) k) emp_false.dj fun b => ⟨fun z => z.elim, fun z => z.elim id id⟩
theorem back_ok : ∀ {m : List Bool} {os : List Ow} {vs : List V} {ρ' : List Ow} {σ' : L2.St} {F0 F' : FP}, OwAll K Z H os vs F0 → BackOk m os → SlAll K Z' H' ρ' σ' F' → Sub Z Z' → os.length ≤ ρ'.length → (∀ (i : Nat) (v : V), m[i]? = some true → vs[i]? = some v → σ'[i]? = some (some v)) → ∃ F'', OwAll K Z' H' (back m os ρ') vs F'' ∧ ∀ b, F'' b → F' b
  | [], os, vs, ρ', σ', F0, F', h, c, s, k, _, _ => by
    unfold back
    exact ⟨emp, h.cps c k, fun _ z => z.elim⟩
  | _ :: _, _, _, ρ', σ', F0, F', .nil e, c, s, k, _, _ => ⟨emp, .nil emp_false, fun _ z => z.elim⟩
  | true :: m, _ :: _, _, _, _, F0, F', .cons a t d e, c, .nil e', k, hl, w => by simp at hl
  | false :: m, _ :: _, _, _, _, F0, F', .cons a t d e, c, .nil e', k, hl, w => by simp at hl
  | true :: m, _ :: _, _, _, _, F0, F', .cons a t d e, c, .no s, k, hl, w => by
    have := w 0 _ rfl rfl
    simp at this
  | true :: m, _ :: _, _, _, _, F0, F', .cons a t d e, c, .so (F1 := A1) (F2 := A2) x s dd ee, k, hl, w => by
    have ev := w 0 _ rfl rfl
    simp at ev
    subst ev
    obtain ⟨F'', h1, h2⟩ := back_ok t c s k (by simpa using hl) fun i v hi hv => by simpa using w (i + 1) v (by simpa using hi) (by simpa using hv)
    exact ⟨Or2 A1 F'', .cons x h1 (dd.sub (fun _ z => z) h2) fun _ => Iff.rfl, fun b z => (ee b).mpr (z.imp id (h2 b))⟩
  | false :: m, _ :: _, _, _, _, F0, F', .cons a t d e, c, .no s, k, hl, w => by
    obtain ⟨F'', h1, h2⟩ := back_ok t c.2 s k (by simpa using hl) fun i v hi hv => by simpa using w (i + 1) v (by simpa using hi) (by simpa using hv)
    exact ⟨F'', .cons (F1 := emp) ((a.copy c.1).mv k fun b z => z.elim) h1 emp_false.dj fun b => ⟨.inr, fun z => z.elim (fun z => z.elim) id⟩, h2⟩
  | false :: m, _ :: _, _, _, _, F0, F', .cons a t d e, c, .so (F1 := A1) (F2 := A2) x s dd ee, k, hl, w => by
    obtain ⟨F'', h1, h2⟩ := back_ok t c.2 s k (by simpa using hl) fun i v hi hv => by simpa using w (i + 1) v (by simpa using hi) (by simpa using hv)
    exact ⟨F'', .cons (F1 := emp) ((a.copy c.1).mv k fun b z => z.elim) h1 emp_false.dj fun b => ⟨.inr, fun z => z.elim (fun z => z.elim) id⟩, fun b z => (ee b).mpr (.inr (h2 b z))⟩
theorem sl_none : ∀ n : Nat, SlAll K Z H (List.replicate n Ow.any) (List.replicate n none) emp
  | 0 => .nil emp_false
  | n + 1 => by
    rw [List.replicate_succ, List.replicate_succ]
    exact .no (sl_none n)
theorem sl_start (n : Nat) : ∀ {os : List Ow} {vs : List V} {F : FP}, OwAll K Z H os vs F → SlAll K Z H (os ++ List.replicate n .any) (vs.map some ++ List.replicate n none) F
  | _, _, F, .nil e => by
    rw [List.nil_append, List.map_nil, List.nil_append, e.eq]
    exact sl_none n
  | _, _, F, .cons a t d e => .so a (sl_start n t) d e
theorem xs_run {f : FS} {N : List Str} {vs : List V} {H : Hp} {Q : VK} {X : XK} (m : List Bool) (h : spM K f vs H Q X) (hN : vs.length ≤ N.length)
    (b : ∀ os P, os.length = vs.length → f os P → BackOk m os ∧ XS K (lk m) t { nx := fun ρ => os.length ≤ ρ.length ∧ P (.d .none) (back m os ρ), rt := fun o ρ => os.length ≤ ρ.length ∧ P o (back m os ρ) } (os ++ List.replicate (N.length - os.length) .any)) : t { nx := fun _ H' => Q .non H', rt := Q } (L2.start N vs) H := by
  obtain ⟨Z, F, os, P, hs, r, q, k⟩ := h
  have hl : os.length = vs.length := r.length
  obtain ⟨c, b⟩ := b os P hl q
  have I : StOk K Z H (os ++ List.replicate (N.length - os.length) .any) (L2.start N vs) F := ⟨hs, by
    unfold L2.start
    rw [hl]
    exact sl_start _ r⟩
  have fin : ∀ {Z' H' F' ρ' σ'}, Keep Z H F Z' H' F' → Lck (lk m) (L2.start N vs) σ' → StOk K Z' H' ρ' σ' F' → os.length ≤ ρ'.length → ∃ F'', OwAll K Z' H' (back m os ρ') vs F'' ∧ ∀ b, F'' b → F' b := fun {Z' H' F' ρ' σ'} k' l' I' hl' => by
    refine back_ok r c I'.sl k'.sub hl' fun i v hi hv => ?_
    have hm : i ∈ lk m := by
      have := lkA_mem (i := 0) hi
      rw [Nat.zero_add] at this
      exact this
    rw [l'.2 i hm]
    unfold L2.start
    rw [List.getElem?_append_left (by rw [List.length_map]; exact (List.getElem?_eq_some_iff.mp hv).1), List.getElem?_map, hv]
    rfl
  refine b Z (L2.start N vs) H F _ I ⟨fun Z' H' F' ρ' σ' k' l' I' ⟨hl', q'⟩ => ?_, fun Z' H' F' Fo v o ρ' σ' k' l' I' r' j' ⟨hl', q'⟩ => ?_, fun _ _ _ _ _ _ _ _ z => z.elim, fun _ _ _ _ _ _ _ _ z => z.elim⟩
  · obtain ⟨F'', h1, h2⟩ := fin k' l' I' hl'
    exact k Z' H' F'' emp .non (.d .none) _ (k'.dst' fun b hb => hb.elim (h2 b) fun z => z.elim) I'.sub h1 (.ofD .non) emp_false.dj q'
  · obtain ⟨F'', h1, h2⟩ := fin (k'.dst' fun _ => .inl) l' I' hl'
    exact k Z' H' F'' Fo v o _ (k'.dst' fun b hb => hb.imp (h2 b) id) I'.sub h1 r' (j'.sub (fun _ z => z) h2) q'
end
/-- a def that is called; one as the top left it -/
def Cal (P : Program) (w : World) (K : PySem.W.Frag) (mg : Str → Option Value) (base : Heap) (k : Nat) (x : Str) (ps : List Str) (f : FS) : Prop :=
  ∃ (a : Addr) (fd : FuncData), FnOk P w K mg base CX0 k a fd ps (spM K f) ∧ mg x = some (.ref a) ∧ PySem.W.keepIn K (.ref a) = true ∧ Binds K fd ps []
def Std (K : PySem.W.Frag) (mg : Str → Option Value) (x : Str) (st : Stmt) (ps : List Str) : Prop :=
  ∃ (a : Addr) (fd : FuncData), Fun K x x st a fd ∧ mg x = some (.ref a) ∧ Binds K fd ps []
section
variable {P : Program} {w : World} {K : PySem.W.Frag} {mg : Str → Option Value} {base : Heap}
theorem fn_of {x qual : Str} {st : Stmt} {N ps : List Str} {k : Nat} {f : FS} {a : Addr} {fd : FuncData} (m : List Bool) (Fn : Fun K x qual st a fd) (sc : FnScope N ps (defScope st)) (hN : ps.length ≤ N.length) (hl : ∀ os P, f os P → os.length = ps.length)
    (body : ∀ (a : Addr) (cdv : Value) (A : Around) (outer : List Env) (s : Shared) (H : Hp) (vs : List V) (Q : VK) (E : XK), Room k (A.deeper (envOfC qual (defScope st) s.heap.objs.size a cdv)) →
      ∃ t, PSs (cxOf CX0 P w K mg base N qual (defScope st) a cdv A outer s H E).nox (defBody st) t ∧ ∀ os P, f os P → BackOk m os ∧ XS K (lk m) t { nx := fun ρ => os.length ≤ ρ.length ∧ P (.d .none) (back m os ρ), rt := fun o ρ => os.length ≤ ρ.length ∧ P o (back m os ρ) } (os ++ List.replicate (N.length - os.length) .any)) : FnOk P w K mg base CX0 (k + 1) a fd ps (spM K f) := by
  refine Fn.ok sc (fun vs H Q E h => ?_) (fun cdv A outer s H vs Q E hr h => ?_)
  · obtain ⟨Z, F, os, P, hs, r, q, _⟩ := h
    rw [← r.length]
    exact hl os P q
  · obtain ⟨t, d, q⟩ := body a cdv A outer s H vs Q E hr
    refine ⟨t, d, xs_run (N := N) m h ?_ fun os P _ hf => q os P hf⟩
    obtain ⟨Z, F, os, P, hs, r, q, _⟩ := h
    rw [← r.length, hl os P q]
    exact hN
theorem cal_of {x : Str} {st : Stmt} {N ps : List Str} {k : Nat} {f : FS} (m : List Bool) (S : Std K mg x st ps) (sc : FnScope N ps (defScope st)) (hN : ps.length ≤ N.length) (hl : ∀ os P, f os P → os.length = ps.length)
    (body : ∀ (a : Addr) (cdv : Value) (A : Around) (outer : List Env) (s : Shared) (H : Hp) (vs : List V) (Q : VK) (E : XK), Room k (A.deeper (envOfC x (defScope st) s.heap.objs.size a cdv)) →
      ∃ t, PSs (cxOf CX0 P w K mg base N x (defScope st) a cdv A outer s H E).nox (defBody st) t ∧ ∀ os P, f os P → BackOk m os ∧ XS K (lk m) t { nx := fun ρ => os.length ≤ ρ.length ∧ P (.d .none) (back m os ρ), rt := fun o ρ => os.length ≤ ρ.length ∧ P o (back m os ρ) } (os ++ List.replicate (N.length - os.length) .any)) : Cal P w K mg base (k + 1) x ps f := by
  obtain ⟨a, fd, F, hg, hb⟩ := S
  exact ⟨a, fd, fn_of m F sc hN hl body, hg, F.kp, hb⟩
theorem Cal.mono {x : Str} {ps : List Str} {f : FS} {j k : Nat} (C : Cal P w K mg base j x ps f) (h : j ≤ k) : Cal P w K mg base k x ps f := by
  obtain ⟨a, fd, F, r⟩ := C
  exact ⟨a, fd, F.mono h, r⟩
end
end MV
set_option maxRecDepth 100000
set_option maxHeartbeats 4000000
set_option autoImplicit false
/-! MV7: calls of built-ins, slices, truth, own classes' == and len. -/
namespace MV
open PySem L2 PyProof.Rows PL
section
variable {K : PySem.W.Frag} {Z Z' Z1 Z2 H H' H1 H2 : Hp} {F F' F1 F2 G G' : FP} {ρ ρ' : List Ow} {σ σ' : L2.St}
variable {P : Ow → List Ow → Prop} {B : Bool → List Ow → Prop} {ta tb tc te to ti : TE} {tt tu : TT} {t u : TS} {p : PD} {L : List Nat} {wi : TI} {tg : TG}
def RCX (K : PySem.W.Frag) (r : List V → Hp → VK → Prop) (os : List Ow) (P : Ow → Prop) : Prop :=
  ∀ (Z H : Hp) (vs : List V) (F : FP) (Q : VK), Sub Z H → OwAll K Z H os vs F → (∀ Z' H' Fo w o, Keep Z H emp Z' H' Fo → Sub Z' H' → OwOk K Z' H' o w Fo → P o → Q w H') → r vs H Q
theorem xe_cb {r : List V → Hp → VK → Prop} {ts : TA} (h : XA K ts ρ fun as ρ1 => RCX K r (as.map Arg.ow) fun o => Fill as (as.map Arg.ow) ρ1 (P o)) : XE K (tCB r ts) ρ P := fun Z σ H F Q I k => h Z σ H F _ I fun Z1 H1 F1 Fo vs as ρ1 k1 I1 r1 b1 d1 q =>
  q Z1 H1 vs Fo Q I1.sub r1 fun Z2 H2 Fr w o k2 s2 r2 q2 => by
    obtain ⟨I2, d2⟩ := I1.tr k2 s2 emp_false.dj'
    obtain ⟨r1', d1'⟩ := r1.tr k2 emp_false.dj'
    obtain ⟨ρ', F', h1, h2, h3⟩ := fill_ok s2 I2.sl r1' b1 d1 q2
    have k2' : Keep Z1 H1 (Or2 F1 Fo) Z2 H2 (Or2 (Or2 F1 Fo) Fr) := (k2.src (G := Or2 F1 Fo) fun _ z => z.elim).dst fun b hb => hb.elim .inl fun hb => (k2.fp b hb).elim (fun z => z.elim) .inr
    refine k Z2 H2 F' Fr w o ρ' ((k1.trans k2').dst' fun b hb => hb.imp (h2 b) id) ⟨s2, h1⟩ r2 (fun b x y => ?_) h3
    rcases h2 b y with z | z
    · exact d2 b z x
    · exact d1' b z x
/-- a built-in on one thing that is looked at -/
theorem xe_cbW {r : List V → Hp → VK → Prop} {x : Ow} (h : XW K te ρ x) (q : RCX K r [x] fun o => P o ρ) : XE K (tCB r (tCons te tNil)) ρ P := fun Z σ H F Q I k => h Z σ H F _ I fun v F1 r1 =>
  q Z H [v] F1 Q I.sub (.cons r1 (.nil emp_false) emp_false.dj' fun b => ⟨.inl, fun z => z.elim id fun z => z.elim⟩) fun Z3 H3 Fo w o k3 s3 r3 x3 => by
    obtain ⟨I3, d3⟩ := I.tr k3 s3 emp_false.dj'
    refine k Z3 H3 F Fo w o ρ ((k3.src (G := F) fun _ z => z.elim).dst fun b hb => hb.elim .inl fun hb => (k3.fp b hb).elim (fun z => z.elim) .inr) I3 r3 d3.symm x3
theorem a1 {x : Ow} {vs : List V} (r : OwAll K Z H [x] vs F) : ∃ v F1, vs = [v] ∧ OwOk K Z H x v F1 := by
  cases r with
  | cons r rr =>
    cases rr
    exact ⟨_, _, rfl, r⟩
theorem a2 {x y : Ow} {vs : List V} (r : OwAll K Z H [x, y] vs F) : ∃ v u F1 F2, vs = [v, u] ∧ OwOk K Z H x v F1 ∧ OwOk K Z H y u F2 := by
  cases r with
  | cons r rr =>
    cases rr with
    | cons r' rr =>
      cases rr
      exact ⟨_, _, _, _, rfl, r, r'⟩
theorem rc_val {r : List V → Hp → VK → Prop} {os : List Ow} {z : PyData} {P : Ow → Prop} (q : P (.d z)) (h : ∀ (Z H : Hp) (vs : List V) (F : FP), Sub Z H → OwAll K Z H os vs F → ∃ w, Da K Z w z ∧ ∀ Q : VK, Q w H → r vs H Q) : RCX K r os P := fun Z H vs F Q s r1 k => by
  obtain ⟨w, rw', f⟩ := h Z H vs F s r1
  exact f Q (k Z H emp w (.d z) (Keep.refl Z H emp) s (.ofD rw') q)
abbrev rLenK (K : PySem.W.Frag) : List V → Hp → VK → Prop := fun xs H Q => ∃ x n, xs = [x] ∧ LenV K x H n ∧ Q (.int n) H
section
variable {P : Ow → Prop}
theorem rc_len {x : Ow} {ds : List PyData} (hx : x.lsD = some ds) (q : P (.d (.int ds.length))) : RCX K (rLenK K) [x] P := rc_val q fun Z H vs F s r => by
  obtain ⟨v, F1, rfl, r0⟩ := a1 r
  obtain ⟨a, xs, rfl, h1, h2⟩ := r0.lsD s hx
  exact ⟨_, Da.int _, fun Q h => ⟨_, ds.length, rfl, .inl ⟨xs, .inl h1, h2.length.symm⟩, h⟩⟩
theorem rc_lenL {xs : List Ow} (q : P (.d (.int xs.length))) : RCX K (rLenK K) [.lst xs] P := rc_val q fun Z H vs F s r => by
  obtain ⟨v, F1, rfl, r0⟩ := a1 r
  cases r0 with
  | lst h z r1 n e => exact ⟨_, Da.int _, fun Q h' => ⟨_, xs.length, rfl, .inl ⟨_, SqL.of h, r1.length⟩, h'⟩⟩
theorem rc_len_tup {ds : List PyData} (q : P (.d (.int ds.length))) : RCX K (rLenK K) [.d (.tuple ds)] P := rc_val q fun Z H vs F s r => by
  obtain ⟨v, F1, rfl, r0⟩ := a1 r
  obtain ⟨a, xs, rfl, h1, h2⟩ := da_tup r0.toD
  exact ⟨_, Da.int _, fun Q h => ⟨_, ds.length, rfl, .inr ⟨xs, s.sqT h1, h2.length.symm⟩, h⟩⟩
theorem rc_len_str {z : Str} (hz : z.length ≤ sizeLine) (q : P (.d (.int z.length))) : RCX K (rLenK K) [.d (.str z)] P := rc_val q fun Z H vs F s r => by
  obtain ⟨v, F1, rfl, r0⟩ := a1 r
  cases da_str r0.toD
  exact ⟨_, Da.int _, fun Q h => ⟨_, z.length, rfl, ⟨hz, rfl⟩, h⟩⟩
theorem rc_len_scr {ns : List Int} (q : P (.d (.int ns.length))) : RCX K (rLenK K) [.scr ns] P := rc_val q fun Z H vs F s r => by
  obtain ⟨v, F1, rfl, r0⟩ := a1 r
  cases r0 with
  | scr h e =>
    obtain ⟨a, rfl, h1⟩ := h
    exact ⟨_, Da.int _, fun Q h => ⟨_, ns.length, rfl, .inl ⟨_, s.sqL h1, (List.length_map _).symm⟩, h⟩⟩
theorem rc_int_bool {b : Bool} (q : P (.d (.int (if b then 1 else 0)))) : RCX K (fun xs H Q => (∃ i, xs = [.int i] ∧ Q (.int i) H) ∨ ∃ k, xs = [.bl k] ∧ Q (.int (if k then 1 else 0)) H) [.d (.bool b)] P := rc_val q fun Z H vs F s r => by
  obtain ⟨v, F1, rfl, r0⟩ := a1 r
  cases da_bl r0.toD
  exact ⟨_, Da.int _, fun Q h => .inr ⟨b, rfl, h⟩⟩
theorem rc_str_int {i : Int} (hi : i.natAbs.log2 < 1920) (q : P (.d (.str (toString i)))) : RCX K (fun xs H Q => ∃ i : Int, xs = [.int i] ∧ i.natAbs.log2 < 1920 ∧ Q (.str (toString i)) H) [.d (.int i)] P := rc_val q fun Z H vs F s r => by
  obtain ⟨v, F1, rfl, r0⟩ := a1 r
  cases da_int r0.toD
  exact ⟨_, Da.str _, fun Q h => ⟨i, rfl, hi, h⟩⟩
theorem rc_max2 {i j : Int} (q : P (.d (.int (if j > i then j else i)))) : RCX K (fun xs H Q => ∃ i j : Int, xs = [.int i, .int j] ∧ Q (.int (if j > i then j else i)) H) [.d (.int i), .d (.int j)] P := rc_val q fun Z H vs F s r => by
  obtain ⟨v, u, F1, F2, rfl, r1, r2⟩ := a2 r
  cases da_int r1.toD
  cases da_int r2.toD
  exact ⟨_, Da.int _, fun Q h => ⟨i, j, rfl, h⟩⟩
theorem rc_min2 {i j : Int} (q : P (.d (.int (if j < i then j else i)))) : RCX K (fun xs H Q => ∃ i j : Int, xs = [.int i, .int j] ∧ Q (.int (if j < i then j else i)) H) [.d (.int i), .d (.int j)] P := rc_val q fun Z H vs F s r => by
  obtain ⟨v, u, F1, F2, rfl, r1, r2⟩ := a2 r
  cases da_int r1.toD
  cases da_int r2.toD
  exact ⟨_, Da.int _, fun Q h => ⟨i, j, rfl, h⟩⟩
theorem rc_abs {i : Int} (q : P (.d (.int (if i < 0 then -i else i)))) : RCX K (fun xs H Q => ∃ i : Int, xs = [.int i] ∧ Q (.int (if i < 0 then -i else i)) H) [.d (.int i)] P := rc_val q fun Z H vs F s r => by
  obtain ⟨v, F1, rfl, r0⟩ := a1 r
  cases da_int r0.toD
  exact ⟨_, Da.int _, fun Q h => ⟨i, rfl, h⟩⟩
theorem rc_sum {x : Ow} {ns : List Int} (hx : x.lsD = some (ns.map .int)) (q : P (.d (.int ns.sum))) : RCX K (rSum K) [x] P := rc_val q fun Z H vs F s r => by
  obtain ⟨v, F1, rfl, r0⟩ := a1 r
  obtain ⟨a, xs, rfl, h1, h2⟩ := r0.lsD s hx
  have e := h2.ints
  subst e
  exact ⟨_, Da.int _, fun Q h => ⟨a, ns, rfl, .inl h1, h⟩⟩
theorem rc_all {x : Ow} {bs : List Bool} (hx : x.lsD = some (bs.map .bool)) (q : P (.d (.bool (bs.all id)))) : RCX K (rAll K) [x] P := rc_val q fun Z H vs F s r => by
  obtain ⟨v, F1, rfl, r0⟩ := a1 r
  obtain ⟨a, xs, rfl, h1, h2⟩ := r0.lsD s hx
  have e := h2.bools
  subst e
  exact ⟨_, Da.bl _, fun Q h => ⟨a, bs, rfl, .inl h1, h⟩⟩
theorem rc_any {x : Ow} {bs : List Bool} (hx : x.lsD = some (bs.map .bool)) (q : P (.d (.bool (bs.any id)))) : RCX K (rAny K) [x] P := rc_val q fun Z H vs F s r => by
  obtain ⟨v, F1, rfl, r0⟩ := a1 r
  obtain ⟨a, xs, rfl, h1, h2⟩ := r0.lsD s hx
  have e := h2.bools
  subst e
  exact ⟨_, Da.bl _, fun Q h => ⟨a, bs, rfl, .inl h1, h⟩⟩
/-- tuple(xs), list(xs) -/
theorem rc_tuple_list {x : Ow} {ds : List PyData} (hx : x.lsD = some ds) (q : P (.d (.tuple ds))) : RCX K (fun xs H Q => ∃ p ys, xs = [.ref p] ∧ ((SqL K H p ys ∧ ∀ l, H l = none → Q (.ref l) (upd H l (.tup ys))) ∨ (SqT K H p ys ∧ Q (.ref p) H))) [x] P := fun Z H vs F Q s r k => by
  obtain ⟨v, F1, rfl, r0⟩ := a1 r
  obtain ⟨a, xs, rfl, h1, h2⟩ := r0.lsD s hx
  exact ⟨a, xs, rfl, .inl ⟨.inl h1, fun l nl => k (upd Z l (.tup xs)) _ emp _ (.d (.tuple ds)) (Keep.frz nl s) (sub_upd2 s) (.ofD (.tup (SqT.of upd_same) (h2.mono (Keep.frz (F := emp) nl s).sub))) q⟩⟩
/-- isinstance(x, T) of data and a built-in type -/
def tyD : PyData → Value
  | .none => .type "NoneType"
  | .bool _ => .type "bool"
  | .int _ => .type "int"
  | .str _ => .type "str"
  | .list _ => .type "list"
  | .tuple _ => .type "tuple"
  | .dict _ => .type "dict"
def noDict : PyData → Prop
  | .dict _ => False
  | _ => True
theorem rdL {a : Addr} {xs : List V} (h : Rd H a (.lst xs)) : TyX K H (.ref a) (.type "list") := h.elim (fun h => .base (.lst h)) fun ⟨o, h⟩ => .base (.frz h)
theorem tyD_ok {v : V} {d : PyData} (n : noDict d) (h : Da K H v d) : TyX K H v (tyD d) := by
  cases h with
  | non => exact .base .non
  | bl b => exact .base (.bl b)
  | int i => exact .base (.int i)
  | str x => exact .base (.str x)
  | lst h _ => exact rdL h
  | tup h _ =>
    rcases h with h | h
    · rcases h with h | ⟨o, h⟩
      · exact .base (.tup h)
      · exact .fTuple h
    · obtain ⟨o, us, n, e, c⟩ := h
      exact .kTuple e c.1
theorem rc_isi {x : Ow} {d : PyData} {T : String} {b : Bool} (hx : x.dat = some d) (n : noDict d) (e : PySem.W.kitOne K (tyD d) (.type T) = some b) (q : P (.d (.bool b))) {w : Ow} : RCX K (fun vs H Q => rIsi K (vs.take 1 ++ [.ty T]) H Q) [x, w] P := rc_val q fun Z H vs F s r => by
  obtain ⟨v, u, F1, F2, rfl, r1, r2⟩ := a2 r
  exact ⟨_, Da.bl _, fun Q h => ⟨v, .ty T, _, _, b, rfl, .ty T, tyD_ok n (r1.dat s hx), e, h⟩⟩
end
/-- isinstance(e, T) -/
theorem xe_isi {x : Ow} {d : PyData} {T : String} {b : Bool} (h : XW K te ρ x) (hx : x.dat = some d) (n : noDict d) (e : PySem.W.kitOne K (tyD d) (.type T) = some b) (q : P (.d (.bool b)) ρ) : XE K (tCB (rIsi K) (tCons te (tCons (tC (.ty T)) tNil))) ρ P := fun Z σ H F Q I k => h Z σ H F _ I fun v F1 r1 =>
  ⟨v, .ty T, _, _, b, rfl, .ty T, tyD_ok n (r1.dat I.sub hx), e, k Z H F emp _ (.d (.bool b)) ρ (by rw [or2_emp]; exact Keep.refl Z H F) I (.ofD (Da.bl _)) emp_false.dj q⟩
/-- isinstance(e, C), C an own class, of an instance of it -/
theorem xe_isiC {C : Addr} {fs : List (Str × Ow)} {b : Bool} (h : XW K te ρ (.ins C fs)) (cl : Cls K C) (ha : PySem.W.findIn K (.ref C) "__class__" = some (some (.builtin "object.__class__")))
      (hn : PySem.W.specialIn K (.builtin "object.__class__") "__get__" = some (some (.builtin "getset_descriptor.__get__"))) (htk : PySem.W.takesIn K (.builtin "object.__class__") = some true)
      (hm : PySem.W.mroIn K C (.type "object") = some true) (e : PySem.W.kitOne K (.ref C) (.ref C) = some b) (hc : ∀ (Z : Hp) (σ : L2.St) (H : Hp) (Q : VK), Q (.ref C) H → tc σ H Q) (q : P (.d (.bool b)) ρ) : XE K (tCB (rIsi K) (tCons te (tCons tc tNil))) ρ P := fun Z σ H F Q I k => h Z σ H F _ I fun v F1 r1 => hc Z σ H _ (by
  cases r1 with
  | ins z1 z2 z3 z4 z5 => exact ⟨_, .ref C, .ref C, .ref C, b, rfl, .own C, .base (.ins z1 cl ha hn htk hm), e, k Z H F emp _ (.d (.bool b)) ρ (by rw [or2_emp]; exact Keep.refl Z H F) I (.ofD (Da.bl _)) emp_false.dj q⟩)
/-! ### truth -/
def truD : PyData → Option Bool
  | .none => some false
  | .bool b => some b
  | .int i => some (i != 0)
  | .str y => some ((y.length : Int) != 0)
  | .list ds => some (!ds.isEmpty)
  | .tuple ds => some (!ds.isEmpty)
  | .dict _ => none
def smallD : PyData → Prop
  | .str y => y.length ≤ sizeLine
  | _ => True
theorem tru_ok {v : V} {d : PyData} {b : Bool} (r1 : Da K H v d) (ed : truD d = some b) (hs : smallD d) : TruV K v H b := by
  cases d with
  | none => cases da_non r1; cases ed; rfl
  | bool c => cases da_bl r1; cases ed; rfl
  | int i => cases da_int r1; cases ed; rfl
  | str y => cases da_str r1; cases ed; exact ⟨hs, rfl⟩
  | list ds =>
    obtain ⟨a, xs, rfl, h1, h2⟩ := da_list r1
    cases ed
    refine .inl ⟨xs, .inl h1, ?_⟩
    cases h2 <;> rfl
  | tuple ds =>
    obtain ⟨a, xs, rfl, h1, h2⟩ := da_tup r1
    cases ed
    refine .inr (.inl ⟨xs, h1, ?_⟩)
    cases h2 <;> rfl
  | dict _ => cases ed
theorem xt_tru (h : XE K te ρ fun s ρ1 => ∃ d b, s.dat = some d ∧ truD d = some b ∧ smallD d ∧ B b ρ1) : XT K (tTru K te) ρ B := fun Z σ H F Q I k => h Z σ H F _ I fun Z1 H1 F1 Fo v o ρ1 k1 I1 r1 j1 ⟨d, b, ed, eb, hs, q⟩ =>
  ⟨b, tru_ok (r1.dat I1.sub ed) eb hs, k Z1 H1 F1 b ρ1 (k1.dst' fun _ => .inl) I1 q⟩
theorem xt_truW {x : Ow} {d : PyData} {b : Bool} (h : XW K te ρ x) (ed : x.dat = some d) (eb : truD d = some b) (hs : smallD d) (q : B b ρ) : XT K (tTru K te) ρ B := fun Z σ H F Q I k => h Z σ H F _ I fun v F1 r1 =>
  ⟨b, tru_ok (r1.dat I.sub ed) eb hs, k Z H F b ρ (Keep.refl Z H F) I q⟩
/-! ### slices -/
def XO (K : PySem.W.Frag) (to : TO) (ρ : List Ow) (M : Option Int → List Ow → Prop) : Prop :=
  ∀ (Z : Hp) (σ : L2.St) (H : Hp) (F : FP) (Q : Option Int → Hp → Prop), StOk K Z H ρ σ F → (∀ Z' H' F' o ρ', Keep Z H F Z' H' F' → StOk K Z' H' ρ' σ F' → M o ρ' → Q o H') → to σ H Q
theorem xo_none {M : Option Int → List Ow → Prop} (q : M none ρ) : XO K tNoPart ρ M := fun Z σ H F Q I k => k Z H F none ρ (Keep.refl Z H F) I q
theorem xo_some {M : Option Int → List Ow → Prop} (h : XE K te ρ fun s ρ1 => ∃ i, s = .d (.int i) ∧ M (some i) ρ1) : XO K (tPart te) ρ M := fun Z σ H F Q I k => h Z σ H F _ I fun Z1 H1 F1 Fo v o ρ1 k1 I1 r1 j1 ⟨i, es, q⟩ => by
  subst es
  exact ⟨i, da_int r1.toD, k Z1 H1 F1 _ ρ1 (k1.dst' fun _ => .inl) I1 q⟩
def SLX (K : PySem.W.Frag) (x : Ow) (lo hi : Option Int) (P : Ow → Prop) : Prop :=
  ∀ (Z H : Hp) (v : V) (F1 : FP) (Q : VK), Sub Z H → OwOk K Z H x v F1 → (∀ Z' H' Fo w o, Keep Z H emp Z' H' Fo → Sub Z' H' → OwOk K Z' H' o w Fo → P o → Q w H') → rSli K v lo hi H Q
theorem xe_slice {tl th : TO} (h : XE K te ρ fun x ρ1 => XO K tl ρ1 fun lo ρ2 => XO K th ρ2 fun hi ρ3 => SLX K x lo hi fun o => P o ρ3) : XE K (tSl (rSli K) te tl th) ρ P := fun Z σ H F Q I k => by
  refine h Z σ H F _ I fun Z1 H1 F1 Fx v x ρ1 k1 I1 r1 d1 q1 => ?_
  refine q1 Z1 σ H1 F1 _ I1 fun Z2 H2 F2 lo ρ2 k2 I2 q2 => ?_
  refine q2 Z2 σ H2 F2 _ I2 fun Z3 H3 F3 hi ρ3 k3 I3 q3 => ?_
  obtain ⟨r1', _⟩ := r1.tr (k2.trans k3) d1
  refine q3 Z3 H3 v Fx Q I3.sub r1' fun Z4 H4 Fo w o k4 s4 r4 x4 => ?_
  obtain ⟨I4, d4⟩ := I3.tr k4 s4 emp_false.dj'
  have k4' : Keep Z3 H3 F3 Z4 H4 (Or2 F3 Fo) := (k4.src (G := F3) fun _ z => z.elim).dst fun b hb => hb.elim .inl fun hb => (k4.fp b hb).elim (fun z => z.elim) .inr
  exact k Z4 H4 F3 Fo w o ρ3 ((((k1.dst' fun _ => .inl).trans k2).trans k3).trans k4') I4 r4 d4.symm x4
/-- of what is looked at, the ends computed without a change -/
def XOV (K : PySem.W.Frag) (to : TO) (ρ : List Ow) (o : Option Int) : Prop :=
  ∀ (Z : Hp) (σ : L2.St) (H : Hp) (F : FP) (Q : Option Int → Hp → Prop), StOk K Z H ρ σ F → Q o H → to σ H Q
theorem xov_none : XOV K tNoPart ρ none := fun Z σ H F Q I k => k
theorem xov_some {i : Int} (h : XV K te ρ (.int i)) : XOV K (tPart te) ρ (some i) := fun Z σ H F Q I k => h Z σ H F _ I fun v r => ⟨i, da_int r, k⟩
theorem xe_sliceW {tl th : TO} {x : Ow} {lo hi : Option Int} (h : XW K te ρ x) (h1 : XOV K tl ρ lo) (h2 : XOV K th ρ hi) (q : SLX K x lo hi fun o => P o ρ) : XE K (tSl (rSli K) te tl th) ρ P := fun Z σ H F Q I k => h Z σ H F _ I fun v F1 r1 => h1 Z σ H F _ I (h2 Z σ H F _ I (by
  refine q Z H v F1 Q I.sub r1 fun Z4 H4 Fo w o k4 s4 r4 x4 => ?_
  obtain ⟨I4, d4⟩ := I.tr k4 s4 emp_false.dj'
  exact k Z4 H4 F Fo w o ρ ((k4.src (G := F) fun _ z => z.elim).dst fun b hb => hb.elim .inl fun hb => (k4.fp b hb).elim (fun z => z.elim) .inr) I4 r4 d4.symm x4))
def cuD (xs : List PyData) (lo hi : Option Int) : List PyData := (xs.drop (HT.sIx xs.length 0 lo)).take (HT.sIx xs.length xs.length hi - HT.sIx xs.length 0 lo)
theorem cu_da {H : Hp} {xs : List V} {ds : List PyData} (h : DaAll K H xs ds) (lo hi : Option Int) : DaAll K H (cutV xs lo hi) (cuD ds lo hi) := by
  unfold cutV cuD
  rw [h.length]
  exact (h.drop _).take _
theorem slx_list {x : Ow} {ds : List PyData} {lo hi : Option Int} {P : Ow → Prop} (hx : x.lsD = some ds) (q : P (.ls (cuD ds lo hi))) : SLX K x lo hi P := fun Z H v F1 Q s r k => by
  obtain ⟨a, xs, rfl, h1, h2⟩ := r.lsD s hx
  exact .inl ⟨a, xs, rfl, .inl h1, fun p np => k Z _ _ _ _ (new_ls np s (cu_da h2 lo hi)).1 (sub_upd np s) (new_ls np s (cu_da h2 lo hi)).2 q⟩
theorem slx_tup {ds : List PyData} {lo hi : Option Int} {P : Ow → Prop} (q : P (.d (.tuple (cuD ds lo hi)))) : SLX K (.d (.tuple ds)) lo hi P := fun Z H v F1 Q s r k => by
  obtain ⟨a, xs, rfl, h1, h2⟩ := da_tup r.toD
  refine .inr (.inl ⟨a, xs, rfl, s.sqT h1, fun ⟨e1, e2⟩ => ?_, fun _ p np => ?_⟩)
  · have e : cuD ds lo hi = ds := by
      unfold cuD
      rw [← h2.length, e1, e2, List.drop_zero, Nat.sub_zero, h2.length, List.take_length]
    rw [e] at q
    exact k Z H emp _ _ (Keep.refl Z H emp) s (OwOk.copy (o := .d _) trivial r) q
  · exact k (upd Z p _) _ emp _ (.d (.tuple (cuD ds lo hi))) (Keep.frz np s) (sub_upd2 s) (.ofD (.tup (SqT.of upd_same) ((cu_da h2 lo hi).mono (Keep.frz (F := emp) np s).sub))) q
theorem slx_str {z : Str} {lo hi : Option Int} {P : Ow → Prop} (hz : z.length ≤ sizeLine) (q : P (.d (.str (cutS z lo hi)))) : SLX K (.d (.str z)) lo hi P := fun Z H v F1 Q s r k => by
  cases da_str r.toD
  exact .inr (.inr ⟨z, rfl, hz, k Z H emp _ (.d (.str (cutS z lo hi))) (Keep.refl Z H emp) s (.ofD (Da.str _)) q⟩)
end

/-! ### an own class: ==, len, repr -/
section
variable {X : Cx} {CX : CXT} {n : Nat} {f C : Addr} {fd : FuncData} {ps : List Str} {sp : Sp} {E : XK}
def rEqI (C : Addr) (sp : Sp) (E : XK) : R2 := fun x y H Q => ∃ a b dx dy fs gs, x = .ref a ∧ y = .ref b ∧ H a = some (.ins C dx fs) ∧ H b = some (.ins C dy gs) ∧ sp [x, y] H (fun v H' => ∃ c, v = .bl c ∧ Q (.bl c) H') E
theorem op_eqI (Fn : FnOk X.prog X.w X.K X.mg X.base CX n f fd ps sp) (hr : Room n X.A) (hs : PySem.W.findIn X.K (.ref C) "__eq__" = some (some (.ref f))) (hf : PySem.W.isFn X.K (.ref f) = true) (hn : PySem.W.notFirst X.K C (.ref C) = true) (hb : Binds X.K fd ps []) (hx : Passes CX X E) : OpR X (compareOp .Eq) (rEqI C sp E) := by
  intro pins s σ H x y u v Q I rx ry hq
  obtain ⟨a, b, dx, dy, fs, gs, rfl, rfl, ha, hb', q⟩ := hq
  cases rx
  cases ry
  obtain ⟨mA, J, _⟩ := ins_get I.hok ha
  obtain ⟨mB, J', _⟩ := ins_get I.hok hb'
  obtain ⟨od, J, _⟩ := J.look
  obtain ⟨od', J', _⟩ := J'.look
  obtain ⟨m, hF⟩ := I.fr
  refine PySem.W.cmp_K (op := .Eq) (tb := .ref C) hr.units0 hF I.ok.mod.kin J J'.type hn hs hf ?_
  have hl := Fn.len _ _ _ _ q
  have r2 : Vals [V.ref a, V.ref b] [Value.ref a, Value.ref b] := .cons rfl (.cons rfl .nil)
  refine wpAny_call (codeAny_mono (Fn.run X.A X.stack s H ⟨[.ref a, .ref b], []⟩ [.ref a, .ref b] [.ref a, .ref b] _ E hr I.env0 (by
    have := hb s [.ref a, .ref b] I.kIn (by simpa using hl)
    simpa using this) r2 q) fun r s' hq => ?_)
  cases r with
  | error e => exact hx pins σ H s e s' I hq
  | ok fl =>
    cases fl with
    | ret w =>
      obtain ⟨z, H', I', rz, c, ez, q'⟩ := I.after hq
      subst ez
      cases rz
      exact ⟨.bl c, H', I', rfl, q'⟩
    | next => exact False.elim hq
    | brk => exact False.elim hq
    | cont => exact False.elim hq
def rLenI (C : Addr) (sp : Sp) (E : XK) : List V → Hp → VK → Prop := fun xs H Q => ∃ a dx fs, xs = [.ref a] ∧ H a = some (.ins C dx fs) ∧ sp [.ref a] H (fun v H' => ∃ n : Int, v = .int n ∧ (0 ≤ n ∧ n < 2 ^ 63) ∧ Q (.int n) H') E
theorem call_lenI (Fn : FnOk X.prog X.w X.K X.mg X.base CX n f fd ps sp) (hr : Room (n + 1) X.A) (hs : PySem.W.findIn X.K (.ref C) "__len__" = some (some (.ref f))) (hf : PySem.W.isFn X.K (.ref f) = true) (hb : Binds X.K fd ps []) (hx : Passes CX X E) : CallR X (.builtin "len") (rLenI C sp E) := by
  intro pins s σ H xs us Q I r hq
  obtain ⟨a, dx, fs, rfl, ha, q⟩ := hq
  cases r with
  | cons r rr =>
    cases rr
    cases r
    obtain ⟨mA, J, _⟩ := ins_get I.hok ha
    obtain ⟨od, J, _⟩ := J.look
    obtain ⟨m, hF⟩ := I.fr
    refine PySem.W.len_K hF I.ok.mod.kin J hs hf ?_
    have hl := Fn.len _ _ _ _ q
    refine wpAny_call (codeAny_mono (Fn.run X.A.in1 X.stack s H ⟨[.ref a], []⟩ [.ref a] [.ref a] _ E hr.in1 I.env0.in1 (by
      have := hb s [.ref a] I.kIn (by simpa using hl)
      simpa using this) (.cons rfl .nil) q) fun r s' hq => ?_)
    cases r with
    | error e => exact hx pins σ H s e s' I hq
    | ok fl =>
      cases fl with
      | ret w =>
        obtain ⟨z, H', I', rz, c, ez, hb, q'⟩ := I.after hq
        subst ez
        obtain ⟨t, rfl⟩ := rz
        exact ⟨hb, .int c, H', I'.tok _, ⟨_, rfl⟩, q'⟩
      | next => exact False.elim hq
      | brk => exact False.elim hq
      | cont => exact False.elim hq
end
section
variable {K : PySem.W.Frag} {Z Z' Z1 Z2 H H' H1 H2 : Hp} {F F' F1 F2 G G' : FP} {ρ ρ' : List Ow} {σ σ' : L2.St}
variable {P : Ow → List Ow → Prop} {ta tb tc te to ti : TE} {C : Addr} {E : XK}
/-- x == y, both lent -/
theorem xe_eqI {f : FS} {i j : Nat} {q r : List Stp} {fs gs : List (Str × Ow)} (ha : XP K ta ρ i q) (hb : XP K tb ρ j r) (ga : getS ρ i q = some (.ins C fs)) (gb : ∀ v, getS (putS ρ i q (.is v)) j r = some (.ins C gs))
    (h : ∀ v u, f [.ins C fs, .ins C gs] fun o os' => Fill [.bor i q v (.ins C fs), .bor j r u (.ins C gs)] os' (putS (putS ρ i q (.is v)) j r (.is u)) fun ρ2 => ∃ c, o = .d (.bool c) ∧ P (.d (.bool c)) ρ2) : XE K (tOp (rEqI C (spM K f) E) ta tb) ρ P := fun Z σ H F Q I k => ha Z σ H F _ I fun v av => hb Z σ H F _ I fun u au => by
  obtain ⟨G1, G2, r1, I1, j1, e1⟩ := I.hold ga (by intro z; cases z) av
  obtain ⟨G3, G4, r2, I2, j2, e2⟩ := I1.hold (gb v) (by intro z; cases z) au
  have va : ∃ a dx vs, v = .ref a ∧ H a = some (.ins C dx vs) := by
    cases r1 with
    | ins z1 z2 z3 _ _ => exact ⟨_, _, _, rfl, z1⟩
  have vb : ∃ a dx vs, u = .ref a ∧ H a = some (.ins C dx vs) := by
    cases r2 with
    | ins z1 z2 z3 _ _ => exact ⟨_, _, _, rfl, z1⟩
  obtain ⟨a, dx, fs', ea, ea2⟩ := va
  obtain ⟨b, dy, gs', eb, eb2⟩ := vb
  refine ⟨a, b, dx, dy, fs', gs', ea, eb, ea2, eb2, ?_⟩
  have d13 : Dj G1 G3 := fun b x y => j1 b x ((e2 b).mpr (.inl y))
  refine run_call (P := fun o ρ2 => ∃ c, o = .d (.bool c) ∧ P (.d (.bool c)) ρ2) (as := [.bor i q v (.ins C fs), .bor j r u (.ins C gs)]) (Fo := Or2 G1 (Or2 G3 emp)) (os := [.ins C fs, .ins C gs]) (k1 := (Keep.refl Z H F).dst' fun b hb => ?_) I2
    (.cons r1 (.cons r2 (.nil emp_false) emp_false.dj' fun b => Iff.rfl) (fun b x y => y.elim (d13 b x) fun z => z) fun b => Iff.rfl) ⟨rfl, rfl, trivial⟩ (fun b x y => ?_) ?_ ?_
  · rcases hb with hb | hb | hb | hb
    · exact (e1 b).mpr (.inr ((e2 b).mpr (.inr hb)))
    · exact (e1 b).mpr (.inl hb)
    · exact (e1 b).mpr (.inr ((e2 b).mpr (.inl hb)))
    · exact hb.elim
  · rcases x with x | x | x
    · exact j1 b x ((e2 b).mpr (.inr y))
    · exact j2 b x y
    · exact x
  · exact h v u
  · rintro Z' H' F' Fo w o ρ' k' I' r' j' ⟨c, eo, q'⟩
    subst eo
    exact ⟨c, da_bl r'.toD, k Z' H' F' emp _ (.d (.bool c)) ρ' (by rw [or2_emp]; exact k'.dst' fun _ => .inl) I' (.ofD (Da.bl _)) emp_false.dj q'⟩
/-- len(x), x lent -/
theorem xe_lenI {f : FS} {i : Nat} {q : List Stp} {fs : List (Str × Ow)} (ha : XP K ta ρ i q) (ga : getS ρ i q = some (.ins C fs))
    (h : ∀ v, f [.ins C fs] fun o os' => Fill [.bor i q v (.ins C fs)] os' (putS ρ i q (.is v)) fun ρ2 => ∃ n : Int, o = .d (.int n) ∧ (0 ≤ n ∧ n < 2 ^ 63) ∧ P (.d (.int n)) ρ2) : XE K (tCB (rLenI C (spM K f) E) (tCons ta tNil)) ρ P := fun Z σ H F Q I k => ha Z σ H F _ I fun v av => by
  obtain ⟨G1, G2, r1, I1, j1, e1⟩ := I.hold ga (by intro z; cases z) av
  have va : ∃ a dx vs, v = .ref a ∧ H a = some (.ins C dx vs) := by
    cases r1 with
    | ins z1 z2 z3 _ _ => exact ⟨_, _, _, rfl, z1⟩
  obtain ⟨a, dx, fs', ea, ea2⟩ := va
  subst ea
  refine ⟨a, dx, fs', rfl, ea2, ?_⟩
  refine run_call (P := fun o ρ2 => ∃ n : Int, o = .d (.int n) ∧ (0 ≤ n ∧ n < 2 ^ 63) ∧ P (.d (.int n)) ρ2) (as := [.bor i q (.ref a) (.ins C fs)]) (Fo := Or2 G1 emp) (os := [.ins C fs]) (k1 := (Keep.refl Z H F).dst' fun b hb => ?_) I1
    (.cons r1 (.nil emp_false) emp_false.dj' fun b => Iff.rfl) ⟨rfl, trivial⟩ (fun b x y => x.elim (fun x => j1 b x y) fun x => x) (h _) ?_
  · rcases hb with hb | hb | hb
    · exact (e1 b).mpr (.inr hb)
    · exact (e1 b).mpr (.inl hb)
    · exact hb.elim
  · rintro Z' H' F' Fo w o ρ' k' I' r' j' ⟨n, eo, hn, q'⟩
    subst eo
    exact ⟨n, da_int r'.toD, hn, k Z' H' F' emp _ (.d (.int n)) ρ' (by rw [or2_emp]; exact k'.dst' fun _ => .inl) I' (.ofD (Da.int _)) emp_false.dj q'⟩
end
end MV
set_option maxRecDepth 100000
set_option maxHeartbeats 4000000
set_option autoImplicit false
/-! MV8: data: shapes, texts in lists; written dicts; targets within tuples; lists that nobody keeps. -/
namespace MV
open PySem L2 PyProof.Rows PL
def AllD (F : PyData → Prop) (ds : List PyData) : Prop := ∀ d, d ∈ ds → F d
theorem AllD.nil {F : PyData → Prop} : AllD F [] := fun _ h => by cases h
theorem AllD.cons {F : PyData → Prop} {d : PyData} {ds : List PyData} (h : F d) (t : AllD F ds) : AllD F (d :: ds) := fun y hy => (List.mem_cons.mp hy).elim (fun e => e ▸ h) (t y)
/-- what may be compared: its texts are texts, it isn't deeper than n -/
def ShD (n : Nat) (d : PyData) : Prop := d.canLay0 = true ∧ d.depth ≤ n
theorem shD_all {n : Nat} : ∀ {ds : List PyData}, AllD (ShD n) ds → PyData.canLayAll0 ds = true ∧ PyData.depthAll ds ≤ n
  | [], _ => ⟨by simp [PyData.canLayAll0], by simp [PyData.depthAll]⟩
  | d :: ds, h => by
    obtain ⟨h1, h2⟩ := shD_all (ds := ds) fun y hy => h y (List.mem_cons_of_mem _ hy)
    obtain ⟨k1, k2⟩ := h d List.mem_cons_self
    refine ⟨by simp [PyData.canLayAll0, k1, h1], ?_⟩
    simp only [PyData.depthAll]
    omega
theorem ShD.up {n m : Nat} {d : PyData} (h : ShD n d) (l : n ≤ m) : ShD m d := ⟨h.1, Nat.le_trans h.2 l⟩
theorem ShD.shaped {n : Nat} {d : PyData} (h : ShD n d) (l : n ≤ 64) : SeqAt.shaped d = true := by
  unfold SeqAt.shaped
  rw [Bool.and_eq_true, decide_eq_true_eq]
  exact ⟨h.1, Nat.le_trans h.2 l⟩
theorem shD_list {n : Nat} {ds : List PyData} (h : AllD (ShD n) ds) : ShD (n + 1) (.list ds) := by
  obtain ⟨h1, h2⟩ := shD_all h
  exact ⟨by simpa [PyData.canLay0] using h1, by simp only [PyData.depth]; omega⟩
theorem shD_tup {n : Nat} {ds : List PyData} (h : AllD (ShD n) ds) : ShD (n + 1) (.tuple ds) := by
  obtain ⟨h1, h2⟩ := shD_all h
  exact ⟨by simpa [PyData.canLay0] using h1, by simp only [PyData.depth]; omega⟩
theorem shD_int (n : Nat) (i : Int) : ShD n (.int i) := ⟨by simp [PyData.canLay0], by simp [PyData.depth]⟩
theorem shD_bool (n : Nat) (i : Bool) : ShD n (.bool i) := ⟨by simp [PyData.canLay0], by simp [PyData.depth]⟩
theorem shD_none (n : Nat) : ShD n .none := ⟨by simp [PyData.canLay0], by simp [PyData.depth]⟩
theorem shD_str {n : Nat} {x : Str} (h : PyData.strOk x = true) : ShD n (.str x) := ⟨by simp [PyData.canLay0, h], by simp [PyData.depth]⟩
theorem ShD.refl {n : Nat} {d : PyData} (h : ShD n d) : PyData.eqv d d = true := PySem.SeqAt.eqv_refl d h.1
theorem flat_map_str : ∀ ns : List Str, (ns.map V.str).all flatV = true
  | [] => rfl
  | n :: ns => by
    rw [List.map_cons, List.all_cons, flat_map_str ns]
    rfl
theorem inV_strs (x : Str) : ∀ ns : List Str, inV (.str x) (ns.map V.str) = decide (x ∈ ns)
  | [] => by simp [inV]
  | n :: ns => by
    have ih := inV_strs x ns
    unfold inV at ih ⊢
    rw [List.map_cons, List.any_cons, ih]
    show (n == x || decide (x ∈ ns)) = decide (x ∈ n :: ns)
    by_cases h : x = n
    · subst h
      simp
    · have h' : ¬ n = x := fun z => h z.symm
      simp [h, h']
theorem eqv_nil (ds : List PyData) : PyData.eqv (.list ds) (.list []) = ds.isEmpty := by
  cases ds <;> simp [PyData.eqv, PyData.eqvAll]
theorem idx_first {x : Str} : ∀ {ns : List Str}, x ∈ ns → ∃ j : Nat, ns[j]? = some x ∧ ∀ (m : Nat) (z : Str), m < j → ns[m]? = some z → z ≠ x
  | n :: ns, h => by
    by_cases e : n = x
    · subst e
      exact ⟨0, rfl, fun m z hm => absurd hm (Nat.not_lt_zero _)⟩
    · obtain ⟨j, h1, h2⟩ := idx_first (ns := ns) ((List.mem_cons.mp h).resolve_left fun z => e z.symm)
      refine ⟨j + 1, h1, fun m z hm hz => ?_⟩
      cases m with
      | zero =>
        have e2 := Option.some.inj hz
        rw [← e2]
        exact e
      | succ m => exact h2 m z (by omega) hz
def lookLast {α : Type} : List (Str × α) → Str → Option α → Option α
  | [], _, acc => acc
  | (k, i) :: r, z, acc => lookLast r z (if z = k then some i else acc)
theorem look_merge {α : Type} (g : α → V) : ∀ (prs : List (Str × α)) (kvs : List (Key × V)) (z : Str) (acc : Option α), valV kvs (.inr z) = acc.map g → valV (mergeK kvs (prs.map fun q => ((.inr q.1 : Key), g q.2))) (.inr z) = (lookLast prs z acc).map g
  | [], kvs, z, acc, h => h
  | (k, i) :: r, kvs, z, acc, h => by
    show valV (mergeK (putK kvs (.inr k) (g i)) (r.map fun q => ((.inr q.1 : Key), g q.2))) (.inr z) = (lookLast r z (if z = k then some i else acc)).map g
    refine look_merge g r _ z _ ?_
    rw [valV_put]
    by_cases e : z = k
    · rw [if_pos e, if_pos (by rw [e])]
      rfl
    · rw [if_neg e, if_neg (fun q => e (Sum.inr.inj q))]
      exact h
theorem pairs_run {α : Type} (g : α → V) : ∀ (prs : List (Str × α)) (σ : L2.St) (H : Hp) (Q : List (V × V) → Hp → Prop), Q (prs.map fun q => (V.str q.1, g q.2)) H → tPairs (prs.map fun q => (tC (.str q.1), tC (g q.2))) σ H Q
  | [], _, _, _, h => h
  | (k, i) :: r, σ, H, Q, h => pairs_run g r σ H _ h
theorem upd_twice {H : Hp} {D : Addr} {o u : HO} : upd (upd H D o) D u = upd H D u := by
  funext a
  by_cases e : a = D
  · subst e
    rw [upd_same, upd_same]
  · rw [upd_ne e, upd_ne e, upd_ne e]
section
variable {K : PySem.W.Frag} {Z Z' Z1 Z2 H H' H1 H2 : Hp} {F F' F1 F2 G G' : FP} {ρ ρ' : List Ow} {σ σ' : L2.St}
variable {P : Ow → List Ow → Prop} {B : Bool → List Ow → Prop} {ta tb tc te to ti : TE} {tt tu : TT} {t u : TS} {p : PD} {L : List Nat} {wi : TI} {tg : TG}
/-- {"a": "b", ..}[x] -/
theorem xe_dispS {prs : List (Str × Str)} (hl : prs.length ≤ 15) (h : XE K te ρ fun s ρ1 => ∃ z y : Str, s = .d (.str z) ∧ lookLast prs z none = some y ∧ P (.d (.str y)) ρ1) : XE K (tDGet (tDisp (prs.map fun q => (tC (.str q.1), tC (.str q.2)))) te) ρ P := fun Z σ H F Q I k => by
  intro p np
  refine pairs_run V.str prs σ _ _ ⟨upd_same, prs.map fun q => ((.inr q.1 : Key), V.str q.2), by rw [List.map_map]; rfl, by rw [List.length_map]; exact hl, ?_⟩
  rw [upd_twice]
  refine h Z σ _ F _ (I.trash np) fun Z1 H1 F1 Fo v s ρ1 k1 I1 r1 j1 ⟨z, y, es, ey, q1⟩ => ?_
  subst es
  cases da_str r1.toD
  have nFp : ¬ F p := fun x => by
    obtain ⟨⟨u, hu⟩, _⟩ := I.sl.fp p x
    rw [np] at hu
    cases hu
  have hp := k1.fr p _ upd_same nFp
  refine ⟨p, .str y, rfl, ?_, ?_⟩
  · have := DGet.k (k := .inr z) hp
    rw [look_merge V.str prs [] z none rfl, ey] at this
    exact this
  · exact k Z1 H1 F1 emp _ (.d (.str y)) ρ1 (by rw [or2_emp]; exact ((Keep.trash (F := F) np).trans k1).dst' fun _ => .inl) I1 (.ofD (Da.str _)) emp_false.dj q1
/-- x in a list of texts -/
theorem r2_in_strs {x : Str} {o : Ow} {ns : List Str} {P : Ow → Prop} (ho : o.lsD = some (ns.map .str)) (q : P (.d (.bool (decide (x ∈ ns))))) : R2X K (rInn K) (.d (.str x)) o P := R2X.l (r2_val q fun Z H v u F1 F2 s r1 r2 => by
  cases da_str r1.toD
  obtain ⟨a, xs, rfl, h1, h2⟩ := r2.lsD s ho
  have e := h2.strs
  subst e
  refine ⟨_, Da.bl _, fun Q h => ⟨a, _, rfl, .inl (.inl h1), rfl, flat_map_str ns, ?_⟩⟩
  rw [if_neg Bool.false_ne_true, inV_strs]
  exact h)
theorem r2_nin_strs {x : Str} {o : Ow} {ns : List Str} {P : Ow → Prop} (ho : o.lsD = some (ns.map .str)) (q : P (.d (.bool (!decide (x ∈ ns))))) : R2X K (rNin K) (.d (.str x)) o P := R2X.l (r2_val q fun Z H v u F1 F2 s r1 r2 => by
  cases da_str r1.toD
  obtain ⟨a, xs, rfl, h1, h2⟩ := r2.lsD s ho
  have e := h2.strs
  subst e
  refine ⟨_, Da.bl _, fun Q h => ⟨a, _, rfl, .inl (.inl h1), rfl, flat_map_str ns, ?_⟩⟩
  rw [if_pos rfl, inV_strs]
  exact h)
/-- xs.index(x) -/
theorem xe_index (h : XE K to ρ fun so ρ1 => ∃ ns : List Str, so.lsD = some (ns.map .str) ∧ XE K te ρ1 fun s ρ2 => ∃ x, s = .d (.str x) ∧ x ∈ ns ∧ ∀ j : Nat, ns[j]? = some x → (∀ (m : Nat) (z : Str), m < j → ns[m]? = some z → z ≠ x) → P (.d (.int j)) ρ2) : XE K (tBM K "list" (rIndex K) to (tCons te tNil)) ρ P := fun Z σ H F Q I k => by
  refine h Z σ H F _ I fun Z1 H1 F1 Fo v so ρ1 k1 I1 r1 j1 ⟨ns, es, q1⟩ => ?_
  have r1' := r1
  obtain ⟨a, xs, rfl, h1, h2⟩ := r1.lsD I1.sub es
  refine ⟨.inl ⟨rfl, xs, .inl h1⟩, ?_⟩
  refine q1 Z1 σ H1 F1 _ I1 fun Z2 H2 F2 Fo2 w s ρ2 k2 I2 r2 j2 ⟨x, es2, hx, q⟩ => ?_
  subst es2
  cases da_str r2.toD
  obtain ⟨r3, _⟩ := r1'.tr k2 j1
  obtain ⟨b, ys, eb, g1, g2⟩ := r3.lsD I2.sub es
  cases eb
  have e := g2.strs
  subst e
  obtain ⟨j, x1, x2⟩ := idx_first hx
  refine ⟨a, _, .str x, j, .str x, rfl, rfl, .inl g1, rfl, flat_map_str ns, by rw [List.getElem?_map, x1]; rfl, by show (x == x) = true; simp, fun m z hm hz => ?_, ?_⟩
  · rw [List.getElem?_map] at hz
    cases e3 : ns[m]? with
    | none =>
      rw [e3] at hz
      cases hz
    | some y =>
      rw [e3] at hz
      have e4 : V.str y = z := Option.some.inj hz
      subst e4
      have := x2 m y hm e3
      show (y == x) = false
      simpa using this
  · exact k Z2 H2 F2 emp _ (.d (.int j)) ρ2 (by rw [or2_emp]; exact (k1.dst' fun _ => .inl).trans (k2.dst' fun _ => .inl)) I2 (.ofD (Da.int _)) emp_false.dj (q j x1 x2)
/-- o[n] = .. as a target -/
theorem xg_setL {i : Nat} {q : List Stp} {o : Ow} {M : List Ow → Prop} (hp : XP K to ρ i q) {n : Int} {e : PyData} {ds : List PyData} {j : Nat} (hi : XV K ti ρ (.int n)) (g : getS ρ i q = some (.ls ds)) (eo : o = .d e) (hj : ixN ds.length n = some j) (h : M (putS ρ i q (.ls (ds.set j e)))) : XG K L (gSub to ti rSetL) [] o ρ M := fun Z σ H F Fo v Q I r1 j1 k => by
  subst eo
  refine hp Z σ H F _ I fun va at_ => hi Z σ H F _ I fun vi ri => ?_
  cases da_int ri
  obtain ⟨G1, ra, sub⟩ := I.at g (by intro z; cases z) at_
  cases ra with
  | @ls a vs _ _ z1 z2 z3 z4 =>
    refine ⟨a, vs, n, j, rfl, rfl, z1, by rw [z3.length]; exact hj, ?_⟩
    obtain ⟨F', I2, k2⟩ := I.chg (o' := .ls (ds.set j e)) (x := .lst (vs.set j v)) g (by intro z; cases z) at_ rfl fun A1 rr => by
      cases rr with
      | ls y1 y2 y3 y4 =>
        rw [z1] at y1
        cases y1
        exact ⟨(y4 a).mpr rfl, A1, .ls upd_same y2 (MV.DaAll.set r1.toD j y3) y4, fun _ z => z⟩
    exact k Z _ F' _ σ (k2.src fun _ => .inl) I2 (Lck.refl L σ) (fun _ _ => rfl) h
/-- append to a list that nobody keeps -/
theorem xs_appendT (h : XE K to ρ fun so ρ1 => ∃ ds, so = .ls ds ∧ ds.length < sizeLine ∧ XE K te ρ1 fun s ρ2 => p.nx ρ2) : XS K L (tDrop (tBM K "list" rAppend to (tCons te tNil))) p ρ := fun Z σ H F D I d => by
  refine h Z σ H F _ I fun Z1 H1 F1 Fo v so ρ1 k1 I1 r1 j1 ⟨ds, es, hl, q1⟩ => ?_
  subst es
  have r1' := r1
  cases r1 with
  | @ls a vs _ _ z1 z2 z3 z4 =>
    refine ⟨.inl ⟨rfl, vs, SqL.of z1⟩, ?_⟩
    refine q1 Z1 σ H1 F1 _ I1 fun Z2 H2 F2 Fo2 w s ρ2 k2 I2 r2 j2 q => ?_
    obtain ⟨r3, d3⟩ := r1'.tr k2 j1
    cases r3 with
    | @ls _ vs' _ _ y1 y2 y3 y4 =>
      refine ⟨a, vs', w, rfl, rfl, y1, by rw [y3.length]; exact hl, ?_⟩
      refine d.nx Z2 _ F2 ρ2 σ ?_ (Lck.refl L σ) ⟨sub_chg y2 I2.sub, I2.sl.mv (Sub.refl Z2) fun b hb => ⟨(I2.sl.fp b hb).2, by
        rw [upd_ne fun e => d3 b (by rw [e]; exact (y4 a).mpr rfl) (.inl hb)]⟩⟩ q
      have kk : Keep Z H F Z2 H2 (Or2 F2 Fo) := k1.trans ((k2.dst' (G := F2) fun _ => .inl).more (G := Fo))
      exact (kk.trans (Keep.chg (.inr ((y4 a).mpr rfl)))).dst' fun _ => .inl
/-- x == y, x != y of truths -/
theorem r2_eq_bool {i j : Bool} {P : Ow → Prop} (q : P (.d (.bool (i == j)))) : R2X K (rEqu K) (.d (.bool i)) (.d (.bool j)) P := R2X.l (r2_val q fun Z H v u F1 F2 s r1 r2 => by
  cases da_bl r1.toD
  cases da_bl r2.toD
  refine ⟨_, Da.bl _, fun Q h => ⟨rfl, ?_⟩⟩
  have e : decide (V.bl i = V.bl j) = (i == j) := by cases i <;> cases j <;> rfl
  rw [e]
  exact h)
theorem r2_ne_bool {i j : Bool} {P : Ow → Prop} (q : P (.d (.bool (i != j)))) : R2X K (rNeq K) (.d (.bool i)) (.d (.bool j)) P := R2X.l (r2_val q fun Z H v u F1 F2 s r1 r2 => by
  cases da_bl r1.toD
  cases da_bl r2.toD
  refine ⟨_, Da.bl _, fun Q h => ⟨rfl, ?_⟩⟩
  have e : (!decide (V.bl i = V.bl j)) = (i != j) := by cases i <;> cases j <;> rfl
  rw [e]
  exact h)
end
end MV
set_option maxRecDepth 100000
set_option maxHeartbeats 4000000
set_option autoImplicit false
/-! MV9: methods. -/
namespace MV
open PySem L2 PyProof.Rows PL
def CalM (P : Program) (w : World) (K : PySem.W.Frag) (mg : Str → Option Value) (base : Heap) (C : Addr) (k : Nat) (m : Str) (ps : List Str) (f : FS) : Prop :=
  ∃ (a : Addr) (fd : FuncData), FnOk P w K mg base CX0 k a fd ps (spM K f) ∧ Meth K C m a ∧ Binds K fd ps []
def CalI (P : Program) (w : World) (K : PySem.W.Frag) (mg : Str → Option Value) (base : Heap) (C : Addr) (k : Nat) (ps : List Str) (f : FS) : Prop :=
  ∃ (a : Addr) (fd : FuncData), FnOk P w K mg base CX0 k a fd ps (spM K f) ∧ Mk K C a ∧ Binds K fd ps []
def StdM (K : PySem.W.Frag) (C : Addr) (m qual : Str) (st : Stmt) (ps : List Str) : Prop :=
  ∃ (a : Addr) (fd : FuncData), Fun K m qual st a fd ∧ Meth K C m a ∧ Binds K fd ps []
def StdI (K : PySem.W.Frag) (C : Addr) (qual : Str) (st : Stmt) (ps : List Str) : Prop :=
  ∃ (a : Addr) (fd : FuncData), Fun K "__init__" qual st a fd ∧ Mk K C a ∧ Binds K fd ps []
structure IsiC (K : PySem.W.Frag) (C : Addr) : Prop where
  cl : Cls K C
  ha : PySem.W.findIn K (.ref C) "__class__" = some (some (.builtin "object.__class__"))
  hn : PySem.W.specialIn K (.builtin "object.__class__") "__get__" = some (some (.builtin "getset_descriptor.__get__"))
  ht : PySem.W.takesIn K (.builtin "object.__class__") = some true
  hm : PySem.W.mroIn K C (.type "object") = some true
  e : PySem.W.kitOne K (.ref C) (.ref C) = some true
theorem FnOk.name {P : Program} {w : World} {K : PySem.W.Frag} {mg : Str → Option Value} {base : Heap} {CX : CXT} {k : Nat} {f : Addr} {fd : FuncData} {ps : List Str} {sp : Sp} (F : FnOk P w K mg base CX k f fd ps sp) : FnOk P w K mg base CX k f fd ps sp := F
section
variable {P : Program} {w : World} {K : PySem.W.Frag} {mg : Str → Option Value} {base : Heap} {C : Addr}
theorem fnM_of {x qual : Str} {st : Stmt} {N ps : List Str} {k : Nat} {f : FS} {a : Addr} {fd : FuncData} (m : List Bool) (Fn : Fun K x qual st a fd) (sc : FnScope N ps (defScope st)) (hN : ps.length ≤ N.length) (hl : ∀ os P, f os P → os.length = ps.length)
    (body : ∀ (a : Addr) (cdv : Value) (A : Around) (outer : List Env) (s : Shared) (H : Hp) (vs : List V) (Q : VK) (E : XK), Room k (A.deeper (envOfC qual (defScope st) s.heap.objs.size a cdv)) →
      ∃ t, PSs (cxOf CX0 P w K mg base N qual (defScope st) a cdv A outer s H E).nox (defBody st) t ∧ ∀ os P, f os P → BackOk m os ∧ XS K (lk m) t { nx := fun ρ => os.length ≤ ρ.length ∧ P (.d .none) (back m os ρ), rt := fun o ρ => os.length ≤ ρ.length ∧ P o (back m os ρ) } (os ++ List.replicate (N.length - os.length) .any)) : FnOk P w K mg base CX0 (k + 1) a fd ps (spM K f) := fn_of m Fn sc hN hl body
theorem calM_of {x qual : Str} {st : Stmt} {N ps : List Str} {k : Nat} {f : FS} (m : List Bool) (S : StdM K C x qual st ps) (sc : FnScope N ps (defScope st)) (hN : ps.length ≤ N.length) (hl : ∀ os P, f os P → os.length = ps.length)
    (body : ∀ (a : Addr) (cdv : Value) (A : Around) (outer : List Env) (s : Shared) (H : Hp) (vs : List V) (Q : VK) (E : XK), Room k (A.deeper (envOfC qual (defScope st) s.heap.objs.size a cdv)) →
      ∃ t, PSs (cxOf CX0 P w K mg base N qual (defScope st) a cdv A outer s H E).nox (defBody st) t ∧ ∀ os P, f os P → BackOk m os ∧ XS K (lk m) t { nx := fun ρ => os.length ≤ ρ.length ∧ P (.d .none) (back m os ρ), rt := fun o ρ => os.length ≤ ρ.length ∧ P o (back m os ρ) } (os ++ List.replicate (N.length - os.length) .any)) : CalM P w K mg base C (k + 1) x ps f := by
  obtain ⟨a, fd, F, hm, hb⟩ := S
  exact ⟨a, fd, fn_of m F sc hN hl body, hm, hb⟩
theorem calI_of {qual : Str} {st : Stmt} {N ps : List Str} {k : Nat} {f : FS} (m : List Bool) (S : StdI K C qual st ps) (sc : FnScope N ps (defScope st)) (hN : ps.length ≤ N.length) (hl : ∀ os P, f os P → os.length = ps.length)
    (body : ∀ (a : Addr) (cdv : Value) (A : Around) (outer : List Env) (s : Shared) (H : Hp) (vs : List V) (Q : VK) (E : XK), Room k (A.deeper (envOfC qual (defScope st) s.heap.objs.size a cdv)) →
      ∃ t, PSs (cxOf CX0 P w K mg base N qual (defScope st) a cdv A outer s H E).nox (defBody st) t ∧ ∀ os P, f os P → BackOk m os ∧ XS K (lk m) t { nx := fun ρ => os.length ≤ ρ.length ∧ P (.d .none) (back m os ρ), rt := fun o ρ => os.length ≤ ρ.length ∧ P o (back m os ρ) } (os ++ List.replicate (N.length - os.length) .any)) : CalI P w K mg base C (k + 1) ps f := by
  obtain ⟨a, fd, F, hm, hb⟩ := S
  exact ⟨a, fd, fn_of m F sc hN hl body, hm, hb⟩
end
end MV
set_option maxRecDepth 100000
set_option maxHeartbeats 4000000
set_option autoImplicit false
/-! MV10: the rules as the walk takes them: names. -/
namespace MV
open PySem L2 PyProof.Rows PL
def Ow.own : Ow → Bool
  | .pen _ => true
  | .ls _ => true
  | .lst _ => true
  | .dc _ => true
  | .ins _ _ => true
  | _ => false
theorem own_any {o : Ow} (h : o.own = true) : o ≠ .any := by
  rintro rfl
  cases h
theorem getF_hit {f : Str} {x : Ow} {r : List (Str × Ow)} : getF f ((f, x) :: r) = some x := if_pos rfl
theorem getF_miss {f g : Str} {x : Ow} {r : List (Str × Ow)} {o : Option Ow} (n : ¬ g = f) (h : getF f r = o) : getF f ((g, x) :: r) = o := (if_neg n).trans h
theorem setF_hit {f : Str} {x y : Ow} {r : List (Str × Ow)} : setF f y ((f, x) :: r) = (f, y) :: r := if_pos rfl
theorem setF_miss {f g : Str} {x y : Ow} {r r' : List (Str × Ow)} (n : ¬ g = f) (h : setF f y r = r') : setF f y ((g, x) :: r) = (g, x) :: r' := (if_neg n).trans (by rw [h])
section
variable {K : PySem.W.Frag} {Z Z' Z1 Z2 H H' H1 H2 : Hp} {F F' F1 F2 G G' : FP} {ρ ρ' : List Ow} {σ σ' : L2.St}
variable {P : Ow → List Ow → Prop} {B : Bool → List Ow → Prop} {ta tb tc te to ti : TE} {tt tu : TT} {t u : TS} {p : PD} {L : List Nat} {wi : TI} {tg : TG}
theorem xe_vs {i : Nat} {x : List Int} (h : ρ[i]? = some (.scr x)) (q : P (.scr x) ρ) : XE K (tVar i) ρ P := xe_var h trivial q
/-! ### what is lent -/
theorem xa_own {ts : TA} {A : List Arg → List Ow → Prop} {i : Nat} {o : Ow} (h : ρ[i]? = some o) (n : o.own = true) (x : ∀ v, XA K ts (ρ.set i (.is v)) fun as ρ2 => A (.bor i [] v o :: as) ρ2) : XA K (tCons (tVar i) ts) ρ A :=
  xa_bor (xp_var h (own_any n)) (getS_var h) (own_any n) fun v => by
    rw [putS_var h]
    exact x v
theorem xa_vs {ts : TA} {A : List Arg → List Ow → Prop} {i : Nat} {ns : List Int} (h : ρ[i]? = some (.scr ns)) (x : XA K ts ρ fun as ρ2 => A (.val (.scr ns) :: as) ρ2) : XA K (tCons (tVar i) ts) ρ A := xa_consO (xe_var h trivial x)
theorem fill_nil {k : List Ow → Prop} (h : k ρ) : Fill [] [] ρ k := h
theorem fill_val {k : List Ow → Prop} {o o' : Ow} {as : List Arg} {os : List Ow} (h : Fill as os ρ k) : Fill (.val o :: as) (o' :: os) ρ k := h
theorem fill_bor {k : List Ow → Prop} {i : Nat} {v : V} {o o' : Ow} {as : List Arg} {os : List Ow} (g : ρ[i]? = some (.is v)) (h : Fill as os (ρ.set i o') k) : Fill (.bor i [] v o :: as) (o' :: os) ρ k := ⟨getS_var g, by
  rw [putS_var g]
  exact h⟩
theorem fill_borP {k : List Ow → Prop} {i : Nat} {q : List Stp} {v : V} {o o' : Ow} {as : List Arg} {os : List Ow} (g : getS ρ i q = some (.is v)) (h : Fill as os (putS ρ i q o') k) : Fill (.bor i q v o :: as) (o' :: os) ρ k := ⟨g, h⟩
/-- o.m(..), o a name: lent when the arguments are there -/
theorem xe_methV {f : FS} {X : XK} {C : Addr} {m : Str} {ts : TA} {i : Nat} {fs : List (Str × Ow)} (g : ρ[i]? = some (.ins C fs)) (nf : getF m fs = none)
    (x : XA K ts ρ fun as ρ1 => ∃ fs1, ρ1[i]? = some (.ins C fs1) ∧ ∀ v : V, f (.ins C fs1 :: as.map Arg.ow) fun r os' => Fill (.bor i [] v (.ins C fs1) :: as) os' (ρ1.set i (.is v)) (P r)) : XE K (tMeth C m (spM K f) [] X (tVar i) ts) ρ P := fun Z σ H F Q I k => by
  obtain ⟨v, G0, e, r, _⟩ := slA I g (by intro z; cases z)
  cases r with
  | @ins a _ dx vs0 _ _ E0 z1 z2 z3 z4 z5 =>
    refine ⟨_, e, a, dx, vs0, rfl, z1, z3.noF nf, ?_⟩
    refine x Z σ H F _ I fun Z1 H1 F1 Fo vs as ρ1 k1 I1 r1 b1 d1 ⟨fs1, g1, q⟩ => ?_
    obtain ⟨G1, G2, rr, I2, j2, e2⟩ := I1.hold (getS_var g1) (by intro z; cases z) (atS_var.mpr e)
    rw [putS_var g1] at I2
    rw [List.append_nil]
    refine run_call (as := .bor i [] (.ref a) (.ins C fs1) :: as) (Fo := Or2 G1 Fo) (os := .ins C fs1 :: as.map Arg.ow) (k1.dst' fun b hb => ?_) I2 (.cons rr r1 (fun b x y => d1 b y ((e2 b).mpr (.inl x))) fun _ => Iff.rfl) ⟨rfl, b1⟩ (fun b x y => ?_) (q _) k
    · rcases hb with hb | hb | hb
      · exact .inl ((e2 b).mpr (.inr hb))
      · exact .inl ((e2 b).mpr (.inl hb))
      · exact .inr hb
    · rcases x with x | x
      · exact j2 b x y
      · exact d1 b x ((e2 b).mpr (.inr y))
/-- o.f, o a name -/
theorem xe_fldV {i : Nat} {C : Addr} {fs : List (Str × Ow)} {f : Str} {o : Ow} (g : ρ[i]? = some (.ins C fs)) (c : Cls K C) (na : NoAttr K C f) (e : getF f fs = some o) (cp : o.cp) (q : P o ρ) : XE K (tFld K (tVar i) f) ρ P :=
  xe_path (xp_fld (xp_var g (by intro z; cases z)) (getS_var g) c na e) (by
    rw [getS_app (getS_var g)]
    unfold Ow.get
    rw [e]
    unfold Ow.get
    rfl) cp q
theorem getS_fld {i : Nat} {C : Addr} {fs : List (Str × Ow)} {f : Str} {o : Ow} (g : ρ[i]? = some (.ins C fs)) (e : getF f fs = some o) : getS ρ i ([] ++ [.fld f]) = some o := by
  rw [getS_app (getS_var g)]
  unfold Ow.get
  rw [e]
  unfold Ow.get
  rfl
theorem putS_fld {i : Nat} {C : Addr} {fs fs' : List (Str × Ow)} {f : Str} {o y : Ow} (g : ρ[i]? = some (.ins C fs)) (e : getF f fs = some o) (s : setF f y fs = fs') : putS ρ i ([] ++ [.fld f]) y = ρ.set i (.ins C fs') := by
  unfold putS
  rw [g]
  show ρ.set i (Ow.put (.ins C fs) [.fld f] y) = _
  unfold Ow.put
  rw [e]
  show ρ.set i (.ins C (setF f (o.put [] y) fs)) = _
  have : o.put [] y = y := by unfold Ow.put; rfl
  rw [this, s]
theorem xp_fldV {i : Nat} {C : Addr} {fs : List (Str × Ow)} {f : Str} {o : Ow} (g : ρ[i]? = some (.ins C fs)) (c : Cls K C) (na : NoAttr K C f) (e : getF f fs = some o) : XP K (tFld K (tVar i) f) ρ i ([] ++ [.fld f]) := xp_fld (xp_var g (by intro z; cases z)) (getS_var g) c na e
theorem xw_fldV {i : Nat} {C : Addr} {fs : List (Str × Ow)} {f : Str} {o : Ow} (g : ρ[i]? = some (.ins C fs)) (c : Cls K C) (na : NoAttr K C f) (e : getF f fs = some o) (n : o ≠ .any) : XW K (tFld K (tVar i) f) ρ o := xw_path (xp_fldV g c na e) (getS_fld g e) n
/-- o.f = e, o a name -/
theorem xs_fldO {f : Str} {i : Nat} {C : Addr} (c : Cls K C) (na : NoAttr K C f) (h : XE K te ρ fun o ρ1 => ∃ fs fs', ρ1[i]? = some (.ins C fs) ∧ setF f o fs = fs' ∧ fs.length < 1000 ∧ p.nx (ρ1.set i (.ins C fs'))) : XS K L (sFld K (tVar i) te f) p ρ :=
  xs_fld (h.imp fun o ρ1 ⟨fs, fs', g, e, l, q⟩ => ⟨xp_var g (by intro z; cases z), C, fs, getS_var g, c, na, l, by
    rw [putS_var g, e]
    exact q⟩)
theorem xs_fldD {f : Str} {i : Nat} {C : Addr} (c : Cls K C) (na : NoAttr K C f) (h : XE K te ρ fun o ρ1 => ∃ d, o.dat = some d ∧ ∃ fs fs', ρ1[i]? = some (.ins C fs) ∧ setF f (.d d) fs = fs' ∧ fs.length < 1000 ∧ p.nx (ρ1.set i (.ins C fs'))) : XS K L (sFld K (tVar i) te f) p ρ := xs_fldO c na (xe_fz h)
/-- o.f.append(e), o a name -/
theorem xs_appendF {f : Str} {i : Nat} {C : Addr} {fs : List (Str × Ow)} {ds : List PyData} (g : ρ[i]? = some (.ins C fs)) (c : Cls K C) (na : NoAttr K C f) (e : getF f fs = some (.ls ds)) (hl : ds.length < sizeLine)
    (h : ∀ v fs1, setF f (.is v) fs = fs1 → XE K te (ρ.set i (.ins C fs1)) fun o ρ1 => ∃ d, o.dat = some d ∧ ∃ fs2 fs3, ρ1[i]? = some (.ins C fs2) ∧ getF f fs2 = some (.is v) ∧ setF f (.ls (ds ++ [d])) fs2 = fs3 ∧ p.nx (ρ1.set i (.ins C fs3))) : XS K L (tDrop (tBM K "list" rAppend (tFld K (tVar i) f) (tCons te tNil))) p ρ :=
  xs_appendP (xp_fldV g c na e) (getS_fld g e) hl fun v => by
    rw [putS_fld g e rfl]
    exact (h v _ rfl).imp fun o ρ1 ⟨d, e1, fs2, fs3, g2, e2, e3, q⟩ => ⟨d, e1, getS_fld g2 e2, by
      rw [putS_fld g2 e2 e3]
      exact q⟩
/-- o.f.pop(), o a name -/
theorem xe_popF {f : Str} {i : Nat} {C : Addr} {fs fs' : List (Str × Ow)} {ds : List PyData} {d : PyData} (g : ρ[i]? = some (.ins C fs)) (c : Cls K C) (na : NoAttr K C f) (e : getF f fs = some (.ls (ds ++ [d]))) (s : setF f (.ls ds) fs = fs') (h : P (.d d) (ρ.set i (.ins C fs'))) : XE K (tBM0 K "list" rPop (tFld K (tVar i) f)) ρ P :=
  xe_popP (xp_fldV g c na e) (getS_fld g e) (by
    rw [putS_fld g e s]
    exact h)
/-- x == y, len(x), of an own class's instances that names hold -/
theorem xe_eqV {f : FS} {C : Addr} {E : XK} {i j : Nat} {fs gs : List (Str × Ow)} (ga : ρ[i]? = some (.ins C fs)) (gb : ∀ v, (ρ.set i (.is v))[j]? = some (.ins C gs))
    (h : ∀ v u : V, f [.ins C fs, .ins C gs] fun o os' => Fill [.bor i [] v (.ins C fs), .bor j [] u (.ins C gs)] os' ((ρ.set i (.is v)).set j (.is u)) fun ρ2 => ∃ c, o = .d (.bool c) ∧ P (.d (.bool c)) ρ2) : XE K (tOp (rEqI C (spM K f) E) (tVar i) (tVar j)) ρ P := by
  have hj : ∃ o, ρ[j]? = some o ∧ o ≠ .any := by
    have h0 := gb .non
    rw [List.getElem?_set] at h0
    by_cases e : i = j
    · rw [if_pos e] at h0
      split at h0 <;> cases h0
    · rw [if_neg e] at h0
      exact ⟨_, h0, by intro z; cases z⟩
  obtain ⟨oj, hj1, hj2⟩ := hj
  exact xe_eqI (xp_var ga (by intro z; cases z)) (xp_var hj1 hj2) (getS_var ga) (fun v => by rw [putS_var ga]; exact getS_var (gb v)) fun v u => by
    rw [putS_var ga, putS_var (gb v)]
    exact h v u
theorem xe_lenV {f : FS} {C : Addr} {E : XK} {i : Nat} {fs : List (Str × Ow)} (ga : ρ[i]? = some (.ins C fs))
    (h : ∀ v : V, f [.ins C fs] fun o os' => Fill [.bor i [] v (.ins C fs)] os' (ρ.set i (.is v)) fun ρ2 => ∃ n : Int, o = .d (.int n) ∧ (0 ≤ n ∧ n < 2 ^ 63) ∧ P (.d (.int n)) ρ2) : XE K (tCB (rLenI C (spM K f) E) (tCons (tVar i) tNil)) ρ P :=
  xe_lenI (xp_var ga (by intro z; cases z)) (getS_var ga) fun v => by
    rw [putS_var ga]
    exact h v
/-- xs[i], xs a list of a name's own -/
theorem xe_ixV {i j : Nat} {ds : List PyData} {n : Int} {d : PyData} (h1 : ρ[i]? = some (.ls ds)) (h2 : ρ[j]? = some (.d (.int n))) (a : atI ds n = some d) (q : P (.d d) ρ) : XE K (tOp (rIx K) (tVar i) (tVar j)) ρ P :=
  xe_opWV (xw_var h1 (by intro z; cases z)) ⟨_, xv_var h2, r2_ix_list rfl a q⟩
theorem xe_ixC {i : Nat} {ds : List PyData} {n : Int} {d : PyData} (h1 : ρ[i]? = some (.ls ds)) (a : atI ds n = some d) (q : P (.d d) ρ) : XE K (tOp (rIx K) (tVar i) (tC (.int n))) ρ P :=
  xe_opWV (xw_var h1 (by intro z; cases z)) ⟨_, xv_int, r2_ix_list rfl a q⟩
theorem xv_sub {a b : Int} (ha : XV K ta ρ (.int a)) (hb : XV K tb ρ (.int b)) : XV K (tOp (rI0 fun i j => .int (i - j)) ta tb) ρ (.int (a - b)) := xv_op ha hb fun Z H v u Q s r1 r2 k => by
  cases da_int r1
  cases da_int r2
  exact ⟨a, b, rfl, rfl, k _ (.int _)⟩
/-- o[n] = e, e as data -/
theorem xs_setLd {i : Nat} {q : List Stp} (h : XE K te ρ fun o ρ1 => ∃ e, o.dat = some e ∧ XP K to ρ1 i q ∧ ∃ n ds j, XV K ti ρ1 (.int n) ∧ getS ρ1 i q = some (.ls ds) ∧ ixN ds.length n = some j ∧ p.nx (putS ρ1 i q (.ls (ds.set j e)))) : XS K L (tAsg te (gSub to ti rSetL)) p ρ :=
  xs_setL (xe_fz (h.imp fun o ρ1 ⟨e, h1, h2, n, ds, j, h3, h4, h5, h6⟩ => ⟨e, h1, h2, n, e, ds, j, h3, h4, rfl, h5, h6⟩))
theorem r2_ix_mem {x : Ow} {ds : List PyData} {i : Int} {P : Ow → Prop} (hx : x.lsD = some ds) (h0 : 0 ≤ i) (h1 : i < ds.length) (q : ∀ d, d ∈ ds → P (.d d)) : R2X K (rIx K) x (.d (.int i)) P := by
  obtain ⟨n, rfl⟩ := Int.eq_ofNat_of_zero_le h0
  have h2 : n < ds.length := by omega
  exact r2_ix_list hx (atI_nat (List.getElem?_eq_getElem h2)) (q _ (List.getElem_mem h2))
theorem r2_ix_b {a b : PyData} {c : Bool} {x : Ow} {P : Ow → Prop} (hx : x.lsD = some [a, b]) (q0 : c = false → P (.d a)) (q1 : c = true → P (.d b)) : R2X K (rIx K) x (.d (.int (if c = true then 1 else 0))) P := by
  cases c with
  | true => exact r2_ix_list (d := b) hx rfl (q1 rfl)
  | false => exact r2_ix_list (d := a) hx rfl (q0 rfl)
theorem ix_scrI {ns : List Int} {i : Int} {P : Ow → Prop} (h0 : 0 ≤ i) (h1 : i < ns.length) (q : ∀ n, P (.d (.int n))) : R2X K (rIx K) (.scr ns) (.d (.int i)) P := by
  obtain ⟨n, rfl⟩ := Int.eq_ofNat_of_zero_le h0
  have h2 : n < ns.length := by omega
  exact r2_ix_scr (atI_nat (List.getElem?_eq_getElem h2)) (q _)
/-- a left hand that is looked at, a right hand that may do what it likes but to it: new objects alone -/
def XN (K : PySem.W.Frag) (te : TE) (ρ : List Ow) (M : Ow → Prop) : Prop :=
  ∀ (Z : Hp) (σ : L2.St) (H : Hp) (F : FP) (Q : VK), StOk K Z H ρ σ F → (∀ Z' H' Fo v o, Keep Z H emp Z' H' Fo → Sub Z' H' → OwOk K Z' H' o v Fo → M o → Q v H') → te σ H Q
theorem xn_val {d : PyData} {M : Ow → Prop} (h : XV K te ρ d) (q : M (.d d)) : XN K te ρ M := fun Z σ H F Q I k => h Z σ H F Q I fun v r => k Z H emp v _ (Keep.refl Z H emp) I.sub (.ofD r) q
theorem xn_w {r : List V → Hp → VK → Prop} {x : Ow} {M : Ow → Prop} (h : XW K te ρ x) (q : RCX K r [x] M) : XN K (tCB r (tCons te tNil)) ρ M := fun Z σ H F Q I k => h Z σ H F _ I fun v F1 r1 =>
  q Z H [v] F1 Q I.sub (.cons r1 (.nil emp_false) emp_false.dj' fun b => ⟨.inl, fun z => z.elim id fun z => z.elim⟩) fun Z3 H3 Fo w o k3 s3 r3 x3 => k Z3 H3 Fo w o k3 s3 r3 x3
theorem xn_op {r : R2} {M : Ow → Prop} (ha : XN K ta ρ fun x => XN K tb ρ fun y => R2X K r x y M) : XN K (tOp r ta tb) ρ M := fun Z σ H F Q I k => ha Z σ H F _ I fun Z1 H1 Fx v x k1 s1 r1 q1 => by
  obtain ⟨I1, d1⟩ := I.tr k1 s1 emp_false.dj'
  refine q1 Z1 σ H1 F _ I1 fun Z2 H2 Fy u y k2 s2 r2 q2 => ?_
  obtain ⟨r1', _⟩ := r1.tr k2 emp_false.dj'
  refine q2 Z2 H2 v u Fx Fy Q s2 r1' r2 fun Z3 H3 Fo w o k3 s3 r3 x3 => ?_
  have k12 : Keep Z H emp Z2 H2 emp := (k1.dst' (G := emp) fun _ z => z.elim).trans (k2.dst' (G := emp) fun _ z => z.elim)
  exact k Z3 H3 Fo w o (k12.trans k3) s3 r3 x3
theorem xn_opW {r : R2} {x : Ow} {M : Ow → Prop} (ha : XW K ta ρ x) (hb : XN K tb ρ fun y => R2X K r x y M) : XN K (tOp r ta tb) ρ M := fun Z σ H F Q I k => ha Z σ H F _ I fun v F1 r1 => by
  have r1' := r1
  refine hb Z σ H F _ I fun Z2 H2 Fy u y k2 s2 r2 q2 => ?_
  obtain ⟨r1', _⟩ := r1.tr k2 emp_false.dj'
  refine q2 Z2 H2 v u F1 Fy Q s2 r1' r2 fun Z3 H3 Fo w o k3 s3 r3 x3 => ?_
  have k12 : Keep Z H emp Z2 H2 emp := k2.dst' (G := emp) fun _ z => z.elim
  exact k Z3 H3 Fo w o (k12.trans k3) s3 r3 x3
theorem xn_lst0 {M : Ow → Prop} (q : M (.ls [])) : XN K (tLst tNil) ρ M := fun Z σ H F Q I k => ⟨Nat.zero_le _, fun p np => by
  have h := new_ls (K := K) np I.sub (ws := []) (ds := []) .nil
  exact k Z _ _ _ _ h.1 (sub_upd np I.sub) h.2 q⟩
theorem xn_vd {i : Nat} {x : PyData} {M : Ow → Prop} (h : ρ[i]? = some (.d x)) (q : M (.d x)) : XN K (tVar i) ρ M := xn_val (xv_var h) q
theorem xn_int {i : Int} {M : Ow → Prop} (q : M (.d (.int i))) : XN K (tC (.int i)) ρ M := xn_val xv_int q
theorem xn_str {i : Str} {M : Ow → Prop} (q : M (.d (.str i))) : XN K (tC (.str i)) ρ M := xn_val xv_str q
theorem xe_n (h : XN K te ρ fun o => P o ρ) : XE K te ρ P := fun Z σ H F Q I k => h Z σ H F Q I fun Z4 H4 Fo w o k4 s4 r4 x4 => by
  obtain ⟨I4, d4⟩ := I.tr k4 s4 emp_false.dj'
  exact k Z4 H4 F Fo w o ρ ((k4.src (G := F) fun _ z => z.elim).dst fun b hb => hb.elim .inl fun hb => (k4.fp b hb).elim (fun z => z.elim) .inr) I4 r4 d4.symm x4
end
theorem cps1 {a : Ow} (h : a.cp) : BackOk [] [a] := fun o ho => by
  rcases List.mem_cons.mp ho with e | e
  · rw [e]; exact h
  · cases e
theorem cps2 {a b : Ow} (h : a.cp) (k : b.cp) : BackOk [] [a, b] := fun o ho => by
  rcases List.mem_cons.mp ho with e | e
  · rw [e]; exact h
  · exact cps1 k o e
end MV
set_option maxRecDepth 100000
set_option maxHeartbeats 4000000
set_option autoImplicit false
/-! MV11: from a head's facts to the calculus; the law's entry. -/
namespace MV
open PySem PySem.Spec L2 PyProof.Rows PL
section
variable {K : PySem.W.Frag} {mg : Str → Option Value} {base h : Heap} {P : Program} {w : World}
theorem fun_ofD {x qual : Str} {st : Stmt} {a : Addr} {fd : FuncData} (F : FunD K x qual (defArgs st) (defBody st) (defScope st) [] [] a fd) : Fun K x qual st a fd := by
  obtain ⟨oc, od, dV, kV, doc, pm, an, cdv, ct, osl, e, lk, hcd, hD, _⟩ := F.ex
  rcases hD with ⟨_, rfl⟩ | ⟨z, _⟩
  · exact ⟨⟨oc, od, kV, doc, pm, an, cdv, ct, osl, e, lk, hcd⟩, F.kp⟩
  · exact absurd rfl z
theorem std_ofD {x : Str} {st : Stmt} {ps : List Str} {a : Addr} {fd : FuncData} (F : FunD K x x (defArgs st) (defBody st) (defScope st) [] [] a fd) (hm : mg x = some (.ref a))
    (h : ∀ (kV doc pm : Value) (an : Option Addr) (cdv ct : Value) (us : List Value), us.length = ps.length → bindArgs (PySem.W.fnOf x x (defArgs st) (defBody st) (defScope st) .none kV doc pm an cdv ct) ⟨us, []⟩ = pure (ps.zip us)) : Std K mg x st ps :=
  ⟨a, fd, fun_ofD F, hm, (fun_ofD F).binds h⟩
theorem stdM_ofD {x qual : Str} {C : Addr} {st : Stmt} {ps : List Str} {a : Addr} {fd : FuncData} (F : FunD K x qual (defArgs st) (defBody st) (defScope st) [] [] a fd) (hm : Meth K C x a)
    (h : ∀ (kV doc pm : Value) (an : Option Addr) (cdv ct : Value) (us : List Value), us.length = ps.length → bindArgs (PySem.W.fnOf x qual (defArgs st) (defBody st) (defScope st) .none kV doc pm an cdv ct) ⟨us, []⟩ = pure (ps.zip us)) : StdM K C x qual st ps :=
  ⟨a, fd, fun_ofD F, hm, (fun_ofD F).binds h⟩
theorem stdI_ofD {qual : Str} {C : Addr} {st : Stmt} {ps : List Str} {a : Addr} {fd : FuncData} (F : FunD K "__init__" qual (defArgs st) (defBody st) (defScope st) [] [] a fd) (hm : Mk K C a)
    (h : ∀ (kV doc pm : Value) (an : Option Addr) (cdv ct : Value) (us : List Value), us.length = ps.length → bindArgs (PySem.W.fnOf "__init__" qual (defArgs st) (defBody st) (defScope st) .none kV doc pm an cdv ct) ⟨us, []⟩ = pure (ps.zip us)) : StdI K C qual st ps :=
  ⟨a, fd, fun_ofD F, hm, (fun_ofD F).binds h⟩
def isiB (K : PySem.W.Frag) (C : Addr) : Bool := He.eqO (PySem.W.findIn K (.ref C) "__class__") (some (some (.builtin "object.__class__"))) && (He.eqO (PySem.W.specialIn K (.builtin "object.__class__") "__get__") (some (some (.builtin "getset_descriptor.__get__"))) &&
  (decide (PySem.W.takesIn K (.builtin "object.__class__") = some true) && (decide (PySem.W.mroIn K C (.type "object") = some true) && decide (PySem.W.kitOne K (.ref C) (.ref C) = some true))))
theorem isi_of {C : Addr} (cl : Cls K C) (h : isiB K C = true) : IsiC K C := by
  obtain ⟨h1, h⟩ := He.ba h
  obtain ⟨h2, h⟩ := He.ba h
  obtain ⟨h3, h⟩ := He.ba h
  obtain ⟨h4, h5⟩ := He.ba h
  exact ⟨cl, He.eqO_ok h1, He.eqO_ok h2, of_decide_eq_true h3, of_decide_eq_true h4, of_decide_eq_true h5⟩
/-- the law's entry: the script is lent, and frozen -/
theorem sp_law {f : FS} {H : Hp} {a : Addr} {ns : List Int} (hS : SqL K H a (ns.map V.int)) (hf : f [.scr ns] fun o _ => o = .d (.bool true)) (Ex : XK) : spM K f [.ref a] H (fun v _ => v = .bl true) Ex := by
  refine ⟨H, fun _ => False, [.scr ns], _, Sub.refl H, .cons (F1 := fun _ => False) (F2 := fun _ => False) (.scr ⟨a, rfl, hS⟩ emp_false) (.nil emp_false) emp_false.dj fun b => ⟨.inl, fun z => z.elim id id⟩, hf, fun Z' H' F' Fo v o os' k s r j d q => ?_⟩
  subst q
  cases j with
  | d h _ => exact da_bl h
end
end MV
set_option maxRecDepth 100000
set_option maxHeartbeats 4000000
set_option autoImplicit false
/-! MV12: repr of data within the law's own def: there nothing else is being shown. -/
namespace MV
open PySem PySem.Spec L2 PyProof.Rows PL
/-! ### the rule -/
def rRepr (K : PySem.W.Frag) : List V → Hp → VK → Prop := fun xs H Q => ∃ (a : Addr) (d : PyData), xs = [.ref a] ∧ Dp K H (.ref a) d ∧ d.showable = true ∧ d.hasDict = false ∧ d.depth ≤ 60 ∧ d.shown.length ≤ sizeLine ∧ Q (.str d.shown) H
theorem cr_repr {X : Cx} (hg : X.A.guards = some []) (hu : X.A.units + 65 < cLine) : CallR X (.builtin "repr") (rRepr X.K) := by
  intro pins s σ H xs us Q I rv h
  obtain ⟨a, d, rfl, hd, h1, h2, h3, h4, q⟩ := h
  cases rv with
  | cons r0 rr =>
    cases rr
    obtain ⟨as, rd⟩ := Dp.reads I d _ _ hd r0
    obtain rfl := r0
    refine PySem.repr_of_reads' rd h1 (fun z => by rw [h2] at z; cases z) hg (by omega) (fun _ _ e => e) (fun h' u tk hk => ?_) h4
    exact ⟨.str d.shown, H, I.turnedL (ch := []) (fun b o _ e => hk b o e) (fun b hb => by cases hb), ⟨u, rfl⟩, q⟩
theorem hu65 {k : Nat} {A : Around} (hr : Room k A) : A.units + 65 < cLine := by
  have := hr.un
  omega
/-! ### a promise that asks that nothing is being shown -/
structure FnG (P : Program) (w : World) (K : PySem.W.Frag) (mg : Str → Option Value) (base : Heap) (k : Nat) (f : Addr) (fd : FuncData) (ps : List Str) (sp : Sp) : Prop where
  run : ∀ (A : Around) (outer : List Env) (s : Shared) (H : Hp) (args : Args) (us : List Value) (vs : List V) (Q : VK) (E : XK), A.guards = some [] → Room k A → Env0 P w K mg base A outer s H → BindsTo s fd args (ps.zip us) → Vals vs us → sp vs H Q E →
    codeAny (model P w) A (.call (.ref f) args) (CR CX0 outer P w H s Q E) s
section
variable {P : Program} {w : World} {K : PySem.W.Frag} {mg : Str → Option Value} {base : Heap}
theorem fnG_of {x qual : Str} {st : Stmt} {N ps : List Str} {k : Nat} {f : FS} {a : Addr} {fd : FuncData} (m : List Bool) (Fn : Fun K x qual st a fd) (sc : FnScope N ps (defScope st)) (hN : ps.length ≤ N.length) (hl : ∀ os P, f os P → os.length = ps.length)
    (body : ∀ (a : Addr) (cdv : Value) (A : Around) (outer : List Env) (s : Shared) (H : Hp) (vs : List V) (Q : VK) (E : XK), A.guards = some [] → Room k (A.deeper (envOfC qual (defScope st) s.heap.objs.size a cdv)) →
      ∃ t, PSs (cxOf CX0 P w K mg base N qual (defScope st) a cdv A outer s H E).nox (defBody st) t ∧ ∀ os P, f os P → BackOk m os ∧ XS K (lk m) t { nx := fun ρ => os.length ≤ ρ.length ∧ P (.d .none) (back m os ρ), rt := fun o ρ => os.length ≤ ρ.length ∧ P o (back m os ρ) } (os ++ List.replicate (N.length - os.length) .any)) : FnG P w K mg base (k + 1) a fd ps (spM K f) := by
  obtain ⟨oc, od, kV, doc, pm, an, cdv, ct, osl, rfl, look, hcode⟩ := Fn.ex
  refine ⟨fun A outer s H args us vs Q E gu room env0 bnd vals pre => ?_⟩
  have lenV : vs.length = ps.length := by
    obtain ⟨Z, F, os, P', hs, r, q, _⟩ := pre
    rw [← r.length]
    exact hl os P' q
  have inK : K.In s.heap := env0.mod.kin.keeps fun b o e => (env0.bs b o e).1
  have nolim : s.heap.NoLimit := env0.mod.nolimit.keeps fun b o e => (env0.bs b o e).1
  have kinds : ∀ y ∈ ps.zip us, (defScope st).names.lookup y.1 = some .local ∨ ((defScope st).names.lookup y.1 = some .cell ∧ ((cellsFrom (s.heap.objs.size + 1) (defScope st).names []).lookup y.1).isSome = true) := by
    rintro ⟨n, v⟩ hy
    exact (sc.par n (List.of_mem_zip hy).1).imp id fun z => ⟨z, PySem.W.cellsFrom_some _ _ _ (.inl z)⟩
  refine codeAny_call_function room.depth (inK _ _ look) rfl sc.co sc.gen rfl (PySem.W.codeRec_of inK hcode) (bnd _ _ _ _ ?_)
  refine wpAny_newFunctionEnv_cells sc.kind kinds fun env he s1 news => ?_
  subst he
  refine ⟨nolim.keeps news.toInCall.keep, codeAny_func ?_⟩
  obtain ⟨t, pt, pq⟩ := body a cdv A outer s H vs Q E gu (room.deeper _)
  have J0 : Inv (cxOf CX0 P w K mg base N qual (defScope st) a cdv A outer s H E) [] (start N vs) H s1 := inv_start sc room.hd env0 lenV vals news
  have run := xs_run (N := N) m pre (by
    obtain ⟨Z, F, os, P', hs, r, q, _⟩ := pre
    rw [← r.length, hl os P' q]
    exact hN) fun os P _ hf => pq os P hf
  refine wpAny_mono (pt.nox.run [] s1 (start N vs) H _ J0 run) (fun fl s' hs => ?_) fun e s' hs => hs
  cases fl with
  | ret u => exact let ⟨v, _, H', J, rv, q⟩ := hs; ⟨v, H', J.os, J.bare, J.base, J.hok, rv, q⟩
  | next => exact let ⟨_, H', J, q⟩ := hs; ⟨V.non, H', J.os, J.bare, J.base, J.hok, rfl, q⟩
  | brk => exact let ⟨_, _, _, q⟩ := hs; q.elim
  | cont => exact let ⟨_, _, _, q⟩ := hs; q.elim
/-- over an abstract heap that holds at most the script -/
theorem lawG_over {mb : Str → Option Value} {k : Nat} {fa a : Addr} {fd : FuncData} {x : Str} {sp : Sp} {st : Shared} {vs : List Value} (inK : K.In st.heap) (glob : st.heap.Ns mainGlobals mg) (bltn : st.heap.Ns builtinsNs mb)
    (boot : ∀ x : Str, x ≠ "__name__" → mb x = bootBuiltins x) (nolim : st.heap.NoLimit) (nogen : st.gens = #[]) (there : st.heap.get? a = some { cls := .type "list", data := .seq vs.toArray }) (room : Room k callerA)
    (prom : ∀ base : Heap, K.In base → base.Ns mainGlobals mg → FnG P w K mg base k fa fd [x] sp) (bnd : ∀ (s : Shared) (u : Value), BindsTo s fd ⟨[u], []⟩ [(x, u)]) {H : Hp} (only : Only H) (hok : HOk P w H st.heap) (onlyA : ∀ b, H b ≠ none → b = a) (noK : H a ≠ none → K.lookup a = none)
    (pre : sp [.ref a] H (fun v _ => v = .bl true) E0) : codeAny (model P w) callerA (.call (.ref fa) ⟨[.ref a], []⟩) (fun r s' => r = .ok (.ret (.bool true)) ∧ OldK st.heap s'.heap ∧ s'.os = st.os ∧ AllBare s'.gens) st := by
  have hidden : ∀ {b : Addr}, H b ≠ none → ∀ {o : Obj}, st.heap.get? b = some o → o = { cls := .type "list", data := .seq vs.toArray } := fun {b} hb {o} e => by
    have eb := onlyA b hb
    rw [eb, there] at e
    exact (Option.some.inj e).symm
  have dictFree : ∀ {b : Addr} {o : Obj} {es : Array DictEntry} {ep : Nat}, st.heap.get? b = some o → o.data = .dict es ep → H b = none := fun {b o es ep} e hd => by
    apply Classical.byContradiction
    intro hb
    rw [hidden hb e] at hd
    cases hd
  have nsOver : ∀ {b : Addr} {m : Str → Option Value}, st.heap.Ns b m → (hidT st.heap H).Ns b m := fun {b m} hn => by
    obtain ⟨o, es, ep, e, hd, rest⟩ := hn
    exact ⟨o, es, ep, hidT_get e (dictFree e hd), hd, rest⟩
  have inOver : K.In (hidT st.heap H) := fun b o e => hidT_get (inK b o e) (by
    apply Classical.byContradiction
    intro hb
    have eb := onlyA b hb
    rw [eb] at e hb
    rw [noK hb] at e
    cases e)
  have modOver : Mod K mg (hidT st.heap H) := by
    obtain ⟨mc, c1, c2⟩ := nolim
    exact ⟨inOver, nsOver glob, ⟨mb, nsOver bltn, boot⟩, ⟨mc, nsOver c1, c2⟩⟩
  have env : Env0 P w K mg (hidT st.heap H) callerA [] st H := ⟨rfl, modOver, fun b o e => of_hidT e, Nat.le_of_eq (hidT_size _ _), trivial, fun b hb => (List.not_mem_nil hb).elim, hok, .of_eq nogen⟩
  refine codeAny_mono ((prom _ inOver (nsOver glob)).run callerA [] st H ⟨[.ref a], []⟩ [.ref a] [.ref a] _ _ rfl room env (bnd st (.ref a)) (.cons rfl .nil) pre) fun r s' fin => ?_
  rcases r with e | fl
  · exact False.elim fin
  · cases fl with
    | next => exact False.elim fin
    | brk => exact False.elim fin
    | cont => exact False.elim fin
    | ret u =>
      obtain ⟨v, H', os, bare, un, hok', rel, isT⟩ := fin
      have isT' : v = .bl true := isT
      rw [isT'] at rel
      obtain rfl : u = Value.bool true := rel
      refine ⟨rfl, OldK.of_keep fun b o e => ?_, os, bare⟩
      rcases only b with z | ⟨ob, xs, z⟩
      · exact un.keep b o e z (fun m => (List.not_mem_nil m).elim) (by simp)
      · have e1 := (hok b _ z).1
        have e2 := (hok' b _ (un.frzs b ob _ z)).1
        rw [e] at e1
        rw [e2, e1]
theorem lawG_call {mb : Str → Option Value} {k : Nat} {fa a : Addr} {fd : FuncData} {x : Str} {sp : Sp} {st : Shared} {vs : List Value} {ns : List Int} (inK : K.In st.heap) (glob : st.heap.Ns mainGlobals mg) (bltn : st.heap.Ns builtinsNs mb)
    (boot : ∀ x : Str, x ≠ "__name__" → mb x = bootBuiltins x) (nolim : st.heap.NoLimit) (nogen : st.gens = #[]) (there : st.heap.get? a = some { cls := .type "list", data := .seq vs.toArray }) (iv : IntsAre vs ns) (few : ns.length ≤ sizeLine) (room : Room k callerA)
    (prom : ∀ base : Heap, K.In base → base.Ns mainGlobals mg → FnG P w K mg base k fa fd [x] sp) (bnd : ∀ (s : Shared) (u : Value), BindsTo s fd ⟨[u], []⟩ [(x, u)])
    (pre : ∀ H : Hp, Only H → SqL K H a (ns.map V.int) → sp [.ref a] H (fun v _ => v = .bl true) E0) : codeAny (model P w) callerA (.call (.ref fa) ⟨[.ref a], []⟩) (fun r s' => r = .ok (.ret (.bool true)) ∧ OldK st.heap s'.heap ∧ s'.os = st.os ∧ AllBare s'.gens) st := by
  have rel := vals_ints iv
  have many := iv.length
  cases look : K.lookup a with
  | some o =>
    have e := inK a o look
    rw [there] at e
    cases e
    have only : Only fun _ => none := fun _ => .inl rfl
    exact lawG_over inK glob bltn boot nolim nogen there room prom bnd only (fun b u z => by cases z) (fun b z => absurd rfl z) (fun z => absurd rfl z)
      (pre _ only (.inr ⟨_, vs.toArray, _, look, rfl, rfl, rfl, by rw [List.size_toArray, many]; exact few, by simpa using rel⟩))
  | none =>
    have at_ : ∀ b, (if b = a then some (HO.frz { cls := .type "list", data := .seq vs.toArray } (.lst (ns.map V.int))) else none) ≠ none → b = a := fun b z => by
      by_cases hb : b = a
      · exact hb
      · exact absurd (if_neg hb) z
    have only : Only fun b => if b = a then some (HO.frz { cls := .type "list", data := .seq vs.toArray } (.lst (ns.map V.int))) else none := fun b => by
      by_cases hb : b = a
      · exact .inr ⟨_, _, if_pos hb⟩
      · exact .inl (if_neg hb)
    refine lawG_over inK glob bltn boot nolim nogen there room prom bnd only (fun b u z => ?_) at_ (fun _ => look) (pre _ only (.inl (.inr ⟨_, if_pos rfl⟩)))
    have hb : b = a := at_ b (by rw [z]; simp)
    subst hb
    obtain rfl := Option.some.inj ((if_pos rfl).symm.trans z)
    exact ⟨there, by rw [List.length_map]; exact few, vs, _, rel, there⟩
theorem walk_ofG {l : PySem.W.OpenLaw} {n k : Nat} {q : Program} {loose : List Str} {XP : (Str → Option Value) → Heap → Prop} {YP : World → Heap → Prop} {d : DefRec} {x : Str}
    (hn : l.most = some n) (hn2 : n ≤ sizeLine) (hdf : d.params.defaults = []) (room : Room k callerA)
    (F : ∀ (w : World) (mg : Str → Option Value) (fa : Addr) (h : Heap), YP w h → h.Ns mainGlobals mg → mg d.name = some (.ref fa) →
      ∃ (K : PySem.W.Frag) (fd : FuncData) (sp : Sp), K.In h ∧ (∀ (s : Shared) (u : Value), BindsTo s fd ⟨[u], []⟩ [(x, u)]) ∧ (∀ (H : Hp) (a : Addr) (ns : List Int), ns.length ≤ n → SqL K H a (ns.map V.int) → sp [.ref a] H (fun v _ => v = .bl true) E0) ∧
        ∀ base : Heap, K.In base → base.Ns mainGlobals mg → FnG l.prog w K mg base k fa fd [x] sp) : PySem.W.WalkO q loose XP YP l.row.toRowW d [] (fun f vs => PySem.call f vs) := by
  refine Att.attach_call hn hdf fun w s0 s1 mg mb fa o pm cd doc a vs ns G Y ho hd hcd named isObj iv few nogen => ?_
  obtain ⟨K, fd, sp, inK, bnd, pre, prom⟩ := F w mg fa _ Y G.T.g named
  exact lawG_call inK G.T.g G.T.b G.T.builtins G.T.nolimit nogen isObj iv (Nat.le_trans few hn2) room prom bnd fun H _ hS => pre H a ns few hS
end
end MV
set_option maxRecDepth 100000
set_option maxHeartbeats 4000000
set_option autoImplicit false
/-! LKD: what stands in a Linker, as data; what deeds do. -/
namespace LKD
open PySem L2 PyProof.Rows PL MV
abbrev Rw := Str × Int
abbrev pcD (p : Rw) : PyData := .tuple [.str p.1, .tuple [.tuple [.str "s", .str "data", .int 1, .tuple [.tuple [.str "cell", .int p.2]]]], .tuple []]
def rD (r : List Rw) : List PyData := r.map pcD
def pD (e : Str × List Rw) : PyData := .tuple [.str e.1, .list (rD e.2)]
def psD (p : List (Str × List Rw)) : List PyData := p.map pD
abbrev lkO (C : Addr) (r : List Rw) (p : List (Str × List Rw)) : Ow := .ins C [("pieces", .d (.list (rD r))), ("past", .ls (psD p))]
def nms (r : List Rw) : List Str := r.map (·.1)
def RsOk (r : List Rw) : Prop := ∀ n, n ∈ nms r → PyData.strOk n = true
theorem shD_pc {p : Rw} (h : PyData.strOk p.1 = true) : ShD 5 (pcD p) :=
  shD_tup (.cons (shD_str h) (.cons (shD_tup (.cons (shD_tup (.cons (shD_str (by decide +kernel)) (.cons (shD_str (by decide +kernel)) (.cons (shD_int _ _) (.cons (shD_tup (.cons (shD_tup (.cons (shD_str (by decide +kernel)) (.cons (shD_int 0 _) .nil))) .nil)) .nil))))) .nil)) (.cons ((shD_tup (n := 0) .nil).up (by decide)) .nil)))
theorem shD_rows {r : List Rw} (h : RsOk r) : ShD 6 (.list (rD r)) := shD_list fun d hd => by
  obtain ⟨p, hp, rfl⟩ := List.mem_map.mp hd
  exact shD_pc (h _ (List.mem_map.mpr ⟨p, hp, rfl⟩))
/-- the place of a name -/
def fi (r : List Rw) (n : Str) : Nat := (nms r).findIdx (fun x => decide (x = n))
theorem fi_eq {r : List Rw} {n : Str} {j : Nat} (h : (nms r)[j]? = some n) (f : ∀ (m : Nat) (z : Str), m < j → (nms r)[m]? = some z → z ≠ n) : j = fi r n := by
  unfold fi
  obtain ⟨hj, e⟩ := List.getElem?_eq_some_iff.mp h
  symm
  rw [List.findIdx_eq hj]
  refine ⟨by simp [e], fun m hm => ?_⟩
  have := f m _ hm (List.getElem?_eq_getElem (Nat.lt_trans hm hj))
  simp [this]
theorem fi_lt {r : List Rw} {n : Str} (h : n ∈ nms r) : fi r n < r.length := by
  have : fi r n < (nms r).length := List.findIdx_lt_length_of_exists ⟨n, h, by simp⟩
  unfold nms at this
  rw [List.length_map] at this
  exact this
theorem fi_get {r : List Rw} {n : Str} (h : n ∈ nms r) : (nms r)[fi r n]? = some n := by
  have hl : fi r n < (nms r).length := List.findIdx_lt_length_of_exists ⟨n, h, by simp⟩
  have := List.findIdx_getElem (p := fun x => decide (x = n)) (xs := nms r) (w := hl)
  rw [List.getElem?_eq_getElem hl]
  have t : (nms r)[fi r n] = n := of_decide_eq_true this
  rw [t]
inductive Deed where
  | put (x : Rw)
  | exc (x : Rw)
  | tak (n : Str)
def dD : Deed → PyData
  | .put x => .tuple [.str "put", pcD x]
  | .exc x => .tuple [.str "exchange", pcD x]
  | .tak n => .tuple [.str "take", .str n]
def word : Deed → Str
  | .put _ => "put"
  | .exc _ => "exchanged"
  | .tak _ => "taken"
def aft (r : List Rw) : Deed → List Rw
  | .put x => r ++ [x]
  | .exc x => r.take (fi r x.1) ++ [x] ++ r.drop (fi r x.1 + 1)
  | .tak n => r.take (fi r n) ++ r.drop (fi r n + 1)
def DdOk (r : List Rw) : Deed → Prop
  | .put x => x.1 ∉ nms r ∧ PyData.strOk x.1 = true
  | .exc x => x.1 ∈ nms r ∧ PyData.strOk x.1 = true
  | .tak n => n ∈ nms r
def DIn (nm : List Str) : Deed → Prop
  | .put x => x.1 ∈ nm
  | .exc x => x.1 ∈ nm
  | .tak n => n ∈ nm
structure Gd (nm : List Str) (r : List Rw) : Prop where
  nd : (nms r).Nodup
  sub : ∀ n, n ∈ nms r → n ∈ nm
theorem gd_nil (nm : List Str) : Gd nm [] := ⟨List.nodup_nil, fun _ h => by cases h⟩
theorem len_sub : ∀ {a b : List Str}, a.Nodup → (∀ x, x ∈ a → x ∈ b) → a.length ≤ b.length
  | [], _, _, _ => Nat.zero_le _
  | x :: a, b, h, s => by
    rw [List.nodup_cons] at h
    have hx := s x List.mem_cons_self
    have := len_sub (a := a) (b := b.erase x) h.2 fun y hy => (List.mem_erase_of_ne fun e => h.1 (by rw [← e]; exact hy)).mpr (s y (List.mem_cons_of_mem _ hy))
    rw [List.length_erase_of_mem hx] at this
    have hp := List.length_pos_of_mem hx
    rw [List.length_cons]
    omega
theorem Gd.len {nm : List Str} {r : List Rw} (h : Gd nm r) : r.length ≤ nm.length := by
  have := len_sub h.nd h.sub
  unfold nms at this
  rw [List.length_map] at this
  exact this
theorem Gd.ok {nm : List Str} {r : List Rw} (h : Gd nm r) (k : ∀ n, n ∈ nm → PyData.strOk n = true) : RsOk r := fun n hn => k n (h.sub n hn)
theorem nms_app (a b : List Rw) : nms (a ++ b) = nms a ++ nms b := List.map_append
theorem nms_exc {r : List Rw} {x : Rw} (h : x.1 ∈ nms r) : nms (r.take (fi r x.1) ++ [x] ++ r.drop (fi r x.1 + 1)) = nms r := by
  have h1 := fi_get h
  have h2 := fi_lt h
  rw [nms_app, nms_app]
  have e : nms r = (nms r).take (fi r x.1) ++ ([x.1] ++ (nms r).drop (fi r x.1 + 1)) := by
    have h3 : fi r x.1 < (nms r).length := by unfold nms; rw [List.length_map]; exact h2
    have h4 : (nms r)[fi r x.1] = x.1 := by
      rw [List.getElem?_eq_getElem h3] at h1
      exact Option.some.inj h1
    have := List.drop_eq_getElem_cons h3
    rw [h4] at this
    rw [List.singleton_append, ← this, List.take_append_drop]
  rw [List.append_assoc]
  conv => rhs; rw [e]
  unfold nms
  rw [List.map_take, List.map_drop]
  rfl
theorem gd_aft {nm : List Str} {r : List Rw} {d : Deed} (h : Gd nm r) (k : DdOk r d) (i : DIn nm d) : Gd nm (aft r d) := by
  cases d with
  | put x =>
    refine ⟨?_, fun n hn => ?_⟩
    · show (nms (r ++ [x])).Nodup
      rw [nms_app, List.nodup_append]
      refine ⟨h.nd, by simp [nms], fun a ha b hb => ?_⟩
      have : b = x.1 := by simpa [nms] using hb
      rw [this]
      rintro rfl
      exact k.1 ha
    · have hn : n ∈ nms (r ++ [x]) := hn
      rw [nms_app] at hn
      rcases List.mem_append.mp hn with z | z
      · exact h.sub n z
      · have : n = x.1 := by simpa [nms] using z
        rw [this]
        exact i
  | exc x =>
    have e := nms_exc k.1
    exact ⟨by show (nms _).Nodup; rw [show nms (aft r (.exc x)) = nms r from e]; exact h.nd, fun n hn => h.sub n (by rw [← show nms (aft r (.exc x)) = nms r from e]; exact hn)⟩
  | tak n =>
    have hs : (aft r (.tak n)).Sublist r := by
      show (r.take (fi r n) ++ r.drop (fi r n + 1)).Sublist r
      conv => rhs; rw [← List.take_append_drop (fi r n) r]
      exact (List.Sublist.refl _).append (List.drop_sublist_drop_left _ (Nat.le_succ _))
    have hm : (nms (aft r (.tak n))).Sublist (nms r) := hs.map _
    exact ⟨h.nd.sublist hm, fun m hm' => h.sub m (hm.subset hm')⟩
theorem cut_take {ds : List PyData} {j : Nat} (h : j ≤ ds.length) : cuD ds none (some (j : Int)) = ds.take j := by
  unfold cuD
  have e0 : HT.sIx ds.length 0 none = 0 := rfl
  have e1 : HT.sIx ds.length ds.length (some (j : Int)) = j := by
    rw [HT.sIx_nat]
    omega
  rw [e0, e1]
  simp
theorem cut_drop {ds : List PyData} {j : Nat} (h : j ≤ ds.length) : cuD ds (some (j : Int)) none = ds.drop j := by
  unfold cuD
  have e0 : HT.sIx ds.length ds.length none = ds.length := rfl
  have e1 : HT.sIx ds.length 0 (some (j : Int)) = j := by
    rw [HT.sIx_nat]
    omega
  rw [e0, e1]
  rw [List.take_of_length_le (by rw [List.length_drop]; omega)]
/-- the places of a name ahead of k -/
def mts (r : List Rw) (n : Str) (k : Nat) : List Nat := (List.range k).filter fun i => decide ((nms r)[i]? = some n)
theorem mts_succ (r : List Rw) (n : Str) (k : Nat) : mts r n (k + 1) = mts r n k ++ if (nms r)[k]? = some n then [k] else [] := by
  unfold mts
  rw [List.range_succ, List.filter_append]
  congr 1
  by_cases h : (nms r)[k]? = some n <;> simp [h]
theorem mts_none {r : List Rw} {n : Str} (h : n ∉ nms r) : ∀ k, mts r n k = []
  | 0 => rfl
  | k + 1 => by
    rw [mts_succ, mts_none h k, if_neg fun e => h (List.mem_of_getElem? e)]
    rfl
theorem fi_first {r : List Rw} {n : Str} {k : Nat} (h : k < fi r n) : (nms r)[k]? ≠ some n := fun e => by
  have hl := (List.getElem?_eq_some_iff.mp e).1
  have := List.not_of_lt_findIdx (p := fun x => decide (x = n)) (xs := nms r) h
  rw [List.getElem?_eq_getElem hl] at e
  have e2 := Option.some.inj e
  simp [e2] at this
theorem mts_lt {r : List Rw} {n : Str} : ∀ {k : Nat}, k ≤ fi r n → mts r n k = []
  | 0, _ => rfl
  | k + 1, h => by
    rw [mts_succ, mts_lt (k := k) (by omega), if_neg (fi_first (by omega))]
    rfl
theorem mts_ge {r : List Rw} {n : Str} (hn : n ∈ nms r) : ∀ {k : Nat}, fi r n < k → ∃ t, mts r n k = fi r n :: t
  | 0, h => absurd h (Nat.not_lt_zero _)
  | k + 1, h => by
    rw [mts_succ]
    by_cases e : fi r n = k
    · rw [mts_lt (by omega), ← e, if_pos (fi_get hn)]
      exact ⟨[], rfl⟩
    · obtain ⟨t, ht⟩ := mts_ge hn (k := k) (by omega)
      rw [ht]
      exact ⟨_, rfl⟩
theorem strOk_app {x y : Str} (h : PyData.strOk x = true) (k : PyData.strOk y = true) : PyData.strOk (x ++ y) = true := by
  unfold PyData.strOk at h k ⊢
  show (x.cps ++ y.cps).all _ = true
  rw [Array.all_append, h, k]
  rfl
theorem az_ok {i : Nat} (h : i < 26) : ∃ c : Nat, atI (("abcdefghijklmnopqrstuvwxyz" : Str).cps.toList) (i : Int) = some c ∧ PyData.strOk ⟨#[c]⟩ = true := by
  have hl : ("abcdefghijklmnopqrstuvwxyz" : Str).cps.toList.length = 26 := by decide +kernel
  have hi : i < ("abcdefghijklmnopqrstuvwxyz" : Str).cps.toList.length := by rw [hl]; exact h
  refine ⟨_, atI_nat (List.getElem?_eq_getElem hi), ?_⟩
  have all : (("abcdefghijklmnopqrstuvwxyz" : Str).cps.toList.all fun c => PyData.strOk ⟨#[c]⟩) = true := by decide +kernel
  exact List.all_eq_true.mp all _ (List.getElem_mem hi)
theorem eqv_rows : ∀ {a b : List Rw}, PyData.eqv (.list (rD a)) (.list (rD b)) = true → a = b
  | [], [], _ => rfl
  | [], _ :: _, h => by simp [rD, PyData.eqv, PyData.eqvAll] at h
  | _ :: _, [], h => by simp [rD, PyData.eqv, PyData.eqvAll] at h
  | (n, c) :: a, (m, e) :: b, h => by
    have h2 : PyData.eqv (pcD (n, c)) (pcD (m, e)) = true ∧ PyData.eqv (.list (rD a)) (.list (rD b)) = true := by
      simpa [rD, PyData.eqv, PyData.eqvAll] using h
    have ih := eqv_rows h2.2
    have h3 := h2.1
    simp [pcD, PyData.eqv, PyData.eqvAll] at h3
    rw [ih, h3.1, h3.2]
def dw : Deed → Str
  | .put _ => "put"
  | .exc _ => "exchange"
  | .tak _ => "take"
theorem dD_eq (d : Deed) : ∃ x, dD d = .tuple [.str (dw d), x] := by
  cases d with
  | put x => exact ⟨_, rfl⟩
  | exc x => exact ⟨_, rfl⟩
  | tak n => exact ⟨_, rfl⟩
def dws : List (Str × Str) := [("put", "put"), ("exchange", "exchanged"), ("take", "taken")]
theorem dws_look (d : Deed) : lookLast dws (dw d) none = some (word d) := by
  cases d with
  | put x => show lookLast dws "put" none = some "put"; decide +kernel
  | exc x => show lookLast dws "exchange" none = some "exchanged"; decide +kernel
  | tak n => show lookLast dws "take" none = some "taken"; decide +kernel
theorem eqv_sym (a b : List Rw) (h : RsOk a) (k : RsOk b) : PyData.eqv (.list (rD a)) (.list (rD b)) = PyData.eqv (.list (rD b)) (.list (rD a)) := by
  by_cases e : a = b
  · rw [e]
  · cases h1 : PyData.eqv (.list (rD a)) (.list (rD b)) with
    | true => exact absurd (eqv_rows h1) e
    | false =>
      cases h2 : PyData.eqv (.list (rD b)) (.list (rD a)) with
      | true => exact absurd (eqv_rows h2).symm e
      | false => rfl
/-- the names of the law of two Linkers -/
abbrev st (C : Addr) (ns : List Int) (nm : List Str) (r0 r1 : List Rw) (p0 p1 : List (Str × List Rw)) (s : List Ow) : List Ow :=
  .scr ns :: .pen ns :: .d (.list (nm.map .str)) :: .lst [lkO C r0 p0, lkO C r1 p1] :: .ls [.list (rD r0), .list (rD r1)] :: .lst [.ls (psD p0), .ls (psD p1)] :: s
abbrev st2 (C : Addr) (ns : List Int) (nm : List Str) (l0 l1 : List Rw) (m0 m1 : List (Str × List Rw)) (r0 r1 : List Rw) (p0 p1 : List (Str × List Rw)) (s : List Ow) : List Ow :=
  .scr ns :: .pen ns :: .d (.list (nm.map .str)) :: .lst [lkO C l0 m0, lkO C l1 m1] :: .ls [.list (rD r0), .list (rD r1)] :: .lst [.ls (psD p0), .ls (psD p1)] :: s
/-- what holds of a Linker's past -/
def PGd (nm : List Str) (p : List (Str × List Rw)) : Prop := ∀ e, e ∈ p → Gd nm e.2 ∧ PyData.strOk e.1 = true
theorem PGd.sh {nm : List Str} {p : List (Str × List Rw)} (h : PGd nm p) (k : ∀ n, n ∈ nm → PyData.strOk n = true) : ShD 8 (.list (psD p)) := shD_list fun d hd => by
  obtain ⟨e, he, rfl⟩ := List.mem_map.mp hd
  obtain ⟨h1, h2⟩ := h e he
  exact shD_tup (.cons (shD_str h2) (.cons (shD_rows (h1.ok k)) .nil))
theorem PGd.app {nm : List Str} {p : List (Str × List Rw)} {e : Str × List Rw} (h : PGd nm p) (g : Gd nm e.2) (s : PyData.strOk e.1 = true) : PGd nm (p ++ [e]) := fun x hx => by
  rcases List.mem_append.mp hx with z | z
  · exact h x z
  · rw [List.mem_singleton.mp z]
    exact ⟨g, s⟩
theorem PGd.pre {nm : List Str} {p : List (Str × List Rw)} {e : Str × List Rw} (h : PGd nm (p ++ [e])) : PGd nm p ∧ Gd nm e.2 := ⟨fun x hx => h x (List.mem_append_left _ hx), (h e (List.mem_append_right _ List.mem_cons_self)).1⟩
theorem psD_app (p : List (Str × List Rw)) (e : Str × List Rw) : psD (p ++ [e]) = psD p ++ [pD e] := List.map_append
theorem word_ok (d : Deed) : PyData.strOk (word d) = true := by
  cases d with
  | put x => show PyData.strOk "put" = true; decide +kernel
  | exc x => show PyData.strOk "exchanged" = true; decide +kernel
  | tak x => show PyData.strOk "taken" = true; decide +kernel
end LKD
set_option maxRecDepth 100000
set_option maxHeartbeats 4000000
set_option autoImplicit false
/-! MV13: repr, list(..), x, y = .., x.clear(). -/
namespace MV
open PySem PySem.Spec L2 PyProof.Rows PL
section
variable {K : PySem.W.Frag} {Z H : Hp} {σ : L2.St} {ρ : List Ow} {F : FP} {L : List Nat} {P : Ow → List Ow → Prop} {p : PD} {te to : TE} {ta : TA} {t : TS}
theorem rc_repr {ds : List PyData} {P : Ow → Prop} (h1 : (PyData.tuple ds).showable = true) (h2 : (PyData.tuple ds).hasDict = false) (h3 : (PyData.tuple ds).depth ≤ 60) (h4 : (PyData.tuple ds).shown.length ≤ sizeLine) (q : P (.d (.str (PyData.tuple ds).shown))) : RCX K (rRepr K) [.d (.tuple ds)] P := rc_val q fun Z H vs F s r => by
  obtain ⟨v, F1, rfl, r0⟩ := a1 r
  have r1 := r0.dat s rfl
  obtain ⟨a, xs, rfl, _, _⟩ := da_tup r1
  exact ⟨_, Da.str _, fun Q h => ⟨a, _, rfl, r1.dp, h1, h2, h3, h4, h⟩⟩
theorem rc_list {x : Ow} {ds : List PyData} {P : Ow → Prop} (hx : x.lsD = some ds) (q : P (.ls ds)) : RCX K (fun xs H Q => ∃ p ys, xs = [.ref p] ∧ (SqL K H p ys ∨ SqT K H p ys) ∧ ∀ l, H l = none → Q (.ref l) (upd H l (.lst ys))) [x] P := fun Z H vs F Q s r k => by
  obtain ⟨v, F1, rfl, r0⟩ := a1 r
  obtain ⟨a, xs, rfl, h1, h2⟩ := r0.lsD s hx
  refine ⟨a, xs, rfl, .inl (.inl h1), fun l nl => ?_⟩
  have zl : Z l = none := by
    cases e : Z l with
    | none => rfl
    | some o =>
      have := s l o e
      rw [nl] at this
      cases this
  exact k Z _ (fun b => b = l) _ (.ls ds) ((Keep.own nl).dst' fun b hb => .inr hb) (sub_upd nl s) (.ls upd_same zl h2 fun _ => Iff.rfl) q
theorem xv_neg {i : Int} (h : XV K te ρ (.int i)) : XV K (tUn (rU fun i => .int (-i)) te) ρ (.int (-i)) := fun Z σ H F Q I k => h Z σ H F _ I fun v r => by
  cases da_int r
  exact ⟨_, rfl, k _ (.int _)⟩
theorem atI_last {α : Type} (l : List α) (x : α) : atI (l ++ [x]) (-1) = some x := by
  have h : ixN (l ++ [x]).length (-1) = some l.length := by
    unfold ixN
    rw [if_neg (by decide), if_pos (by rw [List.length_append, List.length_singleton]; omega), List.length_append, List.length_singleton]
    congr 1
    omega
  unfold atI
  rw [h]
  show (l ++ [x])[l.length]? = some x
  simp
theorem xs_par {i j : Nat} (hi : i < ρ.length) (hj : j < ρ.length) (li : i ∉ L) (lj : j ∉ L) (h : XA K ta ρ fun as ρ1 => ∃ o1 o2, as.map Arg.ow = [o1, o2] ∧ ρ1.length = ρ.length ∧ p.nx ((ρ1.set i o1).set j o2)) : XS K L (tPar i j ta) p ρ := fun Z σ H F D I d => h Z σ H F _ I fun Z1 H1 F1 Fo vs as ρ1 k1 I1 r1 _ d1 ⟨o1, o2, e, hl, q⟩ => by
  rw [e] at r1
  cases r1 with
  | @cons _ v1 _ _ _ A1 A2 a1 t1 dd e1 =>
    cases t1 with
    | @cons _ v2 _ _ _ B1 B2 a2 t2 dd2 e2 =>
      cases t2
      refine ⟨v1, v2, rfl, ?_⟩
      have dA1 : Dj A1 F1 := d1.sub (fun b z => (e1 b).mpr (.inl z)) fun _ z => z
      obtain ⟨F2, I2, s2⟩ := I1.bind a1 dA1 (i := i) (by rw [hl]; exact hi)
      have dB : Dj B1 F2 := fun b x y => (s2 b y).elim (fun y => d1 b ((e1 b).mpr (.inr ((e2 b).mpr (.inl x)))) y) fun y => dd b y ((e2 b).mpr (.inl x))
      obtain ⟨F3, I3, s3⟩ := I2.bind a2 dB (i := j) (by rw [List.length_set, hl]; exact hj)
      refine d.nx Z1 H1 F3 _ _ (k1.dst' fun b hb => ?_) ((Lck.set li).trans (Lck.set lj)) I3 q
      rcases s3 b hb with z | z
      · rcases s2 b z with z | z
        · exact .inl z
        · exact .inr ((e1 b).mpr (.inl z))
      · exact .inr ((e1 b).mpr (.inr ((e2 b).mpr (.inl z))))
theorem xe_clearP {i : Nat} {q : List Stp} {ds : List PyData} (hp : XP K to ρ i q) (g : getS ρ i q = some (.ls ds)) (h : P (.d .none) (putS ρ i q (.ls []))) : XE K (tBM0 K "list" rClear to) ρ P := fun Z σ H F Q I k => hp Z σ H F _ I fun va at_ => by
  obtain ⟨G1, ra, sub⟩ := I.at g (by intro z; cases z) at_
  cases ra with
  | @ls a vs _ _ z1 z2 z3 z4 =>
    refine ⟨.inl ⟨rfl, vs, SqL.of z1⟩, ?_⟩
    refine ⟨a, vs, rfl, rfl, z1, ?_⟩
    obtain ⟨F', I2, k2⟩ := I.chg (o' := .ls []) (x := .lst []) g (by intro z; cases z) at_ rfl fun A1 rr => by
      cases rr with
      | ls y1 y2 y3 y4 =>
        rw [z1] at y1
        cases y1
        exact ⟨(y4 a).mpr rfl, A1, .ls upd_same y2 .nil y4, fun _ z => z⟩
    exact k Z _ F' emp .non (.d .none) _ (by rw [or2_emp]; exact k2) I2 (.ofD .non) emp_false.dj h
end
end MV
set_option maxRecDepth 100000
set_option maxHeartbeats 4000000
set_option autoImplicit false
/-! LKR: the text of a deed is short. -/
namespace LKD
open PySem PySem.Spec L2 PyProof.Rows PL MV
theorem tupleText_le (ts : List Str) : (tupleText ts).length ≤ piled ts + 3 := by
  cases ts with
  | nil => decide +kernel
  | cons x r =>
    have h := join_length_add (x :: r) (List.cons_ne_nil _ _)
    unfold tupleText
    rw [PySem.Str.length_append, PySem.Str.length_append]
    have h1 : (("(" : String) : Str).length = 1 := by decide +kernel
    have h2 : (((if (x :: r).length == 1 then ",)" else ")") : String) : Str).length ≤ 2 := by
      split <;> decide +kernel
    have h3 : (("(" : Str)).length = 1 := by decide +kernel
    omega
def NmOk (n : Str) : Prop := PyData.strOk n = true ∧ n.length ≤ 17
theorem NmOk.repr {n : Str} (h : NmOk n) : (reprText n).length ≤ 172 := by
  have h1 := StrLaws.reprText_len n fun c hc => by
    have h2 : n.cps.all (fun c => decide (c < 0x110000)) = true := h.1
    rw [← Array.all_toList] at h2
    have h3 : c < 0x110000 := of_decide_eq_true (List.all_eq_true.mp h2 c hc)
    exact Nat.lt_trans h3 (by decide)
  have := h.2
  omega
def CellOk (c : Int) : Prop := 0 ≤ c ∧ c < 6
def inner (c : Int) : PyData := .tuple [.tuple [.str "s", .str "data", .int 1, .tuple [.tuple [.str "cell", .int c]]]]
theorem inner_le {c : Int} (h : CellOk c) : (inner c).shown.length ≤ 100 := by
  obtain ⟨h0, h1⟩ := h
  obtain rfl | rfl | rfl | rfl | rfl | rfl : c = 0 ∨ c = 1 ∨ c = 2 ∨ c = 3 ∨ c = 4 ∨ c = 5 := by omega
  all_goals decide +kernel
def DdC : Deed → Prop
  | .put x => NmOk x.1 ∧ CellOk x.2
  | .exc x => NmOk x.1 ∧ CellOk x.2
  | .tak n => NmOk n
theorem pc_shown (x : Rw) : (pcD x).shown = tupleText [reprText x.1, (inner x.2).shown, tupleText []] := by
  simp [pcD, inner, PyData.shown, PyData.shownAll]
theorem pc_le {x : Rw} (h : NmOk x.1 ∧ CellOk x.2) : (pcD x).shown.length ≤ 400 := by
  rw [pc_shown]
  have h1 := tupleText_le [reprText x.1, (inner x.2).shown, tupleText []]
  have h2 := h.1.repr
  have h3 := inner_le h.2
  have h4 : (tupleText []).length = 2 := by decide +kernel
  simp only [piled_cons, piled_nil] at h1
  omega
theorem dd_le {d : Deed} (h : DdC d) : (dD d).shown.length ≤ sizeLine := by
  rw [sizeLine_eq]
  cases d with
  | put x =>
    have e : (dD (.put x)).shown = tupleText [reprText "put", (pcD x).shown] := by simp only [dD, PyData.shown, PyData.shownAll]
    have h1 := tupleText_le [reprText "put", (pcD x).shown]
    have h2 := pc_le h
    have h3 : (reprText "put").length ≤ 20 := by decide +kernel
    simp only [piled_cons, piled_nil] at h1
    rw [e]
    omega
  | exc x =>
    have e : (dD (.exc x)).shown = tupleText [reprText "exchange", (pcD x).shown] := by simp only [dD, PyData.shown, PyData.shownAll]
    have h1 := tupleText_le [reprText "exchange", (pcD x).shown]
    have h2 := pc_le h
    have h3 : (reprText "exchange").length ≤ 20 := by decide +kernel
    simp only [piled_cons, piled_nil] at h1
    rw [e]
    omega
  | tak n =>
    have e : (dD (.tak n)).shown = tupleText [reprText "take", reprText n] := by simp only [dD, PyData.shown, PyData.shownAll]
    have h1 := tupleText_le [reprText "take", reprText n]
    have h2 := NmOk.repr (n := n) h
    have h3 : (reprText "take").length ≤ 20 := by decide +kernel
    simp only [piled_cons, piled_nil] at h1
    rw [e]
    omega
theorem cell_show {c : Int} (h : CellOk c) : decide (c.natAbs.log2 < 1920) = true := by
  obtain ⟨h0, h1⟩ := h
  obtain rfl | rfl | rfl | rfl | rfl | rfl : c = 0 ∨ c = 1 ∨ c = 2 ∨ c = 3 ∨ c = 4 ∨ c = 5 := by omega
  all_goals decide +kernel
theorem dd_show {d : Deed} (h : DdC d) : (dD d).showable = true := by
  have e1 : decide ((1 : Int).natAbs.log2 < 1920) = true := by decide +kernel
  cases d with
  | put x => simp only [dD, pcD, PyData.showable, PyData.showableAll, cell_show h.2, e1, Bool.and_self]
  | exc x => simp only [dD, pcD, PyData.showable, PyData.showableAll, cell_show h.2, e1, Bool.and_self]
  | tak n => rfl
theorem dd_dict (d : Deed) : (dD d).hasDict = false := by
  cases d with
  | put x => simp [dD, pcD, PyData.hasDict, PyData.hasDictAll]
  | exc x => simp [dD, pcD, PyData.hasDict, PyData.hasDictAll]
  | tak n => rfl
theorem dd_deep (d : Deed) : (dD d).depth ≤ 60 := by
  cases d with
  | put x => simp [dD, pcD, PyData.depth, PyData.depthAll]
  | exc x => simp [dD, pcD, PyData.depth, PyData.depthAll]
  | tak n => simp [dD, PyData.depth, PyData.depthAll]
theorem rc_reprD {K : PySem.W.Frag} {d : Deed} {P : Ow → Prop} (h : DdC d) (q : P (.d (.str (dD d).shown))) : RCX K (rRepr K) [.d (dD d)] P := by
  cases d with
  | put x => exact rc_repr (dd_show (d := .put x) h) (dd_dict (.put x)) (dd_deep (.put x)) (dd_le (d := .put x) h) q
  | exc x => exact rc_repr (dd_show (d := .exc x) h) (dd_dict (.exc x)) (dd_deep (.exc x)) (dd_le (d := .exc x) h) q
  | tak n => exact rc_repr (dd_show (d := .tak n) h) (dd_dict (.tak n)) (dd_deep (.tak n)) (dd_le (d := .tak n) h) q
end LKD
set_option maxRecDepth 100000
set_option maxHeartbeats 4000000
set_option autoImplicit false
namespace K79
open PySem L2 PyProof.Rows PL MV
def topS (i : Nat) : Stmt := PySem.Challenge.pw_weldmill_k79_linkers_by_deeds.main.body.getD i (.Pass ⟨0, 0, 0, 0⟩)
end K79
set_option maxRecDepth 100000
set_option maxHeartbeats 8000000
set_option autoImplicit false
namespace K79
open PySem L2 PyProof.Rows PL MV LKD
local macro_rules | `(tactic| walk_at "rf") => `(tactic| exact rfl)
local macro_rules | `(tactic| walk_at "gf") => `(tactic| repeat' (first
  | exact getF_hit
  | exact setF_hit
  | refine getF_miss (by decide +kernel) ?_
  | refine setF_miss (by decide +kernel) ?_
  | exact rfl))
local macro_rules | `(tactic| walk_at "bk") => `(tactic| simp [BackOk, Ow.cp])
local macro_rules | `(tactic| walk_at "as") => `(tactic| assumption)
local macro_rules | `(tactic| walk_at "tr") => `(tactic| exact trivial)
local macro_rules | `(tactic| walk_at "pw") => `(tactic| exact ⟨by decide, by decide, by decide⟩)
local macro_rules | `(tactic| walk_at "cm") => `(tactic| (unfold CMul; first
  | (left; decide)
  | (right; decide)
  | (left; refine ⟨?_, ?_⟩ <;> omega)
  | (right; refine ⟨?_, ?_⟩ <;> omega)))
local macro_rules | `(tactic| walk_at "sd") => `(tactic| first
  | exact rfl
  | exact Nat.le_of_ble_eq_true rfl
  | (with_reducible assumption)
  | decide
  | omega
  | (simp only [List.length_cons, List.length_nil, List.length_append, List.length_set, List.length_replicate, List.length_map]; omega)
  | (refine ⟨?_, ?_⟩ <;> (first | decide | omega)))
local macro_rules | `(tactic| walk_at "sz") => `(tactic| first
  | decide
  | (with_reducible assumption)
  | (rw [sizeLine_eq]; omega)
  | (rw [sizeLine_eq]; simp only [List.length_cons, List.length_nil, List.length_append, List.length_set, List.length_replicate, List.length_map]; omega))
local macro_rules | `(tactic| walk_at "st") => `(tactic| first
  | ((with_reducible show Fill _ _ _ _); first | (apply fill_bor; (· exact rfl)) | apply fill_val | apply fill_nil)
  | ((with_reducible show RCX _ _ _ _); dsimp only [List.map, Arg.ow])
  | ((with_reducible show f_law_next _ _); refine use_next ?_ ?_; (· walk_at "sd"))
  | ((with_reducible apply xe_eqV); (· exact rfl); (· intro _; exact rfl); intro _ _)
  | ((with_reducible apply xe_lenV); (· exact rfl); intro _)
  | ((with_reducible apply xa_own); (· walk_at "rf"); (· walk_at "rf"); intro _)
  | ((with_reducible apply xa_vs); (· walk_at "rf"))
  | ((with_reducible apply xe_ixV); (· walk_at "rf"); (· walk_at "rf"); (· walk_at "rf"))
  | ((with_reducible apply xe_ixC); (· walk_at "rf"); (· walk_at "rf"))
  | ((with_reducible apply xe_fldV); (· walk_at "rf"); (· walk_at "as"); (· walk_at "as"); (· walk_at "gf"); (· walk_at "tr"))
  | ((with_reducible apply xe_methV); (· walk_at "rf"); (· walk_at "gf"))
  | (with_reducible refine L2.iteT ?_)
  | (with_reducible refine L2.iteF ?_)
  | (with_reducible refine xs_if ?_)
  | (with_reducible refine xs_next ?_)
  | (with_reducible refine xs_retN ?_)
  | (with_reducible refine xs_ret ?_)
  | (with_reducible refine xe_op ?_)
  | (with_reducible refine xe_int ?_)
  | (with_reducible refine xe_str ?_)
  | (with_reducible refine xe_bl ?_)
  | (with_reducible refine xe_non ?_)
  | (with_reducible refine xa_nil ?_)
  | (with_reducible refine xa_cons ?_)
  | (with_reducible refine xe_tup ?_)
  | (with_reducible refine xe_lst ?_)
  | (with_reducible refine xe_call ?_)
  | (with_reducible refine xe_cb ?_)
  | (with_reducible refine xe_if ?_)
  | (with_reducible refine xe_neg ?_)
  | (with_reducible refine xt_tst ?_)
  | (with_reducible refine xt_and ?_)
  | (with_reducible refine xt_or ?_)
  | (with_reducible refine xt_not ?_)
  | (with_reducible refine xt_yes ?_)
  | (with_reducible refine r2_plus_int ?_)
  | (with_reducible refine r2_sub ?_)
  | (with_reducible refine r2_lt ?_)
  | (with_reducible refine r2_le ?_)
  | (with_reducible refine r2_gt ?_)
  | (with_reducible refine r2_ge ?_)
  | (with_reducible refine r2_eq_int ?_)
  | (with_reducible refine r2_eq_str ?_)
  | (with_reducible refine r2_ne_int ?_)
  | (with_reducible refine r2_ne_str ?_)
  | (with_reducible refine r2_isN ?_)
  | (with_reducible refine r2_notN ?_)
  | (with_reducible refine r2_eq_bool ?_)
  | (with_reducible refine r2_ne_bool ?_)
  | (with_reducible refine rc_len_tup ?_)
  | (with_reducible refine rc_len_scr ?_)
  | (with_reducible refine rc_min2 ?_)
  | (with_reducible refine rc_max2 ?_)
  | (with_reducible refine rc_int_bool ?_)
  | (with_reducible refine rc_abs ?_)
  | (with_reducible refine xgs_nil ?_)
  | (with_reducible refine xe_andV ?_)
  | (with_reducible refine xe_orV ?_)
  | (with_reducible refine xe_notV ?_)
  | (with_reducible refine xe_slice ?_)
  | (with_reducible refine xo_none ?_)
  | (with_reducible refine xo_some ?_)
  | (with_reducible refine xi_range1 ?_)
  | (with_reducible refine xi_range2 ?_)
  | (with_reducible refine xi_list ?_)
  | (with_reducible refine xi_tup ?_)
  | (with_reducible refine slx_tup ?_)
  | ((with_reducible apply xg_name); (· walk_at "sd"); (· walk_at "sd"))
  | ((with_reducible apply xg_tup); (· walk_at "rf"))
  | ((with_reducible apply xe_vd); (· walk_at "rf"))
  | ((with_reducible apply xe_vs); (· walk_at "rf"))
  | ((with_reducible apply r2_ix_list); (· walk_at "rf"); (· walk_at "rf"))
  | ((with_reducible apply r2_ix_tup); (· walk_at "rf"))
  | ((with_reducible apply rc_len); (· walk_at "rf"))
  | ((with_reducible apply slx_list); (· walk_at "rf"))
  | ((with_reducible apply r2_plus_list); (· walk_at "rf"); (· walk_at "rf"); (· walk_at "sz"))
  | ((with_reducible refine xs_asg ?_ ?_ ?_); (· walk_at "sd"); (· walk_at "sd"))
  | ((with_reducible refine r2_times_int ?_ ?_); (· walk_at "cm"))
  | ((with_reducible refine r2_mod ?_ ?_); (· walk_at "sd"))
  | ((with_reducible refine r2_fdiv ?_ ?_); (· walk_at "sd"))
  | ((with_reducible refine r2_pow ?_ ?_); (· walk_at "pw"))
  | ((with_reducible refine r2_plus_str ?_ ?_); (· walk_at "sz"))
  | ((with_reducible refine r2_plus_tup ?_ ?_); (· walk_at "sz"))
  | ((with_reducible refine rc_str_int ?_ ?_); (· walk_at "sd"))
  | ((with_reducible refine rc_len_str ?_ ?_); (· walk_at "sz"))
  | ((with_reducible refine slx_str ?_ ?_); (· walk_at "sz"))
  | (with_reducible apply xs_asgG)
  | (with_reducible apply xgs_cons)
  | ((with_reducible apply Exists.intro); (with_reducible apply And.intro); (· exact rfl); (with_reducible apply And.intro); (· walk_at "sz"))
  | ((with_reducible apply Exists.intro); (with_reducible apply And.intro); (· exact rfl))
  | ((with_reducible apply And.intro); (· exact rfl))
  | ((with_reducible show ∀ _ : V, _); intro _)
  | fail)
local macro_rules | `(tactic| walk_at "gs") => `(tactic| repeat' (walk_at "st"))
local macro_rules | `(tactic| walk_at "go") => `(tactic| repeat' (first | (with_reducible refine xs_seq ?_) | walk_at "st"))

abbrev s_law_fill : Stmt := topS 10
theorem sc_law_fill : FnScope ["_law_cell", "_law_at", "_law_x"] ["_law_cell", "_law_at"] (defScope s_law_fill) := ⟨rfl, rfl, rfl, by decide +kernel, rfl, by decide +kernel, by decide +kernel⟩

def f_law_fill : FS := fun os P => ∃ (c a : Int), os = [.d (.int c), .d (.int a)] ∧ 0 ≤ a ∧ ∀ r : Int, 0 ≤ r → P (.d (.int r)) os
theorem len_law_fill : ∀ os P, f_law_fill os P → os.length = ["_law_cell", "_law_at"].length := by
  rintro os P ⟨c, a, rfl, _⟩
  rfl

theorem ok_law_fill {P : Program} {w : World} {K : PySem.W.Frag} {mg : Str → Option Value} {base : Heap} (S : Std K mg "_law_fill" s_law_fill ["_law_cell", "_law_at"]) : Cal P w K mg base 1 "_law_fill" ["_law_cell", "_law_at"] f_law_fill := by
  refine cal_of [] S sc_law_fill (by decide) (len_law_fill) fun a cdv A outer s H vs Q E hr => ?_
  have sc := sc_law_fill
  let nm : List Str := ["_law_cell", "_law_at", "_law_x"]
  let sco := defScope s_law_fill
  refine ⟨_, (pss_cons (ps_if (pt_cmpR op_ge (pv 0) (pe_op op_pow pe_int pe_int) (nomark _))
 (pss_one (ps_ret (pv 0)))
 pss_nil)
 (pss_cons (ps_set (i := 2) sc.nd rfl (Or.inl rfl) (pe_op op_mod (pe_op (r := rPlus K) op_plus (pe_op (r := rPlus K) op_plus (pe_op op_times (pe_op op_mod (pv 0) pe_int) pe_int) (pe_op op_times (pv 1) pe_int)) pe_int) pe_int))
 (pss_cons (ps_set (i := 2) sc.nd rfl (Or.inl rfl) (pe_op op_mod (pe_op (r := rPlus K) op_plus (pe_op (r := rPlus K) op_plus (pe_op op_times (pv 2) (pv 2)) (pe_op op_times pe_int (pv 2))) (pv 1)) pe_int))
 (pss_one (ps_ret (pe_op (r := rPlus K) op_plus (pe_op op_times (pv 2) pe_int) (pe_op op_mod (pe_op (r := rPlus K) op_plus (pe_op op_times (pv 2) (pv 2)) (pe_op op_times pe_int (pv 1))) pe_int))))))), ?_⟩
  clear sc nm sco
  try dsimp only [cxOf, Cx.nox, Cx.wish]

  rintro os P ⟨c, a, rfl, ha, q⟩
  refine ⟨by walk_at "bk", ?_⟩
  show XS K _ _ _ [.d (.int c), .d (.int a), .any]
  walk_at "go"
  refine ifd (fun h1 => ?_) fun h1 => ?_
  · walk_at "go"
    have h2 : (1000000000000000000 : Int) ≤ c := h1
    exact ⟨Nat.le_of_ble_eq_true rfl, q c (by omega)⟩
  · walk_at "go"
    exact ⟨Nat.le_of_ble_eq_true rfl, q _ (Int.add_nonneg (Int.mul_nonneg (Int.emod_nonneg _ (by decide)) (by decide)) (Int.emod_nonneg _ (by decide)))⟩

end K79
set_option maxRecDepth 100000
set_option maxHeartbeats 8000000
set_option autoImplicit false
namespace K79
open PySem L2 PyProof.Rows PL MV LKD
local macro_rules | `(tactic| walk_at "rf") => `(tactic| exact rfl)
local macro_rules | `(tactic| walk_at "gf") => `(tactic| repeat' (first
  | exact getF_hit
  | exact setF_hit
  | refine getF_miss (by decide +kernel) ?_
  | refine setF_miss (by decide +kernel) ?_
  | exact rfl))
local macro_rules | `(tactic| walk_at "bk") => `(tactic| simp [BackOk, Ow.cp])
local macro_rules | `(tactic| walk_at "as") => `(tactic| assumption)
local macro_rules | `(tactic| walk_at "tr") => `(tactic| exact trivial)
local macro_rules | `(tactic| walk_at "pw") => `(tactic| exact ⟨by decide, by decide, by decide⟩)
local macro_rules | `(tactic| walk_at "cm") => `(tactic| (unfold CMul; first
  | (left; decide)
  | (right; decide)
  | (left; refine ⟨?_, ?_⟩ <;> omega)
  | (right; refine ⟨?_, ?_⟩ <;> omega)))
local macro_rules | `(tactic| walk_at "sd") => `(tactic| first
  | exact rfl
  | exact Nat.le_of_ble_eq_true rfl
  | (with_reducible assumption)
  | decide
  | omega
  | (simp only [List.length_cons, List.length_nil, List.length_append, List.length_set, List.length_replicate, List.length_map]; omega)
  | (refine ⟨?_, ?_⟩ <;> (first | decide | omega)))
local macro_rules | `(tactic| walk_at "sz") => `(tactic| first
  | decide
  | (with_reducible assumption)
  | (rw [sizeLine_eq]; omega)
  | (rw [sizeLine_eq]; simp only [List.length_cons, List.length_nil, List.length_append, List.length_set, List.length_replicate, List.length_map]; omega))
local macro_rules | `(tactic| walk_at "st") => `(tactic| first
  | ((with_reducible show Fill _ _ _ _); first | (apply fill_bor; (· exact rfl)) | apply fill_val | apply fill_nil)
  | ((with_reducible show RCX _ _ _ _); dsimp only [List.map, Arg.ow])
  | ((with_reducible show f_law_next _ _); refine use_next ?_ ?_; (· walk_at "sd"))
  | ((with_reducible apply xe_eqV); (· exact rfl); (· intro _; exact rfl); intro _ _)
  | ((with_reducible apply xe_lenV); (· exact rfl); intro _)
  | ((with_reducible apply xa_own); (· walk_at "rf"); (· walk_at "rf"); intro _)
  | ((with_reducible apply xa_vs); (· walk_at "rf"))
  | ((with_reducible apply xe_ixV); (· walk_at "rf"); (· walk_at "rf"); (· walk_at "rf"))
  | ((with_reducible apply xe_ixC); (· walk_at "rf"); (· walk_at "rf"))
  | ((with_reducible apply xe_fldV); (· walk_at "rf"); (· walk_at "as"); (· walk_at "as"); (· walk_at "gf"); (· walk_at "tr"))
  | ((with_reducible apply xe_methV); (· walk_at "rf"); (· walk_at "gf"))
  | (with_reducible refine L2.iteT ?_)
  | (with_reducible refine L2.iteF ?_)
  | (with_reducible refine xs_if ?_)
  | (with_reducible refine xs_next ?_)
  | (with_reducible refine xs_retN ?_)
  | (with_reducible refine xs_ret ?_)
  | (with_reducible refine xe_op ?_)
  | (with_reducible refine xe_int ?_)
  | (with_reducible refine xe_str ?_)
  | (with_reducible refine xe_bl ?_)
  | (with_reducible refine xe_non ?_)
  | (with_reducible refine xa_nil ?_)
  | (with_reducible refine xa_cons ?_)
  | (with_reducible refine xe_tup ?_)
  | (with_reducible refine xe_lst ?_)
  | (with_reducible refine xe_call ?_)
  | (with_reducible refine xe_cb ?_)
  | (with_reducible refine xe_if ?_)
  | (with_reducible refine xe_neg ?_)
  | (with_reducible refine xt_tst ?_)
  | (with_reducible refine xt_and ?_)
  | (with_reducible refine xt_or ?_)
  | (with_reducible refine xt_not ?_)
  | (with_reducible refine xt_yes ?_)
  | (with_reducible refine r2_plus_int ?_)
  | (with_reducible refine r2_sub ?_)
  | (with_reducible refine r2_lt ?_)
  | (with_reducible refine r2_le ?_)
  | (with_reducible refine r2_gt ?_)
  | (with_reducible refine r2_ge ?_)
  | (with_reducible refine r2_eq_int ?_)
  | (with_reducible refine r2_eq_str ?_)
  | (with_reducible refine r2_ne_int ?_)
  | (with_reducible refine r2_ne_str ?_)
  | (with_reducible refine r2_isN ?_)
  | (with_reducible refine r2_notN ?_)
  | (with_reducible refine r2_eq_bool ?_)
  | (with_reducible refine r2_ne_bool ?_)
  | (with_reducible refine rc_len_tup ?_)
  | (with_reducible refine rc_len_scr ?_)
  | (with_reducible refine rc_min2 ?_)
  | (with_reducible refine rc_max2 ?_)
  | (with_reducible refine rc_int_bool ?_)
  | (with_reducible refine rc_abs ?_)
  | (with_reducible refine xgs_nil ?_)
  | (with_reducible refine xe_andV ?_)
  | (with_reducible refine xe_orV ?_)
  | (with_reducible refine xe_notV ?_)
  | (with_reducible refine xe_slice ?_)
  | (with_reducible refine xo_none ?_)
  | (with_reducible refine xo_some ?_)
  | (with_reducible refine xi_range1 ?_)
  | (with_reducible refine xi_range2 ?_)
  | (with_reducible refine xi_list ?_)
  | (with_reducible refine xi_tup ?_)
  | (with_reducible refine slx_tup ?_)
  | ((with_reducible apply xg_name); (· walk_at "sd"); (· walk_at "sd"))
  | ((with_reducible apply xg_tup); (· walk_at "rf"))
  | ((with_reducible apply xe_vd); (· walk_at "rf"))
  | ((with_reducible apply xe_vs); (· walk_at "rf"))
  | ((with_reducible apply r2_ix_list); (· walk_at "rf"); (· walk_at "rf"))
  | ((with_reducible apply r2_ix_tup); (· walk_at "rf"))
  | ((with_reducible apply rc_len); (· walk_at "rf"))
  | ((with_reducible apply slx_list); (· walk_at "rf"))
  | ((with_reducible apply r2_plus_list); (· walk_at "rf"); (· walk_at "rf"); (· walk_at "sz"))
  | ((with_reducible refine xs_asg ?_ ?_ ?_); (· walk_at "sd"); (· walk_at "sd"))
  | ((with_reducible refine r2_times_int ?_ ?_); (· walk_at "cm"))
  | ((with_reducible refine r2_mod ?_ ?_); (· walk_at "sd"))
  | ((with_reducible refine r2_fdiv ?_ ?_); (· walk_at "sd"))
  | ((with_reducible refine r2_pow ?_ ?_); (· walk_at "pw"))
  | ((with_reducible refine r2_plus_str ?_ ?_); (· walk_at "sz"))
  | ((with_reducible refine r2_plus_tup ?_ ?_); (· walk_at "sz"))
  | ((with_reducible refine rc_str_int ?_ ?_); (· walk_at "sd"))
  | ((with_reducible refine rc_len_str ?_ ?_); (· walk_at "sz"))
  | ((with_reducible refine slx_str ?_ ?_); (· walk_at "sz"))
  | (with_reducible apply xs_asgG)
  | (with_reducible apply xgs_cons)
  | ((with_reducible apply Exists.intro); (with_reducible apply And.intro); (· exact rfl); (with_reducible apply And.intro); (· walk_at "sz"))
  | ((with_reducible apply Exists.intro); (with_reducible apply And.intro); (· exact rfl))
  | ((with_reducible apply And.intro); (· exact rfl))
  | ((with_reducible show ∀ _ : V, _); intro _)
  | fail)
local macro_rules | `(tactic| walk_at "gs") => `(tactic| repeat' (walk_at "st"))
local macro_rules | `(tactic| walk_at "go") => `(tactic| repeat' (first | (with_reducible refine xs_seq ?_) | walk_at "st"))

abbrev s_law_next : Stmt := topS 11
theorem sc_law_next : FnScope ["_law_pen", "_law_many", "_law_at", "_law_cell", "_law_found"] ["_law_pen", "_law_many"] (defScope s_law_next) := ⟨rfl, rfl, rfl, by decide +kernel, rfl, by decide +kernel, by decide +kernel⟩

def f_law_next : FS := fun os P => ∃ (ns : List Int) (m : Int), os = [.pen ns, .d (.int m)] ∧ (0 < m ∧ m < 1073741824) ∧ ∀ r : Int, 0 ≤ r → r < m → P (.d (.int r)) os
theorem use_next {ns : List Int} {m : Int} {P : Ow → List Ow → Prop} (h : 0 < m ∧ m < 1073741824) (q : ∀ r : Int, 0 ≤ r → r < m → P (.d (.int r)) [.pen ns, .d (.int m)]) : f_law_next [.pen ns, .d (.int m)] P := ⟨ns, m, rfl, h, q⟩
theorem len_law_next : ∀ os P, f_law_next os P → os.length = ["_law_pen", "_law_many"].length := by
  rintro os P ⟨c, a, rfl, _⟩
  rfl

theorem ok_law_next {P : Program} {w : World} {K : PySem.W.Frag} {mg : Str → Option Value} {base : Heap} (S : Std K mg "_law_next" s_law_next ["_law_pen", "_law_many"]) (C_law_fill : Cal P w K mg base 1 "_law_fill" ["_law_cell", "_law_at"] f_law_fill) (z_len : mg "len" = none) : Cal P w K mg base 2 "_law_next" ["_law_pen", "_law_many"] f_law_next := by
  obtain ⟨a_law_fill, fd_law_fill, G_law_fill, g_law_fill, k_law_fill, b_law_fill⟩ := C_law_fill
  refine cal_of [true, false] S sc_law_next (by decide) (len_law_next) fun a cdv A outer s H vs Q E hr => ?_
  have sc := sc_law_next
  let nm : List Str := ["_law_pen", "_law_many", "_law_at", "_law_cell", "_law_found"]
  let sco := defScope s_law_next
  refine ⟨_, (pss_cons (ps_if (pt_cmpR op_lt (pe_ix (r := rIx K) ix_seq (pv 0) pe_int (fun _ _ => rfl)) (pv 1) (nomark _))
 (pss_cons (ps_set (i := 2) sc.nd rfl (Or.inl rfl) (pe_ix (r := rIx K) ix_seq (pv 0) pe_int (fun _ _ => rfl)))
 (pss_cons (ps_set (i := 3) sc.nd rfl (Or.inl rfl) pe_int)
 (pss_cons (ps_if (pt_cmpR op_lt (pv 2) (pe_callB (r := rLenK K) call_len (by rfl) z_len (by decide +kernel) (pa_cons (pe_ix (r := rIx K) ix_seq (pv 0) pe_int (fun _ _ => rfl)) pa_nil)) (nomark _))
 (pss_one (ps_set (i := 3) sc.nd rfl (Or.inl rfl) (pe_ix (r := rIx K) ix_seq (pe_ix (r := rIx K) ix_seq (pv 0) pe_int (fun _ _ => rfl)) (pv 2) (fun _ _ => rfl))))
 (pss_one (ps_if (pt_cmpR op_gt (pe_callB (r := rLenK K) call_len (by rfl) z_len (by decide +kernel) (pa_cons (pe_ix (r := rIx K) ix_seq (pv 0) pe_int (fun _ _ => rfl)) pa_nil)) pe_int (nomark _))
 (pss_one (ps_set (i := 3) sc.nd rfl (Or.inl rfl) (pe_op (r := rPlus K) op_plus (pe_op op_mod (pe_ix (r := rIx K) ix_seq (pe_ix (r := rIx K) ix_seq (pv 0) pe_int (fun _ _ => rfl)) (pe_op op_mod (pe_op op_times (pv 2) pe_int) (pe_callB (r := rLenK K) call_len (by rfl) z_len (by decide +kernel) (pa_cons (pe_ix (r := rIx K) ix_seq (pv 0) pe_int (fun _ _ => rfl)) pa_nil))) (fun _ _ => rfl)) pe_int) (pe_op op_times (pv 2) pe_int))))
 pss_nil)))
 (pss_cons (ps_asg (pe_op (r := rPlus K) op_plus (pv 2) pe_int) (pg_sub (pv 0) pe_int set_list))
 (pss_one (ps_asg (pe_call G_law_fill (hr.mono (by decide)) (by rfl) g_law_fill k_law_fill b_law_fill .nil pass0 (pa_cons (pv 3) (pa_cons (pv 2) pa_nil))) (pg_sub (pv 0) pe_int set_list)))))))
 pss_nil)
 (pss_cons (ps_set (i := 4) sc.nd rfl (Or.inl rfl) (pe_op op_mod (pe_ix (r := rIx K) ix_seq (pv 0) pe_int (fun _ _ => rfl)) (pv 1)))
 (pss_cons (ps_asg (pe_op op_fdiv (pe_ix (r := rIx K) ix_seq (pv 0) pe_int (fun _ _ => rfl)) (pv 1)) (pg_sub (pv 0) pe_int set_list))
 (pss_one (ps_ret (pv 4)))))), ?_⟩
  clear sc nm sco
  try dsimp only [cxOf, Cx.nox, Cx.wish]

  rintro os P ⟨ns, m, rfl, ⟨hm0, hm1⟩, q⟩
  refine ⟨by walk_at "bk", ?_⟩
  show XS K _ _ _ [.pen ns, .d (.int m), .any, .any, .any]
  refine xs_openPen 0 rfl fun a c ha hc => ?_
  show XS K _ _ _ [.lst [.scr ns, .d (.int a), .d (.int c)], .d (.int m), .any, .any, .any]
  refine xs_cut (fun ρ => ∃ (a c : Int) (s2 s3 : Ow), 0 ≤ a ∧ 0 ≤ c ∧ ρ = [.lst [.scr ns, .d (.int a), .d (.int c)], .d (.int m), s2, s3, .any]) ?_ ?_
  · refine xs_if (xt_tst (xe_opWV (xw_path (xp_ix (xp_var rfl (by nofun)) rfl xv_int rfl rfl) rfl (by nofun)) ⟨_, xv_var rfl, r2_lt ⟨_, rfl, ?_⟩⟩))
    refine ifd (fun h1 => ?_) fun h1 => ?_
    · refine xs_seq (xs_asg (by walk_at "sd") (by decide) (xe_path (xp_ix (xp_var rfl (by nofun)) rfl xv_int rfl rfl) rfl trivial ⟨_, rfl, rfl, ?_⟩))
      refine xs_seq ?_
      walk_at "gs"
      show XS K _ _ _ [.lst [.scr ns, .d (.int a), .d (.int c)], .d (.int m), .d (.int a), .d (.int 0), .any]
      refine xs_cut (fun ρ => ∃ (z : Int), ρ = [.lst [.scr ns, .d (.int a), .d (.int c)], .d (.int m), .d (.int a), .d (.int z), .any]) ?_ ?_
      · refine xs_if (xt_tst (xe_op (xe_vd rfl (xe_cbW (xw_path (xp_ix (xp_var rfl (by nofun)) rfl xv_int rfl rfl) rfl (by nofun)) (rc_len_scr (r2_lt ⟨_, rfl, ?_⟩))))))
        refine ifd (fun h2 => ?_) fun h2 => ?_
        · refine xs_asg (by walk_at "sd") (by decide) (xe_opWV (xw_path (xp_ix (xp_var rfl (by nofun)) rfl xv_int rfl rfl) rfl (by nofun)) ⟨_, xv_var rfl, ix_scrI ha h2 fun n => ⟨_, rfl, rfl, ?_⟩⟩)
          exact ⟨_, rfl⟩
        · refine xs_if (xt_tst (xe_op (xe_cbW (xw_path (xp_ix (xp_var rfl (by nofun)) rfl xv_int rfl rfl) rfl (by nofun)) (rc_len_scr (xe_int (r2_gt ⟨_, rfl, ?_⟩))))))
          refine ifd (fun h3 => ?_) fun h3 => ?_
          · refine xs_asg (by walk_at "sd") (by decide) (xe_n (xn_op (xn_op (xn_opW (xw_path (xp_ix (xp_var rfl (by nofun)) rfl xv_int rfl rfl) rfl (by nofun)) (xn_op (xn_op (xn_vd rfl (xn_int (r2_times_int (.inr (by decide)) (xn_w (xw_path (xp_ix (xp_var rfl (by nofun)) rfl xv_int rfl rfl) rfl (by nofun)) (rc_len_scr (r2_mod h3 (ix_scrI (Int.emod_nonneg _ (by omega)) (Int.emod_lt_of_pos _ h3) fun n => xn_int (r2_mod (by decide) (xn_op (xn_vd rfl (xn_int (r2_times_int (.inr (by decide)) (r2_plus_int ⟨_, rfl, rfl, ?_⟩)))))))))))))))))))
            exact ⟨_, rfl⟩
          · refine xs_next ⟨_, rfl⟩
      · rintro _ ⟨z, rfl⟩
        refine xs_seq (xs_setO (xe_n (xn_op (xn_vd rfl (xn_int (r2_plus_int ⟨xp_var rfl (by nofun), 1, _, 1, xv_int, rfl, rfl, ?_⟩))))))
        show XS K _ _ _ [.lst [.scr ns, .d (.int (a + 1)), .d (.int c)], .d (.int m), .d (.int a), .d (.int z), .any]
        refine xs_setO (i := 0) (q := []) (xe_call (xa_cons (xe_vd rfl ⟨_, rfl, xa_cons (xe_vd rfl ⟨_, rfl, xa_nil ?_⟩)⟩)))
        refine ⟨z, a, rfl, ha, fun r hr => ?_⟩
        refine fill_val (fill_val (fill_nil ⟨xp_var rfl (by nofun), 2, _, 2, xv_int, rfl, rfl, ?_⟩))
        exact ⟨a + 1, r, _, _, by omega, hr, rfl⟩
    · exact xs_next ⟨a, c, _, _, ha, hc, rfl⟩
  · rintro _ ⟨a, c, s2, s3, ha, hc, rfl⟩
    refine xs_seq (xs_asg (by walk_at "sd") (by decide) (xe_opWV (xw_path (xp_ix (xp_var rfl (by nofun)) rfl xv_int rfl rfl) rfl (by nofun)) ⟨_, xv_var rfl, r2_mod hm0 ⟨_, rfl, rfl, ?_⟩⟩))
    refine xs_seq (xs_setO (xe_opWV (xw_path (xp_ix (xp_var rfl (by nofun)) rfl xv_int rfl rfl) rfl (by nofun)) ⟨_, xv_var rfl, r2_fdiv ⟨hm0, hm1⟩ ⟨xp_var rfl (by nofun), 2, _, 2, xv_int, rfl, rfl, ?_⟩⟩))
    refine xs_see 0 (o' := .pen ns) rfl (by nofun) (fun Z H v F _ h => shutPen (.inl rfl) ha (Int.ediv_nonneg hc (Int.le_of_lt hm0)) h) ?_
    refine xs_ret (xe_vd rfl ⟨Nat.le_of_ble_eq_true rfl, ?_⟩)
    exact q _ (Int.emod_nonneg _ (by omega)) (Int.emod_lt_of_pos _ hm0)

end K79
set_option maxRecDepth 100000
set_option maxHeartbeats 8000000
set_option autoImplicit false
namespace K79
open PySem L2 PyProof.Rows PL MV LKD
local macro_rules | `(tactic| walk_at "rf") => `(tactic| exact rfl)
local macro_rules | `(tactic| walk_at "gf") => `(tactic| repeat' (first
  | exact getF_hit
  | exact setF_hit
  | refine getF_miss (by decide +kernel) ?_
  | refine setF_miss (by decide +kernel) ?_
  | exact rfl))
local macro_rules | `(tactic| walk_at "bk") => `(tactic| simp [BackOk, Ow.cp])
local macro_rules | `(tactic| walk_at "as") => `(tactic| assumption)
local macro_rules | `(tactic| walk_at "tr") => `(tactic| exact trivial)
local macro_rules | `(tactic| walk_at "pw") => `(tactic| exact ⟨by decide, by decide, by decide⟩)
local macro_rules | `(tactic| walk_at "cm") => `(tactic| (unfold CMul; first
  | (left; decide)
  | (right; decide)
  | (left; refine ⟨?_, ?_⟩ <;> omega)
  | (right; refine ⟨?_, ?_⟩ <;> omega)))
local macro_rules | `(tactic| walk_at "sd") => `(tactic| first
  | exact rfl
  | exact Nat.le_of_ble_eq_true rfl
  | (with_reducible assumption)
  | decide
  | omega
  | (simp only [List.length_cons, List.length_nil, List.length_append, List.length_set, List.length_replicate, List.length_map]; omega)
  | (refine ⟨?_, ?_⟩ <;> (first | decide | omega)))
local macro_rules | `(tactic| walk_at "sz") => `(tactic| first
  | decide
  | (with_reducible assumption)
  | (rw [sizeLine_eq]; omega)
  | (rw [sizeLine_eq]; simp only [List.length_cons, List.length_nil, List.length_append, List.length_set, List.length_replicate, List.length_map]; omega))
local macro_rules | `(tactic| walk_at "st") => `(tactic| first
  | ((with_reducible show Fill _ _ _ _); first | (apply fill_bor; (· exact rfl)) | apply fill_val | apply fill_nil)
  | ((with_reducible show RCX _ _ _ _); dsimp only [List.map, Arg.ow])
  | ((with_reducible show f_law_next _ _); refine use_next ?_ ?_; (· walk_at "sd"))
  | ((with_reducible apply xe_eqV); (· exact rfl); (· intro _; exact rfl); intro _ _)
  | ((with_reducible apply xe_lenV); (· exact rfl); intro _)
  | ((with_reducible apply xa_own); (· walk_at "rf"); (· walk_at "rf"); intro _)
  | ((with_reducible apply xa_vs); (· walk_at "rf"))
  | ((with_reducible apply xe_ixV); (· walk_at "rf"); (· walk_at "rf"); (· walk_at "rf"))
  | ((with_reducible apply xe_ixC); (· walk_at "rf"); (· walk_at "rf"))
  | ((with_reducible apply xe_fldV); (· walk_at "rf"); (· walk_at "as"); (· walk_at "as"); (· walk_at "gf"); (· walk_at "tr"))
  | ((with_reducible apply xe_methV); (· walk_at "rf"); (· walk_at "gf"))
  | (with_reducible refine L2.iteT ?_)
  | (with_reducible refine L2.iteF ?_)
  | (with_reducible refine xs_if ?_)
  | (with_reducible refine xs_next ?_)
  | (with_reducible refine xs_retN ?_)
  | (with_reducible refine xs_ret ?_)
  | (with_reducible refine xe_op ?_)
  | (with_reducible refine xe_int ?_)
  | (with_reducible refine xe_str ?_)
  | (with_reducible refine xe_bl ?_)
  | (with_reducible refine xe_non ?_)
  | (with_reducible refine xa_nil ?_)
  | (with_reducible refine xa_cons ?_)
  | (with_reducible refine xe_tup ?_)
  | (with_reducible refine xe_lst ?_)
  | (with_reducible refine xe_call ?_)
  | (with_reducible refine xe_cb ?_)
  | (with_reducible refine xe_if ?_)
  | (with_reducible refine xe_neg ?_)
  | (with_reducible refine xt_tst ?_)
  | (with_reducible refine xt_and ?_)
  | (with_reducible refine xt_or ?_)
  | (with_reducible refine xt_not ?_)
  | (with_reducible refine xt_yes ?_)
  | (with_reducible refine r2_plus_int ?_)
  | (with_reducible refine r2_sub ?_)
  | (with_reducible refine r2_lt ?_)
  | (with_reducible refine r2_le ?_)
  | (with_reducible refine r2_gt ?_)
  | (with_reducible refine r2_ge ?_)
  | (with_reducible refine r2_eq_int ?_)
  | (with_reducible refine r2_eq_str ?_)
  | (with_reducible refine r2_ne_int ?_)
  | (with_reducible refine r2_ne_str ?_)
  | (with_reducible refine r2_isN ?_)
  | (with_reducible refine r2_notN ?_)
  | (with_reducible refine r2_eq_bool ?_)
  | (with_reducible refine r2_ne_bool ?_)
  | (with_reducible refine rc_len_tup ?_)
  | (with_reducible refine rc_len_scr ?_)
  | (with_reducible refine rc_min2 ?_)
  | (with_reducible refine rc_max2 ?_)
  | (with_reducible refine rc_int_bool ?_)
  | (with_reducible refine rc_abs ?_)
  | (with_reducible refine xgs_nil ?_)
  | (with_reducible refine xe_andV ?_)
  | (with_reducible refine xe_orV ?_)
  | (with_reducible refine xe_notV ?_)
  | (with_reducible refine xe_slice ?_)
  | (with_reducible refine xo_none ?_)
  | (with_reducible refine xo_some ?_)
  | (with_reducible refine xi_range1 ?_)
  | (with_reducible refine xi_range2 ?_)
  | (with_reducible refine xi_list ?_)
  | (with_reducible refine xi_tup ?_)
  | (with_reducible refine slx_tup ?_)
  | ((with_reducible apply xg_name); (· walk_at "sd"); (· walk_at "sd"))
  | ((with_reducible apply xg_tup); (· walk_at "rf"))
  | ((with_reducible apply xe_vd); (· walk_at "rf"))
  | ((with_reducible apply xe_vs); (· walk_at "rf"))
  | ((with_reducible apply r2_ix_list); (· walk_at "rf"); (· walk_at "rf"))
  | ((with_reducible apply r2_ix_tup); (· walk_at "rf"))
  | ((with_reducible apply rc_len); (· walk_at "rf"))
  | ((with_reducible apply slx_list); (· walk_at "rf"))
  | ((with_reducible apply r2_plus_list); (· walk_at "rf"); (· walk_at "rf"); (· walk_at "sz"))
  | ((with_reducible refine xs_asg ?_ ?_ ?_); (· walk_at "sd"); (· walk_at "sd"))
  | ((with_reducible refine r2_times_int ?_ ?_); (· walk_at "cm"))
  | ((with_reducible refine r2_mod ?_ ?_); (· walk_at "sd"))
  | ((with_reducible refine r2_fdiv ?_ ?_); (· walk_at "sd"))
  | ((with_reducible refine r2_pow ?_ ?_); (· walk_at "pw"))
  | ((with_reducible refine r2_plus_str ?_ ?_); (· walk_at "sz"))
  | ((with_reducible refine r2_plus_tup ?_ ?_); (· walk_at "sz"))
  | ((with_reducible refine rc_str_int ?_ ?_); (· walk_at "sd"))
  | ((with_reducible refine rc_len_str ?_ ?_); (· walk_at "sz"))
  | ((with_reducible refine slx_str ?_ ?_); (· walk_at "sz"))
  | (with_reducible apply xs_asgG)
  | (with_reducible apply xgs_cons)
  | ((with_reducible apply Exists.intro); (with_reducible apply And.intro); (· exact rfl); (with_reducible apply And.intro); (· walk_at "sz"))
  | ((with_reducible apply Exists.intro); (with_reducible apply And.intro); (· exact rfl))
  | ((with_reducible apply And.intro); (· exact rfl))
  | ((with_reducible show ∀ _ : V, _); intro _)
  | fail)
local macro_rules | `(tactic| walk_at "gs") => `(tactic| repeat' (walk_at "st"))
local macro_rules | `(tactic| walk_at "go") => `(tactic| repeat' (first | (with_reducible refine xs_seq ?_) | walk_at "st"))

abbrev s_law_e_names : Stmt := topS 13
theorem sc_law_e_names : FnScope ["pen", "first"] ["pen"] (defScope s_law_e_names) := ⟨rfl, rfl, rfl, by decide +kernel, rfl, by decide +kernel, by decide +kernel⟩

def f_law_e_names : FS := fun os P => ∃ (ns : List Int), os = [.pen ns] ∧ ∀ nm : List Str, nm.length = 6 → (∀ x, x ∈ nm → NmOk x) → P (.ls (nm.map .str)) os
theorem len_law_e_names : ∀ os P, f_law_e_names os P → os.length = ["pen"].length := by
  rintro os P ⟨_, rfl, _⟩
  rfl

theorem ok_law_e_names {P : Program} {w : World} {K : PySem.W.Frag} {mg : Str → Option Value} {base : Heap} (S : Std K mg "_law_e_names" s_law_e_names ["pen"]) (C_law_next : Cal P w K mg base 2 "_law_next" ["_law_pen", "_law_many"] f_law_next) : Cal P w K mg base 3 "_law_e_names" ["pen"] f_law_e_names := by
  obtain ⟨a_law_next, fd_law_next, G_law_next, g_law_next, k_law_next, b_law_next⟩ := C_law_next
  refine cal_of [true] S sc_law_e_names (by decide) (len_law_e_names) fun a cdv A outer s H vs Q E hr => ?_
  have sc := sc_law_e_names
  let nm : List Str := ["pen", "first"]
  let sco := defScope s_law_e_names
  refine ⟨_, (pss_cons (ps_set (i := 1) sc.nd rfl (Or.inl rfl) (pe_ix (r := rIx K) ix_seq pe_str (pe_call G_law_next (hr.mono (by decide)) (by rfl) g_law_next k_law_next b_law_next .nil pass0 (pa_cons (pv 0) (pa_cons pe_int pa_nil))) (fun _ _ => rfl)))
 (pss_one (ps_ret (pe_lst (pa_cons (pv 1) (pa_cons (pe_op (r := rPlus K) op_plus (pv 1) (pv 1)) (pa_cons (pe_op (r := rPlus K) op_plus (pv 1) pe_str) (pa_cons (pe_op (r := rPlus K) op_plus (pv 1) pe_str) (pa_cons (pe_op (r := rPlus K) op_plus (pv 1) (pe_op op_times pe_str pe_int)) (pa_cons (pe_op (r := rPlus K) op_plus pe_str (pv 1)) pa_nil)))))))))), ?_⟩
  clear sc nm sco
  try dsimp only [cxOf, Cx.nox, Cx.wish]

  rintro os P ⟨ns, rfl, q⟩
  refine ⟨by walk_at "bk", ?_⟩
  show XS K _ _ _ [.pen ns, .any]
  refine xs_seq ?_
  walk_at "gs"
  intro i i0 i1
  obtain ⟨i, rfl⟩ := Int.eq_ofNat_of_zero_le i0
  obtain ⟨c, c1, c2⟩ := az_ok (i := i) (by omega)
  walk_at "gs"
  refine r2_ix_str (by decide +kernel) c1 ?_
  walk_at "gs"
  refine r2_plus_str (by show 1 + 1 ≤ sizeLine; decide) ?_
  walk_at "gs"
  refine r2_plus_str (by show 1 + 1 ≤ sizeLine; decide) ?_
  walk_at "gs"
  refine r2_plus_str (by show 1 + 2 ≤ sizeLine; decide) ?_
  walk_at "gs"
  refine r2_times_str (by decide) (by decide) (by decide) ?_
  walk_at "gs"
  refine r2_plus_str (Nat.le_trans (Nat.add_le_add_left (show (Txt.mul "z" 15).length ≤ 100 by decide +kernel) _) (by show 1 + 100 ≤ sizeLine; decide)) ?_
  walk_at "gs"
  refine r2_plus_str (by show 1 + 1 ≤ sizeLine; decide) ?_
  walk_at "gs"
  refine ⟨Nat.le_of_ble_eq_true rfl, ?_⟩
  refine q [⟨#[c]⟩, ⟨#[c]⟩ ++ ⟨#[c]⟩, ⟨#[c]⟩ ++ ("1" : Str), ⟨#[c]⟩ ++ ("12" : Str), ⟨#[c]⟩ ++ Txt.mul "z" 15, ("z" : Str) ++ ⟨#[c]⟩] rfl fun x hx => ?_
  simp only [List.mem_cons, List.not_mem_nil, or_false] at hx
  rcases hx with rfl | rfl | rfl | rfl | rfl | rfl
  · exact ⟨c2, by show 1 ≤ 17; decide⟩
  · exact ⟨strOk_app c2 c2, by rw [Str.length_append]; show 1 + 1 ≤ 17; decide⟩
  · exact ⟨strOk_app c2 (by decide +kernel), by rw [Str.length_append]; show 1 + 1 ≤ 17; decide⟩
  · exact ⟨strOk_app c2 (by decide +kernel), by rw [Str.length_append]; show 1 + 2 ≤ 17; decide⟩
  · exact ⟨strOk_app c2 (by decide +kernel), by rw [Str.length_append, show (Txt.mul "z" 15).length = 15 by decide +kernel]; show 1 + 15 ≤ 17; decide⟩
  · exact ⟨strOk_app (by decide +kernel) c2, by rw [Str.length_append]; show 1 + 1 ≤ 17; decide⟩

end K79
set_option maxRecDepth 100000
set_option maxHeartbeats 8000000
set_option autoImplicit false
namespace K79
open PySem L2 PyProof.Rows PL MV LKD
local macro_rules | `(tactic| walk_at "rf") => `(tactic| exact rfl)
local macro_rules | `(tactic| walk_at "gf") => `(tactic| repeat' (first
  | exact getF_hit
  | exact setF_hit
  | refine getF_miss (by decide +kernel) ?_
  | refine setF_miss (by decide +kernel) ?_
  | exact rfl))
local macro_rules | `(tactic| walk_at "bk") => `(tactic| simp [BackOk, Ow.cp])
local macro_rules | `(tactic| walk_at "as") => `(tactic| assumption)
local macro_rules | `(tactic| walk_at "tr") => `(tactic| exact trivial)
local macro_rules | `(tactic| walk_at "pw") => `(tactic| exact ⟨by decide, by decide, by decide⟩)
local macro_rules | `(tactic| walk_at "cm") => `(tactic| (unfold CMul; first
  | (left; decide)
  | (right; decide)
  | (left; refine ⟨?_, ?_⟩ <;> omega)
  | (right; refine ⟨?_, ?_⟩ <;> omega)))
local macro_rules | `(tactic| walk_at "sd") => `(tactic| first
  | exact rfl
  | exact Nat.le_of_ble_eq_true rfl
  | (with_reducible assumption)
  | decide
  | omega
  | (simp only [List.length_cons, List.length_nil, List.length_append, List.length_set, List.length_replicate, List.length_map]; omega)
  | (refine ⟨?_, ?_⟩ <;> (first | decide | omega)))
local macro_rules | `(tactic| walk_at "sz") => `(tactic| first
  | decide
  | (with_reducible assumption)
  | (rw [sizeLine_eq]; omega)
  | (rw [sizeLine_eq]; simp only [List.length_cons, List.length_nil, List.length_append, List.length_set, List.length_replicate, List.length_map]; omega))
local macro_rules | `(tactic| walk_at "st") => `(tactic| first
  | ((with_reducible show Fill _ _ _ _); first | (apply fill_bor; (· exact rfl)) | apply fill_val | apply fill_nil)
  | ((with_reducible show RCX _ _ _ _); dsimp only [List.map, Arg.ow])
  | ((with_reducible show f_law_next _ _); refine use_next ?_ ?_; (· walk_at "sd"))
  | ((with_reducible apply xe_eqV); (· exact rfl); (· intro _; exact rfl); intro _ _)
  | ((with_reducible apply xe_lenV); (· exact rfl); intro _)
  | ((with_reducible apply xa_own); (· walk_at "rf"); (· walk_at "rf"); intro _)
  | ((with_reducible apply xa_vs); (· walk_at "rf"))
  | ((with_reducible apply xe_ixV); (· walk_at "rf"); (· walk_at "rf"); (· walk_at "rf"))
  | ((with_reducible apply xe_ixC); (· walk_at "rf"); (· walk_at "rf"))
  | ((with_reducible apply xe_fldV); (· walk_at "rf"); (· walk_at "as"); (· walk_at "as"); (· walk_at "gf"); (· walk_at "tr"))
  | ((with_reducible apply xe_methV); (· walk_at "rf"); (· walk_at "gf"))
  | (with_reducible refine L2.iteT ?_)
  | (with_reducible refine L2.iteF ?_)
  | (with_reducible refine xs_if ?_)
  | (with_reducible refine xs_next ?_)
  | (with_reducible refine xs_retN ?_)
  | (with_reducible refine xs_ret ?_)
  | (with_reducible refine xe_op ?_)
  | (with_reducible refine xe_int ?_)
  | (with_reducible refine xe_str ?_)
  | (with_reducible refine xe_bl ?_)
  | (with_reducible refine xe_non ?_)
  | (with_reducible refine xa_nil ?_)
  | (with_reducible refine xa_cons ?_)
  | (with_reducible refine xe_tup ?_)
  | (with_reducible refine xe_lst ?_)
  | (with_reducible refine xe_call ?_)
  | (with_reducible refine xe_cb ?_)
  | (with_reducible refine xe_if ?_)
  | (with_reducible refine xe_neg ?_)
  | (with_reducible refine xt_tst ?_)
  | (with_reducible refine xt_and ?_)
  | (with_reducible refine xt_or ?_)
  | (with_reducible refine xt_not ?_)
  | (with_reducible refine xt_yes ?_)
  | (with_reducible refine r2_plus_int ?_)
  | (with_reducible refine r2_sub ?_)
  | (with_reducible refine r2_lt ?_)
  | (with_reducible refine r2_le ?_)
  | (with_reducible refine r2_gt ?_)
  | (with_reducible refine r2_ge ?_)
  | (with_reducible refine r2_eq_int ?_)
  | (with_reducible refine r2_eq_str ?_)
  | (with_reducible refine r2_ne_int ?_)
  | (with_reducible refine r2_ne_str ?_)
  | (with_reducible refine r2_isN ?_)
  | (with_reducible refine r2_notN ?_)
  | (with_reducible refine r2_eq_bool ?_)
  | (with_reducible refine r2_ne_bool ?_)
  | (with_reducible refine rc_len_tup ?_)
  | (with_reducible refine rc_len_scr ?_)
  | (with_reducible refine rc_min2 ?_)
  | (with_reducible refine rc_max2 ?_)
  | (with_reducible refine rc_int_bool ?_)
  | (with_reducible refine rc_abs ?_)
  | (with_reducible refine xgs_nil ?_)
  | (with_reducible refine xe_andV ?_)
  | (with_reducible refine xe_orV ?_)
  | (with_reducible refine xe_notV ?_)
  | (with_reducible refine xe_slice ?_)
  | (with_reducible refine xo_none ?_)
  | (with_reducible refine xo_some ?_)
  | (with_reducible refine xi_range1 ?_)
  | (with_reducible refine xi_range2 ?_)
  | (with_reducible refine xi_list ?_)
  | (with_reducible refine xi_tup ?_)
  | (with_reducible refine slx_tup ?_)
  | ((with_reducible apply xg_name); (· walk_at "sd"); (· walk_at "sd"))
  | ((with_reducible apply xg_tup); (· walk_at "rf"))
  | ((with_reducible apply xe_vd); (· walk_at "rf"))
  | ((with_reducible apply xe_vs); (· walk_at "rf"))
  | ((with_reducible apply r2_ix_list); (· walk_at "rf"); (· walk_at "rf"))
  | ((with_reducible apply r2_ix_tup); (· walk_at "rf"))
  | ((with_reducible apply rc_len); (· walk_at "rf"))
  | ((with_reducible apply slx_list); (· walk_at "rf"))
  | ((with_reducible apply r2_plus_list); (· walk_at "rf"); (· walk_at "rf"); (· walk_at "sz"))
  | ((with_reducible refine xs_asg ?_ ?_ ?_); (· walk_at "sd"); (· walk_at "sd"))
  | ((with_reducible refine r2_times_int ?_ ?_); (· walk_at "cm"))
  | ((with_reducible refine r2_mod ?_ ?_); (· walk_at "sd"))
  | ((with_reducible refine r2_fdiv ?_ ?_); (· walk_at "sd"))
  | ((with_reducible refine r2_pow ?_ ?_); (· walk_at "pw"))
  | ((with_reducible refine r2_plus_str ?_ ?_); (· walk_at "sz"))
  | ((with_reducible refine r2_plus_tup ?_ ?_); (· walk_at "sz"))
  | ((with_reducible refine rc_str_int ?_ ?_); (· walk_at "sd"))
  | ((with_reducible refine rc_len_str ?_ ?_); (· walk_at "sz"))
  | ((with_reducible refine slx_str ?_ ?_); (· walk_at "sz"))
  | (with_reducible apply xs_asgG)
  | (with_reducible apply xgs_cons)
  | ((with_reducible apply Exists.intro); (with_reducible apply And.intro); (· exact rfl); (with_reducible apply And.intro); (· walk_at "sz"))
  | ((with_reducible apply Exists.intro); (with_reducible apply And.intro); (· exact rfl))
  | ((with_reducible apply And.intro); (· exact rfl))
  | ((with_reducible show ∀ _ : V, _); intro _)
  | fail)
local macro_rules | `(tactic| walk_at "gs") => `(tactic| repeat' (walk_at "st"))
local macro_rules | `(tactic| walk_at "go") => `(tactic| repeat' (first | (with_reducible refine xs_seq ?_) | walk_at "st"))

abbrev s_law_e_spot : Stmt := topS 14
theorem sc_law_e_spot : FnScope ["rows", "name", "found", "at"] ["rows", "name"] (defScope s_law_e_spot) := ⟨rfl, rfl, rfl, by decide +kernel, rfl, by decide +kernel, by decide +kernel⟩

def f_law_e_spot : FS := fun os P => ∃ (r : List Rw) (n : Str), os = [.d (.list (rD r)), .d (.str n)] ∧ r.length ≤ 1000 ∧ (n ∉ nms r → P (.d .none) os) ∧ (n ∈ nms r → P (.d (.int (fi r n))) os)
theorem len_law_e_spot : ∀ os P, f_law_e_spot os P → os.length = ["rows", "name"].length := by
  rintro os P ⟨_, _, rfl, _⟩
  rfl

theorem ok_law_e_spot {P : Program} {w : World} {K : PySem.W.Frag} {mg : Str → Option Value} {base : Heap} (S : Std K mg "_law_e_spot" s_law_e_spot ["rows", "name"]) (z_range : mg "range" = none) (z_len : mg "len" = none) : Cal P w K mg base 1 "_law_e_spot" ["rows", "name"] f_law_e_spot := by
  refine cal_of [false, false] S sc_law_e_spot (by decide) (len_law_e_spot) fun a cdv A outer s H vs Q E hr => ?_
  have sc := sc_law_e_spot
  let nm : List Str := ["rows", "name", "found", "at"]
  let sco := defScope s_law_e_spot
  refine ⟨_, (pss_cons (ps_setLc (i := 2) (own := [("at", 3)]) (g := (gName 3)) (by rfl) sc.nd rfl rfl (sw_true rfl rfl rfl (by decide +kernel)) (pi_range1 (by rfl) z_range (pa_cons (pe_callB (r := rLenK K) call_len (by rfl) z_len (by decide +kernel) (pa_cons (pv 0) pa_nil)) pa_nil)) (blkOk_by (own := [("at", 3)]) (N := nm) (sc := sco) (by decide +kernel)) (fun _ _ _ _ _ => pg_name (i := 3) sc.nd rfl (Or.inl rfl)) (fun _ _ _ _ _ => pts_one (pt_cmpR (r := rEqu K) (op_equ (room64 hr)) (pe_ix (r := rIx K) ix_seq (pe_ix (r := rIx K) ix_seq (pv 0) (pv 3) (fun _ _ => rfl)) pe_int (fun _ _ => rfl)) (pv 1) (nomark _))) (fun _ _ _ _ _ => (pv 3)))
 (pss_one (ps_ret (pe_ifExp (pt_cmpR (r := rNeq K) (op_neq (room64 hr)) (pv 2) (pe_lst pa_nil) (nomark _)) (pe_ix (r := rIx K) ix_seq (pv 2) pe_int (fun _ _ => rfl)) pe_non)))), ?_⟩
  clear sc nm sco
  try dsimp only [cxOf, Cx.nox, Cx.wish]

  rintro os P ⟨r, n, rfl, hl, q0, q1⟩
  refine ⟨by walk_at "bk", ?_⟩
  show XS K _ _ _ [.d (.list (rD r)), .d (.str n), .any, .any]
  have hlr : (rD r).length = r.length := List.length_map _
  refine xs_seq ?_
  refine xs_asg (by walk_at "sd") (by decide) (xe_lc (is := [3]) (by simp) ?_)
  walk_at "gs"
  rw [hlr, Int.toNat_natCast]
  refine ⟨⟨by omega, by omega⟩, by rw [sizeLine_eq]; omega, fun v hv => by simp at hv; subst hv; exact Nat.le_of_ble_eq_true rfl, fun k acc ρ' => ρ' = [.d (.list (rD r)), .d (.str n), .any, .any] ∧ acc = (mts r n k).map fun i => .int i, ⟨rfl, rfl⟩, ?_, ?_⟩
  · rintro k acc _ hk la ⟨rfl, rfl⟩ _
    walk_at "gs"
    refine r2_ix_list rfl (d := pcD r[k]) (atI_nat (by unfold rD; rw [List.getElem?_map, List.getElem?_eq_getElem hk]; rfl)) ?_
    walk_at "gs"
    have hn : (nms r)[k]? = some r[k].1 := by
      unfold nms
      rw [List.getElem?_map, List.getElem?_eq_getElem hk]
      rfl
    refine ifd (fun h => ?_) fun h => ?_
    · walk_at "gs"
      rw [mts_succ, hn, if_pos (by rw [h]), List.map_append]
      rfl
    · refine ⟨rfl, rfl, ?_⟩
      rw [mts_succ, hn, if_neg (fun e => h (Option.some.inj e)), List.append_nil]
  · rintro acc _ la ⟨rfl, rfl⟩
    walk_at "gs"
    by_cases hn : n ∈ nms r
    · obtain ⟨t, ht⟩ := mts_ge hn (fi_lt hn)
      rw [ht]
      refine r2_ne_data rfl rfl ((shD_list (n := 0) fun d hd => ?_).shaped (by decide)) (by decide +kernel) ?_
      · obtain ⟨i, _, rfl⟩ := List.mem_map.mp hd
        exact shD_int _ _
      rw [eqv_nil]
      refine ⟨_, rfl, ?_⟩
      refine ifb (fun _ => ?_) fun h => absurd h (by simp)
      walk_at "gs"
      refine r2_ix_list (by rfl) (d := .int (fi r n)) (atI_nat (j := 0) rfl) ?_
      exact ⟨Nat.le_of_ble_eq_true rfl, q1 hn⟩
    · rw [mts_none hn]
      refine r2_ne_data rfl rfl (by decide +kernel) (by decide +kernel) ?_
      rw [eqv_nil]
      refine ⟨_, rfl, ?_⟩
      refine ifb (fun h => absurd h (by simp)) fun _ => ?_
      walk_at "gs"
      exact ⟨Nat.le_of_ble_eq_true rfl, q0 hn⟩

end K79
set_option maxRecDepth 100000
set_option maxHeartbeats 8000000
set_option autoImplicit false
namespace K79
open PySem L2 PyProof.Rows PL MV LKD
local macro_rules | `(tactic| walk_at "rf") => `(tactic| exact rfl)
local macro_rules | `(tactic| walk_at "gf") => `(tactic| repeat' (first
  | exact getF_hit
  | exact setF_hit
  | refine getF_miss (by decide +kernel) ?_
  | refine setF_miss (by decide +kernel) ?_
  | exact rfl))
local macro_rules | `(tactic| walk_at "bk") => `(tactic| simp [BackOk, Ow.cp])
local macro_rules | `(tactic| walk_at "as") => `(tactic| assumption)
local macro_rules | `(tactic| walk_at "tr") => `(tactic| exact trivial)
local macro_rules | `(tactic| walk_at "pw") => `(tactic| exact ⟨by decide, by decide, by decide⟩)
local macro_rules | `(tactic| walk_at "cm") => `(tactic| (unfold CMul; first
  | (left; decide)
  | (right; decide)
  | (left; refine ⟨?_, ?_⟩ <;> omega)
  | (right; refine ⟨?_, ?_⟩ <;> omega)))
local macro_rules | `(tactic| walk_at "sd") => `(tactic| first
  | exact rfl
  | exact Nat.le_of_ble_eq_true rfl
  | (with_reducible assumption)
  | decide
  | omega
  | (simp only [List.length_cons, List.length_nil, List.length_append, List.length_set, List.length_replicate, List.length_map]; omega)
  | (refine ⟨?_, ?_⟩ <;> (first | decide | omega)))
local macro_rules | `(tactic| walk_at "sz") => `(tactic| first
  | decide
  | (with_reducible assumption)
  | (rw [sizeLine_eq]; omega)
  | (rw [sizeLine_eq]; simp only [List.length_cons, List.length_nil, List.length_append, List.length_set, List.length_replicate, List.length_map]; omega))
local macro_rules | `(tactic| walk_at "st") => `(tactic| first
  | ((with_reducible show Fill _ _ _ _); first | (apply fill_bor; (· exact rfl)) | apply fill_val | apply fill_nil)
  | ((with_reducible show RCX _ _ _ _); dsimp only [List.map, Arg.ow])
  | ((with_reducible show f_law_next _ _); refine use_next ?_ ?_; (· walk_at "sd"))
  | ((with_reducible apply xe_eqV); (· exact rfl); (· intro _; exact rfl); intro _ _)
  | ((with_reducible apply xe_lenV); (· exact rfl); intro _)
  | ((with_reducible apply xa_own); (· walk_at "rf"); (· walk_at "rf"); intro _)
  | ((with_reducible apply xa_vs); (· walk_at "rf"))
  | ((with_reducible apply xe_ixV); (· walk_at "rf"); (· walk_at "rf"); (· walk_at "rf"))
  | ((with_reducible apply xe_ixC); (· walk_at "rf"); (· walk_at "rf"))
  | ((with_reducible apply xe_fldV); (· walk_at "rf"); (· walk_at "as"); (· walk_at "as"); (· walk_at "gf"); (· walk_at "tr"))
  | ((with_reducible apply xe_methV); (· walk_at "rf"); (· walk_at "gf"))
  | (with_reducible refine L2.iteT ?_)
  | (with_reducible refine L2.iteF ?_)
  | (with_reducible refine xs_if ?_)
  | (with_reducible refine xs_next ?_)
  | (with_reducible refine xs_retN ?_)
  | (with_reducible refine xs_ret ?_)
  | (with_reducible refine xe_op ?_)
  | (with_reducible refine xe_int ?_)
  | (with_reducible refine xe_str ?_)
  | (with_reducible refine xe_bl ?_)
  | (with_reducible refine xe_non ?_)
  | (with_reducible refine xa_nil ?_)
  | (with_reducible refine xa_cons ?_)
  | (with_reducible refine xe_tup ?_)
  | (with_reducible refine xe_lst ?_)
  | (with_reducible refine xe_call ?_)
  | (with_reducible refine xe_cb ?_)
  | (with_reducible refine xe_if ?_)
  | (with_reducible refine xe_neg ?_)
  | (with_reducible refine xt_tst ?_)
  | (with_reducible refine xt_and ?_)
  | (with_reducible refine xt_or ?_)
  | (with_reducible refine xt_not ?_)
  | (with_reducible refine xt_yes ?_)
  | (with_reducible refine r2_plus_int ?_)
  | (with_reducible refine r2_sub ?_)
  | (with_reducible refine r2_lt ?_)
  | (with_reducible refine r2_le ?_)
  | (with_reducible refine r2_gt ?_)
  | (with_reducible refine r2_ge ?_)
  | (with_reducible refine r2_eq_int ?_)
  | (with_reducible refine r2_eq_str ?_)
  | (with_reducible refine r2_ne_int ?_)
  | (with_reducible refine r2_ne_str ?_)
  | (with_reducible refine r2_isN ?_)
  | (with_reducible refine r2_notN ?_)
  | (with_reducible refine r2_eq_bool ?_)
  | (with_reducible refine r2_ne_bool ?_)
  | (with_reducible refine rc_len_tup ?_)
  | (with_reducible refine rc_len_scr ?_)
  | (with_reducible refine rc_min2 ?_)
  | (with_reducible refine rc_max2 ?_)
  | (with_reducible refine rc_int_bool ?_)
  | (with_reducible refine rc_abs ?_)
  | (with_reducible refine xgs_nil ?_)
  | (with_reducible refine xe_andV ?_)
  | (with_reducible refine xe_orV ?_)
  | (with_reducible refine xe_notV ?_)
  | (with_reducible refine xe_slice ?_)
  | (with_reducible refine xo_none ?_)
  | (with_reducible refine xo_some ?_)
  | (with_reducible refine xi_range1 ?_)
  | (with_reducible refine xi_range2 ?_)
  | (with_reducible refine xi_list ?_)
  | (with_reducible refine xi_tup ?_)
  | (with_reducible refine slx_tup ?_)
  | ((with_reducible apply xg_name); (· walk_at "sd"); (· walk_at "sd"))
  | ((with_reducible apply xg_tup); (· walk_at "rf"))
  | ((with_reducible apply xe_vd); (· walk_at "rf"))
  | ((with_reducible apply xe_vs); (· walk_at "rf"))
  | ((with_reducible apply r2_ix_list); (· walk_at "rf"); (· walk_at "rf"))
  | ((with_reducible apply r2_ix_tup); (· walk_at "rf"))
  | ((with_reducible apply rc_len); (· walk_at "rf"))
  | ((with_reducible apply slx_list); (· walk_at "rf"))
  | ((with_reducible apply r2_plus_list); (· walk_at "rf"); (· walk_at "rf"); (· walk_at "sz"))
  | ((with_reducible refine xs_asg ?_ ?_ ?_); (· walk_at "sd"); (· walk_at "sd"))
  | ((with_reducible refine r2_times_int ?_ ?_); (· walk_at "cm"))
  | ((with_reducible refine r2_mod ?_ ?_); (· walk_at "sd"))
  | ((with_reducible refine r2_fdiv ?_ ?_); (· walk_at "sd"))
  | ((with_reducible refine r2_pow ?_ ?_); (· walk_at "pw"))
  | ((with_reducible refine r2_plus_str ?_ ?_); (· walk_at "sz"))
  | ((with_reducible refine r2_plus_tup ?_ ?_); (· walk_at "sz"))
  | ((with_reducible refine rc_str_int ?_ ?_); (· walk_at "sd"))
  | ((with_reducible refine rc_len_str ?_ ?_); (· walk_at "sz"))
  | ((with_reducible refine slx_str ?_ ?_); (· walk_at "sz"))
  | (with_reducible apply xs_asgG)
  | (with_reducible apply xgs_cons)
  | ((with_reducible apply Exists.intro); (with_reducible apply And.intro); (· exact rfl); (with_reducible apply And.intro); (· walk_at "sz"))
  | ((with_reducible apply Exists.intro); (with_reducible apply And.intro); (· exact rfl))
  | ((with_reducible apply And.intro); (· exact rfl))
  | ((with_reducible show ∀ _ : V, _); intro _)
  | fail)
local macro_rules | `(tactic| walk_at "gs") => `(tactic| repeat' (walk_at "st"))
local macro_rules | `(tactic| walk_at "go") => `(tactic| repeat' (first | (with_reducible refine xs_seq ?_) | walk_at "st"))

abbrev s_law_e_piece : Stmt := topS 12
theorem sc_law_e_piece : FnScope ["pen", "name"] ["pen", "name"] (defScope s_law_e_piece) := ⟨rfl, rfl, rfl, by decide +kernel, rfl, by decide +kernel, by decide +kernel⟩

def f_law_e_piece : FS := fun os P => ∃ (ns : List Int) (x : Str), os = [.pen ns, .d (.str x)] ∧ ∀ c : Int, CellOk c → P (.d (pcD (x, c))) os
theorem len_law_e_piece : ∀ os P, f_law_e_piece os P → os.length = ["pen", "name"].length := by
  rintro os P ⟨_, _, rfl, _⟩
  rfl

theorem ok_law_e_piece {P : Program} {w : World} {K : PySem.W.Frag} {mg : Str → Option Value} {base : Heap} (S : Std K mg "_law_e_piece" s_law_e_piece ["pen", "name"]) (C_law_next : Cal P w K mg base 2 "_law_next" ["_law_pen", "_law_many"] f_law_next) : Cal P w K mg base 3 "_law_e_piece" ["pen", "name"] f_law_e_piece := by
  obtain ⟨a_law_next, fd_law_next, G_law_next, g_law_next, k_law_next, b_law_next⟩ := C_law_next
  refine cal_of [true, false] S sc_law_e_piece (by decide) (len_law_e_piece) fun a cdv A outer s H vs Q E hr => ?_
  have sc := sc_law_e_piece
  let nm : List Str := ["pen", "name"]
  let sco := defScope s_law_e_piece
  refine ⟨_, (pss_one (ps_ret (pe_tup (pa_cons (pv 1) (pa_cons (pe_tup (pa_cons (pe_tup (pa_cons pe_str (pa_cons pe_str (pa_cons pe_int (pa_cons (pe_tup (pa_cons (pe_tup (pa_cons pe_str (pa_cons (pe_call G_law_next (hr.mono (by decide)) (by rfl) g_law_next k_law_next b_law_next .nil pass0 (pa_cons (pv 0) (pa_cons pe_int pa_nil))) pa_nil))) pa_nil)) pa_nil))))) pa_nil)) (pa_cons (pe_tup pa_nil) pa_nil)))))), ?_⟩
  clear sc nm sco
  try dsimp only [cxOf, Cx.nox, Cx.wish]

  rintro os P ⟨ns, x, rfl, q⟩
  refine ⟨by walk_at "bk", ?_⟩
  show XS K _ _ _ [.pen ns, .d (.str x)]
  walk_at "gs"
  intro c c0 c1
  walk_at "gs"
  exact ⟨Nat.le_of_ble_eq_true rfl, q c ⟨c0, c1⟩⟩

end K79
set_option maxRecDepth 100000
set_option maxHeartbeats 8000000
set_option autoImplicit false
namespace K79
open PySem L2 PyProof.Rows PL MV LKD
local macro_rules | `(tactic| walk_at "rf") => `(tactic| exact rfl)
local macro_rules | `(tactic| walk_at "gf") => `(tactic| repeat' (first
  | exact getF_hit
  | exact setF_hit
  | refine getF_miss (by decide +kernel) ?_
  | refine setF_miss (by decide +kernel) ?_
  | exact rfl))
local macro_rules | `(tactic| walk_at "bk") => `(tactic| simp [BackOk, Ow.cp])
local macro_rules | `(tactic| walk_at "as") => `(tactic| assumption)
local macro_rules | `(tactic| walk_at "tr") => `(tactic| exact trivial)
local macro_rules | `(tactic| walk_at "pw") => `(tactic| exact ⟨by decide, by decide, by decide⟩)
local macro_rules | `(tactic| walk_at "cm") => `(tactic| (unfold CMul; first
  | (left; decide)
  | (right; decide)
  | (left; refine ⟨?_, ?_⟩ <;> omega)
  | (right; refine ⟨?_, ?_⟩ <;> omega)))
local macro_rules | `(tactic| walk_at "sd") => `(tactic| first
  | exact rfl
  | exact Nat.le_of_ble_eq_true rfl
  | (with_reducible assumption)
  | decide
  | omega
  | (simp only [List.length_cons, List.length_nil, List.length_append, List.length_set, List.length_replicate, List.length_map]; omega)
  | (refine ⟨?_, ?_⟩ <;> (first | decide | omega)))
local macro_rules | `(tactic| walk_at "sz") => `(tactic| first
  | decide
  | (with_reducible assumption)
  | (rw [sizeLine_eq]; omega)
  | (rw [sizeLine_eq]; simp only [List.length_cons, List.length_nil, List.length_append, List.length_set, List.length_replicate, List.length_map]; omega))
local macro_rules | `(tactic| walk_at "st") => `(tactic| first
  | ((with_reducible show Fill _ _ _ _); first | (apply fill_bor; (· exact rfl)) | apply fill_val | apply fill_nil)
  | ((with_reducible show RCX _ _ _ _); dsimp only [List.map, Arg.ow])
  | ((with_reducible show f_law_next _ _); refine use_next ?_ ?_; (· walk_at "sd"))
  | ((with_reducible apply xe_eqV); (· exact rfl); (· intro _; exact rfl); intro _ _)
  | ((with_reducible apply xe_lenV); (· exact rfl); intro _)
  | ((with_reducible apply xa_own); (· walk_at "rf"); (· walk_at "rf"); intro _)
  | ((with_reducible apply xa_vs); (· walk_at "rf"))
  | ((with_reducible apply xe_ixV); (· walk_at "rf"); (· walk_at "rf"); (· walk_at "rf"))
  | ((with_reducible apply xe_ixC); (· walk_at "rf"); (· walk_at "rf"))
  | ((with_reducible apply xe_fldV); (· walk_at "rf"); (· walk_at "as"); (· walk_at "as"); (· walk_at "gf"); (· walk_at "tr"))
  | ((with_reducible apply xe_methV); (· walk_at "rf"); (· walk_at "gf"))
  | (with_reducible refine L2.iteT ?_)
  | (with_reducible refine L2.iteF ?_)
  | (with_reducible refine xs_if ?_)
  | (with_reducible refine xs_next ?_)
  | (with_reducible refine xs_retN ?_)
  | (with_reducible refine xs_ret ?_)
  | (with_reducible refine xe_op ?_)
  | (with_reducible refine xe_int ?_)
  | (with_reducible refine xe_str ?_)
  | (with_reducible refine xe_bl ?_)
  | (with_reducible refine xe_non ?_)
  | (with_reducible refine xa_nil ?_)
  | (with_reducible refine xa_cons ?_)
  | (with_reducible refine xe_tup ?_)
  | (with_reducible refine xe_lst ?_)
  | (with_reducible refine xe_call ?_)
  | (with_reducible refine xe_cb ?_)
  | (with_reducible refine xe_if ?_)
  | (with_reducible refine xe_neg ?_)
  | (with_reducible refine xt_tst ?_)
  | (with_reducible refine xt_and ?_)
  | (with_reducible refine xt_or ?_)
  | (with_reducible refine xt_not ?_)
  | (with_reducible refine xt_yes ?_)
  | (with_reducible refine r2_plus_int ?_)
  | (with_reducible refine r2_sub ?_)
  | (with_reducible refine r2_lt ?_)
  | (with_reducible refine r2_le ?_)
  | (with_reducible refine r2_gt ?_)
  | (with_reducible refine r2_ge ?_)
  | (with_reducible refine r2_eq_int ?_)
  | (with_reducible refine r2_eq_str ?_)
  | (with_reducible refine r2_ne_int ?_)
  | (with_reducible refine r2_ne_str ?_)
  | (with_reducible refine r2_isN ?_)
  | (with_reducible refine r2_notN ?_)
  | (with_reducible refine r2_eq_bool ?_)
  | (with_reducible refine r2_ne_bool ?_)
  | (with_reducible refine rc_len_tup ?_)
  | (with_reducible refine rc_len_scr ?_)
  | (with_reducible refine rc_min2 ?_)
  | (with_reducible refine rc_max2 ?_)
  | (with_reducible refine rc_int_bool ?_)
  | (with_reducible refine rc_abs ?_)
  | (with_reducible refine xgs_nil ?_)
  | (with_reducible refine xe_andV ?_)
  | (with_reducible refine xe_orV ?_)
  | (with_reducible refine xe_notV ?_)
  | (with_reducible refine xe_slice ?_)
  | (with_reducible refine xo_none ?_)
  | (with_reducible refine xo_some ?_)
  | (with_reducible refine xi_range1 ?_)
  | (with_reducible refine xi_range2 ?_)
  | (with_reducible refine xi_list ?_)
  | (with_reducible refine xi_tup ?_)
  | (with_reducible refine slx_tup ?_)
  | ((with_reducible apply xg_name); (· walk_at "sd"); (· walk_at "sd"))
  | ((with_reducible apply xg_tup); (· walk_at "rf"))
  | ((with_reducible apply xe_vd); (· walk_at "rf"))
  | ((with_reducible apply xe_vs); (· walk_at "rf"))
  | ((with_reducible apply r2_ix_list); (· walk_at "rf"); (· walk_at "rf"))
  | ((with_reducible apply r2_ix_tup); (· walk_at "rf"))
  | ((with_reducible apply rc_len); (· walk_at "rf"))
  | ((with_reducible apply slx_list); (· walk_at "rf"))
  | ((with_reducible apply r2_plus_list); (· walk_at "rf"); (· walk_at "rf"); (· walk_at "sz"))
  | ((with_reducible refine xs_asg ?_ ?_ ?_); (· walk_at "sd"); (· walk_at "sd"))
  | ((with_reducible refine r2_times_int ?_ ?_); (· walk_at "cm"))
  | ((with_reducible refine r2_mod ?_ ?_); (· walk_at "sd"))
  | ((with_reducible refine r2_fdiv ?_ ?_); (· walk_at "sd"))
  | ((with_reducible refine r2_pow ?_ ?_); (· walk_at "pw"))
  | ((with_reducible refine r2_plus_str ?_ ?_); (· walk_at "sz"))
  | ((with_reducible refine r2_plus_tup ?_ ?_); (· walk_at "sz"))
  | ((with_reducible refine rc_str_int ?_ ?_); (· walk_at "sd"))
  | ((with_reducible refine rc_len_str ?_ ?_); (· walk_at "sz"))
  | ((with_reducible refine slx_str ?_ ?_); (· walk_at "sz"))
  | (with_reducible apply xs_asgG)
  | (with_reducible apply xgs_cons)
  | ((with_reducible apply Exists.intro); (with_reducible apply And.intro); (· exact rfl); (with_reducible apply And.intro); (· walk_at "sz"))
  | ((with_reducible apply Exists.intro); (with_reducible apply And.intro); (· exact rfl))
  | ((with_reducible apply And.intro); (· exact rfl))
  | ((with_reducible show ∀ _ : V, _); intro _)
  | fail)
local macro_rules | `(tactic| walk_at "gs") => `(tactic| repeat' (walk_at "st"))
local macro_rules | `(tactic| walk_at "go") => `(tactic| repeat' (first | (with_reducible refine xs_seq ?_) | walk_at "st"))

abbrev s_law_e_deed : Stmt := topS 15
theorem sc_law_e_deed : FnScope ["pen", "names", "rows", "name"] ["pen", "names", "rows"] (defScope s_law_e_deed) := ⟨rfl, rfl, rfl, by decide +kernel, rfl, by decide +kernel, by decide +kernel⟩

def f_law_e_deed : FS := fun os P => ∃ (ns : List Int) (nm : List Str) (r : List Rw), os = [.pen ns, .d (.list (nm.map .str)), .d (.list (rD r))] ∧ (0 < nm.length ∧ nm.length ≤ 100) ∧ (∀ x, x ∈ nm → NmOk x) ∧ r.length ≤ 1000 ∧ ∀ d : Deed, DdOk r d → DIn nm d → DdC d → P (.d (dD d)) os
theorem len_law_e_deed : ∀ os P, f_law_e_deed os P → os.length = ["pen", "names", "rows"].length := by
  rintro os P ⟨_, _, _, rfl, _⟩
  rfl

theorem ok_law_e_deed {P : Program} {w : World} {K : PySem.W.Frag} {mg : Str → Option Value} {base : Heap} (S : Std K mg "_law_e_deed" s_law_e_deed ["pen", "names", "rows"]) (C_law_next : Cal P w K mg base 2 "_law_next" ["_law_pen", "_law_many"] f_law_next) (C_law_e_spot : Cal P w K mg base 1 "_law_e_spot" ["rows", "name"] f_law_e_spot) (C_law_e_piece : Cal P w K mg base 3 "_law_e_piece" ["pen", "name"] f_law_e_piece) (z_len : mg "len" = none) : Cal P w K mg base 4 "_law_e_deed" ["pen", "names", "rows"] f_law_e_deed := by
  obtain ⟨a_law_next, fd_law_next, G_law_next, g_law_next, k_law_next, b_law_next⟩ := C_law_next
  obtain ⟨a_law_e_spot, fd_law_e_spot, G_law_e_spot, g_law_e_spot, k_law_e_spot, b_law_e_spot⟩ := C_law_e_spot
  obtain ⟨a_law_e_piece, fd_law_e_piece, G_law_e_piece, g_law_e_piece, k_law_e_piece, b_law_e_piece⟩ := C_law_e_piece
  refine cal_of [true, false, false] S sc_law_e_deed (by decide) (len_law_e_deed) fun a cdv A outer s H vs Q E hr => ?_
  have sc := sc_law_e_deed
  let nm : List Str := ["pen", "names", "rows", "name"]
  let sco := defScope s_law_e_deed
  refine ⟨_, (pss_cons (ps_set (i := 3) sc.nd rfl (Or.inl rfl) (pe_ix (r := rIx K) ix_seq (pv 1) (pe_call G_law_next (hr.mono (by decide)) (by rfl) g_law_next k_law_next b_law_next .nil pass0 (pa_cons (pv 0) (pa_cons (pe_callB (r := rLenK K) call_len (by rfl) z_len (by decide +kernel) (pa_cons (pv 1) pa_nil)) pa_nil))) (fun _ _ => rfl)))
 (pss_cons (ps_if (pt_cmpR op_isN (pe_call G_law_e_spot (hr.mono (by decide)) (by rfl) g_law_e_spot k_law_e_spot b_law_e_spot .nil pass0 (pa_cons (pv 2) (pa_cons (pv 3) pa_nil))) pe_non (nomark _))
 (pss_one (ps_ret (pe_tup (pa_cons pe_str (pa_cons (pe_call G_law_e_piece (hr.mono (by decide)) (by rfl) g_law_e_piece k_law_e_piece b_law_e_piece .nil pass0 (pa_cons (pv 0) (pa_cons (pv 3) pa_nil))) pa_nil)))))
 pss_nil)
 (pss_cons (ps_if (pt_cmpR (r := rEqu K) (op_equ (room64 hr)) (pe_call G_law_next (hr.mono (by decide)) (by rfl) g_law_next k_law_next b_law_next .nil pass0 (pa_cons (pv 0) (pa_cons pe_int pa_nil))) pe_int (nomark _))
 (pss_one (ps_ret (pe_tup (pa_cons pe_str (pa_cons (pe_call G_law_e_piece (hr.mono (by decide)) (by rfl) g_law_e_piece k_law_e_piece b_law_e_piece .nil pass0 (pa_cons (pv 0) (pa_cons (pv 3) pa_nil))) pa_nil)))))
 pss_nil)
 (pss_one (ps_ret (pe_tup (pa_cons pe_str (pa_cons (pv 3) pa_nil)))))))), ?_⟩
  clear sc nm sco
  try dsimp only [cxOf, Cx.nox, Cx.wish]

  rintro os P ⟨ns, nm, r, rfl, ⟨hm0, hm1⟩, hk, hl, q⟩
  refine ⟨by walk_at "bk", ?_⟩
  show XS K _ _ _ [.pen ns, .d (.list (nm.map .str)), .d (.list (rD r)), .any]
  have hnl : (nm.map PyData.str).length = nm.length := List.length_map _
  refine xs_seq ?_
  walk_at "gs"
  intro i i0 i1
  walk_at "gs"
  refine r2_ix_mem (by rfl) i0 i1 fun d hd => ?_
  obtain ⟨x, hx, rfl⟩ := List.mem_map.mp hd
  walk_at "gs"
  refine xs_seq ?_
  walk_at "gs"
  refine ⟨r, x, rfl, hl, fun hn => ?_, fun hn => ?_⟩
  · walk_at "gs"
    refine ⟨ns, x, rfl, fun c hc => ?_⟩
    walk_at "gs"
    exact ⟨Nat.le_of_ble_eq_true rfl, q (.put (x, c)) ⟨hn, (hk x hx).1⟩ hx ⟨hk x hx, hc⟩⟩
  · walk_at "gs"
    refine xs_seq ?_
    walk_at "gs"
    intro i i0 i1
    walk_at "gs"
    refine ifd (fun h => ?_) fun h => ?_
    · walk_at "gs"
      refine ⟨ns, x, rfl, fun c hc => ?_⟩
      walk_at "gs"
      exact ⟨Nat.le_of_ble_eq_true rfl, q (.exc (x, c)) ⟨hn, (hk x hx).1⟩ hx ⟨hk x hx, hc⟩⟩
    · walk_at "gs"
      exact ⟨Nat.le_of_ble_eq_true rfl, q (.tak x) hn hx (hk x hx)⟩

end K79
set_option maxRecDepth 100000
set_option maxHeartbeats 8000000
set_option autoImplicit false
namespace K79
open PySem L2 PyProof.Rows PL MV LKD
local macro_rules | `(tactic| walk_at "rf") => `(tactic| exact rfl)
local macro_rules | `(tactic| walk_at "gf") => `(tactic| repeat' (first
  | exact getF_hit
  | exact setF_hit
  | refine getF_miss (by decide +kernel) ?_
  | refine setF_miss (by decide +kernel) ?_
  | exact rfl))
local macro_rules | `(tactic| walk_at "bk") => `(tactic| simp [BackOk, Ow.cp])
local macro_rules | `(tactic| walk_at "as") => `(tactic| assumption)
local macro_rules | `(tactic| walk_at "tr") => `(tactic| exact trivial)
local macro_rules | `(tactic| walk_at "pw") => `(tactic| exact ⟨by decide, by decide, by decide⟩)
local macro_rules | `(tactic| walk_at "cm") => `(tactic| (unfold CMul; first
  | (left; decide)
  | (right; decide)
  | (left; refine ⟨?_, ?_⟩ <;> omega)
  | (right; refine ⟨?_, ?_⟩ <;> omega)))
local macro_rules | `(tactic| walk_at "sd") => `(tactic| first
  | exact rfl
  | exact Nat.le_of_ble_eq_true rfl
  | (with_reducible assumption)
  | decide
  | omega
  | (simp only [List.length_cons, List.length_nil, List.length_append, List.length_set, List.length_replicate, List.length_map]; omega)
  | (refine ⟨?_, ?_⟩ <;> (first | decide | omega)))
local macro_rules | `(tactic| walk_at "sz") => `(tactic| first
  | decide
  | (with_reducible assumption)
  | (rw [sizeLine_eq]; omega)
  | (rw [sizeLine_eq]; simp only [List.length_cons, List.length_nil, List.length_append, List.length_set, List.length_replicate, List.length_map]; omega))
local macro_rules | `(tactic| walk_at "st") => `(tactic| first
  | ((with_reducible show Fill _ _ _ _); first | (apply fill_bor; (· exact rfl)) | apply fill_val | apply fill_nil)
  | ((with_reducible show RCX _ _ _ _); dsimp only [List.map, Arg.ow])
  | ((with_reducible show f_law_next _ _); refine use_next ?_ ?_; (· walk_at "sd"))
  | ((with_reducible apply xe_eqV); (· exact rfl); (· intro _; exact rfl); intro _ _)
  | ((with_reducible apply xe_lenV); (· exact rfl); intro _)
  | ((with_reducible apply xa_own); (· walk_at "rf"); (· walk_at "rf"); intro _)
  | ((with_reducible apply xa_vs); (· walk_at "rf"))
  | ((with_reducible apply xe_ixV); (· walk_at "rf"); (· walk_at "rf"); (· walk_at "rf"))
  | ((with_reducible apply xe_ixC); (· walk_at "rf"); (· walk_at "rf"))
  | ((with_reducible apply xe_fldV); (· walk_at "rf"); (· walk_at "as"); (· walk_at "as"); (· walk_at "gf"); (· walk_at "tr"))
  | ((with_reducible apply xe_methV); (· walk_at "rf"); (· walk_at "gf"))
  | (with_reducible refine L2.iteT ?_)
  | (with_reducible refine L2.iteF ?_)
  | (with_reducible refine xs_if ?_)
  | (with_reducible refine xs_next ?_)
  | (with_reducible refine xs_retN ?_)
  | (with_reducible refine xs_ret ?_)
  | (with_reducible refine xe_op ?_)
  | (with_reducible refine xe_int ?_)
  | (with_reducible refine xe_str ?_)
  | (with_reducible refine xe_bl ?_)
  | (with_reducible refine xe_non ?_)
  | (with_reducible refine xa_nil ?_)
  | (with_reducible refine xa_cons ?_)
  | (with_reducible refine xe_tup ?_)
  | (with_reducible refine xe_lst ?_)
  | (with_reducible refine xe_call ?_)
  | (with_reducible refine xe_cb ?_)
  | (with_reducible refine xe_if ?_)
  | (with_reducible refine xe_neg ?_)
  | (with_reducible refine xt_tst ?_)
  | (with_reducible refine xt_and ?_)
  | (with_reducible refine xt_or ?_)
  | (with_reducible refine xt_not ?_)
  | (with_reducible refine xt_yes ?_)
  | (with_reducible refine r2_plus_int ?_)
  | (with_reducible refine r2_sub ?_)
  | (with_reducible refine r2_lt ?_)
  | (with_reducible refine r2_le ?_)
  | (with_reducible refine r2_gt ?_)
  | (with_reducible refine r2_ge ?_)
  | (with_reducible refine r2_eq_int ?_)
  | (with_reducible refine r2_eq_str ?_)
  | (with_reducible refine r2_ne_int ?_)
  | (with_reducible refine r2_ne_str ?_)
  | (with_reducible refine r2_isN ?_)
  | (with_reducible refine r2_notN ?_)
  | (with_reducible refine r2_eq_bool ?_)
  | (with_reducible refine r2_ne_bool ?_)
  | (with_reducible refine rc_len_tup ?_)
  | (with_reducible refine rc_len_scr ?_)
  | (with_reducible refine rc_min2 ?_)
  | (with_reducible refine rc_max2 ?_)
  | (with_reducible refine rc_int_bool ?_)
  | (with_reducible refine rc_abs ?_)
  | (with_reducible refine xgs_nil ?_)
  | (with_reducible refine xe_andV ?_)
  | (with_reducible refine xe_orV ?_)
  | (with_reducible refine xe_notV ?_)
  | (with_reducible refine xe_slice ?_)
  | (with_reducible refine xo_none ?_)
  | (with_reducible refine xo_some ?_)
  | (with_reducible refine xi_range1 ?_)
  | (with_reducible refine xi_range2 ?_)
  | (with_reducible refine xi_list ?_)
  | (with_reducible refine xi_tup ?_)
  | (with_reducible refine slx_tup ?_)
  | ((with_reducible apply xg_name); (· walk_at "sd"); (· walk_at "sd"))
  | ((with_reducible apply xg_tup); (· walk_at "rf"))
  | ((with_reducible apply xe_vd); (· walk_at "rf"))
  | ((with_reducible apply xe_vs); (· walk_at "rf"))
  | ((with_reducible apply r2_ix_list); (· walk_at "rf"); (· walk_at "rf"))
  | ((with_reducible apply r2_ix_tup); (· walk_at "rf"))
  | ((with_reducible apply rc_len); (· walk_at "rf"))
  | ((with_reducible apply slx_list); (· walk_at "rf"))
  | ((with_reducible apply r2_plus_list); (· walk_at "rf"); (· walk_at "rf"); (· walk_at "sz"))
  | ((with_reducible refine xs_asg ?_ ?_ ?_); (· walk_at "sd"); (· walk_at "sd"))
  | ((with_reducible refine r2_times_int ?_ ?_); (· walk_at "cm"))
  | ((with_reducible refine r2_mod ?_ ?_); (· walk_at "sd"))
  | ((with_reducible refine r2_fdiv ?_ ?_); (· walk_at "sd"))
  | ((with_reducible refine r2_pow ?_ ?_); (· walk_at "pw"))
  | ((with_reducible refine r2_plus_str ?_ ?_); (· walk_at "sz"))
  | ((with_reducible refine r2_plus_tup ?_ ?_); (· walk_at "sz"))
  | ((with_reducible refine rc_str_int ?_ ?_); (· walk_at "sd"))
  | ((with_reducible refine rc_len_str ?_ ?_); (· walk_at "sz"))
  | ((with_reducible refine slx_str ?_ ?_); (· walk_at "sz"))
  | (with_reducible apply xs_asgG)
  | (with_reducible apply xgs_cons)
  | ((with_reducible apply Exists.intro); (with_reducible apply And.intro); (· exact rfl); (with_reducible apply And.intro); (· walk_at "sz"))
  | ((with_reducible apply Exists.intro); (with_reducible apply And.intro); (· exact rfl))
  | ((with_reducible apply And.intro); (· exact rfl))
  | ((with_reducible show ∀ _ : V, _); intro _)
  | fail)
local macro_rules | `(tactic| walk_at "gs") => `(tactic| repeat' (walk_at "st"))
local macro_rules | `(tactic| walk_at "go") => `(tactic| repeat' (first | (with_reducible refine xs_seq ?_) | walk_at "st"))

abbrev sLinker_names : Stmt := inClass (topS 8) 6
theorem scLinker_names : FnScope ["self", "piece"] ["self"] (defScope sLinker_names) := ⟨rfl, rfl, rfl, by decide +kernel, rfl, by decide +kernel, by decide +kernel⟩

def fLinker_names (C : Addr) : FS := fun os P => ∃ r p, os = [lkO C r p] ∧ r.length ≤ 1000 ∧ P (.ls ((nms r).map .str)) os
theorem lenLinker_names (C : Addr) : ∀ os P, fLinker_names C os P → os.length = ["self"].length := by
  rintro os P ⟨_, _, rfl, _⟩
  rfl

theorem okLinker_names {P : Program} {w : World} {K : PySem.W.Frag} {mg : Str → Option Value} {base : Heap} {C_Linker : Addr} (S : StdM K C_Linker "names" "Linker.names" sLinker_names ["self"]) (cl_Linker : Cls K C_Linker) (na_Linker_pieces : NoAttr K C_Linker "pieces") : CalM P w K mg base C_Linker 1 "names" ["self"] (fLinker_names C_Linker) := by
  refine calM_of [true] S scLinker_names (by decide) (lenLinker_names C_Linker) fun a cdv A outer s H vs Q E hr => ?_
  have sc := scLinker_names
  let nm : List Str := ["self", "piece"]
  let sco := defScope sLinker_names
  refine ⟨_, (pss_one (ps_ret (pe_lc (own := [("piece", 1)]) (g := (gName 1)) (by rfl) sc.nd (pi_list (pe_fld (pv 0) rfl)) (blkOk_by (own := [("piece", 1)]) (N := nm) (sc := sco) (by decide +kernel)) (fun _ _ _ _ _ => pg_name (i := 1) sc.nd rfl (Or.inl rfl)) (fun _ _ _ _ _ => pts_nil) (fun _ _ _ _ _ => (pe_ix (r := rIx K) ix_seq (pv 1) pe_int (fun _ _ => rfl)))))), ?_⟩
  clear sc nm sco
  try dsimp only [cxOf, Cx.nox, Cx.wish]

  rintro os P ⟨r, p, rfl, hl, q⟩
  refine ⟨by walk_at "bk", ?_⟩
  show XS K _ _ _ [lkO C_Linker r p, .any]
  refine xs_ret (xe_lc (is := [1]) (by simp) (xi_list (xe_fldV rfl ‹_› ‹_› (by walk_at "gf") (by exact trivial) ⟨_, rfl, ?_⟩)))
  have hlr : (rD r).length = r.length := List.length_map _
  refine ⟨by rw [hlr, sizeLine_eq]; omega, fun v hv => by simp at hv; subst hv; exact Nat.le_of_ble_eq_true rfl, fun k acc ρ' => ρ' = [lkO C_Linker r p, .any] ∧ acc = ((nms r).take k).map .str, ⟨rfl, rfl⟩, ?_, ?_⟩
  · rintro k acc _ hk la ⟨rfl, rfl⟩ _
    rw [hlr] at hk
    show XG K _ _ _ (.d (nth (rD r) k)) _ _
    rw [show nth (rD r) k = pcD r[k] from nth_get (by unfold rD; rw [List.getElem?_map, List.getElem?_eq_getElem hk]; rfl)]
    walk_at "gs"
    rw [List.take_succ, List.map_append]
    congr 1
    unfold nms
    rw [List.getElem?_map, List.getElem?_eq_getElem hk]
    rfl
  · rintro acc _ la ⟨rfl, rfl⟩
    refine ⟨Nat.le_of_ble_eq_true rfl, ?_⟩
    rw [hlr, List.take_of_length_le (by unfold nms; rw [List.length_map]; exact Nat.le_refl _)]
    exact q

end K79
set_option maxRecDepth 100000
set_option maxHeartbeats 8000000
set_option autoImplicit false
namespace K79
open PySem L2 PyProof.Rows PL MV LKD
local macro_rules | `(tactic| walk_at "rf") => `(tactic| exact rfl)
local macro_rules | `(tactic| walk_at "gf") => `(tactic| repeat' (first
  | exact getF_hit
  | exact setF_hit
  | refine getF_miss (by decide +kernel) ?_
  | refine setF_miss (by decide +kernel) ?_
  | exact rfl))
local macro_rules | `(tactic| walk_at "bk") => `(tactic| simp [BackOk, Ow.cp])
local macro_rules | `(tactic| walk_at "as") => `(tactic| assumption)
local macro_rules | `(tactic| walk_at "tr") => `(tactic| exact trivial)
local macro_rules | `(tactic| walk_at "pw") => `(tactic| exact ⟨by decide, by decide, by decide⟩)
local macro_rules | `(tactic| walk_at "cm") => `(tactic| (unfold CMul; first
  | (left; decide)
  | (right; decide)
  | (left; refine ⟨?_, ?_⟩ <;> omega)
  | (right; refine ⟨?_, ?_⟩ <;> omega)))
local macro_rules | `(tactic| walk_at "sd") => `(tactic| first
  | exact rfl
  | exact Nat.le_of_ble_eq_true rfl
  | (with_reducible assumption)
  | decide
  | omega
  | (simp only [List.length_cons, List.length_nil, List.length_append, List.length_set, List.length_replicate, List.length_map]; omega)
  | (refine ⟨?_, ?_⟩ <;> (first | decide | omega)))
local macro_rules | `(tactic| walk_at "sz") => `(tactic| first
  | decide
  | (with_reducible assumption)
  | (rw [sizeLine_eq]; omega)
  | (rw [sizeLine_eq]; simp only [List.length_cons, List.length_nil, List.length_append, List.length_set, List.length_replicate, List.length_map]; omega))
local macro_rules | `(tactic| walk_at "st") => `(tactic| first
  | ((with_reducible show Fill _ _ _ _); first | (apply fill_bor; (· exact rfl)) | apply fill_val | apply fill_nil)
  | ((with_reducible show RCX _ _ _ _); dsimp only [List.map, Arg.ow])
  | ((with_reducible show f_law_next _ _); refine use_next ?_ ?_; (· walk_at "sd"))
  | ((with_reducible apply xe_eqV); (· exact rfl); (· intro _; exact rfl); intro _ _)
  | ((with_reducible apply xe_lenV); (· exact rfl); intro _)
  | ((with_reducible apply xa_own); (· walk_at "rf"); (· walk_at "rf"); intro _)
  | ((with_reducible apply xa_vs); (· walk_at "rf"))
  | ((with_reducible apply xe_ixV); (· walk_at "rf"); (· walk_at "rf"); (· walk_at "rf"))
  | ((with_reducible apply xe_ixC); (· walk_at "rf"); (· walk_at "rf"))
  | ((with_reducible apply xe_fldV); (· walk_at "rf"); (· walk_at "as"); (· walk_at "as"); (· walk_at "gf"); (· walk_at "tr"))
  | ((with_reducible apply xe_methV); (· walk_at "rf"); (· walk_at "gf"))
  | (with_reducible refine L2.iteT ?_)
  | (with_reducible refine L2.iteF ?_)
  | (with_reducible refine xs_if ?_)
  | (with_reducible refine xs_next ?_)
  | (with_reducible refine xs_retN ?_)
  | (with_reducible refine xs_ret ?_)
  | (with_reducible refine xe_op ?_)
  | (with_reducible refine xe_int ?_)
  | (with_reducible refine xe_str ?_)
  | (with_reducible refine xe_bl ?_)
  | (with_reducible refine xe_non ?_)
  | (with_reducible refine xa_nil ?_)
  | (with_reducible refine xa_cons ?_)
  | (with_reducible refine xe_tup ?_)
  | (with_reducible refine xe_lst ?_)
  | (with_reducible refine xe_call ?_)
  | (with_reducible refine xe_cb ?_)
  | (with_reducible refine xe_if ?_)
  | (with_reducible refine xe_neg ?_)
  | (with_reducible refine xt_tst ?_)
  | (with_reducible refine xt_and ?_)
  | (with_reducible refine xt_or ?_)
  | (with_reducible refine xt_not ?_)
  | (with_reducible refine xt_yes ?_)
  | (with_reducible refine r2_plus_int ?_)
  | (with_reducible refine r2_sub ?_)
  | (with_reducible refine r2_lt ?_)
  | (with_reducible refine r2_le ?_)
  | (with_reducible refine r2_gt ?_)
  | (with_reducible refine r2_ge ?_)
  | (with_reducible refine r2_eq_int ?_)
  | (with_reducible refine r2_eq_str ?_)
  | (with_reducible refine r2_ne_int ?_)
  | (with_reducible refine r2_ne_str ?_)
  | (with_reducible refine r2_isN ?_)
  | (with_reducible refine r2_notN ?_)
  | (with_reducible refine r2_eq_bool ?_)
  | (with_reducible refine r2_ne_bool ?_)
  | (with_reducible refine rc_len_tup ?_)
  | (with_reducible refine rc_len_scr ?_)
  | (with_reducible refine rc_min2 ?_)
  | (with_reducible refine rc_max2 ?_)
  | (with_reducible refine rc_int_bool ?_)
  | (with_reducible refine rc_abs ?_)
  | (with_reducible refine xgs_nil ?_)
  | (with_reducible refine xe_andV ?_)
  | (with_reducible refine xe_orV ?_)
  | (with_reducible refine xe_notV ?_)
  | (with_reducible refine xe_slice ?_)
  | (with_reducible refine xo_none ?_)
  | (with_reducible refine xo_some ?_)
  | (with_reducible refine xi_range1 ?_)
  | (with_reducible refine xi_range2 ?_)
  | (with_reducible refine xi_list ?_)
  | (with_reducible refine xi_tup ?_)
  | (with_reducible refine slx_tup ?_)
  | ((with_reducible apply xg_name); (· walk_at "sd"); (· walk_at "sd"))
  | ((with_reducible apply xg_tup); (· walk_at "rf"))
  | ((with_reducible apply xe_vd); (· walk_at "rf"))
  | ((with_reducible apply xe_vs); (· walk_at "rf"))
  | ((with_reducible apply r2_ix_list); (· walk_at "rf"); (· walk_at "rf"))
  | ((with_reducible apply r2_ix_tup); (· walk_at "rf"))
  | ((with_reducible apply rc_len); (· walk_at "rf"))
  | ((with_reducible apply slx_list); (· walk_at "rf"))
  | ((with_reducible apply r2_plus_list); (· walk_at "rf"); (· walk_at "rf"); (· walk_at "sz"))
  | ((with_reducible refine xs_asg ?_ ?_ ?_); (· walk_at "sd"); (· walk_at "sd"))
  | ((with_reducible refine r2_times_int ?_ ?_); (· walk_at "cm"))
  | ((with_reducible refine r2_mod ?_ ?_); (· walk_at "sd"))
  | ((with_reducible refine r2_fdiv ?_ ?_); (· walk_at "sd"))
  | ((with_reducible refine r2_pow ?_ ?_); (· walk_at "pw"))
  | ((with_reducible refine r2_plus_str ?_ ?_); (· walk_at "sz"))
  | ((with_reducible refine r2_plus_tup ?_ ?_); (· walk_at "sz"))
  | ((with_reducible refine rc_str_int ?_ ?_); (· walk_at "sd"))
  | ((with_reducible refine rc_len_str ?_ ?_); (· walk_at "sz"))
  | ((with_reducible refine slx_str ?_ ?_); (· walk_at "sz"))
  | (with_reducible apply xs_asgG)
  | (with_reducible apply xgs_cons)
  | ((with_reducible apply Exists.intro); (with_reducible apply And.intro); (· exact rfl); (with_reducible apply And.intro); (· walk_at "sz"))
  | ((with_reducible apply Exists.intro); (with_reducible apply And.intro); (· exact rfl))
  | ((with_reducible apply And.intro); (· exact rfl))
  | ((with_reducible show ∀ _ : V, _); intro _)
  | fail)
local macro_rules | `(tactic| walk_at "gs") => `(tactic| repeat' (walk_at "st"))
local macro_rules | `(tactic| walk_at "go") => `(tactic| repeat' (first | (with_reducible refine xs_seq ?_) | walk_at "st"))

abbrev sLinker_does : Stmt := inClass (topS 8) 9
theorem scLinker_does : FnScope ["self", "told", "pieces"] ["self", "told", "pieces"] (defScope sLinker_does) := ⟨rfl, rfl, rfl, by decide +kernel, rfl, by decide +kernel, by decide +kernel⟩

def fLinker_does (C : Addr) : FS := fun os P => ∃ (r r' : List Rw) (p : List (Str × List Rw)) (w : Str), os = [lkO C r p, .d (.str w), .d (.list (rD r'))] ∧ p.length ≤ 100000 ∧ P (.d .none) [lkO C r' (p ++ [(w, r)]), .d (.str w), .d (.list (rD r'))]
theorem lenLinker_does (C : Addr) : ∀ os P, fLinker_does C os P → os.length = ["self", "told", "pieces"].length := by
  rintro os P ⟨_, _, _, _, rfl, _⟩
  rfl

theorem okLinker_does {P : Program} {w : World} {K : PySem.W.Frag} {mg : Str → Option Value} {base : Heap} {C_Linker : Addr} (S : StdM K C_Linker "does" "Linker.does" sLinker_does ["self", "told", "pieces"]) (cl_Linker : Cls K C_Linker) (na_Linker_past : NoAttr K C_Linker "past") (na_Linker_pieces : NoAttr K C_Linker "pieces") : CalM P w K mg base C_Linker 1 "does" ["self", "told", "pieces"] (fLinker_does C_Linker) := by
  refine calM_of [true, false, false] S scLinker_does (by decide) (lenLinker_does C_Linker) fun a cdv A outer s H vs Q E hr => ?_
  have sc := scLinker_does
  let nm : List Str := ["self", "told", "pieces"]
  let sco := defScope sLinker_does
  refine ⟨_, (pss_cons (ps_expr (pe_bm PySem.F.plainAttrs_list PySem.F.slot_list_append PySem.F.type_list_append mt_append (pe_fld (pv 0) rfl) (pa_cons (pe_tup (pa_cons (pv 1) (pa_cons (pe_fld (pv 0) rfl) pa_nil))) pa_nil)))
 (pss_one (ps_fld (pv 0) (pv 2) rfl))), ?_⟩
  clear sc nm sco
  try dsimp only [cxOf, Cx.nox, Cx.wish]

  rintro os P ⟨r, r', p, w, rfl, hl, q⟩
  refine ⟨by walk_at "bk", ?_⟩
  show XS K _ _ _ [lkO C_Linker r p, .d (.str w), .d (.list (rD r'))]
  refine xs_seq (xs_appendF rfl ‹_› ‹_› (by walk_at "gf") (by unfold psD; rw [List.length_map, sizeLine_eq]; omega) fun v fs1 e1 => ?_)
  obtain rfl : fs1 = ([("pieces", .d (.list (rD r))), ("past", .is v)] : List (Str × Ow)) := e1.symm.trans (by walk_at "gf")
  refine xe_tup (xa_cons (xe_vd rfl ⟨_, rfl, xa_cons (xe_fldV rfl ‹_› ‹_› (by walk_at "gf") (by exact trivial) ⟨_, rfl, xa_nil ⟨_, rfl, by walk_at "sz", _, rfl, _, _, rfl, (by walk_at "gf"), (by walk_at "gf"), ?_⟩⟩)⟩))
  refine xs_fldD ‹_› ‹_› (xe_vd rfl ⟨_, rfl, _, _, rfl, (by walk_at "gf"), Nat.le_of_ble_eq_true rfl, ?_⟩)
  refine ⟨Nat.le_of_ble_eq_true rfl, ?_⟩
  have e : psD p ++ [.tuple [.str w, .list (rD r)]] = psD (p ++ [(w, r)]) := by
    unfold psD
    rw [List.map_append]
    rfl
  rw [e]
  exact q

end K79
set_option maxRecDepth 100000
set_option maxHeartbeats 8000000
set_option autoImplicit false
namespace K79
open PySem L2 PyProof.Rows PL MV LKD
local macro_rules | `(tactic| walk_at "rf") => `(tactic| exact rfl)
local macro_rules | `(tactic| walk_at "gf") => `(tactic| repeat' (first
  | exact getF_hit
  | exact setF_hit
  | refine getF_miss (by decide +kernel) ?_
  | refine setF_miss (by decide +kernel) ?_
  | exact rfl))
local macro_rules | `(tactic| walk_at "bk") => `(tactic| simp [BackOk, Ow.cp])
local macro_rules | `(tactic| walk_at "as") => `(tactic| assumption)
local macro_rules | `(tactic| walk_at "tr") => `(tactic| exact trivial)
local macro_rules | `(tactic| walk_at "pw") => `(tactic| exact ⟨by decide, by decide, by decide⟩)
local macro_rules | `(tactic| walk_at "cm") => `(tactic| (unfold CMul; first
  | (left; decide)
  | (right; decide)
  | (left; refine ⟨?_, ?_⟩ <;> omega)
  | (right; refine ⟨?_, ?_⟩ <;> omega)))
local macro_rules | `(tactic| walk_at "sd") => `(tactic| first
  | exact rfl
  | exact Nat.le_of_ble_eq_true rfl
  | (with_reducible assumption)
  | decide
  | omega
  | (simp only [List.length_cons, List.length_nil, List.length_append, List.length_set, List.length_replicate, List.length_map]; omega)
  | (refine ⟨?_, ?_⟩ <;> (first | decide | omega)))
local macro_rules | `(tactic| walk_at "sz") => `(tactic| first
  | decide
  | (with_reducible assumption)
  | (rw [sizeLine_eq]; omega)
  | (rw [sizeLine_eq]; simp only [List.length_cons, List.length_nil, List.length_append, List.length_set, List.length_replicate, List.length_map]; omega))
local macro_rules | `(tactic| walk_at "st") => `(tactic| first
  | ((with_reducible show Fill _ _ _ _); first | (apply fill_bor; (· exact rfl)) | apply fill_val | apply fill_nil)
  | ((with_reducible show RCX _ _ _ _); dsimp only [List.map, Arg.ow])
  | ((with_reducible show f_law_next _ _); refine use_next ?_ ?_; (· walk_at "sd"))
  | ((with_reducible apply xe_eqV); (· exact rfl); (· intro _; exact rfl); intro _ _)
  | ((with_reducible apply xe_lenV); (· exact rfl); intro _)
  | ((with_reducible apply xa_own); (· walk_at "rf"); (· walk_at "rf"); intro _)
  | ((with_reducible apply xa_vs); (· walk_at "rf"))
  | ((with_reducible apply xe_ixV); (· walk_at "rf"); (· walk_at "rf"); (· walk_at "rf"))
  | ((with_reducible apply xe_ixC); (· walk_at "rf"); (· walk_at "rf"))
  | ((with_reducible apply xe_fldV); (· walk_at "rf"); (· walk_at "as"); (· walk_at "as"); (· walk_at "gf"); (· walk_at "tr"))
  | ((with_reducible apply xe_methV); (· walk_at "rf"); (· walk_at "gf"))
  | (with_reducible refine L2.iteT ?_)
  | (with_reducible refine L2.iteF ?_)
  | (with_reducible refine xs_if ?_)
  | (with_reducible refine xs_next ?_)
  | (with_reducible refine xs_retN ?_)
  | (with_reducible refine xs_ret ?_)
  | (with_reducible refine xe_op ?_)
  | (with_reducible refine xe_int ?_)
  | (with_reducible refine xe_str ?_)
  | (with_reducible refine xe_bl ?_)
  | (with_reducible refine xe_non ?_)
  | (with_reducible refine xa_nil ?_)
  | (with_reducible refine xa_cons ?_)
  | (with_reducible refine xe_tup ?_)
  | (with_reducible refine xe_lst ?_)
  | (with_reducible refine xe_call ?_)
  | (with_reducible refine xe_cb ?_)
  | (with_reducible refine xe_if ?_)
  | (with_reducible refine xe_neg ?_)
  | (with_reducible refine xt_tst ?_)
  | (with_reducible refine xt_and ?_)
  | (with_reducible refine xt_or ?_)
  | (with_reducible refine xt_not ?_)
  | (with_reducible refine xt_yes ?_)
  | (with_reducible refine r2_plus_int ?_)
  | (with_reducible refine r2_sub ?_)
  | (with_reducible refine r2_lt ?_)
  | (with_reducible refine r2_le ?_)
  | (with_reducible refine r2_gt ?_)
  | (with_reducible refine r2_ge ?_)
  | (with_reducible refine r2_eq_int ?_)
  | (with_reducible refine r2_eq_str ?_)
  | (with_reducible refine r2_ne_int ?_)
  | (with_reducible refine r2_ne_str ?_)
  | (with_reducible refine r2_isN ?_)
  | (with_reducible refine r2_notN ?_)
  | (with_reducible refine r2_eq_bool ?_)
  | (with_reducible refine r2_ne_bool ?_)
  | (with_reducible refine rc_len_tup ?_)
  | (with_reducible refine rc_len_scr ?_)
  | (with_reducible refine rc_min2 ?_)
  | (with_reducible refine rc_max2 ?_)
  | (with_reducible refine rc_int_bool ?_)
  | (with_reducible refine rc_abs ?_)
  | (with_reducible refine xgs_nil ?_)
  | (with_reducible refine xe_andV ?_)
  | (with_reducible refine xe_orV ?_)
  | (with_reducible refine xe_notV ?_)
  | (with_reducible refine xe_slice ?_)
  | (with_reducible refine xo_none ?_)
  | (with_reducible refine xo_some ?_)
  | (with_reducible refine xi_range1 ?_)
  | (with_reducible refine xi_range2 ?_)
  | (with_reducible refine xi_list ?_)
  | (with_reducible refine xi_tup ?_)
  | (with_reducible refine slx_tup ?_)
  | ((with_reducible apply xg_name); (· walk_at "sd"); (· walk_at "sd"))
  | ((with_reducible apply xg_tup); (· walk_at "rf"))
  | ((with_reducible apply xe_vd); (· walk_at "rf"))
  | ((with_reducible apply xe_vs); (· walk_at "rf"))
  | ((with_reducible apply r2_ix_list); (· walk_at "rf"); (· walk_at "rf"))
  | ((with_reducible apply r2_ix_tup); (· walk_at "rf"))
  | ((with_reducible apply rc_len); (· walk_at "rf"))
  | ((with_reducible apply slx_list); (· walk_at "rf"))
  | ((with_reducible apply r2_plus_list); (· walk_at "rf"); (· walk_at "rf"); (· walk_at "sz"))
  | ((with_reducible refine xs_asg ?_ ?_ ?_); (· walk_at "sd"); (· walk_at "sd"))
  | ((with_reducible refine r2_times_int ?_ ?_); (· walk_at "cm"))
  | ((with_reducible refine r2_mod ?_ ?_); (· walk_at "sd"))
  | ((with_reducible refine r2_fdiv ?_ ?_); (· walk_at "sd"))
  | ((with_reducible refine r2_pow ?_ ?_); (· walk_at "pw"))
  | ((with_reducible refine r2_plus_str ?_ ?_); (· walk_at "sz"))
  | ((with_reducible refine r2_plus_tup ?_ ?_); (· walk_at "sz"))
  | ((with_reducible refine rc_str_int ?_ ?_); (· walk_at "sd"))
  | ((with_reducible refine rc_len_str ?_ ?_); (· walk_at "sz"))
  | ((with_reducible refine slx_str ?_ ?_); (· walk_at "sz"))
  | (with_reducible apply xs_asgG)
  | (with_reducible apply xgs_cons)
  | ((with_reducible apply Exists.intro); (with_reducible apply And.intro); (· exact rfl); (with_reducible apply And.intro); (· walk_at "sz"))
  | ((with_reducible apply Exists.intro); (with_reducible apply And.intro); (· exact rfl))
  | ((with_reducible apply And.intro); (· exact rfl))
  | ((with_reducible show ∀ _ : V, _); intro _)
  | fail)
local macro_rules | `(tactic| walk_at "gs") => `(tactic| repeat' (walk_at "st"))
local macro_rules | `(tactic| walk_at "go") => `(tactic| repeat' (first | (with_reducible refine xs_seq ?_) | walk_at "st"))

abbrev sLinker_put : Stmt := inClass (topS 8) 1
theorem scLinker_put : FnScope ["self", "piece"] ["self", "piece"] (defScope sLinker_put) := ⟨rfl, rfl, rfl, by decide +kernel, rfl, by decide +kernel, by decide +kernel⟩

def fLinker_put (C : Addr) : FS := fun os P => ∃ (r : List Rw) (p : List (Str × List Rw)) (x : Rw), os = [lkO C r p, .d (pcD x)] ∧ r.length < 30 ∧ p.length ≤ 100000 ∧ x.1 ∉ nms r ∧ P (.d .none) [lkO C (r ++ [x]) (p ++ [(("put" : Str), r)]), .d (pcD x)]
theorem lenLinker_put (C : Addr) : ∀ os P, fLinker_put C os P → os.length = ["self", "piece"].length := by
  rintro os P ⟨_, _, _, rfl, _⟩
  rfl

theorem okLinker_put {P : Program} {w : World} {K : PySem.W.Frag} {mg : Str → Option Value} {base : Heap} {C_Linker : Addr} (S : StdM K C_Linker "put" "Linker.put" sLinker_put ["self", "piece"]) (CLinker_names : CalM P w K mg base C_Linker 1 "names" ["self"] (fLinker_names C_Linker)) (CLinker_does : CalM P w K mg base C_Linker 1 "does" ["self", "told", "pieces"] (fLinker_does C_Linker)) (cl_Linker : Cls K C_Linker) (na_Linker_pieces : NoAttr K C_Linker "pieces") (z_len : mg "len" = none) {t_MOST_PIECES : Tok} (m_MOST_PIECES : mg "MOST_PIECES" = some (.int 30 t_MOST_PIECES)) : CalM P w K mg base C_Linker 2 "put" ["self", "piece"] (fLinker_put C_Linker) := by
  obtain ⟨aLinker_names, fdLinker_names, GLinker_names, MLinker_names, bLinker_names⟩ := CLinker_names
  obtain ⟨aLinker_does, fdLinker_does, GLinker_does, MLinker_does, bLinker_does⟩ := CLinker_does
  have r_MOST_PIECES : RelV (.int 30) (.int 30 t_MOST_PIECES) := ⟨_, rfl⟩
  refine calM_of [true, false] S scLinker_put (by decide) (lenLinker_put C_Linker) fun a cdv A outer s H vs Q E hr => ?_
  have sc := scLinker_put
  let nm : List Str := ["self", "piece"]
  let sco := defScope sLinker_put
  refine ⟨_, (pss_cons (ps_if (pt_cmpR (r := rEqu K) (op_equ (room64 hr)) (pe_callB (r := rLenK K) call_len (by rfl) z_len (by decide +kernel) (pa_cons (pe_fld (pv 0) rfl) pa_nil)) (pe_glob (by rfl) m_MOST_PIECES r_MOST_PIECES) (nomark _))
 (pss_one ps_never)
 pss_nil)
 (pss_cons (ps_if (pt_cmpR (r := rInn K) (op_inn (room65 hr)) (pe_ix (r := rIx K) ix_seq (pv 1) pe_int (fun _ _ => rfl)) (pe_meth0 (pv 0) cl_Linker MLinker_names GLinker_names (hr.mono (by decide)) bLinker_names .nil pass0) (by rfl))
 (pss_one ps_never)
 pss_nil)
 (pss_one (ps_expr (pe_meth (pv 0) cl_Linker MLinker_does GLinker_does (hr.mono (by decide)) bLinker_does .nil pass0 (pa_cons pe_str (pa_cons (pe_op (r := rPlus K) op_plus (pe_fld (pv 0) rfl) (pe_lst (pa_cons (pv 1) pa_nil))) pa_nil))))))), ?_⟩
  clear sc nm sco
  try dsimp only [cxOf, Cx.nox, Cx.wish]

  rintro os P ⟨r, p, x, rfl, hl, hp, hx, q⟩
  refine ⟨by walk_at "bk", ?_⟩
  show XS K _ _ _ [lkO C_Linker r p, .d (pcD x)]
  have hlr : (rD r).length = r.length := List.length_map _
  refine xs_seq ?_
  walk_at "gs"
  refine ifd (fun h => ?_) fun h => ?_
  · rw [hlr] at h
    omega
  walk_at "gs"
  refine xs_seq ?_
  walk_at "gs"
  refine ⟨r, p, rfl, by omega, ?_⟩
  walk_at "gs"
  refine r2_in_strs rfl ?_
  walk_at "gs"
  refine ifd (fun h => (hx h).elim) fun h => ?_
  refine xs_next ?_
  refine xs_drop ?_
  walk_at "gs"
  refine ⟨r, r ++ [x], p, "put", ?_, hp, ?_⟩
  · rw [show rD (r ++ [x]) = rD r ++ [pcD x] from List.map_append]
    rfl
  walk_at "gs"
  exact ⟨Nat.le_of_ble_eq_true rfl, q⟩

end K79
set_option maxRecDepth 100000
set_option maxHeartbeats 8000000
set_option autoImplicit false
namespace K79
open PySem L2 PyProof.Rows PL MV LKD
local macro_rules | `(tactic| walk_at "rf") => `(tactic| exact rfl)
local macro_rules | `(tactic| walk_at "gf") => `(tactic| repeat' (first
  | exact getF_hit
  | exact setF_hit
  | refine getF_miss (by decide +kernel) ?_
  | refine setF_miss (by decide +kernel) ?_
  | exact rfl))
local macro_rules | `(tactic| walk_at "bk") => `(tactic| simp [BackOk, Ow.cp])
local macro_rules | `(tactic| walk_at "as") => `(tactic| assumption)
local macro_rules | `(tactic| walk_at "tr") => `(tactic| exact trivial)
local macro_rules | `(tactic| walk_at "pw") => `(tactic| exact ⟨by decide, by decide, by decide⟩)
local macro_rules | `(tactic| walk_at "cm") => `(tactic| (unfold CMul; first
  | (left; decide)
  | (right; decide)
  | (left; refine ⟨?_, ?_⟩ <;> omega)
  | (right; refine ⟨?_, ?_⟩ <;> omega)))
local macro_rules | `(tactic| walk_at "sd") => `(tactic| first
  | exact rfl
  | exact Nat.le_of_ble_eq_true rfl
  | (with_reducible assumption)
  | decide
  | omega
  | (simp only [List.length_cons, List.length_nil, List.length_append, List.length_set, List.length_replicate, List.length_map]; omega)
  | (refine ⟨?_, ?_⟩ <;> (first | decide | omega)))
local macro_rules | `(tactic| walk_at "sz") => `(tactic| first
  | decide
  | (with_reducible assumption)
  | (rw [sizeLine_eq]; omega)
  | (rw [sizeLine_eq]; simp only [List.length_cons, List.length_nil, List.length_append, List.length_set, List.length_replicate, List.length_map]; omega))
local macro_rules | `(tactic| walk_at "st") => `(tactic| first
  | ((with_reducible show Fill _ _ _ _); first | (apply fill_bor; (· exact rfl)) | apply fill_val | apply fill_nil)
  | ((with_reducible show RCX _ _ _ _); dsimp only [List.map, Arg.ow])
  | ((with_reducible show f_law_next _ _); refine use_next ?_ ?_; (· walk_at "sd"))
  | ((with_reducible apply xe_eqV); (· exact rfl); (· intro _; exact rfl); intro _ _)
  | ((with_reducible apply xe_lenV); (· exact rfl); intro _)
  | ((with_reducible apply xa_own); (· walk_at "rf"); (· walk_at "rf"); intro _)
  | ((with_reducible apply xa_vs); (· walk_at "rf"))
  | ((with_reducible apply xe_ixV); (· walk_at "rf"); (· walk_at "rf"); (· walk_at "rf"))
  | ((with_reducible apply xe_ixC); (· walk_at "rf"); (· walk_at "rf"))
  | ((with_reducible apply xe_fldV); (· walk_at "rf"); (· walk_at "as"); (· walk_at "as"); (· walk_at "gf"); (· walk_at "tr"))
  | ((with_reducible apply xe_methV); (· walk_at "rf"); (· walk_at "gf"))
  | (with_reducible refine L2.iteT ?_)
  | (with_reducible refine L2.iteF ?_)
  | (with_reducible refine xs_if ?_)
  | (with_reducible refine xs_next ?_)
  | (with_reducible refine xs_retN ?_)
  | (with_reducible refine xs_ret ?_)
  | (with_reducible refine xe_op ?_)
  | (with_reducible refine xe_int ?_)
  | (with_reducible refine xe_str ?_)
  | (with_reducible refine xe_bl ?_)
  | (with_reducible refine xe_non ?_)
  | (with_reducible refine xa_nil ?_)
  | (with_reducible refine xa_cons ?_)
  | (with_reducible refine xe_tup ?_)
  | (with_reducible refine xe_lst ?_)
  | (with_reducible refine xe_call ?_)
  | (with_reducible refine xe_cb ?_)
  | (with_reducible refine xe_if ?_)
  | (with_reducible refine xe_neg ?_)
  | (with_reducible refine xt_tst ?_)
  | (with_reducible refine xt_and ?_)
  | (with_reducible refine xt_or ?_)
  | (with_reducible refine xt_not ?_)
  | (with_reducible refine xt_yes ?_)
  | (with_reducible refine r2_plus_int ?_)
  | (with_reducible refine r2_sub ?_)
  | (with_reducible refine r2_lt ?_)
  | (with_reducible refine r2_le ?_)
  | (with_reducible refine r2_gt ?_)
  | (with_reducible refine r2_ge ?_)
  | (with_reducible refine r2_eq_int ?_)
  | (with_reducible refine r2_eq_str ?_)
  | (with_reducible refine r2_ne_int ?_)
  | (with_reducible refine r2_ne_str ?_)
  | (with_reducible refine r2_isN ?_)
  | (with_reducible refine r2_notN ?_)
  | (with_reducible refine r2_eq_bool ?_)
  | (with_reducible refine r2_ne_bool ?_)
  | (with_reducible refine rc_len_tup ?_)
  | (with_reducible refine rc_len_scr ?_)
  | (with_reducible refine rc_min2 ?_)
  | (with_reducible refine rc_max2 ?_)
  | (with_reducible refine rc_int_bool ?_)
  | (with_reducible refine rc_abs ?_)
  | (with_reducible refine xgs_nil ?_)
  | (with_reducible refine xe_andV ?_)
  | (with_reducible refine xe_orV ?_)
  | (with_reducible refine xe_notV ?_)
  | (with_reducible refine xe_slice ?_)
  | (with_reducible refine xo_none ?_)
  | (with_reducible refine xo_some ?_)
  | (with_reducible refine xi_range1 ?_)
  | (with_reducible refine xi_range2 ?_)
  | (with_reducible refine xi_list ?_)
  | (with_reducible refine xi_tup ?_)
  | (with_reducible refine slx_tup ?_)
  | ((with_reducible apply xg_name); (· walk_at "sd"); (· walk_at "sd"))
  | ((with_reducible apply xg_tup); (· walk_at "rf"))
  | ((with_reducible apply xe_vd); (· walk_at "rf"))
  | ((with_reducible apply xe_vs); (· walk_at "rf"))
  | ((with_reducible apply r2_ix_list); (· walk_at "rf"); (· walk_at "rf"))
  | ((with_reducible apply r2_ix_tup); (· walk_at "rf"))
  | ((with_reducible apply rc_len); (· walk_at "rf"))
  | ((with_reducible apply slx_list); (· walk_at "rf"))
  | ((with_reducible apply r2_plus_list); (· walk_at "rf"); (· walk_at "rf"); (· walk_at "sz"))
  | ((with_reducible refine xs_asg ?_ ?_ ?_); (· walk_at "sd"); (· walk_at "sd"))
  | ((with_reducible refine r2_times_int ?_ ?_); (· walk_at "cm"))
  | ((with_reducible refine r2_mod ?_ ?_); (· walk_at "sd"))
  | ((with_reducible refine r2_fdiv ?_ ?_); (· walk_at "sd"))
  | ((with_reducible refine r2_pow ?_ ?_); (· walk_at "pw"))
  | ((with_reducible refine r2_plus_str ?_ ?_); (· walk_at "sz"))
  | ((with_reducible refine r2_plus_tup ?_ ?_); (· walk_at "sz"))
  | ((with_reducible refine rc_str_int ?_ ?_); (· walk_at "sd"))
  | ((with_reducible refine rc_len_str ?_ ?_); (· walk_at "sz"))
  | ((with_reducible refine slx_str ?_ ?_); (· walk_at "sz"))
  | (with_reducible apply xs_asgG)
  | (with_reducible apply xgs_cons)
  | ((with_reducible apply Exists.intro); (with_reducible apply And.intro); (· exact rfl); (with_reducible apply And.intro); (· walk_at "sz"))
  | ((with_reducible apply Exists.intro); (with_reducible apply And.intro); (· exact rfl))
  | ((with_reducible apply And.intro); (· exact rfl))
  | ((with_reducible show ∀ _ : V, _); intro _)
  | fail)
local macro_rules | `(tactic| walk_at "gs") => `(tactic| repeat' (walk_at "st"))
local macro_rules | `(tactic| walk_at "go") => `(tactic| repeat' (first | (with_reducible refine xs_seq ?_) | walk_at "st"))

abbrev sLinker_number_named : Stmt := inClass (topS 8) 8
theorem scLinker_number_named : FnScope ["self", "name", "names"] ["self", "name"] (defScope sLinker_number_named) := ⟨rfl, rfl, rfl, by decide +kernel, rfl, by decide +kernel, by decide +kernel⟩

def fLinker_number_named (C : Addr) : FS := fun os P => ∃ (r : List Rw) (p : List (Str × List Rw)) (n : Str), os = [lkO C r p, .d (.str n)] ∧ r.length ≤ 1000 ∧ n ∈ nms r ∧ P (.d (.int (fi r n))) os
theorem lenLinker_number_named (C : Addr) : ∀ os P, fLinker_number_named C os P → os.length = ["self", "name"].length := by
  rintro os P ⟨_, _, _, rfl, _⟩
  rfl

theorem okLinker_number_named {P : Program} {w : World} {K : PySem.W.Frag} {mg : Str → Option Value} {base : Heap} {C_Linker : Addr} (S : StdM K C_Linker "number_named" "Linker.number_named" sLinker_number_named ["self", "name"]) (CLinker_names : CalM P w K mg base C_Linker 1 "names" ["self"] (fLinker_names C_Linker)) (cl_Linker : Cls K C_Linker) : CalM P w K mg base C_Linker 2 "number_named" ["self", "name"] (fLinker_number_named C_Linker) := by
  obtain ⟨aLinker_names, fdLinker_names, GLinker_names, MLinker_names, bLinker_names⟩ := CLinker_names
  refine calM_of [true, false] S scLinker_number_named (by decide) (lenLinker_number_named C_Linker) fun a cdv A outer s H vs Q E hr => ?_
  have sc := scLinker_number_named
  let nm : List Str := ["self", "name", "names"]
  let sco := defScope sLinker_number_named
  refine ⟨_, (pss_cons (ps_set (i := 2) sc.nd rfl (Or.inl rfl) (pe_meth0 (pv 0) cl_Linker MLinker_names GLinker_names (hr.mono (by decide)) bLinker_names .nil pass0))
 (pss_cons (ps_if (pt_cmpR (r := rNin K) (op_nin (room65 hr)) (pv 1) (pv 2) (by rfl))
 (pss_one ps_never)
 pss_nil)
 (pss_one (ps_ret (pe_bm (r := rIndex K) PySem.F.plainAttrs_list PySem.F.slot_list_index PySem.F.type_list_index mt_index (pv 2) (pa_cons (pv 1) pa_nil)))))), ?_⟩
  clear sc nm sco
  try dsimp only [cxOf, Cx.nox, Cx.wish]

  rintro os P ⟨r, p, n, rfl, hl, hn, q⟩
  refine ⟨by walk_at "bk", ?_⟩
  show XS K _ _ _ [lkO C_Linker r p, .d (.str n), .any]
  refine xs_seq ?_
  walk_at "gs"
  refine ⟨r, p, rfl, hl, ?_⟩
  walk_at "gs"
  refine xs_seq ?_
  walk_at "gs"
  refine r2_nin_strs rfl ?_
  walk_at "gs"
  refine ifn (fun h => (h hn).elim) fun h => ?_
  walk_at "go"
  refine xe_index (xe_vd rfl ⟨_, rfl, xe_vd rfl ⟨_, rfl, hn, fun j h1 h2 => ?_⟩⟩)
  rw [fi_eq h1 h2]
  exact ⟨Nat.le_of_ble_eq_true rfl, q⟩

end K79
set_option maxRecDepth 100000
set_option maxHeartbeats 8000000
set_option autoImplicit false
namespace K79
open PySem L2 PyProof.Rows PL MV LKD
local macro_rules | `(tactic| walk_at "rf") => `(tactic| exact rfl)
local macro_rules | `(tactic| walk_at "gf") => `(tactic| repeat' (first
  | exact getF_hit
  | exact setF_hit
  | refine getF_miss (by decide +kernel) ?_
  | refine setF_miss (by decide +kernel) ?_
  | exact rfl))
local macro_rules | `(tactic| walk_at "bk") => `(tactic| simp [BackOk, Ow.cp])
local macro_rules | `(tactic| walk_at "as") => `(tactic| assumption)
local macro_rules | `(tactic| walk_at "tr") => `(tactic| exact trivial)
local macro_rules | `(tactic| walk_at "pw") => `(tactic| exact ⟨by decide, by decide, by decide⟩)
local macro_rules | `(tactic| walk_at "cm") => `(tactic| (unfold CMul; first
  | (left; decide)
  | (right; decide)
  | (left; refine ⟨?_, ?_⟩ <;> omega)
  | (right; refine ⟨?_, ?_⟩ <;> omega)))
local macro_rules | `(tactic| walk_at "sd") => `(tactic| first
  | exact rfl
  | exact Nat.le_of_ble_eq_true rfl
  | (with_reducible assumption)
  | decide
  | omega
  | (simp only [List.length_cons, List.length_nil, List.length_append, List.length_set, List.length_replicate, List.length_map]; omega)
  | (refine ⟨?_, ?_⟩ <;> (first | decide | omega)))
local macro_rules | `(tactic| walk_at "sz") => `(tactic| first
  | decide
  | (with_reducible assumption)
  | (rw [sizeLine_eq]; omega)
  | (rw [sizeLine_eq]; simp only [List.length_cons, List.length_nil, List.length_append, List.length_set, List.length_replicate, List.length_map]; omega))
local macro_rules | `(tactic| walk_at "st") => `(tactic| first
  | ((with_reducible show Fill _ _ _ _); first | (apply fill_bor; (· exact rfl)) | apply fill_val | apply fill_nil)
  | ((with_reducible show RCX _ _ _ _); dsimp only [List.map, Arg.ow])
  | ((with_reducible show f_law_next _ _); refine use_next ?_ ?_; (· walk_at "sd"))
  | ((with_reducible apply xe_eqV); (· exact rfl); (· intro _; exact rfl); intro _ _)
  | ((with_reducible apply xe_lenV); (· exact rfl); intro _)
  | ((with_reducible apply xa_own); (· walk_at "rf"); (· walk_at "rf"); intro _)
  | ((with_reducible apply xa_vs); (· walk_at "rf"))
  | ((with_reducible apply xe_ixV); (· walk_at "rf"); (· walk_at "rf"); (· walk_at "rf"))
  | ((with_reducible apply xe_ixC); (· walk_at "rf"); (· walk_at "rf"))
  | ((with_reducible apply xe_fldV); (· walk_at "rf"); (· walk_at "as"); (· walk_at "as"); (· walk_at "gf"); (· walk_at "tr"))
  | ((with_reducible apply xe_methV); (· walk_at "rf"); (· walk_at "gf"))
  | (with_reducible refine L2.iteT ?_)
  | (with_reducible refine L2.iteF ?_)
  | (with_reducible refine xs_if ?_)
  | (with_reducible refine xs_next ?_)
  | (with_reducible refine xs_retN ?_)
  | (with_reducible refine xs_ret ?_)
  | (with_reducible refine xe_op ?_)
  | (with_reducible refine xe_int ?_)
  | (with_reducible refine xe_str ?_)
  | (with_reducible refine xe_bl ?_)
  | (with_reducible refine xe_non ?_)
  | (with_reducible refine xa_nil ?_)
  | (with_reducible refine xa_cons ?_)
  | (with_reducible refine xe_tup ?_)
  | (with_reducible refine xe_lst ?_)
  | (with_reducible refine xe_call ?_)
  | (with_reducible refine xe_cb ?_)
  | (with_reducible refine xe_if ?_)
  | (with_reducible refine xe_neg ?_)
  | (with_reducible refine xt_tst ?_)
  | (with_reducible refine xt_and ?_)
  | (with_reducible refine xt_or ?_)
  | (with_reducible refine xt_not ?_)
  | (with_reducible refine xt_yes ?_)
  | (with_reducible refine r2_plus_int ?_)
  | (with_reducible refine r2_sub ?_)
  | (with_reducible refine r2_lt ?_)
  | (with_reducible refine r2_le ?_)
  | (with_reducible refine r2_gt ?_)
  | (with_reducible refine r2_ge ?_)
  | (with_reducible refine r2_eq_int ?_)
  | (with_reducible refine r2_eq_str ?_)
  | (with_reducible refine r2_ne_int ?_)
  | (with_reducible refine r2_ne_str ?_)
  | (with_reducible refine r2_isN ?_)
  | (with_reducible refine r2_notN ?_)
  | (with_reducible refine r2_eq_bool ?_)
  | (with_reducible refine r2_ne_bool ?_)
  | (with_reducible refine rc_len_tup ?_)
  | (with_reducible refine rc_len_scr ?_)
  | (with_reducible refine rc_min2 ?_)
  | (with_reducible refine rc_max2 ?_)
  | (with_reducible refine rc_int_bool ?_)
  | (with_reducible refine rc_abs ?_)
  | (with_reducible refine xgs_nil ?_)
  | (with_reducible refine xe_andV ?_)
  | (with_reducible refine xe_orV ?_)
  | (with_reducible refine xe_notV ?_)
  | (with_reducible refine xe_slice ?_)
  | (with_reducible refine xo_none ?_)
  | (with_reducible refine xo_some ?_)
  | (with_reducible refine xi_range1 ?_)
  | (with_reducible refine xi_range2 ?_)
  | (with_reducible refine xi_list ?_)
  | (with_reducible refine xi_tup ?_)
  | (with_reducible refine slx_tup ?_)
  | ((with_reducible apply xg_name); (· walk_at "sd"); (· walk_at "sd"))
  | ((with_reducible apply xg_tup); (· walk_at "rf"))
  | ((with_reducible apply xe_vd); (· walk_at "rf"))
  | ((with_reducible apply xe_vs); (· walk_at "rf"))
  | ((with_reducible apply r2_ix_list); (· walk_at "rf"); (· walk_at "rf"))
  | ((with_reducible apply r2_ix_tup); (· walk_at "rf"))
  | ((with_reducible apply rc_len); (· walk_at "rf"))
  | ((with_reducible apply slx_list); (· walk_at "rf"))
  | ((with_reducible apply r2_plus_list); (· walk_at "rf"); (· walk_at "rf"); (· walk_at "sz"))
  | ((with_reducible refine xs_asg ?_ ?_ ?_); (· walk_at "sd"); (· walk_at "sd"))
  | ((with_reducible refine r2_times_int ?_ ?_); (· walk_at "cm"))
  | ((with_reducible refine r2_mod ?_ ?_); (· walk_at "sd"))
  | ((with_reducible refine r2_fdiv ?_ ?_); (· walk_at "sd"))
  | ((with_reducible refine r2_pow ?_ ?_); (· walk_at "pw"))
  | ((with_reducible refine r2_plus_str ?_ ?_); (· walk_at "sz"))
  | ((with_reducible refine r2_plus_tup ?_ ?_); (· walk_at "sz"))
  | ((with_reducible refine rc_str_int ?_ ?_); (· walk_at "sd"))
  | ((with_reducible refine rc_len_str ?_ ?_); (· walk_at "sz"))
  | ((with_reducible refine slx_str ?_ ?_); (· walk_at "sz"))
  | (with_reducible apply xs_asgG)
  | (with_reducible apply xgs_cons)
  | ((with_reducible apply Exists.intro); (with_reducible apply And.intro); (· exact rfl); (with_reducible apply And.intro); (· walk_at "sz"))
  | ((with_reducible apply Exists.intro); (with_reducible apply And.intro); (· exact rfl))
  | ((with_reducible apply And.intro); (· exact rfl))
  | ((with_reducible show ∀ _ : V, _); intro _)
  | fail)
local macro_rules | `(tactic| walk_at "gs") => `(tactic| repeat' (walk_at "st"))
local macro_rules | `(tactic| walk_at "go") => `(tactic| repeat' (first | (with_reducible refine xs_seq ?_) | walk_at "st"))

abbrev sLinker_exchange : Stmt := inClass (topS 8) 2
theorem scLinker_exchange : FnScope ["self", "piece", "at"] ["self", "piece"] (defScope sLinker_exchange) := ⟨rfl, rfl, rfl, by decide +kernel, rfl, by decide +kernel, by decide +kernel⟩

def fLinker_exchange (C : Addr) : FS := fun os P => ∃ (r : List Rw) (p : List (Str × List Rw)) (x : Rw), os = [lkO C r p, .d (pcD x)] ∧ r.length ≤ 1000 ∧ p.length ≤ 100000 ∧ x.1 ∈ nms r ∧ P (.d .none) [lkO C (aft r (.exc x)) (p ++ [(("exchanged" : Str), r)]), .d (pcD x)]
theorem lenLinker_exchange (C : Addr) : ∀ os P, fLinker_exchange C os P → os.length = ["self", "piece"].length := by
  rintro os P ⟨_, _, _, rfl, _⟩
  rfl

theorem okLinker_exchange {P : Program} {w : World} {K : PySem.W.Frag} {mg : Str → Option Value} {base : Heap} {C_Linker : Addr} (S : StdM K C_Linker "exchange" "Linker.exchange" sLinker_exchange ["self", "piece"]) (CLinker_number_named : CalM P w K mg base C_Linker 2 "number_named" ["self", "name"] (fLinker_number_named C_Linker)) (CLinker_does : CalM P w K mg base C_Linker 1 "does" ["self", "told", "pieces"] (fLinker_does C_Linker)) (cl_Linker : Cls K C_Linker) (na_Linker_pieces : NoAttr K C_Linker "pieces") : CalM P w K mg base C_Linker 3 "exchange" ["self", "piece"] (fLinker_exchange C_Linker) := by
  obtain ⟨aLinker_number_named, fdLinker_number_named, GLinker_number_named, MLinker_number_named, bLinker_number_named⟩ := CLinker_number_named
  obtain ⟨aLinker_does, fdLinker_does, GLinker_does, MLinker_does, bLinker_does⟩ := CLinker_does
  refine calM_of [true, false] S scLinker_exchange (by decide) (lenLinker_exchange C_Linker) fun a cdv A outer s H vs Q E hr => ?_
  have sc := scLinker_exchange
  let nm : List Str := ["self", "piece", "at"]
  let sco := defScope sLinker_exchange
  refine ⟨_, (pss_cons (ps_set (i := 2) sc.nd rfl (Or.inl rfl) (pe_meth (pv 0) cl_Linker MLinker_number_named GLinker_number_named (hr.mono (by decide)) bLinker_number_named .nil pass0 (pa_cons (pe_ix (r := rIx K) ix_seq (pv 1) pe_int (fun _ _ => rfl)) pa_nil)))
 (pss_one (ps_expr (pe_meth (pv 0) cl_Linker MLinker_does GLinker_does (hr.mono (by decide)) bLinker_does .nil pass0 (pa_cons pe_str (pa_cons (pe_op (r := rPlus K) op_plus (pe_op (r := rPlus K) op_plus (pe_slice (r := rSli K) sl_any (pe_fld (pv 0) rfl) po_none (po_some (pv 2))) (pe_lst (pa_cons (pv 1) pa_nil))) (pe_slice (r := rSli K) sl_any (pe_fld (pv 0) rfl) (po_some (pe_op (r := rPlus K) op_plus (pv 2) pe_int)) po_none)) pa_nil)))))), ?_⟩
  clear sc nm sco
  try dsimp only [cxOf, Cx.nox, Cx.wish]

  rintro os P ⟨r, p, x, rfl, hl, hp, hx, q⟩
  refine ⟨by walk_at "bk", ?_⟩
  show XS K _ _ _ [lkO C_Linker r p, .d (pcD x), .any]
  have hlr : (rD r).length = r.length := List.length_map _
  have hf := fi_lt hx
  refine xs_seq ?_
  walk_at "gs"
  refine ⟨r, p, x.1, rfl, hl, hx, ?_⟩
  walk_at "gs"
  refine xs_drop ?_
  walk_at "gs"
  refine r2_plus_list rfl rfl ?_ ?_
  · rw [sizeLine_eq]
    have : (cuD (rD r) none (some (fi r x.1 : Int))).length ≤ (rD r).length := by
      rw [cut_take (by omega), List.length_take]
      omega
    simp only [List.length_cons, List.length_nil]
    omega
  walk_at "gs"
  refine r2_plus_list rfl rfl ?_ ?_
  · rw [sizeLine_eq, cut_take (by omega), show ((fi r x.1 : Int) + 1) = ((fi r x.1 + 1 : Nat) : Int) from rfl, cut_drop (by omega)]
    simp only [List.length_append, List.length_take, List.length_drop, List.length_cons, List.length_nil]
    omega
  walk_at "gs"
  refine ⟨r, aft r (.exc x), p, "exchanged", ?_, hp, ?_⟩
  · rw [cut_take (by omega), show ((fi r x.1 : Int) + 1) = ((fi r x.1 + 1 : Nat) : Int) from rfl, cut_drop (by omega)]
    have e : rD (aft r (.exc x)) = (rD r).take (fi r x.1) ++ [pcD x] ++ (rD r).drop (fi r x.1 + 1) := by
      show List.map pcD (r.take (fi r x.1) ++ [x] ++ r.drop (fi r x.1 + 1)) = _
      rw [List.map_append, List.map_append]
      unfold rD
      rw [List.map_take, List.map_drop]
      rfl
    rw [e]
    rfl
  walk_at "gs"
  exact ⟨Nat.le_of_ble_eq_true rfl, q⟩

end K79
set_option maxRecDepth 100000
set_option maxHeartbeats 8000000
set_option autoImplicit false
namespace K79
open PySem L2 PyProof.Rows PL MV LKD
local macro_rules | `(tactic| walk_at "rf") => `(tactic| exact rfl)
local macro_rules | `(tactic| walk_at "gf") => `(tactic| repeat' (first
  | exact getF_hit
  | exact setF_hit
  | refine getF_miss (by decide +kernel) ?_
  | refine setF_miss (by decide +kernel) ?_
  | exact rfl))
local macro_rules | `(tactic| walk_at "bk") => `(tactic| simp [BackOk, Ow.cp])
local macro_rules | `(tactic| walk_at "as") => `(tactic| assumption)
local macro_rules | `(tactic| walk_at "tr") => `(tactic| exact trivial)
local macro_rules | `(tactic| walk_at "pw") => `(tactic| exact ⟨by decide, by decide, by decide⟩)
local macro_rules | `(tactic| walk_at "cm") => `(tactic| (unfold CMul; first
  | (left; decide)
  | (right; decide)
  | (left; refine ⟨?_, ?_⟩ <;> omega)
  | (right; refine ⟨?_, ?_⟩ <;> omega)))
local macro_rules | `(tactic| walk_at "sd") => `(tactic| first
  | exact rfl
  | exact Nat.le_of_ble_eq_true rfl
  | (with_reducible assumption)
  | decide
  | omega
  | (simp only [List.length_cons, List.length_nil, List.length_append, List.length_set, List.length_replicate, List.length_map]; omega)
  | (refine ⟨?_, ?_⟩ <;> (first | decide | omega)))
local macro_rules | `(tactic| walk_at "sz") => `(tactic| first
  | decide
  | (with_reducible assumption)
  | (rw [sizeLine_eq]; omega)
  | (rw [sizeLine_eq]; simp only [List.length_cons, List.length_nil, List.length_append, List.length_set, List.length_replicate, List.length_map]; omega))
local macro_rules | `(tactic| walk_at "st") => `(tactic| first
  | ((with_reducible show Fill _ _ _ _); first | (apply fill_bor; (· exact rfl)) | apply fill_val | apply fill_nil)
  | ((with_reducible show RCX _ _ _ _); dsimp only [List.map, Arg.ow])
  | ((with_reducible show f_law_next _ _); refine use_next ?_ ?_; (· walk_at "sd"))
  | ((with_reducible apply xe_eqV); (· exact rfl); (· intro _; exact rfl); intro _ _)
  | ((with_reducible apply xe_lenV); (· exact rfl); intro _)
  | ((with_reducible apply xa_own); (· walk_at "rf"); (· walk_at "rf"); intro _)
  | ((with_reducible apply xa_vs); (· walk_at "rf"))
  | ((with_reducible apply xe_ixV); (· walk_at "rf"); (· walk_at "rf"); (· walk_at "rf"))
  | ((with_reducible apply xe_ixC); (· walk_at "rf"); (· walk_at "rf"))
  | ((with_reducible apply xe_fldV); (· walk_at "rf"); (· walk_at "as"); (· walk_at "as"); (· walk_at "gf"); (· walk_at "tr"))
  | ((with_reducible apply xe_methV); (· walk_at "rf"); (· walk_at "gf"))
  | (with_reducible refine L2.iteT ?_)
  | (with_reducible refine L2.iteF ?_)
  | (with_reducible refine xs_if ?_)
  | (with_reducible refine xs_next ?_)
  | (with_reducible refine xs_retN ?_)
  | (with_reducible refine xs_ret ?_)
  | (with_reducible refine xe_op ?_)
  | (with_reducible refine xe_int ?_)
  | (with_reducible refine xe_str ?_)
  | (with_reducible refine xe_bl ?_)
  | (with_reducible refine xe_non ?_)
  | (with_reducible refine xa_nil ?_)
  | (with_reducible refine xa_cons ?_)
  | (with_reducible refine xe_tup ?_)
  | (with_reducible refine xe_lst ?_)
  | (with_reducible refine xe_call ?_)
  | (with_reducible refine xe_cb ?_)
  | (with_reducible refine xe_if ?_)
  | (with_reducible refine xe_neg ?_)
  | (with_reducible refine xt_tst ?_)
  | (with_reducible refine xt_and ?_)
  | (with_reducible refine xt_or ?_)
  | (with_reducible refine xt_not ?_)
  | (with_reducible refine xt_yes ?_)
  | (with_reducible refine r2_plus_int ?_)
  | (with_reducible refine r2_sub ?_)
  | (with_reducible refine r2_lt ?_)
  | (with_reducible refine r2_le ?_)
  | (with_reducible refine r2_gt ?_)
  | (with_reducible refine r2_ge ?_)
  | (with_reducible refine r2_eq_int ?_)
  | (with_reducible refine r2_eq_str ?_)
  | (with_reducible refine r2_ne_int ?_)
  | (with_reducible refine r2_ne_str ?_)
  | (with_reducible refine r2_isN ?_)
  | (with_reducible refine r2_notN ?_)
  | (with_reducible refine r2_eq_bool ?_)
  | (with_reducible refine r2_ne_bool ?_)
  | (with_reducible refine rc_len_tup ?_)
  | (with_reducible refine rc_len_scr ?_)
  | (with_reducible refine rc_min2 ?_)
  | (with_reducible refine rc_max2 ?_)
  | (with_reducible refine rc_int_bool ?_)
  | (with_reducible refine rc_abs ?_)
  | (with_reducible refine xgs_nil ?_)
  | (with_reducible refine xe_andV ?_)
  | (with_reducible refine xe_orV ?_)
  | (with_reducible refine xe_notV ?_)
  | (with_reducible refine xe_slice ?_)
  | (with_reducible refine xo_none ?_)
  | (with_reducible refine xo_some ?_)
  | (with_reducible refine xi_range1 ?_)
  | (with_reducible refine xi_range2 ?_)
  | (with_reducible refine xi_list ?_)
  | (with_reducible refine xi_tup ?_)
  | (with_reducible refine slx_tup ?_)
  | ((with_reducible apply xg_name); (· walk_at "sd"); (· walk_at "sd"))
  | ((with_reducible apply xg_tup); (· walk_at "rf"))
  | ((with_reducible apply xe_vd); (· walk_at "rf"))
  | ((with_reducible apply xe_vs); (· walk_at "rf"))
  | ((with_reducible apply r2_ix_list); (· walk_at "rf"); (· walk_at "rf"))
  | ((with_reducible apply r2_ix_tup); (· walk_at "rf"))
  | ((with_reducible apply rc_len); (· walk_at "rf"))
  | ((with_reducible apply slx_list); (· walk_at "rf"))
  | ((with_reducible apply r2_plus_list); (· walk_at "rf"); (· walk_at "rf"); (· walk_at "sz"))
  | ((with_reducible refine xs_asg ?_ ?_ ?_); (· walk_at "sd"); (· walk_at "sd"))
  | ((with_reducible refine r2_times_int ?_ ?_); (· walk_at "cm"))
  | ((with_reducible refine r2_mod ?_ ?_); (· walk_at "sd"))
  | ((with_reducible refine r2_fdiv ?_ ?_); (· walk_at "sd"))
  | ((with_reducible refine r2_pow ?_ ?_); (· walk_at "pw"))
  | ((with_reducible refine r2_plus_str ?_ ?_); (· walk_at "sz"))
  | ((with_reducible refine r2_plus_tup ?_ ?_); (· walk_at "sz"))
  | ((with_reducible refine rc_str_int ?_ ?_); (· walk_at "sd"))
  | ((with_reducible refine rc_len_str ?_ ?_); (· walk_at "sz"))
  | ((with_reducible refine slx_str ?_ ?_); (· walk_at "sz"))
  | (with_reducible apply xs_asgG)
  | (with_reducible apply xgs_cons)
  | ((with_reducible apply Exists.intro); (with_reducible apply And.intro); (· exact rfl); (with_reducible apply And.intro); (· walk_at "sz"))
  | ((with_reducible apply Exists.intro); (with_reducible apply And.intro); (· exact rfl))
  | ((with_reducible apply And.intro); (· exact rfl))
  | ((with_reducible show ∀ _ : V, _); intro _)
  | fail)
local macro_rules | `(tactic| walk_at "gs") => `(tactic| repeat' (walk_at "st"))
local macro_rules | `(tactic| walk_at "go") => `(tactic| repeat' (first | (with_reducible refine xs_seq ?_) | walk_at "st"))

abbrev sLinker_take_out : Stmt := inClass (topS 8) 3
theorem scLinker_take_out : FnScope ["self", "name", "at"] ["self", "name"] (defScope sLinker_take_out) := ⟨rfl, rfl, rfl, by decide +kernel, rfl, by decide +kernel, by decide +kernel⟩

def fLinker_take_out (C : Addr) : FS := fun os P => ∃ (r : List Rw) (p : List (Str × List Rw)) (n : Str), os = [lkO C r p, .d (.str n)] ∧ r.length ≤ 1000 ∧ p.length ≤ 100000 ∧ n ∈ nms r ∧ P (.d .none) [lkO C (aft r (.tak n)) (p ++ [(("taken" : Str), r)]), .d (.str n)]
theorem lenLinker_take_out (C : Addr) : ∀ os P, fLinker_take_out C os P → os.length = ["self", "name"].length := by
  rintro os P ⟨_, _, _, rfl, _⟩
  rfl

theorem okLinker_take_out {P : Program} {w : World} {K : PySem.W.Frag} {mg : Str → Option Value} {base : Heap} {C_Linker : Addr} (S : StdM K C_Linker "take_out" "Linker.take_out" sLinker_take_out ["self", "name"]) (CLinker_number_named : CalM P w K mg base C_Linker 2 "number_named" ["self", "name"] (fLinker_number_named C_Linker)) (CLinker_does : CalM P w K mg base C_Linker 1 "does" ["self", "told", "pieces"] (fLinker_does C_Linker)) (cl_Linker : Cls K C_Linker) (na_Linker_pieces : NoAttr K C_Linker "pieces") : CalM P w K mg base C_Linker 3 "take_out" ["self", "name"] (fLinker_take_out C_Linker) := by
  obtain ⟨aLinker_number_named, fdLinker_number_named, GLinker_number_named, MLinker_number_named, bLinker_number_named⟩ := CLinker_number_named
  obtain ⟨aLinker_does, fdLinker_does, GLinker_does, MLinker_does, bLinker_does⟩ := CLinker_does
  refine calM_of [true, false] S scLinker_take_out (by decide) (lenLinker_take_out C_Linker) fun a cdv A outer s H vs Q E hr => ?_
  have sc := scLinker_take_out
  let nm : List Str := ["self", "name", "at"]
  let sco := defScope sLinker_take_out
  refine ⟨_, (pss_cons (ps_set (i := 2) sc.nd rfl (Or.inl rfl) (pe_meth (pv 0) cl_Linker MLinker_number_named GLinker_number_named (hr.mono (by decide)) bLinker_number_named .nil pass0 (pa_cons (pv 1) pa_nil)))
 (pss_one (ps_expr (pe_meth (pv 0) cl_Linker MLinker_does GLinker_does (hr.mono (by decide)) bLinker_does .nil pass0 (pa_cons pe_str (pa_cons (pe_op (r := rPlus K) op_plus (pe_slice (r := rSli K) sl_any (pe_fld (pv 0) rfl) po_none (po_some (pv 2))) (pe_slice (r := rSli K) sl_any (pe_fld (pv 0) rfl) (po_some (pe_op (r := rPlus K) op_plus (pv 2) pe_int)) po_none)) pa_nil)))))), ?_⟩
  clear sc nm sco
  try dsimp only [cxOf, Cx.nox, Cx.wish]

  rintro os P ⟨r, p, n, rfl, hl, hp, hx, q⟩
  refine ⟨by walk_at "bk", ?_⟩
  show XS K _ _ _ [lkO C_Linker r p, .d (.str n), .any]
  have hlr : (rD r).length = r.length := List.length_map _
  have hf := fi_lt hx
  refine xs_seq ?_
  walk_at "gs"
  refine ⟨r, p, n, rfl, hl, hx, ?_⟩
  walk_at "gs"
  refine xs_drop ?_
  walk_at "gs"
  refine r2_plus_list rfl rfl ?_ ?_
  · rw [sizeLine_eq, cut_take (by omega), show ((fi r n : Int) + 1) = ((fi r n + 1 : Nat) : Int) from rfl, cut_drop (by omega)]
    simp only [List.length_append, List.length_take, List.length_drop, List.length_cons, List.length_nil]
    omega
  walk_at "gs"
  refine ⟨r, aft r (.tak n), p, "taken", ?_, hp, ?_⟩
  · rw [cut_take (by omega), show ((fi r n : Int) + 1) = ((fi r n + 1 : Nat) : Int) from rfl, cut_drop (by omega)]
    have e : rD (aft r (.tak n)) = (rD r).take (fi r n) ++ (rD r).drop (fi r n + 1) := by
      show List.map pcD (r.take (fi r n) ++ r.drop (fi r n + 1)) = _
      rw [List.map_append]
      unfold rD
      rw [List.map_take, List.map_drop]
    rw [e]
    rfl
  walk_at "gs"
  exact ⟨Nat.le_of_ble_eq_true rfl, q⟩

end K79
set_option maxRecDepth 100000
set_option maxHeartbeats 8000000
set_option autoImplicit false
namespace K79
open PySem L2 PyProof.Rows PL MV LKD
local macro_rules | `(tactic| walk_at "rf") => `(tactic| exact rfl)
local macro_rules | `(tactic| walk_at "gf") => `(tactic| repeat' (first
  | exact getF_hit
  | exact setF_hit
  | refine getF_miss (by decide +kernel) ?_
  | refine setF_miss (by decide +kernel) ?_
  | exact rfl))
local macro_rules | `(tactic| walk_at "bk") => `(tactic| simp [BackOk, Ow.cp])
local macro_rules | `(tactic| walk_at "as") => `(tactic| assumption)
local macro_rules | `(tactic| walk_at "tr") => `(tactic| exact trivial)
local macro_rules | `(tactic| walk_at "pw") => `(tactic| exact ⟨by decide, by decide, by decide⟩)
local macro_rules | `(tactic| walk_at "cm") => `(tactic| (unfold CMul; first
  | (left; decide)
  | (right; decide)
  | (left; refine ⟨?_, ?_⟩ <;> omega)
  | (right; refine ⟨?_, ?_⟩ <;> omega)))
local macro_rules | `(tactic| walk_at "sd") => `(tactic| first
  | exact rfl
  | exact Nat.le_of_ble_eq_true rfl
  | (with_reducible assumption)
  | decide
  | omega
  | (simp only [List.length_cons, List.length_nil, List.length_append, List.length_set, List.length_replicate, List.length_map]; omega)
  | (refine ⟨?_, ?_⟩ <;> (first | decide | omega)))
local macro_rules | `(tactic| walk_at "sz") => `(tactic| first
  | decide
  | (with_reducible assumption)
  | (rw [sizeLine_eq]; omega)
  | (rw [sizeLine_eq]; simp only [List.length_cons, List.length_nil, List.length_append, List.length_set, List.length_replicate, List.length_map]; omega))
local macro_rules | `(tactic| walk_at "st") => `(tactic| first
  | ((with_reducible show Fill _ _ _ _); first | (apply fill_bor; (· exact rfl)) | apply fill_val | apply fill_nil)
  | ((with_reducible show RCX _ _ _ _); dsimp only [List.map, Arg.ow])
  | ((with_reducible show f_law_next _ _); refine use_next ?_ ?_; (· walk_at "sd"))
  | ((with_reducible apply xe_eqV); (· exact rfl); (· intro _; exact rfl); intro _ _)
  | ((with_reducible apply xe_lenV); (· exact rfl); intro _)
  | ((with_reducible apply xa_own); (· walk_at "rf"); (· walk_at "rf"); intro _)
  | ((with_reducible apply xa_vs); (· walk_at "rf"))
  | ((with_reducible apply xe_ixV); (· walk_at "rf"); (· walk_at "rf"); (· walk_at "rf"))
  | ((with_reducible apply xe_ixC); (· walk_at "rf"); (· walk_at "rf"))
  | ((with_reducible apply xe_fldV); (· walk_at "rf"); (· walk_at "as"); (· walk_at "as"); (· walk_at "gf"); (· walk_at "tr"))
  | ((with_reducible apply xe_methV); (· walk_at "rf"); (· walk_at "gf"))
  | (with_reducible refine L2.iteT ?_)
  | (with_reducible refine L2.iteF ?_)
  | (with_reducible refine xs_if ?_)
  | (with_reducible refine xs_next ?_)
  | (with_reducible refine xs_retN ?_)
  | (with_reducible refine xs_ret ?_)
  | (with_reducible refine xe_op ?_)
  | (with_reducible refine xe_int ?_)
  | (with_reducible refine xe_str ?_)
  | (with_reducible refine xe_bl ?_)
  | (with_reducible refine xe_non ?_)
  | (with_reducible refine xa_nil ?_)
  | (with_reducible refine xa_cons ?_)
  | (with_reducible refine xe_tup ?_)
  | (with_reducible refine xe_lst ?_)
  | (with_reducible refine xe_call ?_)
  | (with_reducible refine xe_cb ?_)
  | (with_reducible refine xe_if ?_)
  | (with_reducible refine xe_neg ?_)
  | (with_reducible refine xt_tst ?_)
  | (with_reducible refine xt_and ?_)
  | (with_reducible refine xt_or ?_)
  | (with_reducible refine xt_not ?_)
  | (with_reducible refine xt_yes ?_)
  | (with_reducible refine r2_plus_int ?_)
  | (with_reducible refine r2_sub ?_)
  | (with_reducible refine r2_lt ?_)
  | (with_reducible refine r2_le ?_)
  | (with_reducible refine r2_gt ?_)
  | (with_reducible refine r2_ge ?_)
  | (with_reducible refine r2_eq_int ?_)
  | (with_reducible refine r2_eq_str ?_)
  | (with_reducible refine r2_ne_int ?_)
  | (with_reducible refine r2_ne_str ?_)
  | (with_reducible refine r2_isN ?_)
  | (with_reducible refine r2_notN ?_)
  | (with_reducible refine r2_eq_bool ?_)
  | (with_reducible refine r2_ne_bool ?_)
  | (with_reducible refine rc_len_tup ?_)
  | (with_reducible refine rc_len_scr ?_)
  | (with_reducible refine rc_min2 ?_)
  | (with_reducible refine rc_max2 ?_)
  | (with_reducible refine rc_int_bool ?_)
  | (with_reducible refine rc_abs ?_)
  | (with_reducible refine xgs_nil ?_)
  | (with_reducible refine xe_andV ?_)
  | (with_reducible refine xe_orV ?_)
  | (with_reducible refine xe_notV ?_)
  | (with_reducible refine xe_slice ?_)
  | (with_reducible refine xo_none ?_)
  | (with_reducible refine xo_some ?_)
  | (with_reducible refine xi_range1 ?_)
  | (with_reducible refine xi_range2 ?_)
  | (with_reducible refine xi_list ?_)
  | (with_reducible refine xi_tup ?_)
  | (with_reducible refine slx_tup ?_)
  | ((with_reducible apply xg_name); (· walk_at "sd"); (· walk_at "sd"))
  | ((with_reducible apply xg_tup); (· walk_at "rf"))
  | ((with_reducible apply xe_vd); (· walk_at "rf"))
  | ((with_reducible apply xe_vs); (· walk_at "rf"))
  | ((with_reducible apply r2_ix_list); (· walk_at "rf"); (· walk_at "rf"))
  | ((with_reducible apply r2_ix_tup); (· walk_at "rf"))
  | ((with_reducible apply rc_len); (· walk_at "rf"))
  | ((with_reducible apply slx_list); (· walk_at "rf"))
  | ((with_reducible apply r2_plus_list); (· walk_at "rf"); (· walk_at "rf"); (· walk_at "sz"))
  | ((with_reducible refine xs_asg ?_ ?_ ?_); (· walk_at "sd"); (· walk_at "sd"))
  | ((with_reducible refine r2_times_int ?_ ?_); (· walk_at "cm"))
  | ((with_reducible refine r2_mod ?_ ?_); (· walk_at "sd"))
  | ((with_reducible refine r2_fdiv ?_ ?_); (· walk_at "sd"))
  | ((with_reducible refine r2_pow ?_ ?_); (· walk_at "pw"))
  | ((with_reducible refine r2_plus_str ?_ ?_); (· walk_at "sz"))
  | ((with_reducible refine r2_plus_tup ?_ ?_); (· walk_at "sz"))
  | ((with_reducible refine rc_str_int ?_ ?_); (· walk_at "sd"))
  | ((with_reducible refine rc_len_str ?_ ?_); (· walk_at "sz"))
  | ((with_reducible refine slx_str ?_ ?_); (· walk_at "sz"))
  | (with_reducible apply xs_asgG)
  | (with_reducible apply xgs_cons)
  | ((with_reducible apply Exists.intro); (with_reducible apply And.intro); (· exact rfl); (with_reducible apply And.intro); (· walk_at "sz"))
  | ((with_reducible apply Exists.intro); (with_reducible apply And.intro); (· exact rfl))
  | ((with_reducible apply And.intro); (· exact rfl))
  | ((with_reducible show ∀ _ : V, _); intro _)
  | fail)
local macro_rules | `(tactic| walk_at "gs") => `(tactic| repeat' (walk_at "st"))
local macro_rules | `(tactic| walk_at "go") => `(tactic| repeat' (first | (with_reducible refine xs_seq ?_) | walk_at "st"))

abbrev s_law_e_do : Stmt := topS 17
theorem sc_law_e_do : FnScope ["linker", "deed"] ["linker", "deed"] (defScope s_law_e_do) := ⟨rfl, rfl, rfl, by decide +kernel, rfl, by decide +kernel, by decide +kernel⟩

def f_law_e_do (C : Addr) : FS := fun os P => ∃ (r : List Rw) (p : List (Str × List Rw)) (d : Deed), os = [lkO C r p, .d (dD d)] ∧ r.length < 30 ∧ p.length ≤ 100000 ∧ DdOk r d ∧ P (.d .none) [lkO C (aft r d) (p ++ [(word d, r)]), .d (dD d)]
theorem len_law_e_do (C : Addr) : ∀ os P, f_law_e_do C os P → os.length = ["linker", "deed"].length := by
  rintro os P ⟨_, _, _, rfl, _⟩
  rfl

theorem ok_law_e_do {P : Program} {w : World} {K : PySem.W.Frag} {mg : Str → Option Value} {base : Heap} {C_Linker : Addr} (S : Std K mg "_law_e_do" s_law_e_do ["linker", "deed"]) (CLinker_put : CalM P w K mg base C_Linker 2 "put" ["self", "piece"] (fLinker_put C_Linker)) (CLinker_exchange : CalM P w K mg base C_Linker 3 "exchange" ["self", "piece"] (fLinker_exchange C_Linker)) (CLinker_take_out : CalM P w K mg base C_Linker 3 "take_out" ["self", "name"] (fLinker_take_out C_Linker)) (cl_Linker : Cls K C_Linker) : Cal P w K mg base 4 "_law_e_do" ["linker", "deed"] (f_law_e_do C_Linker) := by
  obtain ⟨aLinker_put, fdLinker_put, GLinker_put, MLinker_put, bLinker_put⟩ := CLinker_put
  obtain ⟨aLinker_exchange, fdLinker_exchange, GLinker_exchange, MLinker_exchange, bLinker_exchange⟩ := CLinker_exchange
  obtain ⟨aLinker_take_out, fdLinker_take_out, GLinker_take_out, MLinker_take_out, bLinker_take_out⟩ := CLinker_take_out
  refine cal_of [true, false] S sc_law_e_do (by decide) (len_law_e_do C_Linker) fun a cdv A outer s H vs Q E hr => ?_
  have sc := sc_law_e_do
  let nm : List Str := ["linker", "deed"]
  let sco := defScope s_law_e_do
  refine ⟨_, (pss_cons (ps_if (pt_cmpR (r := rEqu K) (op_equ (room64 hr)) (pe_ix (r := rIx K) ix_seq (pv 1) pe_int (fun _ _ => rfl)) pe_str (nomark _))
 (pss_one (ps_ret (pe_meth (pv 0) cl_Linker MLinker_put GLinker_put (hr.mono (by decide)) bLinker_put .nil pass0 (pa_cons (pe_ix (r := rIx K) ix_seq (pv 1) pe_int (fun _ _ => rfl)) pa_nil))))
 pss_nil)
 (pss_cons (ps_if (pt_cmpR (r := rEqu K) (op_equ (room64 hr)) (pe_ix (r := rIx K) ix_seq (pv 1) pe_int (fun _ _ => rfl)) pe_str (nomark _))
 (pss_one (ps_ret (pe_meth (pv 0) cl_Linker MLinker_exchange GLinker_exchange (hr.mono (by decide)) bLinker_exchange .nil pass0 (pa_cons (pe_ix (r := rIx K) ix_seq (pv 1) pe_int (fun _ _ => rfl)) pa_nil))))
 pss_nil)
 (pss_one (ps_ret (pe_meth (pv 0) cl_Linker MLinker_take_out GLinker_take_out (hr.mono (by decide)) bLinker_take_out .nil pass0 (pa_cons (pe_ix (r := rIx K) ix_seq (pv 1) pe_int (fun _ _ => rfl)) pa_nil)))))), ?_⟩
  clear sc nm sco
  try dsimp only [cxOf, Cx.nox, Cx.wish]

  rintro os P ⟨r, p, d, rfl, hl, hp, hd, q⟩
  refine ⟨by walk_at "bk", ?_⟩
  cases d with
  | put x =>
    show XS K _ _ _ [lkO C_Linker r p, .d (.tuple [.str "put", pcD x])]
    walk_at "go"
    refine ifd (fun _ => ?_) fun h => absurd rfl h
    walk_at "go"
    refine ⟨r, p, x, rfl, hl, hp, hd.1, ?_⟩
    walk_at "go"
    exact ⟨Nat.le_of_ble_eq_true rfl, q⟩
  | exc x =>
    show XS K _ _ _ [lkO C_Linker r p, .d (.tuple [.str "exchange", pcD x])]
    walk_at "go"
    refine ifd (fun h => absurd h (by decide +kernel)) fun h => ?_
    walk_at "go"
    refine ifd (fun _ => ?_) fun h => absurd rfl h
    walk_at "go"
    refine ⟨r, p, x, rfl, by omega, hp, hd.1, ?_⟩
    walk_at "go"
    exact ⟨Nat.le_of_ble_eq_true rfl, q⟩
  | tak n =>
    show XS K _ _ _ [lkO C_Linker r p, .d (.tuple [.str "take", .str n])]
    walk_at "go"
    refine ifd (fun h => absurd h (by decide +kernel)) fun h => ?_
    walk_at "go"
    refine ifd (fun h => absurd h (by decide +kernel)) fun h => ?_
    walk_at "go"
    refine ⟨r, p, n, rfl, by omega, hp, hd, ?_⟩
    walk_at "go"
    exact ⟨Nat.le_of_ble_eq_true rfl, q⟩

end K79
set_option maxRecDepth 100000
set_option maxHeartbeats 8000000
set_option autoImplicit false
namespace K79
open PySem L2 PyProof.Rows PL MV LKD
local macro_rules | `(tactic| walk_at "rf") => `(tactic| exact rfl)
local macro_rules | `(tactic| walk_at "gf") => `(tactic| repeat' (first
  | exact getF_hit
  | exact setF_hit
  | refine getF_miss (by decide +kernel) ?_
  | refine setF_miss (by decide +kernel) ?_
  | exact rfl))
local macro_rules | `(tactic| walk_at "bk") => `(tactic| simp [BackOk, Ow.cp])
local macro_rules | `(tactic| walk_at "as") => `(tactic| assumption)
local macro_rules | `(tactic| walk_at "tr") => `(tactic| exact trivial)
local macro_rules | `(tactic| walk_at "pw") => `(tactic| exact ⟨by decide, by decide, by decide⟩)
local macro_rules | `(tactic| walk_at "cm") => `(tactic| (unfold CMul; first
  | (left; decide)
  | (right; decide)
  | (left; refine ⟨?_, ?_⟩ <;> omega)
  | (right; refine ⟨?_, ?_⟩ <;> omega)))
local macro_rules | `(tactic| walk_at "sd") => `(tactic| first
  | exact rfl
  | exact Nat.le_of_ble_eq_true rfl
  | (with_reducible assumption)
  | decide
  | omega
  | (simp only [List.length_cons, List.length_nil, List.length_append, List.length_set, List.length_replicate, List.length_map]; omega)
  | (refine ⟨?_, ?_⟩ <;> (first | decide | omega)))
local macro_rules | `(tactic| walk_at "sz") => `(tactic| first
  | decide
  | (with_reducible assumption)
  | (rw [sizeLine_eq]; omega)
  | (rw [sizeLine_eq]; simp only [List.length_cons, List.length_nil, List.length_append, List.length_set, List.length_replicate, List.length_map]; omega))
local macro_rules | `(tactic| walk_at "st") => `(tactic| first
  | ((with_reducible show Fill _ _ _ _); first | (apply fill_bor; (· exact rfl)) | apply fill_val | apply fill_nil)
  | ((with_reducible show RCX _ _ _ _); dsimp only [List.map, Arg.ow])
  | ((with_reducible show f_law_next _ _); refine use_next ?_ ?_; (· walk_at "sd"))
  | ((with_reducible apply xe_eqV); (· exact rfl); (· intro _; exact rfl); intro _ _)
  | ((with_reducible apply xe_lenV); (· exact rfl); intro _)
  | ((with_reducible apply xa_own); (· walk_at "rf"); (· walk_at "rf"); intro _)
  | ((with_reducible apply xa_vs); (· walk_at "rf"))
  | ((with_reducible apply xe_ixV); (· walk_at "rf"); (· walk_at "rf"); (· walk_at "rf"))
  | ((with_reducible apply xe_ixC); (· walk_at "rf"); (· walk_at "rf"))
  | ((with_reducible apply xe_fldV); (· walk_at "rf"); (· walk_at "as"); (· walk_at "as"); (· walk_at "gf"); (· walk_at "tr"))
  | ((with_reducible apply xe_methV); (· walk_at "rf"); (· walk_at "gf"))
  | (with_reducible refine L2.iteT ?_)
  | (with_reducible refine L2.iteF ?_)
  | (with_reducible refine xs_if ?_)
  | (with_reducible refine xs_next ?_)
  | (with_reducible refine xs_retN ?_)
  | (with_reducible refine xs_ret ?_)
  | (with_reducible refine xe_op ?_)
  | (with_reducible refine xe_int ?_)
  | (with_reducible refine xe_str ?_)
  | (with_reducible refine xe_bl ?_)
  | (with_reducible refine xe_non ?_)
  | (with_reducible refine xa_nil ?_)
  | (with_reducible refine xa_cons ?_)
  | (with_reducible refine xe_tup ?_)
  | (with_reducible refine xe_lst ?_)
  | (with_reducible refine xe_call ?_)
  | (with_reducible refine xe_cb ?_)
  | (with_reducible refine xe_if ?_)
  | (with_reducible refine xe_neg ?_)
  | (with_reducible refine xt_tst ?_)
  | (with_reducible refine xt_and ?_)
  | (with_reducible refine xt_or ?_)
  | (with_reducible refine xt_not ?_)
  | (with_reducible refine xt_yes ?_)
  | (with_reducible refine r2_plus_int ?_)
  | (with_reducible refine r2_sub ?_)
  | (with_reducible refine r2_lt ?_)
  | (with_reducible refine r2_le ?_)
  | (with_reducible refine r2_gt ?_)
  | (with_reducible refine r2_ge ?_)
  | (with_reducible refine r2_eq_int ?_)
  | (with_reducible refine r2_eq_str ?_)
  | (with_reducible refine r2_ne_int ?_)
  | (with_reducible refine r2_ne_str ?_)
  | (with_reducible refine r2_isN ?_)
  | (with_reducible refine r2_notN ?_)
  | (with_reducible refine r2_eq_bool ?_)
  | (with_reducible refine r2_ne_bool ?_)
  | (with_reducible refine rc_len_tup ?_)
  | (with_reducible refine rc_len_scr ?_)
  | (with_reducible refine rc_min2 ?_)
  | (with_reducible refine rc_max2 ?_)
  | (with_reducible refine rc_int_bool ?_)
  | (with_reducible refine rc_abs ?_)
  | (with_reducible refine xgs_nil ?_)
  | (with_reducible refine xe_andV ?_)
  | (with_reducible refine xe_orV ?_)
  | (with_reducible refine xe_notV ?_)
  | (with_reducible refine xe_slice ?_)
  | (with_reducible refine xo_none ?_)
  | (with_reducible refine xo_some ?_)
  | (with_reducible refine xi_range1 ?_)
  | (with_reducible refine xi_range2 ?_)
  | (with_reducible refine xi_list ?_)
  | (with_reducible refine xi_tup ?_)
  | (with_reducible refine slx_tup ?_)
  | ((with_reducible apply xg_name); (· walk_at "sd"); (· walk_at "sd"))
  | ((with_reducible apply xg_tup); (· walk_at "rf"))
  | ((with_reducible apply xe_vd); (· walk_at "rf"))
  | ((with_reducible apply xe_vs); (· walk_at "rf"))
  | ((with_reducible apply r2_ix_list); (· walk_at "rf"); (· walk_at "rf"))
  | ((with_reducible apply r2_ix_tup); (· walk_at "rf"))
  | ((with_reducible apply rc_len); (· walk_at "rf"))
  | ((with_reducible apply slx_list); (· walk_at "rf"))
  | ((with_reducible apply r2_plus_list); (· walk_at "rf"); (· walk_at "rf"); (· walk_at "sz"))
  | ((with_reducible refine xs_asg ?_ ?_ ?_); (· walk_at "sd"); (· walk_at "sd"))
  | ((with_reducible refine r2_times_int ?_ ?_); (· walk_at "cm"))
  | ((with_reducible refine r2_mod ?_ ?_); (· walk_at "sd"))
  | ((with_reducible refine r2_fdiv ?_ ?_); (· walk_at "sd"))
  | ((with_reducible refine r2_pow ?_ ?_); (· walk_at "pw"))
  | ((with_reducible refine r2_plus_str ?_ ?_); (· walk_at "sz"))
  | ((with_reducible refine r2_plus_tup ?_ ?_); (· walk_at "sz"))
  | ((with_reducible refine rc_str_int ?_ ?_); (· walk_at "sd"))
  | ((with_reducible refine rc_len_str ?_ ?_); (· walk_at "sz"))
  | ((with_reducible refine slx_str ?_ ?_); (· walk_at "sz"))
  | (with_reducible apply xs_asgG)
  | (with_reducible apply xgs_cons)
  | ((with_reducible apply Exists.intro); (with_reducible apply And.intro); (· exact rfl); (with_reducible apply And.intro); (· walk_at "sz"))
  | ((with_reducible apply Exists.intro); (with_reducible apply And.intro); (· exact rfl))
  | ((with_reducible apply And.intro); (· exact rfl))
  | ((with_reducible show ∀ _ : V, _); intro _)
  | fail)
local macro_rules | `(tactic| walk_at "gs") => `(tactic| repeat' (walk_at "st"))
local macro_rules | `(tactic| walk_at "go") => `(tactic| repeat' (first | (with_reducible refine xs_seq ?_) | walk_at "st"))

abbrev s_law_e_after : Stmt := topS 16
theorem sc_law_e_after : FnScope ["rows", "deed", "at"] ["rows", "deed"] (defScope s_law_e_after) := ⟨rfl, rfl, rfl, by decide +kernel, rfl, by decide +kernel, by decide +kernel⟩

def f_law_e_after : FS := fun os P => ∃ (r : List Rw) (d : Deed), os = [.d (.list (rD r)), .d (dD d)] ∧ r.length ≤ 1000 ∧ DdOk r d ∧ P (.ls (rD (aft r d))) os
theorem len_law_e_after : ∀ os P, f_law_e_after os P → os.length = ["rows", "deed"].length := by
  rintro os P ⟨_, _, rfl, _⟩
  rfl

theorem ok_law_e_after {P : Program} {w : World} {K : PySem.W.Frag} {mg : Str → Option Value} {base : Heap} (S : Std K mg "_law_e_after" s_law_e_after ["rows", "deed"]) (C_law_e_spot : Cal P w K mg base 1 "_law_e_spot" ["rows", "name"] f_law_e_spot) : Cal P w K mg base 2 "_law_e_after" ["rows", "deed"] f_law_e_after := by
  obtain ⟨a_law_e_spot, fd_law_e_spot, G_law_e_spot, g_law_e_spot, k_law_e_spot, b_law_e_spot⟩ := C_law_e_spot
  refine cal_of [false, false] S sc_law_e_after (by decide) (len_law_e_after) fun a cdv A outer s H vs Q E hr => ?_
  have sc := sc_law_e_after
  let nm : List Str := ["rows", "deed", "at"]
  let sco := defScope s_law_e_after
  refine ⟨_, (pss_cons (ps_if (pt_cmpR (r := rEqu K) (op_equ (room64 hr)) (pe_ix (r := rIx K) ix_seq (pv 1) pe_int (fun _ _ => rfl)) pe_str (nomark _))
 (pss_one (ps_ret (pe_op (r := rPlus K) op_plus (pv 0) (pe_lst (pa_cons (pe_ix (r := rIx K) ix_seq (pv 1) pe_int (fun _ _ => rfl)) pa_nil)))))
 pss_nil)
 (pss_cons (ps_if (pt_cmpR (r := rEqu K) (op_equ (room64 hr)) (pe_ix (r := rIx K) ix_seq (pv 1) pe_int (fun _ _ => rfl)) pe_str (nomark _))
 (pss_cons (ps_set (i := 2) sc.nd rfl (Or.inl rfl) (pe_call G_law_e_spot (hr.mono (by decide)) (by rfl) g_law_e_spot k_law_e_spot b_law_e_spot .nil pass0 (pa_cons (pv 0) (pa_cons (pe_ix (r := rIx K) ix_seq (pe_ix (r := rIx K) ix_seq (pv 1) pe_int (fun _ _ => rfl)) pe_int (fun _ _ => rfl)) pa_nil))))
 (pss_one (ps_ret (pe_op (r := rPlus K) op_plus (pe_op (r := rPlus K) op_plus (pe_slice (r := rSli K) sl_any (pv 0) po_none (po_some (pv 2))) (pe_lst (pa_cons (pe_ix (r := rIx K) ix_seq (pv 1) pe_int (fun _ _ => rfl)) pa_nil))) (pe_slice (r := rSli K) sl_any (pv 0) (po_some (pe_op (r := rPlus K) op_plus (pv 2) pe_int)) po_none)))))
 pss_nil)
 (pss_cons (ps_set (i := 2) sc.nd rfl (Or.inl rfl) (pe_call G_law_e_spot (hr.mono (by decide)) (by rfl) g_law_e_spot k_law_e_spot b_law_e_spot .nil pass0 (pa_cons (pv 0) (pa_cons (pe_ix (r := rIx K) ix_seq (pv 1) pe_int (fun _ _ => rfl)) pa_nil))))
 (pss_one (ps_ret (pe_op (r := rPlus K) op_plus (pe_slice (r := rSli K) sl_any (pv 0) po_none (po_some (pv 2))) (pe_slice (r := rSli K) sl_any (pv 0) (po_some (pe_op (r := rPlus K) op_plus (pv 2) pe_int)) po_none))))))), ?_⟩
  clear sc nm sco
  try dsimp only [cxOf, Cx.nox, Cx.wish]

  rintro os P ⟨r, d, rfl, hl, hd, q⟩
  refine ⟨by walk_at "bk", ?_⟩
  have hlr : (rD r).length = r.length := List.length_map _
  cases d with
  | put x =>
    show XS K _ _ _ [.d (.list (rD r)), .d (.tuple [.str "put", pcD x]), .any]
    walk_at "go"
    refine ifd (fun _ => ?_) fun h => absurd rfl h
    walk_at "go"
    refine ⟨Nat.le_of_ble_eq_true rfl, ?_⟩
    have e : rD r ++ [pcD x] = rD (aft r (.put x)) := (List.map_append (f := pcD) (l₁ := r) (l₂ := [x])).symm
    rw [← e] at q
    exact q
  | exc x =>
    have hf := fi_lt hd.1
    show XS K _ _ _ [.d (.list (rD r)), .d (.tuple [.str "exchange", pcD x]), .any]
    walk_at "go"
    refine ifd (fun h => absurd h (by decide +kernel)) fun h => ?_
    walk_at "go"
    refine ifd (fun _ => ?_) fun h => absurd rfl h
    walk_at "go"
    refine ⟨r, x.1, rfl, hl, fun hn => absurd hd.1 hn, fun hn => ?_⟩
    walk_at "go"
    refine r2_plus_list rfl rfl ?_ ?_
    · rw [sizeLine_eq, cut_take (by omega)]
      simp only [List.length_take, List.length_cons, List.length_nil]
      omega
    walk_at "go"
    refine r2_plus_list rfl rfl ?_ ?_
    · rw [sizeLine_eq, cut_take (by omega), show ((fi r x.1 : Int) + 1) = ((fi r x.1 + 1 : Nat) : Int) from rfl, cut_drop (by omega)]
      simp only [List.length_append, List.length_take, List.length_drop, List.length_cons, List.length_nil]
      omega
    rw [cut_take (by omega), show ((fi r x.1 : Int) + 1) = ((fi r x.1 + 1 : Nat) : Int) from rfl, cut_drop (by omega)]
    refine ⟨Nat.le_of_ble_eq_true rfl, ?_⟩
    have e : rD (aft r (.exc x)) = (rD r).take (fi r x.1) ++ [pcD x] ++ (rD r).drop (fi r x.1 + 1) := by
      show List.map pcD (r.take (fi r x.1) ++ [x] ++ r.drop (fi r x.1 + 1)) = _
      rw [List.map_append, List.map_append]
      unfold rD
      rw [List.map_take, List.map_drop]
      rfl
    rw [e] at q
    exact q
  | tak n =>
    have hf := fi_lt hd
    show XS K _ _ _ [.d (.list (rD r)), .d (.tuple [.str "take", .str n]), .any]
    walk_at "go"
    refine ifd (fun h => absurd h (by decide +kernel)) fun h => ?_
    walk_at "go"
    refine ifd (fun h => absurd h (by decide +kernel)) fun h => ?_
    walk_at "go"
    refine ⟨r, n, rfl, hl, fun hn => absurd hd hn, fun hn => ?_⟩
    walk_at "go"
    refine r2_plus_list rfl rfl ?_ ?_
    · rw [sizeLine_eq, cut_take (by omega), show ((fi r n : Int) + 1) = ((fi r n + 1 : Nat) : Int) from rfl, cut_drop (by omega)]
      simp only [List.length_append, List.length_take, List.length_drop, List.length_cons, List.length_nil]
      omega
    rw [cut_take (by omega), show ((fi r n : Int) + 1) = ((fi r n + 1 : Nat) : Int) from rfl, cut_drop (by omega)]
    refine ⟨Nat.le_of_ble_eq_true rfl, ?_⟩
    have e : rD (aft r (.tak n)) = (rD r).take (fi r n) ++ (rD r).drop (fi r n + 1) := by
      show List.map pcD (r.take (fi r n) ++ r.drop (fi r n + 1)) = _
      rw [List.map_append]
      unfold rD
      rw [List.map_take, List.map_drop]
    rw [e] at q
    exact q

end K79
set_option maxRecDepth 100000
set_option maxHeartbeats 8000000
set_option autoImplicit false
namespace K79
open PySem L2 PyProof.Rows PL MV LKD
local macro_rules | `(tactic| walk_at "rf") => `(tactic| exact rfl)
local macro_rules | `(tactic| walk_at "gf") => `(tactic| repeat' (first
  | exact getF_hit
  | exact setF_hit
  | refine getF_miss (by decide +kernel) ?_
  | refine setF_miss (by decide +kernel) ?_
  | exact rfl))
local macro_rules | `(tactic| walk_at "bk") => `(tactic| simp [BackOk, Ow.cp])
local macro_rules | `(tactic| walk_at "as") => `(tactic| assumption)
local macro_rules | `(tactic| walk_at "tr") => `(tactic| exact trivial)
local macro_rules | `(tactic| walk_at "pw") => `(tactic| exact ⟨by decide, by decide, by decide⟩)
local macro_rules | `(tactic| walk_at "cm") => `(tactic| (unfold CMul; first
  | (left; decide)
  | (right; decide)
  | (left; refine ⟨?_, ?_⟩ <;> omega)
  | (right; refine ⟨?_, ?_⟩ <;> omega)))
local macro_rules | `(tactic| walk_at "sd") => `(tactic| first
  | exact rfl
  | exact Nat.le_of_ble_eq_true rfl
  | (with_reducible assumption)
  | decide
  | omega
  | (simp only [List.length_cons, List.length_nil, List.length_append, List.length_set, List.length_replicate, List.length_map]; omega)
  | (refine ⟨?_, ?_⟩ <;> (first | decide | omega)))
local macro_rules | `(tactic| walk_at "sz") => `(tactic| first
  | decide
  | (with_reducible assumption)
  | (rw [sizeLine_eq]; omega)
  | (rw [sizeLine_eq]; simp only [List.length_cons, List.length_nil, List.length_append, List.length_set, List.length_replicate, List.length_map]; omega))
local macro_rules | `(tactic| walk_at "st") => `(tactic| first
  | ((with_reducible show Fill _ _ _ _); first | (apply fill_bor; (· exact rfl)) | apply fill_val | apply fill_nil)
  | ((with_reducible show RCX _ _ _ _); dsimp only [List.map, Arg.ow])
  | ((with_reducible show f_law_next _ _); refine use_next ?_ ?_; (· walk_at "sd"))
  | ((with_reducible apply xe_eqV); (· exact rfl); (· intro _; exact rfl); intro _ _)
  | ((with_reducible apply xe_lenV); (· exact rfl); intro _)
  | ((with_reducible apply xa_own); (· walk_at "rf"); (· walk_at "rf"); intro _)
  | ((with_reducible apply xa_vs); (· walk_at "rf"))
  | ((with_reducible apply xe_ixV); (· walk_at "rf"); (· walk_at "rf"); (· walk_at "rf"))
  | ((with_reducible apply xe_ixC); (· walk_at "rf"); (· walk_at "rf"))
  | ((with_reducible apply xe_fldV); (· walk_at "rf"); (· walk_at "as"); (· walk_at "as"); (· walk_at "gf"); (· walk_at "tr"))
  | ((with_reducible apply xe_methV); (· walk_at "rf"); (· walk_at "gf"))
  | (with_reducible refine L2.iteT ?_)
  | (with_reducible refine L2.iteF ?_)
  | (with_reducible refine xs_if ?_)
  | (with_reducible refine xs_next ?_)
  | (with_reducible refine xs_retN ?_)
  | (with_reducible refine xs_ret ?_)
  | (with_reducible refine xe_op ?_)
  | (with_reducible refine xe_int ?_)
  | (with_reducible refine xe_str ?_)
  | (with_reducible refine xe_bl ?_)
  | (with_reducible refine xe_non ?_)
  | (with_reducible refine xa_nil ?_)
  | (with_reducible refine xa_cons ?_)
  | (with_reducible refine xe_tup ?_)
  | (with_reducible refine xe_lst ?_)
  | (with_reducible refine xe_call ?_)
  | (with_reducible refine xe_cb ?_)
  | (with_reducible refine xe_if ?_)
  | (with_reducible refine xe_neg ?_)
  | (with_reducible refine xt_tst ?_)
  | (with_reducible refine xt_and ?_)
  | (with_reducible refine xt_or ?_)
  | (with_reducible refine xt_not ?_)
  | (with_reducible refine xt_yes ?_)
  | (with_reducible refine r2_plus_int ?_)
  | (with_reducible refine r2_sub ?_)
  | (with_reducible refine r2_lt ?_)
  | (with_reducible refine r2_le ?_)
  | (with_reducible refine r2_gt ?_)
  | (with_reducible refine r2_ge ?_)
  | (with_reducible refine r2_eq_int ?_)
  | (with_reducible refine r2_eq_str ?_)
  | (with_reducible refine r2_ne_int ?_)
  | (with_reducible refine r2_ne_str ?_)
  | (with_reducible refine r2_isN ?_)
  | (with_reducible refine r2_notN ?_)
  | (with_reducible refine r2_eq_bool ?_)
  | (with_reducible refine r2_ne_bool ?_)
  | (with_reducible refine rc_len_tup ?_)
  | (with_reducible refine rc_len_scr ?_)
  | (with_reducible refine rc_min2 ?_)
  | (with_reducible refine rc_max2 ?_)
  | (with_reducible refine rc_int_bool ?_)
  | (with_reducible refine rc_abs ?_)
  | (with_reducible refine xgs_nil ?_)
  | (with_reducible refine xe_andV ?_)
  | (with_reducible refine xe_orV ?_)
  | (with_reducible refine xe_notV ?_)
  | (with_reducible refine xe_slice ?_)
  | (with_reducible refine xo_none ?_)
  | (with_reducible refine xo_some ?_)
  | (with_reducible refine xi_range1 ?_)
  | (with_reducible refine xi_range2 ?_)
  | (with_reducible refine xi_list ?_)
  | (with_reducible refine xi_tup ?_)
  | (with_reducible refine slx_tup ?_)
  | ((with_reducible apply xg_name); (· walk_at "sd"); (· walk_at "sd"))
  | ((with_reducible apply xg_tup); (· walk_at "rf"))
  | ((with_reducible apply xe_vd); (· walk_at "rf"))
  | ((with_reducible apply xe_vs); (· walk_at "rf"))
  | ((with_reducible apply r2_ix_list); (· walk_at "rf"); (· walk_at "rf"))
  | ((with_reducible apply r2_ix_tup); (· walk_at "rf"))
  | ((with_reducible apply rc_len); (· walk_at "rf"))
  | ((with_reducible apply slx_list); (· walk_at "rf"))
  | ((with_reducible apply r2_plus_list); (· walk_at "rf"); (· walk_at "rf"); (· walk_at "sz"))
  | ((with_reducible refine xs_asg ?_ ?_ ?_); (· walk_at "sd"); (· walk_at "sd"))
  | ((with_reducible refine r2_times_int ?_ ?_); (· walk_at "cm"))
  | ((with_reducible refine r2_mod ?_ ?_); (· walk_at "sd"))
  | ((with_reducible refine r2_fdiv ?_ ?_); (· walk_at "sd"))
  | ((with_reducible refine r2_pow ?_ ?_); (· walk_at "pw"))
  | ((with_reducible refine r2_plus_str ?_ ?_); (· walk_at "sz"))
  | ((with_reducible refine r2_plus_tup ?_ ?_); (· walk_at "sz"))
  | ((with_reducible refine rc_str_int ?_ ?_); (· walk_at "sd"))
  | ((with_reducible refine rc_len_str ?_ ?_); (· walk_at "sz"))
  | ((with_reducible refine slx_str ?_ ?_); (· walk_at "sz"))
  | (with_reducible apply xs_asgG)
  | (with_reducible apply xgs_cons)
  | ((with_reducible apply Exists.intro); (with_reducible apply And.intro); (· exact rfl); (with_reducible apply And.intro); (· walk_at "sz"))
  | ((with_reducible apply Exists.intro); (with_reducible apply And.intro); (· exact rfl))
  | ((with_reducible apply And.intro); (· exact rfl))
  | ((with_reducible show ∀ _ : V, _); intro _)
  | fail)
local macro_rules | `(tactic| walk_at "gs") => `(tactic| repeat' (walk_at "st"))
local macro_rules | `(tactic| walk_at "go") => `(tactic| repeat' (first | (with_reducible refine xs_seq ?_) | walk_at "st"))

abbrev sLinker___len__ : Stmt := inClass (topS 8) 12
theorem scLinker___len__ : FnScope ["self"] ["self"] (defScope sLinker___len__) := ⟨rfl, rfl, rfl, by decide +kernel, rfl, by decide +kernel, by decide +kernel⟩

def fLinker___len__ (C : Addr) : FS := fun os P => ∃ (r : List Rw) (p : List (Str × List Rw)), os = [lkO C r p] ∧ P (.d (.int r.length)) os
theorem lenLinker___len__ (C : Addr) : ∀ os P, fLinker___len__ C os P → os.length = ["self"].length := by
  rintro os P ⟨_, _, rfl, _⟩
  rfl

theorem okLinker___len__ {P : Program} {w : World} {K : PySem.W.Frag} {mg : Str → Option Value} {base : Heap} {C_Linker : Addr} (S : StdM K C_Linker "__len__" "Linker.__len__" sLinker___len__ ["self"]) (cl_Linker : Cls K C_Linker) (na_Linker_pieces : NoAttr K C_Linker "pieces") (z_len : mg "len" = none) : CalM P w K mg base C_Linker 1 "__len__" ["self"] (fLinker___len__ C_Linker) := by
  refine calM_of [true] S scLinker___len__ (by decide) (lenLinker___len__ C_Linker) fun a cdv A outer s H vs Q E hr => ?_
  have sc := scLinker___len__
  let nm : List Str := ["self"]
  let sco := defScope sLinker___len__
  refine ⟨_, (pss_one (ps_ret (pe_callB (r := rLenK K) call_len (by rfl) z_len (by decide +kernel) (pa_cons (pe_fld (pv 0) rfl) pa_nil)))), ?_⟩
  clear sc nm sco
  try dsimp only [cxOf, Cx.nox, Cx.wish]

  rintro os P ⟨r, p, rfl, q⟩
  refine ⟨by walk_at "bk", ?_⟩
  show XS K _ _ _ [lkO C_Linker r p]
  walk_at "gs"
  have hlr : (rD r).length = r.length := List.length_map _
  rw [hlr]
  exact ⟨Nat.le_of_ble_eq_true rfl, q⟩

end K79
set_option maxRecDepth 100000
set_option maxHeartbeats 8000000
set_option autoImplicit false
namespace K79
open PySem L2 PyProof.Rows PL MV LKD
local macro_rules | `(tactic| walk_at "rf") => `(tactic| exact rfl)
local macro_rules | `(tactic| walk_at "gf") => `(tactic| repeat' (first
  | exact getF_hit
  | exact setF_hit
  | refine getF_miss (by decide +kernel) ?_
  | refine setF_miss (by decide +kernel) ?_
  | exact rfl))
local macro_rules | `(tactic| walk_at "bk") => `(tactic| simp [BackOk, Ow.cp])
local macro_rules | `(tactic| walk_at "as") => `(tactic| assumption)
local macro_rules | `(tactic| walk_at "tr") => `(tactic| exact trivial)
local macro_rules | `(tactic| walk_at "pw") => `(tactic| exact ⟨by decide, by decide, by decide⟩)
local macro_rules | `(tactic| walk_at "cm") => `(tactic| (unfold CMul; first
  | (left; decide)
  | (right; decide)
  | (left; refine ⟨?_, ?_⟩ <;> omega)
  | (right; refine ⟨?_, ?_⟩ <;> omega)))
local macro_rules | `(tactic| walk_at "sd") => `(tactic| first
  | exact rfl
  | exact Nat.le_of_ble_eq_true rfl
  | (with_reducible assumption)
  | decide
  | omega
  | (simp only [List.length_cons, List.length_nil, List.length_append, List.length_set, List.length_replicate, List.length_map]; omega)
  | (refine ⟨?_, ?_⟩ <;> (first | decide | omega)))
local macro_rules | `(tactic| walk_at "sz") => `(tactic| first
  | decide
  | (with_reducible assumption)
  | (rw [sizeLine_eq]; omega)
  | (rw [sizeLine_eq]; simp only [List.length_cons, List.length_nil, List.length_append, List.length_set, List.length_replicate, List.length_map]; omega))
local macro_rules | `(tactic| walk_at "st") => `(tactic| first
  | ((with_reducible show Fill _ _ _ _); first | (apply fill_bor; (· exact rfl)) | apply fill_val | apply fill_nil)
  | ((with_reducible show RCX _ _ _ _); dsimp only [List.map, Arg.ow])
  | ((with_reducible show f_law_next _ _); refine use_next ?_ ?_; (· walk_at "sd"))
  | ((with_reducible apply xe_eqV); (· exact rfl); (· intro _; exact rfl); intro _ _)
  | ((with_reducible apply xe_lenV); (· exact rfl); intro _)
  | ((with_reducible apply xa_own); (· walk_at "rf"); (· walk_at "rf"); intro _)
  | ((with_reducible apply xa_vs); (· walk_at "rf"))
  | ((with_reducible apply xe_ixV); (· walk_at "rf"); (· walk_at "rf"); (· walk_at "rf"))
  | ((with_reducible apply xe_ixC); (· walk_at "rf"); (· walk_at "rf"))
  | ((with_reducible apply xe_fldV); (· walk_at "rf"); (· walk_at "as"); (· walk_at "as"); (· walk_at "gf"); (· walk_at "tr"))
  | ((with_reducible apply xe_methV); (· walk_at "rf"); (· walk_at "gf"))
  | (with_reducible refine L2.iteT ?_)
  | (with_reducible refine L2.iteF ?_)
  | (with_reducible refine xs_if ?_)
  | (with_reducible refine xs_next ?_)
  | (with_reducible refine xs_retN ?_)
  | (with_reducible refine xs_ret ?_)
  | (with_reducible refine xe_op ?_)
  | (with_reducible refine xe_int ?_)
  | (with_reducible refine xe_str ?_)
  | (with_reducible refine xe_bl ?_)
  | (with_reducible refine xe_non ?_)
  | (with_reducible refine xa_nil ?_)
  | (with_reducible refine xa_cons ?_)
  | (with_reducible refine xe_tup ?_)
  | (with_reducible refine xe_lst ?_)
  | (with_reducible refine xe_call ?_)
  | (with_reducible refine xe_cb ?_)
  | (with_reducible refine xe_if ?_)
  | (with_reducible refine xe_neg ?_)
  | (with_reducible refine xt_tst ?_)
  | (with_reducible refine xt_and ?_)
  | (with_reducible refine xt_or ?_)
  | (with_reducible refine xt_not ?_)
  | (with_reducible refine xt_yes ?_)
  | (with_reducible refine r2_plus_int ?_)
  | (with_reducible refine r2_sub ?_)
  | (with_reducible refine r2_lt ?_)
  | (with_reducible refine r2_le ?_)
  | (with_reducible refine r2_gt ?_)
  | (with_reducible refine r2_ge ?_)
  | (with_reducible refine r2_eq_int ?_)
  | (with_reducible refine r2_eq_str ?_)
  | (with_reducible refine r2_ne_int ?_)
  | (with_reducible refine r2_ne_str ?_)
  | (with_reducible refine r2_isN ?_)
  | (with_reducible refine r2_notN ?_)
  | (with_reducible refine r2_eq_bool ?_)
  | (with_reducible refine r2_ne_bool ?_)
  | (with_reducible refine rc_len_tup ?_)
  | (with_reducible refine rc_len_scr ?_)
  | (with_reducible refine rc_min2 ?_)
  | (with_reducible refine rc_max2 ?_)
  | (with_reducible refine rc_int_bool ?_)
  | (with_reducible refine rc_abs ?_)
  | (with_reducible refine xgs_nil ?_)
  | (with_reducible refine xe_andV ?_)
  | (with_reducible refine xe_orV ?_)
  | (with_reducible refine xe_notV ?_)
  | (with_reducible refine xe_slice ?_)
  | (with_reducible refine xo_none ?_)
  | (with_reducible refine xo_some ?_)
  | (with_reducible refine xi_range1 ?_)
  | (with_reducible refine xi_range2 ?_)
  | (with_reducible refine xi_list ?_)
  | (with_reducible refine xi_tup ?_)
  | (with_reducible refine slx_tup ?_)
  | ((with_reducible apply xg_name); (· walk_at "sd"); (· walk_at "sd"))
  | ((with_reducible apply xg_tup); (· walk_at "rf"))
  | ((with_reducible apply xe_vd); (· walk_at "rf"))
  | ((with_reducible apply xe_vs); (· walk_at "rf"))
  | ((with_reducible apply r2_ix_list); (· walk_at "rf"); (· walk_at "rf"))
  | ((with_reducible apply r2_ix_tup); (· walk_at "rf"))
  | ((with_reducible apply rc_len); (· walk_at "rf"))
  | ((with_reducible apply slx_list); (· walk_at "rf"))
  | ((with_reducible apply r2_plus_list); (· walk_at "rf"); (· walk_at "rf"); (· walk_at "sz"))
  | ((with_reducible refine xs_asg ?_ ?_ ?_); (· walk_at "sd"); (· walk_at "sd"))
  | ((with_reducible refine r2_times_int ?_ ?_); (· walk_at "cm"))
  | ((with_reducible refine r2_mod ?_ ?_); (· walk_at "sd"))
  | ((with_reducible refine r2_fdiv ?_ ?_); (· walk_at "sd"))
  | ((with_reducible refine r2_pow ?_ ?_); (· walk_at "pw"))
  | ((with_reducible refine r2_plus_str ?_ ?_); (· walk_at "sz"))
  | ((with_reducible refine r2_plus_tup ?_ ?_); (· walk_at "sz"))
  | ((with_reducible refine rc_str_int ?_ ?_); (· walk_at "sd"))
  | ((with_reducible refine rc_len_str ?_ ?_); (· walk_at "sz"))
  | ((with_reducible refine slx_str ?_ ?_); (· walk_at "sz"))
  | (with_reducible apply xs_asgG)
  | (with_reducible apply xgs_cons)
  | ((with_reducible apply Exists.intro); (with_reducible apply And.intro); (· exact rfl); (with_reducible apply And.intro); (· walk_at "sz"))
  | ((with_reducible apply Exists.intro); (with_reducible apply And.intro); (· exact rfl))
  | ((with_reducible apply And.intro); (· exact rfl))
  | ((with_reducible show ∀ _ : V, _); intro _)
  | fail)
local macro_rules | `(tactic| walk_at "gs") => `(tactic| repeat' (walk_at "st"))
local macro_rules | `(tactic| walk_at "go") => `(tactic| repeat' (first | (with_reducible refine xs_seq ?_) | walk_at "st"))

abbrev sLinker___eq__ : Stmt := inClass (topS 8) 11
theorem scLinker___eq__ : FnScope ["self", "other"] ["self", "other"] (defScope sLinker___eq__) := ⟨rfl, rfl, rfl, by decide +kernel, rfl, by decide +kernel, by decide +kernel⟩

def fLinker___eq__ (C : Addr) : FS := fun os P => ∃ (r r2 : List Rw) (p p2 : List (Str × List Rw)), os = [lkO C r p, lkO C r2 p2] ∧ RsOk r ∧ RsOk r2 ∧ P (.d (.bool (PyData.eqv (.list (rD r)) (.list (rD r2))))) os
theorem lenLinker___eq__ (C : Addr) : ∀ os P, fLinker___eq__ C os P → os.length = ["self", "other"].length := by
  rintro os P ⟨_, _, _, _, rfl, _⟩
  rfl

theorem okLinker___eq__ {P : Program} {w : World} {K : PySem.W.Frag} {mg : Str → Option Value} {base : Heap} {C_Linker : Addr} (S : StdM K C_Linker "__eq__" "Linker.__eq__" sLinker___eq__ ["self", "other"]) (cl_Linker : Cls K C_Linker) (na_Linker_pieces : NoAttr K C_Linker "pieces") (m_Linker : mg "Linker" = some (.ref C_Linker)) (is_Linker : IsiC K C_Linker) (z_isinstance : mg "isinstance" = none) : CalM P w K mg base C_Linker 1 "__eq__" ["self", "other"] (fLinker___eq__ C_Linker) := by
  refine calM_of [true, true] S scLinker___eq__ (by decide) (lenLinker___eq__ C_Linker) fun a cdv A outer s H vs Q E hr => ?_
  have sc := scLinker___eq__
  let nm : List Str := ["self", "other"]
  let sco := defScope sLinker___eq__
  refine ⟨_, (pss_one (ps_ret (pe_and (pe_callB (r := rIsi K) call_isi (by rfl) z_isinstance (by decide +kernel) (pa_cons (pv 1) (pa_cons (pe_glob (v := .ref C_Linker) (by rfl) m_Linker rfl) pa_nil))) (pe_one (pe_cmpR (r := rEqu K) (op_equ (room64 hr)) (pe_fld (pv 0) rfl) (pe_fld (pv 1) rfl) (nomark _)))))), ?_⟩
  clear sc nm sco
  try dsimp only [cxOf, Cx.nox, Cx.wish]

  rintro os P ⟨r, r2, p, p2, rfl, h1, h2, q⟩
  refine ⟨by walk_at "bk", ?_⟩
  show XS K _ _ _ [lkO C_Linker r p, lkO C_Linker r2 p2]
  refine xs_ret (xe_andV (xe_isiC (xw_var rfl (by nofun)) is_Linker.cl is_Linker.ha is_Linker.hn is_Linker.ht is_Linker.hm is_Linker.e (fun _ _ _ _ q => q) ⟨_, rfl, ?_⟩))
  walk_at "gs"
  refine r2_eq_data rfl rfl ((shD_rows h1).shaped (by decide)) ((shD_rows h2).shaped (by decide)) ?_
  exact ⟨Nat.le_of_ble_eq_true rfl, q⟩

end K79
set_option maxRecDepth 100000
set_option maxHeartbeats 8000000
set_option autoImplicit false
namespace K79
open PySem L2 PyProof.Rows PL MV LKD
local macro_rules | `(tactic| walk_at "rf") => `(tactic| exact rfl)
local macro_rules | `(tactic| walk_at "gf") => `(tactic| repeat' (first
  | exact getF_hit
  | exact setF_hit
  | refine getF_miss (by decide +kernel) ?_
  | refine setF_miss (by decide +kernel) ?_
  | exact rfl))
local macro_rules | `(tactic| walk_at "bk") => `(tactic| simp [BackOk, Ow.cp])
local macro_rules | `(tactic| walk_at "as") => `(tactic| assumption)
local macro_rules | `(tactic| walk_at "tr") => `(tactic| exact trivial)
local macro_rules | `(tactic| walk_at "pw") => `(tactic| exact ⟨by decide, by decide, by decide⟩)
local macro_rules | `(tactic| walk_at "cm") => `(tactic| (unfold CMul; first
  | (left; decide)
  | (right; decide)
  | (left; refine ⟨?_, ?_⟩ <;> omega)
  | (right; refine ⟨?_, ?_⟩ <;> omega)))
local macro_rules | `(tactic| walk_at "sd") => `(tactic| first
  | exact rfl
  | exact Nat.le_of_ble_eq_true rfl
  | (with_reducible assumption)
  | decide
  | omega
  | (simp only [List.length_cons, List.length_nil, List.length_append, List.length_set, List.length_replicate, List.length_map]; omega)
  | (refine ⟨?_, ?_⟩ <;> (first | decide | omega)))
local macro_rules | `(tactic| walk_at "sz") => `(tactic| first
  | decide
  | (with_reducible assumption)
  | (rw [sizeLine_eq]; omega)
  | (rw [sizeLine_eq]; simp only [List.length_cons, List.length_nil, List.length_append, List.length_set, List.length_replicate, List.length_map]; omega))
local macro_rules | `(tactic| walk_at "st") => `(tactic| first
  | ((with_reducible show Fill _ _ _ _); first | (apply fill_bor; (· exact rfl)) | apply fill_val | apply fill_nil)
  | ((with_reducible show RCX _ _ _ _); dsimp only [List.map, Arg.ow])
  | ((with_reducible show f_law_next _ _); refine use_next ?_ ?_; (· walk_at "sd"))
  | ((with_reducible apply xe_eqV); (· exact rfl); (· intro _; exact rfl); intro _ _)
  | ((with_reducible apply xe_lenV); (· exact rfl); intro _)
  | ((with_reducible apply xa_own); (· walk_at "rf"); (· walk_at "rf"); intro _)
  | ((with_reducible apply xa_vs); (· walk_at "rf"))
  | ((with_reducible apply xe_ixV); (· walk_at "rf"); (· walk_at "rf"); (· walk_at "rf"))
  | ((with_reducible apply xe_ixC); (· walk_at "rf"); (· walk_at "rf"))
  | ((with_reducible apply xe_fldV); (· walk_at "rf"); (· walk_at "as"); (· walk_at "as"); (· walk_at "gf"); (· walk_at "tr"))
  | ((with_reducible apply xe_methV); (· walk_at "rf"); (· walk_at "gf"))
  | (with_reducible refine L2.iteT ?_)
  | (with_reducible refine L2.iteF ?_)
  | (with_reducible refine xs_if ?_)
  | (with_reducible refine xs_next ?_)
  | (with_reducible refine xs_retN ?_)
  | (with_reducible refine xs_ret ?_)
  | (with_reducible refine xe_op ?_)
  | (with_reducible refine xe_int ?_)
  | (with_reducible refine xe_str ?_)
  | (with_reducible refine xe_bl ?_)
  | (with_reducible refine xe_non ?_)
  | (with_reducible refine xa_nil ?_)
  | (with_reducible refine xa_cons ?_)
  | (with_reducible refine xe_tup ?_)
  | (with_reducible refine xe_lst ?_)
  | (with_reducible refine xe_call ?_)
  | (with_reducible refine xe_cb ?_)
  | (with_reducible refine xe_if ?_)
  | (with_reducible refine xe_neg ?_)
  | (with_reducible refine xt_tst ?_)
  | (with_reducible refine xt_and ?_)
  | (with_reducible refine xt_or ?_)
  | (with_reducible refine xt_not ?_)
  | (with_reducible refine xt_yes ?_)
  | (with_reducible refine r2_plus_int ?_)
  | (with_reducible refine r2_sub ?_)
  | (with_reducible refine r2_lt ?_)
  | (with_reducible refine r2_le ?_)
  | (with_reducible refine r2_gt ?_)
  | (with_reducible refine r2_ge ?_)
  | (with_reducible refine r2_eq_int ?_)
  | (with_reducible refine r2_eq_str ?_)
  | (with_reducible refine r2_ne_int ?_)
  | (with_reducible refine r2_ne_str ?_)
  | (with_reducible refine r2_isN ?_)
  | (with_reducible refine r2_notN ?_)
  | (with_reducible refine r2_eq_bool ?_)
  | (with_reducible refine r2_ne_bool ?_)
  | (with_reducible refine rc_len_tup ?_)
  | (with_reducible refine rc_len_scr ?_)
  | (with_reducible refine rc_min2 ?_)
  | (with_reducible refine rc_max2 ?_)
  | (with_reducible refine rc_int_bool ?_)
  | (with_reducible refine rc_abs ?_)
  | (with_reducible refine xgs_nil ?_)
  | (with_reducible refine xe_andV ?_)
  | (with_reducible refine xe_orV ?_)
  | (with_reducible refine xe_notV ?_)
  | (with_reducible refine xe_slice ?_)
  | (with_reducible refine xo_none ?_)
  | (with_reducible refine xo_some ?_)
  | (with_reducible refine xi_range1 ?_)
  | (with_reducible refine xi_range2 ?_)
  | (with_reducible refine xi_list ?_)
  | (with_reducible refine xi_tup ?_)
  | (with_reducible refine slx_tup ?_)
  | ((with_reducible apply xg_name); (· walk_at "sd"); (· walk_at "sd"))
  | ((with_reducible apply xg_tup); (· walk_at "rf"))
  | ((with_reducible apply xe_vd); (· walk_at "rf"))
  | ((with_reducible apply xe_vs); (· walk_at "rf"))
  | ((with_reducible apply r2_ix_list); (· walk_at "rf"); (· walk_at "rf"))
  | ((with_reducible apply r2_ix_tup); (· walk_at "rf"))
  | ((with_reducible apply rc_len); (· walk_at "rf"))
  | ((with_reducible apply slx_list); (· walk_at "rf"))
  | ((with_reducible apply r2_plus_list); (· walk_at "rf"); (· walk_at "rf"); (· walk_at "sz"))
  | ((with_reducible refine xs_asg ?_ ?_ ?_); (· walk_at "sd"); (· walk_at "sd"))
  | ((with_reducible refine r2_times_int ?_ ?_); (· walk_at "cm"))
  | ((with_reducible refine r2_mod ?_ ?_); (· walk_at "sd"))
  | ((with_reducible refine r2_fdiv ?_ ?_); (· walk_at "sd"))
  | ((with_reducible refine r2_pow ?_ ?_); (· walk_at "pw"))
  | ((with_reducible refine r2_plus_str ?_ ?_); (· walk_at "sz"))
  | ((with_reducible refine r2_plus_tup ?_ ?_); (· walk_at "sz"))
  | ((with_reducible refine rc_str_int ?_ ?_); (· walk_at "sd"))
  | ((with_reducible refine rc_len_str ?_ ?_); (· walk_at "sz"))
  | ((with_reducible refine slx_str ?_ ?_); (· walk_at "sz"))
  | (with_reducible apply xs_asgG)
  | (with_reducible apply xgs_cons)
  | ((with_reducible apply Exists.intro); (with_reducible apply And.intro); (· exact rfl); (with_reducible apply And.intro); (· walk_at "sz"))
  | ((with_reducible apply Exists.intro); (with_reducible apply And.intro); (· exact rfl))
  | ((with_reducible apply And.intro); (· exact rfl))
  | ((with_reducible show ∀ _ : V, _); intro _)
  | fail)
local macro_rules | `(tactic| walk_at "gs") => `(tactic| repeat' (walk_at "st"))
local macro_rules | `(tactic| walk_at "go") => `(tactic| repeat' (first | (with_reducible refine xs_seq ?_) | walk_at "st"))

abbrev sLinker___init__ : Stmt := inClass (topS 8) 0
theorem scLinker___init__ : FnScope ["self"] ["self"] (defScope sLinker___init__) := ⟨rfl, rfl, rfl, by decide +kernel, rfl, by decide +kernel, by decide +kernel⟩

def fLinker___init__ (C : Addr) : FS := fun os P => os = [.ins C []] ∧ P (.d .none) [lkO C [] []]
theorem lenLinker___init__ (C : Addr) : ∀ os P, fLinker___init__ C os P → os.length = ["self"].length := by
  rintro os P ⟨rfl, _⟩
  rfl

theorem okLinker___init__ {P : Program} {w : World} {K : PySem.W.Frag} {mg : Str → Option Value} {base : Heap} {C_Linker : Addr} (S : StdI K C_Linker "Linker.__init__" sLinker___init__ ["self"]) (cl_Linker : Cls K C_Linker) (na_Linker_pieces : NoAttr K C_Linker "pieces") (na_Linker_past : NoAttr K C_Linker "past") : CalI P w K mg base C_Linker 1 ["self"] (fLinker___init__ C_Linker) := by
  refine calI_of [true] S scLinker___init__ (by decide) (lenLinker___init__ C_Linker) fun a cdv A outer s H vs Q E hr => ?_
  have sc := scLinker___init__
  let nm : List Str := ["self"]
  let sco := defScope sLinker___init__
  refine ⟨_, (pss_cons (ps_fld (pv 0) (pe_lst pa_nil) rfl)
 (pss_one (ps_fld (pv 0) (pe_lst pa_nil) rfl))), ?_⟩
  clear sc nm sco
  try dsimp only [cxOf, Cx.nox, Cx.wish]

  rintro os P ⟨rfl, q⟩
  refine ⟨by walk_at "bk", ?_⟩
  show XS K _ _ _ [.ins C_Linker []]
  refine xs_seq (xs_fldD ‹_› ‹_› (xe_lst (xa_nil ⟨_, rfl, Nat.zero_le _, _, rfl, _, _, rfl, rfl, Nat.le_of_ble_eq_true rfl, ?_⟩)))
  refine xs_fldO ‹_› ‹_› (xe_lst (xa_nil ⟨_, rfl, Nat.zero_le _, _, _, rfl, setF_miss (by decide +kernel) rfl, Nat.le_of_ble_eq_true rfl, ?_⟩))
  exact ⟨Nat.le_of_ble_eq_true rfl, q⟩

end K79
set_option maxRecDepth 100000
set_option maxHeartbeats 8000000
set_option autoImplicit false
namespace K79
open PySem L2 PyProof.Rows PL MV LKD
local macro_rules | `(tactic| walk_at "rf") => `(tactic| exact rfl)
local macro_rules | `(tactic| walk_at "gf") => `(tactic| repeat' (first
  | exact getF_hit
  | exact setF_hit
  | refine getF_miss (by decide +kernel) ?_
  | refine setF_miss (by decide +kernel) ?_
  | exact rfl))
local macro_rules | `(tactic| walk_at "bk") => `(tactic| simp [BackOk, Ow.cp])
local macro_rules | `(tactic| walk_at "as") => `(tactic| assumption)
local macro_rules | `(tactic| walk_at "tr") => `(tactic| exact trivial)
local macro_rules | `(tactic| walk_at "pw") => `(tactic| exact ⟨by decide, by decide, by decide⟩)
local macro_rules | `(tactic| walk_at "cm") => `(tactic| (unfold CMul; first
  | (left; decide)
  | (right; decide)
  | (left; refine ⟨?_, ?_⟩ <;> omega)
  | (right; refine ⟨?_, ?_⟩ <;> omega)))
local macro_rules | `(tactic| walk_at "sd") => `(tactic| first
  | exact rfl
  | exact Nat.le_of_ble_eq_true rfl
  | (with_reducible assumption)
  | decide
  | omega
  | (simp only [List.length_cons, List.length_nil, List.length_append, List.length_set, List.length_replicate, List.length_map]; omega)
  | (refine ⟨?_, ?_⟩ <;> (first | decide | omega)))
local macro_rules | `(tactic| walk_at "sz") => `(tactic| first
  | decide
  | (with_reducible assumption)
  | (rw [sizeLine_eq]; omega)
  | (rw [sizeLine_eq]; simp only [List.length_cons, List.length_nil, List.length_append, List.length_set, List.length_replicate, List.length_map]; omega))
local macro_rules | `(tactic| walk_at "st") => `(tactic| first
  | ((with_reducible show Fill _ _ _ _); first | (apply fill_bor; (· exact rfl)) | apply fill_val | apply fill_nil)
  | ((with_reducible show RCX _ _ _ _); dsimp only [List.map, Arg.ow])
  | ((with_reducible show f_law_next _ _); refine use_next ?_ ?_; (· walk_at "sd"))
  | ((with_reducible apply xe_eqV); (· exact rfl); (· intro _; exact rfl); intro _ _)
  | ((with_reducible apply xe_lenV); (· exact rfl); intro _)
  | ((with_reducible apply xa_own); (· walk_at "rf"); (· walk_at "rf"); intro _)
  | ((with_reducible apply xa_vs); (· walk_at "rf"))
  | ((with_reducible apply xe_ixV); (· walk_at "rf"); (· walk_at "rf"); (· walk_at "rf"))
  | ((with_reducible apply xe_ixC); (· walk_at "rf"); (· walk_at "rf"))
  | ((with_reducible apply xe_fldV); (· walk_at "rf"); (· walk_at "as"); (· walk_at "as"); (· walk_at "gf"); (· walk_at "tr"))
  | ((with_reducible apply xe_methV); (· walk_at "rf"); (· walk_at "gf"))
  | (with_reducible refine L2.iteT ?_)
  | (with_reducible refine L2.iteF ?_)
  | (with_reducible refine xs_if ?_)
  | (with_reducible refine xs_next ?_)
  | (with_reducible refine xs_retN ?_)
  | (with_reducible refine xs_ret ?_)
  | (with_reducible refine xe_op ?_)
  | (with_reducible refine xe_int ?_)
  | (with_reducible refine xe_str ?_)
  | (with_reducible refine xe_bl ?_)
  | (with_reducible refine xe_non ?_)
  | (with_reducible refine xa_nil ?_)
  | (with_reducible refine xa_cons ?_)
  | (with_reducible refine xe_tup ?_)
  | (with_reducible refine xe_lst ?_)
  | (with_reducible refine xe_call ?_)
  | (with_reducible refine xe_cb ?_)
  | (with_reducible refine xe_if ?_)
  | (with_reducible refine xe_neg ?_)
  | (with_reducible refine xt_tst ?_)
  | (with_reducible refine xt_and ?_)
  | (with_reducible refine xt_or ?_)
  | (with_reducible refine xt_not ?_)
  | (with_reducible refine xt_yes ?_)
  | (with_reducible refine r2_plus_int ?_)
  | (with_reducible refine r2_sub ?_)
  | (with_reducible refine r2_lt ?_)
  | (with_reducible refine r2_le ?_)
  | (with_reducible refine r2_gt ?_)
  | (with_reducible refine r2_ge ?_)
  | (with_reducible refine r2_eq_int ?_)
  | (with_reducible refine r2_eq_str ?_)
  | (with_reducible refine r2_ne_int ?_)
  | (with_reducible refine r2_ne_str ?_)
  | (with_reducible refine r2_isN ?_)
  | (with_reducible refine r2_notN ?_)
  | (with_reducible refine r2_eq_bool ?_)
  | (with_reducible refine r2_ne_bool ?_)
  | (with_reducible refine rc_len_tup ?_)
  | (with_reducible refine rc_len_scr ?_)
  | (with_reducible refine rc_min2 ?_)
  | (with_reducible refine rc_max2 ?_)
  | (with_reducible refine rc_int_bool ?_)
  | (with_reducible refine rc_abs ?_)
  | (with_reducible refine xgs_nil ?_)
  | (with_reducible refine xe_andV ?_)
  | (with_reducible refine xe_orV ?_)
  | (with_reducible refine xe_notV ?_)
  | (with_reducible refine xe_slice ?_)
  | (with_reducible refine xo_none ?_)
  | (with_reducible refine xo_some ?_)
  | (with_reducible refine xi_range1 ?_)
  | (with_reducible refine xi_range2 ?_)
  | (with_reducible refine xi_list ?_)
  | (with_reducible refine xi_tup ?_)
  | (with_reducible refine slx_tup ?_)
  | ((with_reducible apply xg_name); (· walk_at "sd"); (· walk_at "sd"))
  | ((with_reducible apply xg_tup); (· walk_at "rf"))
  | ((with_reducible apply xe_vd); (· walk_at "rf"))
  | ((with_reducible apply xe_vs); (· walk_at "rf"))
  | ((with_reducible apply r2_ix_list); (· walk_at "rf"); (· walk_at "rf"))
  | ((with_reducible apply r2_ix_tup); (· walk_at "rf"))
  | ((with_reducible apply rc_len); (· walk_at "rf"))
  | ((with_reducible apply slx_list); (· walk_at "rf"))
  | ((with_reducible apply r2_plus_list); (· walk_at "rf"); (· walk_at "rf"); (· walk_at "sz"))
  | ((with_reducible refine xs_asg ?_ ?_ ?_); (· walk_at "sd"); (· walk_at "sd"))
  | ((with_reducible refine r2_times_int ?_ ?_); (· walk_at "cm"))
  | ((with_reducible refine r2_mod ?_ ?_); (· walk_at "sd"))
  | ((with_reducible refine r2_fdiv ?_ ?_); (· walk_at "sd"))
  | ((with_reducible refine r2_pow ?_ ?_); (· walk_at "pw"))
  | ((with_reducible refine r2_plus_str ?_ ?_); (· walk_at "sz"))
  | ((with_reducible refine r2_plus_tup ?_ ?_); (· walk_at "sz"))
  | ((with_reducible refine rc_str_int ?_ ?_); (· walk_at "sd"))
  | ((with_reducible refine rc_len_str ?_ ?_); (· walk_at "sz"))
  | ((with_reducible refine slx_str ?_ ?_); (· walk_at "sz"))
  | (with_reducible apply xs_asgG)
  | (with_reducible apply xgs_cons)
  | ((with_reducible apply Exists.intro); (with_reducible apply And.intro); (· exact rfl); (with_reducible apply And.intro); (· walk_at "sz"))
  | ((with_reducible apply Exists.intro); (with_reducible apply And.intro); (· exact rfl))
  | ((with_reducible apply And.intro); (· exact rfl))
  | ((with_reducible show ∀ _ : V, _); intro _)
  | fail)
local macro_rules | `(tactic| walk_at "gs") => `(tactic| repeat' (walk_at "st"))
local macro_rules | `(tactic| walk_at "go") => `(tactic| repeat' (first | (with_reducible refine xs_seq ?_) | walk_at "st"))

abbrev s_law_e_like : Stmt := topS 18
theorem sc_law_e_like : FnScope ["linker", "rows", "other", "piece", "told"] ["linker", "rows"] (defScope s_law_e_like) := ⟨rfl, rfl, rfl, by decide +kernel, rfl, by decide +kernel, by decide +kernel⟩

def f_law_e_like (C : Addr) : FS := fun os P => ∃ (r : List Rw) (p : List (Str × List Rw)), os = [lkO C r p, .d (.list (rD r))] ∧ r.length < 30 ∧ (nms r).Nodup ∧ RsOk r ∧ P (.d (.bool true)) os
theorem len_law_e_like (C : Addr) : ∀ os P, f_law_e_like C os P → os.length = ["linker", "rows"].length := by
  rintro os P ⟨_, _, rfl, _⟩
  rfl

theorem ok_law_e_like {P : Program} {w : World} {K : PySem.W.Frag} {mg : Str → Option Value} {base : Heap} {C_Linker : Addr} (S : Std K mg "_law_e_like" s_law_e_like ["linker", "rows"]) (CLinker_put : CalM P w K mg base C_Linker 2 "put" ["self", "piece"] (fLinker_put C_Linker)) (CLinker_names : CalM P w K mg base C_Linker 1 "names" ["self"] (fLinker_names C_Linker)) (CLinker___len__ : CalM P w K mg base C_Linker 1 "__len__" ["self"] (fLinker___len__ C_Linker)) (CLinker___eq__ : CalM P w K mg base C_Linker 1 "__eq__" ["self", "other"] (fLinker___eq__ C_Linker)) (CLinker___init__ : CalI P w K mg base C_Linker 1 ["self"] (fLinker___init__ C_Linker)) (cl_Linker : Cls K C_Linker) (m_Linker : mg "Linker" = some (.ref C_Linker)) (nf_Linker : PySem.W.notFirst K C_Linker (.ref C_Linker) = true) (z_len : mg "len" = none) (z_isinstance : mg "isinstance" = none) (z_list : mg "list" = none) : Cal P w K mg base 3 "_law_e_like" ["linker", "rows"] (f_law_e_like C_Linker) := by
  obtain ⟨aLinker_put, fdLinker_put, GLinker_put, MLinker_put, bLinker_put⟩ := CLinker_put
  obtain ⟨aLinker_names, fdLinker_names, GLinker_names, MLinker_names, bLinker_names⟩ := CLinker_names
  obtain ⟨aLinker___len__, fdLinker___len__, GLinker___len__, MLinker___len__, bLinker___len__⟩ := CLinker___len__
  obtain ⟨aLinker___eq__, fdLinker___eq__, GLinker___eq__, MLinker___eq__, bLinker___eq__⟩ := CLinker___eq__
  obtain ⟨aLinker___init__, fdLinker___init__, GLinker___init__, MLinker___init__, bLinker___init__⟩ := CLinker___init__
  refine cal_of [true, false] S sc_law_e_like (by decide) (len_law_e_like C_Linker) fun a cdv A outer s H vs Q E hr => ?_
  have sc := sc_law_e_like
  let nm : List Str := ["linker", "rows", "other", "piece", "told"]
  let sco := defScope s_law_e_like
  refine ⟨_, (pss_cons (ps_set (i := 2) sc.nd rfl (Or.inl rfl) (pe_make0 MLinker___init__ GLinker___init__ (hr.mono (by decide)) (by rfl) m_Linker bLinker___init__ .nil pass0))
 (pss_cons (ps_for PassesOwn.never rfl (pi_list (pv 1)) (pg_name (i := 3) sc.nd rfl (Or.inl rfl))
 (pss_one (ps_expr (pe_meth (pv 2) cl_Linker MLinker_put GLinker_put (hr.mono (by decide)) bLinker_put .nil pass0 (pa_cons (pv 3) pa_nil)))))
 (pss_cons (ps_set (i := 4) sc.nd rfl (Or.inl rfl) (pe_meth0 (pv 0) cl_Linker MLinker_names GLinker_names (hr.mono (by decide)) bLinker_names .nil pass0))
 (pss_cons (ps_if (PW.pt (pw_or (pt_not (show PT _ _ (tTru K _) from pt_truth (pe_callB (r := rIsi K) call_isi (by rfl) z_isinstance (by decide +kernel) (pa_cons (pv 4) (pa_cons (pe_bltn (v := .ty "list") (by rfl) z_list (by decide +kernel) rfl) pa_nil))) (by intro _; rfl))) (pw_or (pt_cmpR (r := rNeq K) (op_neq (room64 hr)) (pv 4) (pe_lc (own := [("piece", 3)]) (g := (gName 3)) (by rfl) sc.nd (pi_list (pv 1)) (blkOk_by (own := [("piece", 3)]) (N := nm) (sc := sco) (by decide +kernel)) (fun _ _ _ _ _ => pg_name (i := 3) sc.nd rfl (Or.inl rfl)) (fun _ _ _ _ _ => pts_nil) (fun _ _ _ _ _ => (pe_ix (r := rIx K) ix_seq (pv 3) pe_int (fun _ _ => rfl)))) (nomark _)) (pw_or1 (pt_cmpR (r := rNeq K) (op_neq (room64 hr)) (pe_callB (call_lenI GLinker___len__ (hr.mono (by decide)) MLinker___len__.at_ MLinker___len__.fn bLinker___len__ pass0) (by rfl) z_len (by decide +kernel) (pa_cons (pv 0) pa_nil)) (pe_callB (r := rLenK K) call_len (by rfl) z_len (by decide +kernel) (pa_cons (pv 1) pa_nil)) (nomark _))))))
 (pss_one (ps_ret pe_bl))
 pss_nil)
 (pss_one (ps_ret (pe_and (pe_cmpR (op_eqI GLinker___eq__ (hr.mono (by decide)) MLinker___eq__.at_ MLinker___eq__.fn nf_Linker bLinker___eq__ pass0) (pv 0) (pv 2) (nomark _)) (pe_one (pe_cmpR (op_eqI GLinker___eq__ (hr.mono (by decide)) MLinker___eq__.at_ MLinker___eq__.fn nf_Linker bLinker___eq__ pass0) (pv 2) (pv 0) (nomark _)))))))))), ?_⟩
  clear sc nm sco
  try dsimp only [cxOf, Cx.nox, Cx.wish]

  rintro os P ⟨r, p, rfl, hl, hd, hk, q⟩
  refine ⟨by walk_at "bk", ?_⟩
  show XS K _ _ _ [lkO C_Linker r p, .d (.list (rD r)), .any, .any, .any]
  have hlr : (rD r).length = r.length := List.length_map _
  refine xs_seq (xs_asgO (by walk_at "sd") (by decide) (xe_make (xa_nil ⟨rfl, rfl, _, _, rfl, by nofun, rfl, ?_⟩)))
  show XS K _ _ _ [lkO C_Linker r p, .d (.list (rD r)), lkO C_Linker [] [], .any, .any]
  refine xs_seq (xs_for (is := [3]) ?_)
  walk_at "gs"
  refine ⟨fun k ρ => ∃ s3 pp, ρ = [lkO C_Linker r p, .d (.list (rD r)), lkO C_Linker (r.take k) pp, s3, .any] ∧ pp.length ≤ k, ⟨_, [], rfl, Nat.zero_le _⟩, ?_, ?_⟩
  · rintro k _ hk2 ⟨s3, pp, rfl, hpp⟩
    rw [hlr] at hk2
    show XG K _ _ _ (.d (nth (rD r) k)) _ _
    rw [show nth (rD r) k = pcD r[k] from nth_get (by unfold rD; rw [List.getElem?_map, List.getElem?_eq_getElem hk2]; rfl)]
    walk_at "gs"
    refine xs_drop ?_
    walk_at "gs"
    have hnd : r[k].1 ∉ nms (r.take k) := by
      intro h
      unfold nms at h hd
      rw [List.map_take] at h
      obtain ⟨m, hm, e⟩ := List.mem_iff_getElem.mp h
      rw [List.getElem_take] at e
      have hm2 : m < k := by
        rw [List.length_take, List.length_map] at hm
        omega
      have e2 : (r.map (·.1))[m]'(by rw [List.length_map]; omega) = (r.map (·.1))[k]'(by rw [List.length_map]; exact hk2) := by
        rw [e, List.getElem_map]
      have := (List.getElem_inj hd).mp e2
      omega
    refine ⟨r.take k, pp, r[k], rfl, by rw [List.length_take]; omega, by omega, hnd, ?_⟩
    walk_at "gs"
    refine ⟨.d (pcD r[k]), pp ++ [(("put" : Str), r.take k)], ?_, ?_⟩
    · rw [show r.take (k + 1) = r.take k ++ [r[k]] by rw [List.take_succ, List.getElem?_eq_getElem hk2]; rfl]
      rfl
    · rw [List.length_append, List.length_singleton]
      omega
  · rintro _ ⟨s3, pp, rfl, hpp⟩
    rw [hlr, List.take_of_length_le (Nat.le_refl _)]
    show XS K _ _ _ [lkO C_Linker r p, .d (.list (rD r)), lkO C_Linker r pp, s3, .any]
    walk_at "go"
    refine ⟨r, p, rfl, by omega, ?_⟩
    walk_at "go"
    have hsh : ShD 1 (.list ((nms r).map .str)) := shD_list fun d hd => by
      obtain ⟨x, hx, rfl⟩ := List.mem_map.mp hd
      exact shD_str (hk x hx)
    refine xt_tru (xe_isi (b := true) (xw_var rfl (by nofun)) rfl (by exact trivial) (kit_ty (by decide +kernel)) ⟨_, _, rfl, rfl, trivial, ?_⟩)
    show XT K _ [lkO C_Linker r p, .d (.list (rD r)), lkO C_Linker r pp, s3, .d (.list ((nms r).map .str))] _
    refine xt_or (xt_tst (xe_op (xe_vd rfl (xe_lc (is := [3]) (by simp) ?_))))
    walk_at "gs"
    refine ⟨fun v hv => by simp at hv; subst hv; exact Nat.le_of_ble_eq_true rfl, fun k acc ρ' => ρ' = [lkO C_Linker r p, .d (.list (rD r)), lkO C_Linker r pp, .any, .d (.list ((nms r).map .str))] ∧ acc = ((nms r).take k).map .str, ⟨rfl, rfl⟩, ?_, ?_⟩
    · rintro k acc _ hk la ⟨rfl, rfl⟩ _
      rw [hlr] at hk
      show XG K _ _ _ (.d (nth (rD r) k)) _ _
      rw [show nth (rD r) k = pcD r[k] from nth_get (by unfold rD; rw [List.getElem?_map, List.getElem?_eq_getElem hk]; rfl)]
      walk_at "gs"
      rw [List.take_succ, List.map_append]
      congr 1
      unfold nms
      rw [List.getElem?_map, List.getElem?_eq_getElem hk]
      rfl
    · rintro acc _ la ⟨rfl, rfl⟩
      rw [hlr, List.take_of_length_le (by unfold nms; rw [List.length_map]; exact Nat.le_refl _)]
      refine r2_ne_data rfl rfl (hsh.shaped (by decide)) (hsh.shaped (by decide)) ?_
      rw [hsh.refl]
      refine ⟨_, rfl, ?_⟩
      refine L2.iteF ?_
      walk_at "gs"
      refine ⟨r, p, rfl, ?_⟩
      walk_at "gs"
      refine ⟨by omega, ?_⟩
      walk_at "gs"
      rw [hlr]
      refine ifn (fun h => absurd rfl h) fun _ => ?_
      walk_at "go"
      refine ⟨r, r, p, pp, rfl, hk, hk, ?_⟩
      walk_at "gs"
      rw [(shD_rows hk).refl]
      walk_at "gs"
      refine ⟨r, r, pp, p, rfl, hk, hk, ?_⟩
      walk_at "gs"
      rw [(shD_rows hk).refl]
      exact ⟨Nat.le_of_ble_eq_true rfl, q⟩

end K79
set_option maxRecDepth 100000
set_option maxHeartbeats 8000000
set_option autoImplicit false
namespace K79
open PySem L2 PyProof.Rows PL MV LKD
local macro_rules | `(tactic| walk_at "rf") => `(tactic| exact rfl)
local macro_rules | `(tactic| walk_at "gf") => `(tactic| repeat' (first
  | exact getF_hit
  | exact setF_hit
  | refine getF_miss (by decide +kernel) ?_
  | refine setF_miss (by decide +kernel) ?_
  | exact rfl))
local macro_rules | `(tactic| walk_at "bk") => `(tactic| simp [BackOk, Ow.cp])
local macro_rules | `(tactic| walk_at "as") => `(tactic| assumption)
local macro_rules | `(tactic| walk_at "tr") => `(tactic| exact trivial)
local macro_rules | `(tactic| walk_at "pw") => `(tactic| exact ⟨by decide, by decide, by decide⟩)
local macro_rules | `(tactic| walk_at "cm") => `(tactic| (unfold CMul; first
  | (left; decide)
  | (right; decide)
  | (left; refine ⟨?_, ?_⟩ <;> omega)
  | (right; refine ⟨?_, ?_⟩ <;> omega)))
local macro_rules | `(tactic| walk_at "sd") => `(tactic| first
  | exact rfl
  | exact Nat.le_of_ble_eq_true rfl
  | (with_reducible assumption)
  | decide
  | omega
  | (simp only [List.length_cons, List.length_nil, List.length_append, List.length_set, List.length_replicate, List.length_map]; omega)
  | (refine ⟨?_, ?_⟩ <;> (first | decide | omega)))
local macro_rules | `(tactic| walk_at "sz") => `(tactic| first
  | decide
  | (with_reducible assumption)
  | (rw [sizeLine_eq]; omega)
  | (rw [sizeLine_eq]; simp only [List.length_cons, List.length_nil, List.length_append, List.length_set, List.length_replicate, List.length_map]; omega))
local macro_rules | `(tactic| walk_at "st") => `(tactic| first
  | ((with_reducible show Fill _ _ _ _); first | (apply fill_bor; (· exact rfl)) | apply fill_val | apply fill_nil)
  | ((with_reducible show RCX _ _ _ _); dsimp only [List.map, Arg.ow])
  | ((with_reducible show f_law_next _ _); refine use_next ?_ ?_; (· walk_at "sd"))
  | ((with_reducible apply xe_eqV); (· exact rfl); (· intro _; exact rfl); intro _ _)
  | ((with_reducible apply xe_lenV); (· exact rfl); intro _)
  | ((with_reducible apply xa_own); (· walk_at "rf"); (· walk_at "rf"); intro _)
  | ((with_reducible apply xa_vs); (· walk_at "rf"))
  | ((with_reducible apply xe_ixV); (· walk_at "rf"); (· walk_at "rf"); (· walk_at "rf"))
  | ((with_reducible apply xe_ixC); (· walk_at "rf"); (· walk_at "rf"))
  | ((with_reducible apply xe_fldV); (· walk_at "rf"); (· walk_at "as"); (· walk_at "as"); (· walk_at "gf"); (· walk_at "tr"))
  | ((with_reducible apply xe_methV); (· walk_at "rf"); (· walk_at "gf"))
  | (with_reducible refine L2.iteT ?_)
  | (with_reducible refine L2.iteF ?_)
  | (with_reducible refine xs_if ?_)
  | (with_reducible refine xs_next ?_)
  | (with_reducible refine xs_retN ?_)
  | (with_reducible refine xs_ret ?_)
  | (with_reducible refine xe_op ?_)
  | (with_reducible refine xe_int ?_)
  | (with_reducible refine xe_str ?_)
  | (with_reducible refine xe_bl ?_)
  | (with_reducible refine xe_non ?_)
  | (with_reducible refine xa_nil ?_)
  | (with_reducible refine xa_cons ?_)
  | (with_reducible refine xe_tup ?_)
  | (with_reducible refine xe_lst ?_)
  | (with_reducible refine xe_call ?_)
  | (with_reducible refine xe_cb ?_)
  | (with_reducible refine xe_if ?_)
  | (with_reducible refine xe_neg ?_)
  | (with_reducible refine xt_tst ?_)
  | (with_reducible refine xt_and ?_)
  | (with_reducible refine xt_or ?_)
  | (with_reducible refine xt_not ?_)
  | (with_reducible refine xt_yes ?_)
  | (with_reducible refine r2_plus_int ?_)
  | (with_reducible refine r2_sub ?_)
  | (with_reducible refine r2_lt ?_)
  | (with_reducible refine r2_le ?_)
  | (with_reducible refine r2_gt ?_)
  | (with_reducible refine r2_ge ?_)
  | (with_reducible refine r2_eq_int ?_)
  | (with_reducible refine r2_eq_str ?_)
  | (with_reducible refine r2_ne_int ?_)
  | (with_reducible refine r2_ne_str ?_)
  | (with_reducible refine r2_isN ?_)
  | (with_reducible refine r2_notN ?_)
  | (with_reducible refine r2_eq_bool ?_)
  | (with_reducible refine r2_ne_bool ?_)
  | (with_reducible refine rc_len_tup ?_)
  | (with_reducible refine rc_len_scr ?_)
  | (with_reducible refine rc_min2 ?_)
  | (with_reducible refine rc_max2 ?_)
  | (with_reducible refine rc_int_bool ?_)
  | (with_reducible refine rc_abs ?_)
  | (with_reducible refine xgs_nil ?_)
  | (with_reducible refine xe_andV ?_)
  | (with_reducible refine xe_orV ?_)
  | (with_reducible refine xe_notV ?_)
  | (with_reducible refine xe_slice ?_)
  | (with_reducible refine xo_none ?_)
  | (with_reducible refine xo_some ?_)
  | (with_reducible refine xi_range1 ?_)
  | (with_reducible refine xi_range2 ?_)
  | (with_reducible refine xi_list ?_)
  | (with_reducible refine xi_tup ?_)
  | (with_reducible refine slx_tup ?_)
  | ((with_reducible apply xg_name); (· walk_at "sd"); (· walk_at "sd"))
  | ((with_reducible apply xg_tup); (· walk_at "rf"))
  | ((with_reducible apply xe_vd); (· walk_at "rf"))
  | ((with_reducible apply xe_vs); (· walk_at "rf"))
  | ((with_reducible apply r2_ix_list); (· walk_at "rf"); (· walk_at "rf"))
  | ((with_reducible apply r2_ix_tup); (· walk_at "rf"))
  | ((with_reducible apply rc_len); (· walk_at "rf"))
  | ((with_reducible apply slx_list); (· walk_at "rf"))
  | ((with_reducible apply r2_plus_list); (· walk_at "rf"); (· walk_at "rf"); (· walk_at "sz"))
  | ((with_reducible refine xs_asg ?_ ?_ ?_); (· walk_at "sd"); (· walk_at "sd"))
  | ((with_reducible refine r2_times_int ?_ ?_); (· walk_at "cm"))
  | ((with_reducible refine r2_mod ?_ ?_); (· walk_at "sd"))
  | ((with_reducible refine r2_fdiv ?_ ?_); (· walk_at "sd"))
  | ((with_reducible refine r2_pow ?_ ?_); (· walk_at "pw"))
  | ((with_reducible refine r2_plus_str ?_ ?_); (· walk_at "sz"))
  | ((with_reducible refine r2_plus_tup ?_ ?_); (· walk_at "sz"))
  | ((with_reducible refine rc_str_int ?_ ?_); (· walk_at "sd"))
  | ((with_reducible refine rc_len_str ?_ ?_); (· walk_at "sz"))
  | ((with_reducible refine slx_str ?_ ?_); (· walk_at "sz"))
  | (with_reducible apply xs_asgG)
  | (with_reducible apply xgs_cons)
  | ((with_reducible apply Exists.intro); (with_reducible apply And.intro); (· exact rfl); (with_reducible apply And.intro); (· walk_at "sz"))
  | ((with_reducible apply Exists.intro); (with_reducible apply And.intro); (· exact rfl))
  | ((with_reducible apply And.intro); (· exact rfl))
  | ((with_reducible show ∀ _ : V, _); intro _)
  | fail)
local macro_rules | `(tactic| walk_at "gs") => `(tactic| repeat' (walk_at "st"))
local macro_rules | `(tactic| walk_at "go") => `(tactic| repeat' (first | (with_reducible refine xs_seq ?_) | walk_at "st"))

abbrev slaw : Stmt := topS 19
theorem sclaw : FnScope ["script", "pen", "names", "linker", "rows", "held", "turn", "deed", "shown", "told", "other", "one", "copied"] ["script"] (defScope slaw) := ⟨rfl, rfl, rfl, by decide +kernel, rfl, by decide +kernel, by decide +kernel⟩

def hdD (hd : List (List Str)) : List PyData := hd.map fun l => .tuple [.list (l.map .str), .list (l.map .str)]
def HdOk (hd : List (List Str)) : Prop := ∀ l, l ∈ hd → ∀ x, x ∈ l → PyData.strOk x = true
theorem strs_sh {l : List Str} (h : ∀ x, x ∈ l → PyData.strOk x = true) : ShD 1 (.list (l.map .str)) := shD_list fun d hd => by
  obtain ⟨x, hx, rfl⟩ := List.mem_map.mp hd
  exact shD_str (h x hx)
abbrev s7 (C : Addr) (ns : List Int) (nm : List Str) (r : List Rw) (p : List (Str × List Rw)) (hd : List (List Str)) (s : List Ow) : List Ow :=
  .scr ns :: .pen ns :: .d (.list (nm.map .str)) :: lkO C r p :: .d (.list (rD r)) :: .ls (hdD hd) :: s
def flaw : FS := fun os P => ∃ (ns : List Int), os = [.scr ns] ∧ ns.length ≤ 63 ∧ P (.d (.bool true)) os
theorem lenlaw : ∀ os P, flaw os P → os.length = ["script"].length := by
  rintro os P ⟨_, rfl, _⟩
  rfl

theorem oklaw {P : Program} {w : World} {K : PySem.W.Frag} {mg : Str → Option Value} {base : Heap} {C_Linker : Addr} {a0 : Addr} {fd0 : FuncData} (F : Fun K "law" "law" slaw a0 fd0) (C_law_e_names : Cal P w K mg base 3 "_law_e_names" ["pen"] f_law_e_names) (C_law_e_deed : Cal P w K mg base 4 "_law_e_deed" ["pen", "names", "rows"] f_law_e_deed) (C_law_e_do : Cal P w K mg base 4 "_law_e_do" ["linker", "deed"] (f_law_e_do C_Linker)) (C_law_e_after : Cal P w K mg base 2 "_law_e_after" ["rows", "deed"] f_law_e_after) (C_law_next : Cal P w K mg base 2 "_law_next" ["_law_pen", "_law_many"] f_law_next) (C_law_e_like : Cal P w K mg base 3 "_law_e_like" ["linker", "rows"] (f_law_e_like C_Linker)) (CLinker_names : CalM P w K mg base C_Linker 1 "names" ["self"] (fLinker_names C_Linker)) (CLinker___init__ : CalI P w K mg base C_Linker 1 ["self"] (fLinker___init__ C_Linker)) (cl_Linker : Cls K C_Linker) (m_Linker : mg "Linker" = some (.ref C_Linker)) (z_range : mg "range" = none) (z_max : mg "max" = none) (z_min : mg "min" = none) (z_len : mg "len" = none) (z_repr : mg "repr" = none) (z_list : mg "list" = none) (z_all : mg "all" = none) : FnG P w K mg base 5 a0 fd0 ["script"] (spM K flaw) := by
  obtain ⟨a_law_e_names, fd_law_e_names, G_law_e_names, g_law_e_names, k_law_e_names, b_law_e_names⟩ := C_law_e_names
  obtain ⟨a_law_e_deed, fd_law_e_deed, G_law_e_deed, g_law_e_deed, k_law_e_deed, b_law_e_deed⟩ := C_law_e_deed
  obtain ⟨a_law_e_do, fd_law_e_do, G_law_e_do, g_law_e_do, k_law_e_do, b_law_e_do⟩ := C_law_e_do
  obtain ⟨a_law_e_after, fd_law_e_after, G_law_e_after, g_law_e_after, k_law_e_after, b_law_e_after⟩ := C_law_e_after
  obtain ⟨a_law_next, fd_law_next, G_law_next, g_law_next, k_law_next, b_law_next⟩ := C_law_next
  obtain ⟨a_law_e_like, fd_law_e_like, G_law_e_like, g_law_e_like, k_law_e_like, b_law_e_like⟩ := C_law_e_like
  obtain ⟨aLinker_names, fdLinker_names, GLinker_names, MLinker_names, bLinker_names⟩ := CLinker_names
  obtain ⟨aLinker___init__, fdLinker___init__, GLinker___init__, MLinker___init__, bLinker___init__⟩ := CLinker___init__
  refine fnG_of [false] F sclaw (by decide) (lenlaw) fun a cdv A outer s H vs Q E gu hr => ?_
  have sc := sclaw
  let nm : List Str := ["script", "pen", "names", "linker", "rows", "held", "turn", "deed", "shown", "told", "other", "one", "copied"]
  let sco := defScope slaw
  refine ⟨_, (pss_cons (ps_set (i := 1) sc.nd rfl (Or.inl rfl) (pe_lst (pa_cons (pv 0) (pa_cons pe_int (pa_cons pe_int pa_nil)))))
 (pss_cons (ps_set (i := 2) sc.nd rfl (Or.inl rfl) (pe_call G_law_e_names (hr.mono (by decide)) (by rfl) g_law_e_names k_law_e_names b_law_e_names .nil pass0 (pa_cons (pv 1) pa_nil)))
 (pss_cons (ps_set (i := 3) sc.nd rfl (Or.inl rfl) (pe_make0 MLinker___init__ GLinker___init__ (hr.mono (by decide)) (by rfl) m_Linker bLinker___init__ .nil pass0))
 (pss_cons (ps_set (i := 4) sc.nd rfl (Or.inl rfl) (pe_lst pa_nil))
 (pss_cons (ps_set (i := 5) sc.nd rfl (Or.inl rfl) (pe_lst pa_nil))
 (pss_cons (ps_for PassesOwn.never rfl (pi_range1 (by rfl) z_range (pa_cons (pe_callB (call_max2 rfl) (by rfl) z_max (by decide +kernel) (pa_cons pe_int (pa_cons (pe_callB (call_min2 rfl) (by rfl) z_min (by decide +kernel) (pa_cons pe_int (pa_cons (pe_op (r := rPlus K) op_plus (pe_callB (r := rLenK K) call_len (by rfl) z_len (by decide +kernel) (pa_cons (pv 0) pa_nil)) pe_int) pa_nil))) pa_nil))) pa_nil)) (pg_name (i := 6) sc.nd rfl (Or.inl rfl))
 (pss_cons (ps_set (i := 7) sc.nd rfl (Or.inl rfl) (pe_call G_law_e_deed (hr.mono (by decide)) (by rfl) g_law_e_deed k_law_e_deed b_law_e_deed .nil pass0 (pa_cons (pv 1) (pa_cons (pv 2) (pa_cons (pv 4) pa_nil)))))
 (pss_cons (ps_set (i := 8) sc.nd rfl (Or.inl rfl) (pe_callB (r := rRepr K) (cr_repr gu (hu65 hr)) (by rfl) z_repr (by decide +kernel) (pa_cons (pv 7) pa_nil)))
 (pss_cons (ps_if (PW.pt (pw_or (pt_cmpR op_notN (pe_call G_law_e_do (hr.mono (by decide)) (by rfl) g_law_e_do k_law_e_do b_law_e_do .nil pass0 (pa_cons (pv 3) (pa_cons (pv 7) pa_nil))) pe_non (nomark _)) (pw_or1 (pt_cmpR (r := rNeq K) (op_neq (room64 hr)) (pe_callB (r := rRepr K) (cr_repr gu (hu65 hr)) (by rfl) z_repr (by decide +kernel) (pa_cons (pv 7) pa_nil)) (pv 8) (nomark _)))))
 (pss_one (ps_ret pe_bl))
 pss_nil)
 (pss_cons (ps_set (i := 4) sc.nd rfl (Or.inl rfl) (pe_call G_law_e_after (hr.mono (by decide)) (by rfl) g_law_e_after k_law_e_after b_law_e_after .nil pass0 (pa_cons (pv 4) (pa_cons (pv 7) pa_nil))))
 (pss_one (ps_if (pt_cmpR op_gt (pe_call G_law_next (hr.mono (by decide)) (by rfl) g_law_next k_law_next b_law_next .nil pass0 (pa_cons (pv 1) (pa_cons pe_int pa_nil))) pe_int (nomark _))
 (pss_cons (ps_if (pt_not (show PT _ _ (tTru K _) from pt_truth (pe_call G_law_e_like (hr.mono (by decide)) (by rfl) g_law_e_like k_law_e_like b_law_e_like .nil pass0 (pa_cons (pv 3) (pa_cons (pv 4) pa_nil))) (by intro _; rfl)))
 (pss_one (ps_ret pe_bl))
 pss_nil)
 (pss_cons (ps_par (i := 9) (j := 10) (by rfl) sc.nd rfl rfl (by decide) rfl rfl (pa_cons (pe_meth0 (pv 3) cl_Linker MLinker_names GLinker_names (hr.mono (by decide)) bLinker_names .nil pass0) (pa_cons (pe_meth0 (pv 3) cl_Linker MLinker_names GLinker_names (hr.mono (by decide)) bLinker_names .nil pass0) pa_nil)) (by rfl))
 (pss_cons (ps_expr (pe_bm PySem.F.plainAttrs_list PySem.F.slot_list_append PySem.F.type_list_append mt_append (pv 5) (pa_cons (pe_tup (pa_cons (pv 9) (pa_cons (pe_callTy call_list_of (by rfl) z_list (by decide +kernel) (pa_cons (pv 9) pa_nil)) pa_nil))) pa_nil)))
 (pss_cons (ps_expr (pe_bm PySem.F.plainAttrs_list PySem.F.slot_list_append PySem.F.type_list_append mt_append (pv 10) (pa_cons pe_str pa_nil)))
 (pss_cons (ps_if (pt_cmpR (r := rNeq K) (op_neq (room64 hr)) (pv 9) (pe_ix (r := rIx K) ix_seq (pe_ix (r := rIx K) ix_seq (pv 5) (pe_un un_neg pe_int) (fun _ _ => rfl)) pe_int (fun _ _ => rfl)) (nomark _))
 (pss_one (ps_ret pe_bl))
 pss_nil)
 (pss_one (ps_expr (pe_bm0 PySem.F.plainAttrs_list PySem.F.slot_list_clear PySem.F.type_list_clear mt_clear (pv 10)))))))))
 pss_nil)))))))
 (pss_one (ps_ret (pe_and (pe_callB (r := rAll K) (cr_all rfl) (by rfl) z_all (by decide +kernel) (pa_cons (pe_lc (own := [("one", 11), ("copied", 12)]) (g := (gTup K 2 (gCons (gName 11) (gCons (gName 12) gNil)))) (by rfl) sc.nd (pi_list (pv 5)) (blkOk_by (own := [("one", 11), ("copied", 12)]) (N := nm) (sc := sco) (by decide +kernel)) (fun _ _ _ _ _ => (show PG _ _ (gTup K 2 _) from pg_tup (by rfl) (pgs_cons (pg_name (i := 11) sc.nd rfl (Or.inl rfl)) (pgs_cons (pg_name (i := 12) sc.nd rfl (Or.inl rfl)) pgs_nil)))) (fun _ _ _ _ _ => pts_nil) (fun _ _ _ _ _ => (pe_cmpR (r := rEqu K) (op_equ (room64 hr)) (pv 11) (pv 12) (nomark _)))) pa_nil)) (pe_one (pe_call G_law_e_like (hr.mono (by decide)) (by rfl) g_law_e_like k_law_e_like b_law_e_like .nil pass0 (pa_cons (pv 3) (pa_cons (pv 4) pa_nil))))))))))))), ?_⟩
  clear sc nm sco
  try dsimp only [cxOf, Cx.nox, Cx.wish]

  rintro os P ⟨ns, rfl, hns, q⟩
  refine ⟨by walk_at "bk", ?_⟩
  show XS K _ _ _ [.scr ns, .any, .any, .any, .any, .any, .any, .any, .any, .any, .any, .any, .any]
  refine xs_seq (xs_asgO (by walk_at "sd") (by decide) (xe_lstO (xa_consO (xe_var rfl trivial (xa_cons (xe_int ⟨_, rfl, xa_cons (xe_int ⟨_, rfl, xa_nil ⟨Nat.le_of_ble_eq_true rfl, rfl, ?_⟩⟩)⟩))))))
  refine xs_see 1 (o' := .pen ns) rfl (by nofun) (fun Z H v F _ h => shutPen (.inl rfl) (Int.le_refl 0) (Int.le_refl 0) h) ?_
  show XS K _ _ _ [.scr ns, .pen ns, .any, .any, .any, .any, .any, .any, .any, .any, .any, .any, .any]
  refine xs_seq ?_
  walk_at "gs"
  refine ⟨ns, rfl, fun nm h6 hok => ?_⟩
  walk_at "gs"
  show XS K _ _ _ [.scr ns, .pen ns, .d (.list (nm.map .str)), .any, .any, .any, .any, .any, .any, .any, .any, .any, .any]
  refine xs_seq (xs_asgO (by walk_at "sd") (by decide) (xe_make (xa_nil ⟨rfl, rfl, _, _, rfl, by nofun, rfl, ?_⟩)))
  refine xs_seq ?_
  walk_at "gs"
  refine xs_seq (xs_asgO (by walk_at "sd") (by decide) ?_)
  walk_at "gs"
  refine xs_cut (fun ρ => ∃ r p hd a6 a7 a8 a9 a10 a11 a12, ρ = s7 C_Linker ns nm r p hd [a6, a7, a8, a9, a10, a11, a12] ∧ Gd nm r ∧ p.length ≤ 30 ∧ hd.length ≤ 30 ∧ HdOk hd) ?_ ?_
  · show XS K _ _ _ (s7 C_Linker ns nm [] [] [] [.any, .any, .any, .any, .any, .any, .any])
    refine xs_for (is := [6]) ?_
    walk_at "gs"
    generalize hn : ((if (if (ns.length : Int) + 6 < 30 then (ns.length : Int) + 6 else 30) > 6 then (if (ns.length : Int) + 6 < 30 then (ns.length : Int) + 6 else 30) else 6)) = n
    have hn2 : 0 ≤ n ∧ n ≤ 30 := by
      rw [← hn]
      split <;> split <;> omega
    refine ⟨⟨by omega, by omega⟩, ?_⟩
    refine ⟨fun k ρ => ∃ r p hd a6 a7 a8 a9 a10 a11 a12, ρ = s7 C_Linker ns nm r p hd [a6, a7, a8, a9, a10, a11, a12] ∧ Gd nm r ∧ p.length ≤ k ∧ hd.length ≤ k ∧ HdOk hd, ⟨[], [], [], _, _, _, _, _, _, _, rfl, gd_nil nm, Nat.zero_le _, Nat.zero_le _, fun _ h => by cases h⟩, ?_, ?_⟩
    · rintro k _ hk ⟨r, p, hdl, a6, a7, a8, a9, a10, a11, a12, rfl, g0, l0, l1, h0⟩
      have hk24 : k < 30 := by omega
      have hok1 : ∀ x, x ∈ nm → PyData.strOk x = true := fun x hx => (hok x hx).1
      have hr0 := g0.len
      walk_at "gs"
      refine xs_seq ?_
      walk_at "gs"
      refine ⟨ns, nm, r, rfl, by omega, hok, by omega, fun d hd hi hc => ?_⟩
      walk_at "gs"
      refine xs_seq ?_
      walk_at "gs"
      refine rc_reprD hc ?_
      walk_at "gs"
      refine xs_seq ?_
      walk_at "gs"
      refine ⟨r, p, d, rfl, by omega, by omega, hd, ?_⟩
      walk_at "gs"
      refine L2.iteF ?_
      walk_at "gs"
      refine rc_reprD hc ?_
      walk_at "gs"
      refine ifn (fun h => absurd rfl h) fun _ => ?_
      refine xs_next ?_
      refine xs_seq ?_
      walk_at "gs"
      refine ⟨r, d, rfl, by omega, hd, ?_⟩
      walk_at "gs"
      have g1 := gd_aft g0 hd hi
      have hr1 := g1.len
      have hl1 : (p ++ [(word d, r)]).length ≤ k + 1 := by
        rw [List.length_append, List.length_singleton]
        omega
      intro y y0 y1
      walk_at "gs"
      refine ifd (fun _ => ?_) fun _ => ?_
      · show XS K _ _ _ (s7 C_Linker ns nm (aft r d) (p ++ [(word d, r)]) hdl [.d (.int k), .d (dD d), .d (.str (dD d).shown), a9, a10, a11, a12])
        refine xs_seq (xs_if (xt_not (xt_tru ?_)))
        walk_at "gs"
        refine ⟨aft r d, p ++ [(word d, r)], rfl, by omega, g1.nd, g1.ok hok1, ?_⟩
        walk_at "gs"
        refine ⟨_, true, rfl, rfl, by exact trivial, ?_⟩
        refine L2.iteF ?_
        refine xs_next ?_
        refine xs_seq (xs_par (by walk_at "sd") (by walk_at "sd") (by decide) (by decide) ?_)
        walk_at "gs"
        refine ⟨aft r d, p ++ [(word d, r)], rfl, by omega, fill_borP rfl (fill_nil ⟨_, rfl, xa_consO ?_⟩)⟩
        walk_at "gs"
        refine ⟨aft r d, p ++ [(word d, r)], rfl, by omega, fill_borP rfl (fill_nil (xa_nil ⟨_, _, rfl, rfl, ?_⟩))⟩
        have hml : ((nms (aft r d)).map PyData.str).length ≤ 6 := by
          unfold nms
          rw [List.length_map, List.length_map]
          omega
        have hhl : (hdD hdl).length = hdl.length := List.length_map _
        show XS K _ _ _ (s7 C_Linker ns nm (aft r d) (p ++ [(word d, r)]) hdl [.d (.int k), .d (dD d), .d (.str (dD d).shown), .d (.list ((nms (aft r d)).map .str)), .ls ((nms (aft r d)).map .str), a11, a12])
        refine xs_seq (xs_appendP (i := 5) (q := []) (xp_var rfl (by nofun)) (ds := hdD hdl) rfl (by rw [hhl, sizeLine_eq]; omega) fun v => ?_)
        walk_at "gs"
        refine rc_list rfl ?_
        walk_at "gs"
        rw [show hdD hdl ++ [PyData.tuple [.list ((nms (aft r d)).map .str), .list ((nms (aft r d)).map .str)]] = hdD (hdl ++ [nms (aft r d)]) from (List.map_append (f := fun l : List Str => PyData.tuple [.list (l.map .str), .list (l.map .str)]) (l₁ := hdl) (l₂ := [nms (aft r d)])).symm]
        have hlast : (hdD (hdl ++ [nms (aft r d)])).length = hdl.length + 1 := by
          unfold hdD
          rw [List.length_map, List.length_append, List.length_singleton]
        have hget : atI (hdD (hdl ++ [nms (aft r d)])) (-1) = some (.tuple [.list ((nms (aft r d)).map .str), .list ((nms (aft r d)).map .str)]) := by
          unfold hdD
          rw [List.map_append]
          exact MV.atI_last _ _
        have hso : ∀ x, x ∈ nms (aft r d) → PyData.strOk x = true := g1.ok hok1
        have hsh := strs_sh hso
        show XS K _ _ _ (s7 C_Linker ns nm (aft r d) (p ++ [(word d, r)]) (hdl ++ [nms (aft r d)]) [.d (.int k), .d (dD d), .d (.str (dD d).shown), .d (.list ((nms (aft r d)).map .str)), .ls ((nms (aft r d)).map .str), a11, a12])
        refine xs_seq ?_
        refine xs_append (i := 10) rfl (xe_str ⟨.str "x", _, rfl, rfl, by rw [sizeLine_eq]; omega, ?_⟩)
        refine xs_seq (xs_if (xt_tst (xe_op (xe_vd rfl (xe_op (xe_opWV (xw_path (xp_var rfl (by nofun)) rfl (by nofun)) ⟨_, xv_neg xv_int, r2_ix_list rfl hget (xe_int (r2_ix_tup (by rfl) (r2_ne_data rfl rfl (hsh.shaped (by decide)) (hsh.shaped (by decide)) ?_)))⟩))))))
        rw [hsh.refl]
        refine ⟨_, rfl, ?_⟩
        refine L2.iteF ?_
        refine xs_next ?_
        refine xs_drop (xe_clearP (i := 10) (q := []) (xp_var rfl (by nofun)) rfl ?_)
        refine ⟨_, _, _, _, _, _, _, _, _, _, rfl, g1, hl1, by rw [List.length_append, List.length_singleton]; omega, fun l hl => ?_⟩
        rcases List.mem_append.mp hl with z | z
        · exact h0 l z
        · rw [List.mem_singleton.mp z]
          exact hso
      · exact xs_next ⟨_, _, _, _, _, _, _, _, _, _, rfl, g1, hl1, by omega, h0⟩
    · rintro _ ⟨r, p, hdl, a6, a7, a8, a9, a10, a11, a12, rfl, g0, l0, l1, h0⟩
      exact ⟨r, p, hdl, a6, a7, a8, a9, a10, a11, a12, rfl, g0, by omega, by omega, h0⟩
  · rintro _ ⟨r, p, hdl, a6, a7, a8, a9, a10, a11, a12, rfl, g0, l0, l1, h0⟩
    have hr0 := g0.len
    have hhl : (hdD hdl).length = hdl.length := List.length_map _
    walk_at "gs"
    refine xe_lc (is := [11] ++ ([12] ++ [])) (by simp) ?_
    refine xi_list (xe_move rfl (by nofun) ⟨hdD hdl, rfl, ?_⟩)
    refine ⟨by rw [hhl, sizeLine_eq]; omega, fun v hv => by simp at hv; rcases hv with rfl | rfl <;> exact Nat.le_of_ble_eq_true rfl, fun k acc ρ' => ρ' = [.scr ns, .pen ns, .d (.list (nm.map .str)), lkO C_Linker r p, .d (.list (rD r)), .any, a6, a7, a8, a9, a10, .any, .any] ∧ acc = (List.replicate k true).map .bool, ⟨rfl, rfl⟩, ?_, ?_⟩
    · rintro k acc _ hk la ⟨rfl, rfl⟩ _
      rw [hhl] at hk
      have hsh := strs_sh (h0 hdl[k] (List.getElem_mem hk))
      show XG K _ _ _ (.d (nth (hdD hdl) k)) _ _
      rw [show nth (hdD hdl) k = .tuple [.list (hdl[k].map .str), .list (hdl[k].map .str)] from nth_get (by unfold hdD; rw [List.getElem?_map, List.getElem?_eq_getElem hk]; rfl)]
      walk_at "gs"
      refine r2_eq_data rfl rfl (hsh.shaped (by decide)) (hsh.shaped (by decide)) ?_
      rw [hsh.refl]
      refine ⟨_, rfl, rfl, rfl, ?_⟩
      rw [List.replicate_succ', List.map_append]
      rfl
    · rintro acc _ la ⟨rfl, rfl⟩
      refine ⟨_, rfl, xa_nil (rc_all (bs := List.replicate (hdD hdl).length true) rfl ?_)⟩
      walk_at "gs"
      rw [show (List.replicate (hdD hdl).length true).all id = true by simp]
      refine L2.iteT ?_
      walk_at "gs"
      refine ⟨r, p, rfl, by omega, g0.nd, g0.ok fun x hx => (hok x hx).1, ?_⟩
      walk_at "gs"
      exact ⟨Nat.le_of_ble_eq_true rfl, q⟩

end K79
set_option maxRecDepth 100000
set_option maxHeartbeats 0
namespace K79
open PySem L2 PyProof.Rows PL MV LKD
open PySem.Spec
def d_law_fill : He.DefD := ⟨("_law_fill", none), "_law_fill", "_law_fill", defArgs s_law_fill, defBody s_law_fill, defScope s_law_fill, [], []⟩
def d_law_next : He.DefD := ⟨("_law_next", none), "_law_next", "_law_next", defArgs s_law_next, defBody s_law_next, defScope s_law_next, [], []⟩
def d_law_e_names : He.DefD := ⟨("_law_e_names", none), "_law_e_names", "_law_e_names", defArgs s_law_e_names, defBody s_law_e_names, defScope s_law_e_names, [], []⟩
def d_law_e_spot : He.DefD := ⟨("_law_e_spot", none), "_law_e_spot", "_law_e_spot", defArgs s_law_e_spot, defBody s_law_e_spot, defScope s_law_e_spot, [], []⟩
def d_law_e_piece : He.DefD := ⟨("_law_e_piece", none), "_law_e_piece", "_law_e_piece", defArgs s_law_e_piece, defBody s_law_e_piece, defScope s_law_e_piece, [], []⟩
def d_law_e_deed : He.DefD := ⟨("_law_e_deed", none), "_law_e_deed", "_law_e_deed", defArgs s_law_e_deed, defBody s_law_e_deed, defScope s_law_e_deed, [], []⟩
def dLinker_names : He.DefD := ⟨("Linker", some "names"), "names", "Linker.names", defArgs sLinker_names, defBody sLinker_names, defScope sLinker_names, [], []⟩
def dLinker_does : He.DefD := ⟨("Linker", some "does"), "does", "Linker.does", defArgs sLinker_does, defBody sLinker_does, defScope sLinker_does, [], []⟩
def dLinker_put : He.DefD := ⟨("Linker", some "put"), "put", "Linker.put", defArgs sLinker_put, defBody sLinker_put, defScope sLinker_put, [], []⟩
def dLinker_number_named : He.DefD := ⟨("Linker", some "number_named"), "number_named", "Linker.number_named", defArgs sLinker_number_named, defBody sLinker_number_named, defScope sLinker_number_named, [], []⟩
def dLinker_exchange : He.DefD := ⟨("Linker", some "exchange"), "exchange", "Linker.exchange", defArgs sLinker_exchange, defBody sLinker_exchange, defScope sLinker_exchange, [], []⟩
def dLinker_take_out : He.DefD := ⟨("Linker", some "take_out"), "take_out", "Linker.take_out", defArgs sLinker_take_out, defBody sLinker_take_out, defScope sLinker_take_out, [], []⟩
def d_law_e_do : He.DefD := ⟨("_law_e_do", none), "_law_e_do", "_law_e_do", defArgs s_law_e_do, defBody s_law_e_do, defScope s_law_e_do, [], []⟩
def d_law_e_after : He.DefD := ⟨("_law_e_after", none), "_law_e_after", "_law_e_after", defArgs s_law_e_after, defBody s_law_e_after, defScope s_law_e_after, [], []⟩
def dLinker___len__ : He.DefD := ⟨("Linker", some "__len__"), "__len__", "Linker.__len__", defArgs sLinker___len__, defBody sLinker___len__, defScope sLinker___len__, [], []⟩
def dLinker___eq__ : He.DefD := ⟨("Linker", some "__eq__"), "__eq__", "Linker.__eq__", defArgs sLinker___eq__, defBody sLinker___eq__, defScope sLinker___eq__, [], []⟩
def dLinker___init__ : He.DefD := ⟨("Linker", some "__init__"), "__init__", "Linker.__init__", defArgs sLinker___init__, defBody sLinker___init__, defScope sLinker___init__, [], []⟩
def d_law_e_like : He.DefD := ⟨("_law_e_like", none), "_law_e_like", "_law_e_like", defArgs s_law_e_like, defBody s_law_e_like, defScope s_law_e_like, [], []⟩
def dlaw : He.DefD := ⟨("law", none), "law", "law", defArgs slaw, defBody slaw, defScope slaw, [], []⟩
def fn : List He.DefD := [d_law_fill, d_law_next, d_law_e_names, d_law_e_spot, d_law_e_piece, d_law_e_deed, dLinker_names, dLinker_does, dLinker_put, dLinker_number_named, dLinker_exchange, dLinker_take_out, d_law_e_do, d_law_e_after, dLinker___len__, dLinker___eq__, dLinker___init__, d_law_e_like, dlaw]
def fa : List He.Fa := [.glo "_law_fill", .glo "_law_next", .glo "_law_e_names", .glo "_law_e_spot", .glo "_law_e_piece", .glo "_law_e_deed", .glo "_law_e_do", .glo "_law_e_after", .glo "_law_e_like", .glo "law", .glo "Linker", .cls "Linker", .noat "Linker" "past", .noat "Linker" "pieces", .meth "Linker" "names", .meth "Linker" "does", .meth "Linker" "put", .meth "Linker" "number_named", .meth "Linker" "exchange", .meth "Linker" "take_out", .meth "Linker" "__len__", .meth "Linker" "__eq__", .mkr "Linker", .free "all", .free "isinstance", .free "len", .free "list", .free "max", .free "min", .free "range", .free "repr", .int "MOST_PIECES" 30]
def ts : List He.Tab := []
def ex (K : PySem.W.Frag) : Bool := (isiB K (He.ga K "Linker") && (PySem.W.notFirst K (He.ga K "Linker") (.ref (He.ga K "Linker")) && true))
def tf : List He.Defn := []
abbrev RL : PySem.W.OpenLaw := PySem.Challenge.rw_weldmill_k79_linkers_by_deeds
abbrev RR : PySem.W.OpenRow := PySem.W.OpenLaw.row RL
abbrev hk : PySem.W.Hook := He.hookX 5 fa fn ts tf ex
def ob (s : PySem.W.SharedT) : He.AlX := He.obsX 5 fa fn ts tf ex (HandSHeadRun.getT s)
theorem ob_eq (s : PySem.W.SharedT) : ob s = hk.obs s.abs := He.obsX_eq (HandSHeadRun.getT_eq s)
def loose : List Str := ["_wall", "WeldError", "Twin", "NoPiece", "TooMany", "MOST_PIECES", "Linker", "_law_fill", "_law_next", "_law_e_piece", "_law_e_names", "_law_e_spot", "_law_e_deed", "_law_e_after", "_law_e_do", "_law_e_like"]
theorem run_f (w : World) : HandSHeadRun.RunEq RR (PySem.W.view RR.prog [19]) hk ob 6000 loose (w.withFollow "special-get-raises" false) := by
  intro os
  kernel_rfl
theorem run_t (w : World) : HandSHeadRun.RunEq RR (PySem.W.view RR.prog [19]) hk ob 6000 loose (w.withFollow "special-get-raises" true) := by
  intro os
  kernel_rfl
theorem run (w : World) : HandSHeadRun.RunEq RR (PySem.W.view RR.prog [19]) hk ob 6000 loose w := PySem.W.byRow2 "special-get-raises" (P := fun w => HandSHeadRun.RunEq RR (PySem.W.view RR.prog [19]) hk ob 6000 loose w) run_f run_t w
theorem facts {w : World} {K : PySem.W.Frag} {h : Heap} {mg : Str → Option Value} {f : Addr} (X : K.In h) (G : h.Ns mainGlobals mg) (hfa : mg ("law" : Str) = some (.ref f)) (c : He.SaysX fa fn ts tf ex w h K) : ∃ (fd : FuncData) (sp : Sp), (∀ (s : Shared) (u : Value), BindsTo s fd ⟨[u], []⟩ [("script", u)]) ∧
    (∀ (H : Hp) (a : Addr) (ns : List Int), ns.length ≤ 63 → SqL K H a (ns.map V.int) → sp [.ref a] H (fun v _ => v = .bl true) E0) ∧ ∀ base : Heap, K.In base → base.Ns mainGlobals mg → FnG RL.prog w K mg base 5 f fd ["script"] sp := by
  have cd := c.t.d
  have g_Linker : mg "Linker" = some (.ref (He.ga K "Linker")) := He.glo_ok X G (cd.fact 10 (f := .glo "Linker") rfl)
  have cl_Linker : Cls K (He.ga K "Linker") := He.cls_ok (cd.fact 11 (f := .cls "Linker") rfl)
  have na_Linker_past : NoAttr K (He.ga K "Linker") "past" := He.noat_ok (cd.fact 12 (f := .noat "Linker" "past") rfl)
  have na_Linker_pieces : NoAttr K (He.ga K "Linker") "pieces" := He.noat_ok (cd.fact 13 (f := .noat "Linker" "pieces") rfl)
  have z_all : mg "all" = none := He.free_ok X G (cd.fact 23 (f := .free "all") rfl)
  have z_isinstance : mg "isinstance" = none := He.free_ok X G (cd.fact 24 (f := .free "isinstance") rfl)
  have z_len : mg "len" = none := He.free_ok X G (cd.fact 25 (f := .free "len") rfl)
  have z_list : mg "list" = none := He.free_ok X G (cd.fact 26 (f := .free "list") rfl)
  have z_max : mg "max" = none := He.free_ok X G (cd.fact 27 (f := .free "max") rfl)
  have z_min : mg "min" = none := He.free_ok X G (cd.fact 28 (f := .free "min") rfl)
  have z_range : mg "range" = none := He.free_ok X G (cd.fact 29 (f := .free "range") rfl)
  have z_repr : mg "repr" = none := He.free_ok X G (cd.fact 30 (f := .free "repr") rfl)
  obtain ⟨t_MOST_PIECES, m_MOST_PIECES⟩ := He.int_ok (x := "MOST_PIECES") (i := 30) X G (cd.fact 31 (f := .int "MOST_PIECES" 30) rfl)
  have e0 := (He.ba c.more).1
  have f0 := (He.ba c.more).2
  have e1 := (He.ba f0).1
  have f1 := (He.ba f0).2
  have is_Linker : IsiC K (He.ga K "Linker") := isi_of cl_Linker e0
  have nf_Linker : PySem.W.notFirst K (He.ga K "Linker") (.ref (He.ga K "Linker")) = true := e1
  obtain ⟨fd_law_fill, F_law_fill⟩ := cd.def_ 0 (d := d_law_fill) rfl
  have g_law_fill : mg "_law_fill" = some (.ref (He.fAd K ("_law_fill", none))) := He.glo_ok X G (cd.fact 0 (f := .glo "_law_fill") rfl)
  have S_law_fill : Std K mg "_law_fill" s_law_fill ["_law_cell", "_law_at"] := std_ofD F_law_fill g_law_fill (fun _ _ _ _ _ _ us hl => match us, hl with | [_, _], _ => rfl)
  obtain ⟨fd_law_next, F_law_next⟩ := cd.def_ 1 (d := d_law_next) rfl
  have g_law_next : mg "_law_next" = some (.ref (He.fAd K ("_law_next", none))) := He.glo_ok X G (cd.fact 1 (f := .glo "_law_next") rfl)
  have S_law_next : Std K mg "_law_next" s_law_next ["_law_pen", "_law_many"] := std_ofD F_law_next g_law_next (fun _ _ _ _ _ _ us hl => match us, hl with | [_, _], _ => rfl)
  obtain ⟨fd_law_e_names, F_law_e_names⟩ := cd.def_ 2 (d := d_law_e_names) rfl
  have g_law_e_names : mg "_law_e_names" = some (.ref (He.fAd K ("_law_e_names", none))) := He.glo_ok X G (cd.fact 2 (f := .glo "_law_e_names") rfl)
  have S_law_e_names : Std K mg "_law_e_names" s_law_e_names ["pen"] := std_ofD F_law_e_names g_law_e_names (fun _ _ _ _ _ _ us hl => match us, hl with | [_], _ => rfl)
  obtain ⟨fd_law_e_spot, F_law_e_spot⟩ := cd.def_ 3 (d := d_law_e_spot) rfl
  have g_law_e_spot : mg "_law_e_spot" = some (.ref (He.fAd K ("_law_e_spot", none))) := He.glo_ok X G (cd.fact 3 (f := .glo "_law_e_spot") rfl)
  have S_law_e_spot : Std K mg "_law_e_spot" s_law_e_spot ["rows", "name"] := std_ofD F_law_e_spot g_law_e_spot (fun _ _ _ _ _ _ us hl => match us, hl with | [_, _], _ => rfl)
  obtain ⟨fd_law_e_piece, F_law_e_piece⟩ := cd.def_ 4 (d := d_law_e_piece) rfl
  have g_law_e_piece : mg "_law_e_piece" = some (.ref (He.fAd K ("_law_e_piece", none))) := He.glo_ok X G (cd.fact 4 (f := .glo "_law_e_piece") rfl)
  have S_law_e_piece : Std K mg "_law_e_piece" s_law_e_piece ["pen", "name"] := std_ofD F_law_e_piece g_law_e_piece (fun _ _ _ _ _ _ us hl => match us, hl with | [_, _], _ => rfl)
  obtain ⟨fd_law_e_deed, F_law_e_deed⟩ := cd.def_ 5 (d := d_law_e_deed) rfl
  have g_law_e_deed : mg "_law_e_deed" = some (.ref (He.fAd K ("_law_e_deed", none))) := He.glo_ok X G (cd.fact 5 (f := .glo "_law_e_deed") rfl)
  have S_law_e_deed : Std K mg "_law_e_deed" s_law_e_deed ["pen", "names", "rows"] := std_ofD F_law_e_deed g_law_e_deed (fun _ _ _ _ _ _ us hl => match us, hl with | [_, _, _], _ => rfl)
  obtain ⟨fdLinker_names, FLinker_names⟩ := cd.def_ 6 (d := dLinker_names) rfl
  have MLinker_names : Meth K (He.ga K "Linker") "names" (He.fAd K ("Linker", some "names")) := He.meth_ok (cd.fact 14 (f := .meth "Linker" "names") rfl)
  have SLinker_names : StdM K (He.ga K "Linker") "names" "Linker.names" sLinker_names ["self"] := stdM_ofD FLinker_names MLinker_names (fun _ _ _ _ _ _ us hl => match us, hl with | [_], _ => rfl)
  obtain ⟨fdLinker_does, FLinker_does⟩ := cd.def_ 7 (d := dLinker_does) rfl
  have MLinker_does : Meth K (He.ga K "Linker") "does" (He.fAd K ("Linker", some "does")) := He.meth_ok (cd.fact 15 (f := .meth "Linker" "does") rfl)
  have SLinker_does : StdM K (He.ga K "Linker") "does" "Linker.does" sLinker_does ["self", "told", "pieces"] := stdM_ofD FLinker_does MLinker_does (fun _ _ _ _ _ _ us hl => match us, hl with | [_, _, _], _ => rfl)
  obtain ⟨fdLinker_put, FLinker_put⟩ := cd.def_ 8 (d := dLinker_put) rfl
  have MLinker_put : Meth K (He.ga K "Linker") "put" (He.fAd K ("Linker", some "put")) := He.meth_ok (cd.fact 16 (f := .meth "Linker" "put") rfl)
  have SLinker_put : StdM K (He.ga K "Linker") "put" "Linker.put" sLinker_put ["self", "piece"] := stdM_ofD FLinker_put MLinker_put (fun _ _ _ _ _ _ us hl => match us, hl with | [_, _], _ => rfl)
  obtain ⟨fdLinker_number_named, FLinker_number_named⟩ := cd.def_ 9 (d := dLinker_number_named) rfl
  have MLinker_number_named : Meth K (He.ga K "Linker") "number_named" (He.fAd K ("Linker", some "number_named")) := He.meth_ok (cd.fact 17 (f := .meth "Linker" "number_named") rfl)
  have SLinker_number_named : StdM K (He.ga K "Linker") "number_named" "Linker.number_named" sLinker_number_named ["self", "name"] := stdM_ofD FLinker_number_named MLinker_number_named (fun _ _ _ _ _ _ us hl => match us, hl with | [_, _], _ => rfl)
  obtain ⟨fdLinker_exchange, FLinker_exchange⟩ := cd.def_ 10 (d := dLinker_exchange) rfl
  have MLinker_exchange : Meth K (He.ga K "Linker") "exchange" (He.fAd K ("Linker", some "exchange")) := He.meth_ok (cd.fact 18 (f := .meth "Linker" "exchange") rfl)
  have SLinker_exchange : StdM K (He.ga K "Linker") "exchange" "Linker.exchange" sLinker_exchange ["self", "piece"] := stdM_ofD FLinker_exchange MLinker_exchange (fun _ _ _ _ _ _ us hl => match us, hl with | [_, _], _ => rfl)
  obtain ⟨fdLinker_take_out, FLinker_take_out⟩ := cd.def_ 11 (d := dLinker_take_out) rfl
  have MLinker_take_out : Meth K (He.ga K "Linker") "take_out" (He.fAd K ("Linker", some "take_out")) := He.meth_ok (cd.fact 19 (f := .meth "Linker" "take_out") rfl)
  have SLinker_take_out : StdM K (He.ga K "Linker") "take_out" "Linker.take_out" sLinker_take_out ["self", "name"] := stdM_ofD FLinker_take_out MLinker_take_out (fun _ _ _ _ _ _ us hl => match us, hl with | [_, _], _ => rfl)
  obtain ⟨fd_law_e_do, F_law_e_do⟩ := cd.def_ 12 (d := d_law_e_do) rfl
  have g_law_e_do : mg "_law_e_do" = some (.ref (He.fAd K ("_law_e_do", none))) := He.glo_ok X G (cd.fact 6 (f := .glo "_law_e_do") rfl)
  have S_law_e_do : Std K mg "_law_e_do" s_law_e_do ["linker", "deed"] := std_ofD F_law_e_do g_law_e_do (fun _ _ _ _ _ _ us hl => match us, hl with | [_, _], _ => rfl)
  obtain ⟨fd_law_e_after, F_law_e_after⟩ := cd.def_ 13 (d := d_law_e_after) rfl
  have g_law_e_after : mg "_law_e_after" = some (.ref (He.fAd K ("_law_e_after", none))) := He.glo_ok X G (cd.fact 7 (f := .glo "_law_e_after") rfl)
  have S_law_e_after : Std K mg "_law_e_after" s_law_e_after ["rows", "deed"] := std_ofD F_law_e_after g_law_e_after (fun _ _ _ _ _ _ us hl => match us, hl with | [_, _], _ => rfl)
  obtain ⟨fdLinker___len__, FLinker___len__⟩ := cd.def_ 14 (d := dLinker___len__) rfl
  have MLinker___len__ : Meth K (He.ga K "Linker") "__len__" (He.fAd K ("Linker", some "__len__")) := He.meth_ok (cd.fact 20 (f := .meth "Linker" "__len__") rfl)
  have SLinker___len__ : StdM K (He.ga K "Linker") "__len__" "Linker.__len__" sLinker___len__ ["self"] := stdM_ofD FLinker___len__ MLinker___len__ (fun _ _ _ _ _ _ us hl => match us, hl with | [_], _ => rfl)
  obtain ⟨fdLinker___eq__, FLinker___eq__⟩ := cd.def_ 15 (d := dLinker___eq__) rfl
  have MLinker___eq__ : Meth K (He.ga K "Linker") "__eq__" (He.fAd K ("Linker", some "__eq__")) := He.meth_ok (cd.fact 21 (f := .meth "Linker" "__eq__") rfl)
  have SLinker___eq__ : StdM K (He.ga K "Linker") "__eq__" "Linker.__eq__" sLinker___eq__ ["self", "other"] := stdM_ofD FLinker___eq__ MLinker___eq__ (fun _ _ _ _ _ _ us hl => match us, hl with | [_, _], _ => rfl)
  obtain ⟨fdLinker___init__, FLinker___init__⟩ := cd.def_ 16 (d := dLinker___init__) rfl
  have MLinker___init__ : Mk K (He.ga K "Linker") (He.fAd K ("Linker", some "__init__")) := He.mkr_ok (cd.fact 22 (f := .mkr "Linker") rfl)
  have SLinker___init__ : StdI K (He.ga K "Linker") "Linker.__init__" sLinker___init__ ["self"] := stdI_ofD FLinker___init__ MLinker___init__ (fun _ _ _ _ _ _ us hl => match us, hl with | [_], _ => rfl)
  obtain ⟨fd_law_e_like, F_law_e_like⟩ := cd.def_ 17 (d := d_law_e_like) rfl
  have g_law_e_like : mg "_law_e_like" = some (.ref (He.fAd K ("_law_e_like", none))) := He.glo_ok X G (cd.fact 8 (f := .glo "_law_e_like") rfl)
  have S_law_e_like : Std K mg "_law_e_like" s_law_e_like ["linker", "rows"] := std_ofD F_law_e_like g_law_e_like (fun _ _ _ _ _ _ us hl => match us, hl with | [_, _], _ => rfl)
  obtain ⟨fdlaw, Flaw⟩ := cd.def_ 18 (d := dlaw) rfl
  have glaw : mg "law" = some (.ref (He.fAd K ("law", none))) := He.glo_ok X G (cd.fact 9 (f := .glo "law") rfl)
  have ef : f = He.fAd K ("law", none) := by
    rw [hfa] at glaw
    cases glaw
    rfl
  subst ef
  refine ⟨fdlaw, spM K flaw, fun s u => ?_, fun H a ns hl hS => ?_, fun base X2 G2 => ?_⟩
  · exact FunD.bindsA (ps := ["script"]) Flaw (fun _ _ _ _ _ _ us hl => match us, hl with | [_], _ => rfl) s [u] rfl
  · exact sp_law hS ⟨ns, rfl, hl, rfl⟩ _
  have C_law_fill := ok_law_fill (P := RL.prog) (w := w) (mg := mg) (base := base) S_law_fill
  have C_law_next := ok_law_next (P := RL.prog) (w := w) (mg := mg) (base := base) S_law_next C_law_fill z_len
  have C_law_e_names := ok_law_e_names (P := RL.prog) (w := w) (mg := mg) (base := base) S_law_e_names C_law_next
  have C_law_e_spot := ok_law_e_spot (P := RL.prog) (w := w) (mg := mg) (base := base) S_law_e_spot z_range z_len
  have C_law_e_piece := ok_law_e_piece (P := RL.prog) (w := w) (mg := mg) (base := base) S_law_e_piece C_law_next
  have C_law_e_deed := ok_law_e_deed (P := RL.prog) (w := w) (mg := mg) (base := base) S_law_e_deed C_law_next C_law_e_spot C_law_e_piece z_len
  have CLinker_names := okLinker_names (P := RL.prog) (w := w) (mg := mg) (base := base) SLinker_names cl_Linker na_Linker_pieces
  have CLinker_does := okLinker_does (P := RL.prog) (w := w) (mg := mg) (base := base) SLinker_does cl_Linker na_Linker_past na_Linker_pieces
  have CLinker_put := okLinker_put (P := RL.prog) (w := w) (mg := mg) (base := base) SLinker_put CLinker_names CLinker_does cl_Linker na_Linker_pieces z_len m_MOST_PIECES
  have CLinker_number_named := okLinker_number_named (P := RL.prog) (w := w) (mg := mg) (base := base) SLinker_number_named CLinker_names cl_Linker
  have CLinker_exchange := okLinker_exchange (P := RL.prog) (w := w) (mg := mg) (base := base) SLinker_exchange CLinker_number_named CLinker_does cl_Linker na_Linker_pieces
  have CLinker_take_out := okLinker_take_out (P := RL.prog) (w := w) (mg := mg) (base := base) SLinker_take_out CLinker_number_named CLinker_does cl_Linker na_Linker_pieces
  have C_law_e_do := ok_law_e_do (P := RL.prog) (w := w) (mg := mg) (base := base) S_law_e_do CLinker_put CLinker_exchange CLinker_take_out cl_Linker
  have C_law_e_after := ok_law_e_after (P := RL.prog) (w := w) (mg := mg) (base := base) S_law_e_after C_law_e_spot
  have CLinker___len__ := okLinker___len__ (P := RL.prog) (w := w) (mg := mg) (base := base) SLinker___len__ cl_Linker na_Linker_pieces z_len
  have CLinker___eq__ := okLinker___eq__ (P := RL.prog) (w := w) (mg := mg) (base := base) SLinker___eq__ cl_Linker na_Linker_pieces g_Linker is_Linker z_isinstance
  have CLinker___init__ := okLinker___init__ (P := RL.prog) (w := w) (mg := mg) (base := base) SLinker___init__ cl_Linker na_Linker_pieces na_Linker_past
  have C_law_e_like := ok_law_e_like (P := RL.prog) (w := w) (mg := mg) (base := base) S_law_e_like CLinker_put CLinker_names CLinker___len__ CLinker___eq__ CLinker___init__ cl_Linker g_Linker nf_Linker z_len z_isinstance z_list
  exact oklaw (fun_ofD Flaw) C_law_e_names C_law_e_deed C_law_e_do C_law_e_after C_law_next C_law_e_like CLinker_names CLinker___init__ cl_Linker g_Linker z_range z_max z_min z_len z_repr z_list z_all
end K79
open PySem PySem.W PySem.Calls PyProof.Rows
theorem PySem.Challenge.cw_weldmill_k79_linkers_by_deeds_holds : PySem.Challenge.rw_weldmill_k79_linkers_by_deeds.Holds := by
  w_on; o_law
  refine HandSHeadRun.head_any (r := K79.RR) (q := view K79.RR.prog [19]) (H := K79.hk) (ob := K79.ob) (M := 6000) (loose := K79.loose) (d := HandSHeadRun.topDef K79.RR.prog 19) (kwd := []) K79.ob_eq
    (by kernel_rfl) (fun s => by kernel_rfl) K79.run (by kernel_rfl) (by kernel_rfl) (by kernel_rfl) (by rfl) (by first | assumption | decide +kernel) (by decide +kernel) ⟨rfl, rfl, rfl, rfl, rfl, by decide +kernel⟩ ?hw ?hc
  case hw => w_witness2
  case hc =>
    refine MV.walk_ofG (l := K79.RL) (n := 63) (k := 5) (x := "script") rfl (by decide) (by kernel_rfl) ⟨rfl, by decide, by decide⟩ ?F
    intro w mg fa h Y G hmg0
    obtain ⟨K, KX, c⟩ := Y
    have hmg : mg ("law" : PySem.Str) = some (.ref fa) := by
      have e : (HandSHeadRun.topDef K79.RR.prog 19).name = ("law" : PySem.Str) := by kernel_rfl
      rw [← e]
      exact hmg0
    obtain ⟨fd, sp, f1, f2, f3⟩ := K79.facts KX G hmg c
    exact ⟨K, fd, sp, KX, f1, f2, f3⟩

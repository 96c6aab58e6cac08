import PyProof.Rows.All
import Wide.All
import OpenK.AllK
import Wide.FinOn
import PySem.Challenge.RW_weldmill_k02_names_asked_and_lengths
import KE.KStateDown
import HandS.Base
import HandS.Call
import HandS.Ends
import HandS.More
import HandS.Words
import HandS.WordsExc
import HandS.Defaults
import HandS.Head0
import HandS.Head1
import HandS.Head2
import HandS.HeadEnd
import HandS.HeadHook1
import HandS.HeadHook2
import HandS.HeadHook3
import HandS.HeadHook4
import HandS.HeadWalk
import HandS.ForMost
import HandS.Deep
import HandS.Wide
import HandS.TupAny
import HandS.EndTab
import PyProof.StrBlock2
import HandS.Steps
import HandS.Small
import HandS.Set
import KE.SortData
import PyProof.Rows.SetFrom
import KE.SortKeyHeap
import HandS.IsInst
import PyProof.P3Eq
set_option Elab.async false
set_option linter.all false
set_option maxRecDepth 100000
set_option maxHeartbeats 4000000
set_option autoImplicit false
/-! PL1: the pure calculus over the hand layer: data, typed mutable objects, states. -/
namespace PL
open PySem L2 PyProof.Rows

/-! ### data -/
mutual
inductive Da (K : PySem.W.Frag) (H : Hp) : V → PyData → Prop
  | non : Da K H .non .none
  | bl (b : Bool) : Da K H (.bl b) (.bool b)
  | int (i : Int) : Da K H (.int i) (.int i)
  | str (x : Str) : Da K H (.str x) (.str x)
  | lst {a : Addr} {xs : List V} {ds : List PyData} : Rd H a (.lst xs) → DaAll K H xs ds → Da K H (.ref a) (.list ds)
  | tup {a : Addr} {xs : List V} {ds : List PyData} : SqT K H a xs → DaAll K H xs ds → Da K H (.ref a) (.tuple ds)
inductive DaAll (K : PySem.W.Frag) (H : Hp) : List V → List PyData → Prop
  | nil : DaAll K H [] []
  | cons {v : V} {vs : List V} {d : PyData} {ds : List PyData} : Da K H v d → DaAll K H vs ds → DaAll K H (v :: vs) (d :: ds)
end
def Sub (H H' : Hp) : Prop := ∀ a o, H a = some o → H' a = some o
theorem Sub.refl (H : Hp) : Sub H H := fun _ _ h => h
theorem Sub.trans {A B C : Hp} (h : Sub A B) (g : Sub B C) : Sub A C := fun a o e => g a o (h a o e)
theorem Sub.rd {H H' : Hp} {a : Addr} {u : HO} (k : Sub H H') (h : Rd H a u) : Rd H' a u := h.elim (fun h => .inl (k _ _ h)) fun ⟨o, h⟩ => .inr ⟨o, k _ _ h⟩
theorem Sub.sqL {K : PySem.W.Frag} {H H' : Hp} {a : Addr} {xs : List V} (k : Sub H H') (h : SqL K H a xs) : SqL K H' a xs := h.elim (fun h => .inl (k.rd h)) .inr
theorem Sub.sqT {K : PySem.W.Frag} {H H' : Hp} {a : Addr} {xs : List V} (k : Sub H H') (h : SqT K H a xs) : SqT K H' a xs := h.elim (fun h => .inl (k.rd h)) .inr
mutual
theorem Da.mono {K : PySem.W.Frag} {H H' : Hp} (k : Sub H H') : ∀ {v : V} {d : PyData}, Da K H v d → Da K H' v d
  | _, _, .non => .non
  | _, _, .bl b => .bl b
  | _, _, .int i => .int i
  | _, _, .str x => .str x
  | _, _, .lst h a => .lst (k.rd h) (DaAll.mono k a)
  | _, _, .tup h a => .tup (k.sqT h) (DaAll.mono k a)
theorem DaAll.mono {K : PySem.W.Frag} {H H' : Hp} (k : Sub H H') : ∀ {vs : List V} {ds : List PyData}, DaAll K H vs ds → DaAll K H' vs ds
  | _, _, .nil => .nil
  | _, _, .cons h t => .cons (Da.mono k h) (DaAll.mono k t)
end
mutual
theorem Da.dp {K : PySem.W.Frag} {H : Hp} : ∀ {v : V} {d : PyData}, Da K H v d → Dp K H v d
  | _, _, .non => .non
  | _, _, .bl b => .bl b
  | _, _, .int i => .int i
  | _, _, .str x => .str x
  | _, _, .lst h a => .lst (.inl h) (DaAll.dp a)
  | _, _, .tup h a => .tup h (DaAll.dp a)
theorem DaAll.dp {K : PySem.W.Frag} {H : Hp} : ∀ {vs : List V} {ds : List PyData}, DaAll K H vs ds → DpAll K H vs ds
  | _, _, .nil => .nil
  | _, _, .cons h t => .cons (Da.dp h) (DaAll.dp t)
end
theorem DaAll.length {K : PySem.W.Frag} {H : Hp} : ∀ {vs : List V} {ds : List PyData}, DaAll K H vs ds → vs.length = ds.length
  | _, _, .nil => rfl
  | _, _, .cons _ t => congrArg (· + 1) t.length
theorem DaAll.append {K : PySem.W.Frag} {H : Hp} : ∀ {vs us : List V} {ds es : List PyData}, DaAll K H vs ds → DaAll K H us es → DaAll K H (vs ++ us) (ds ++ es)
  | _, _, _, _, .nil, h => h
  | _, _, _, _, .cons a t, h => .cons a (t.append h)
theorem DaAll.get {K : PySem.W.Frag} {H : Hp} : ∀ {vs : List V} {ds : List PyData} {i : Nat} {d : PyData}, DaAll K H vs ds → ds[i]? = some d → ∃ v, vs[i]? = some v ∧ Da K H v d
  | _, _, _, _, .nil, h => by simp at h
  | _, _, 0, _, .cons a _, h => by
    have e := Option.some.inj h
    subst e
    exact ⟨_, rfl, a⟩
  | _, _, i + 1, _, .cons _ t, h => t.get (i := i) h
theorem DaAll.get' {K : PySem.W.Frag} {H : Hp} : ∀ {vs : List V} {ds : List PyData} {i : Nat} {v : V}, DaAll K H vs ds → vs[i]? = some v → ∃ d, ds[i]? = some d ∧ Da K H v d
  | _, _, _, _, .nil, h => by simp at h
  | _, _, 0, _, .cons a _, h => by
    have e := Option.some.inj h
    subst e
    exact ⟨_, rfl, a⟩
  | _, _, i + 1, _, .cons _ t, h => t.get' (i := i) h
theorem DaAll.take {K : PySem.W.Frag} {H : Hp} : ∀ {vs : List V} {ds : List PyData} (n : Nat), DaAll K H vs ds → DaAll K H (vs.take n) (ds.take n)
  | _, _, 0, _ => .nil
  | _, _, _ + 1, .nil => .nil
  | _, _, n + 1, .cons a t => .cons a (t.take n)
theorem DaAll.drop {K : PySem.W.Frag} {H : Hp} : ∀ {vs : List V} {ds : List PyData} (n : Nat), DaAll K H vs ds → DaAll K H (vs.drop n) (ds.drop n)
  | _, _, 0, a => a
  | _, _, _ + 1, .nil => .nil
  | _, _, n + 1, .cons _ t => t.drop n
theorem DaAll.rep {K : PySem.W.Frag} {H : Hp} {vs : List V} {ds : List PyData} (h : DaAll K H vs ds) : ∀ n : Nat, DaAll K H (List.replicate n vs).flatten (List.replicate n ds).flatten
  | 0 => .nil
  | n + 1 => by
    rw [List.replicate_succ, List.replicate_succ, List.flatten_cons, List.flatten_cons]
    exact h.append (h.rep n)
theorem DaAll.ints {K : PySem.W.Frag} {H : Hp} : ∀ {ns : List Int} {vs : List V}, DaAll K H vs (ns.map PyData.int) → vs = ns.map V.int
  | [], _, .nil => rfl
  | n :: ns, _, .cons a t => by
    cases a
    rw [t.ints]
    rfl
theorem DaAll.bools {K : PySem.W.Frag} {H : Hp} : ∀ {ns : List Bool} {vs : List V}, DaAll K H vs (ns.map PyData.bool) → vs = ns.map V.bl
  | [], _, .nil => rfl
  | n :: ns, _, .cons a t => by
    cases a
    rw [t.bools]
    rfl
theorem DaAll.strs {K : PySem.W.Frag} {H : Hp} : ∀ {ns : List Str} {vs : List V}, DaAll K H vs (ns.map PyData.str) → vs = ns.map V.str
  | [], _, .nil => rfl
  | n :: ns, _, .cons a t => by
    cases a
    rw [t.strs]
    rfl
theorem daAll_ints {K : PySem.W.Frag} {H : Hp} : ∀ ns : List Int, DaAll K H (ns.map V.int) (ns.map PyData.int)
  | [] => .nil
  | n :: ns => .cons (.int n) (daAll_ints ns)
theorem daAll_strs {K : PySem.W.Frag} {H : Hp} : ∀ ns : List Str, DaAll K H (ns.map V.str) (ns.map PyData.str)
  | [] => .nil
  | n :: ns => .cons (.str n) (daAll_strs ns)

/-! ### types of mutable objects -/
inductive Ty where
  | scr (ns : List Int)
  | dat (P : PyData → Prop)
  | lst (id : Nat) (t : Ty)
  | rcd (ts : List Ty)
  | dic (id : Nat) (P : PyData → Prop)
  | its (P : PyData → Prop)
  | tpl (ts : List Ty)
  | pr (F : Nat → Nat → List Ty)
inductive GT where
  | ty (t : Ty)
  | own (ds : List PyData)
  /-- a table of code objects of the name q -/
  | tab (q : Str)
  /-- just this object -/
  | one (u : HO)
abbrev Gam := Addr → Option GT
/-- what is known of the objects: lists' least lengths, a greatest length of all, keys that dicts surely have, how many they have at most -/
structure Gh where
  lb : Nat → Nat
  ub : Nat
  ks : Nat → List (Str × PyData)
  kn : Nat → Nat
  pt : Nat → List (Nat × List Ty)
structure Gh.le (g g' : Gh) : Prop where
  lb : ∀ i, g.lb i ≤ g'.lb i
  ub : g.ub ≤ g'.ub
  ks : ∀ i s, s ∈ g.ks i → s ∈ g'.ks i
  pt : ∀ i s, s ∈ g.pt i → s ∈ g'.pt i
theorem Gh.le_refl (g : Gh) : g.le g := ⟨fun _ => Nat.le_refl _, Nat.le_refl _, fun _ _ h => h, fun _ _ h => h⟩
theorem Gh.le_trans {a b c : Gh} (h : a.le b) (k : b.le c) : a.le c := ⟨fun i => Nat.le_trans (h.lb i) (k.lb i), Nat.le_trans h.ub k.ub, fun i s q => k.ks i s (h.ks i s q), fun i s q => k.pt i s (h.pt i s q)⟩
def AllD (F : PyData → Prop) (ds : List PyData) : Prop := ∀ d, d ∈ ds → F d
def hid (Γ : Gam) (H : Hp) : Hp := fun a => match Γ a with
  | none => H a
  | some _ => none
theorem hid_none {Γ : Gam} {H : Hp} {a : Addr} (h : Γ a = none) : hid Γ H a = H a := by
  unfold hid
  rw [h]
theorem hid_some {Γ : Gam} {H : Hp} {a : Addr} {o : HO} (h : hid Γ H a = some o) : Γ a = none ∧ H a = some o := by
  unfold hid at h
  cases e : Γ a with
  | none =>
    rw [e] at h
    exact ⟨rfl, h⟩
  | some t =>
    rw [e] at h
    cases h
def TyOk (K : PySem.W.Frag) (Γ : Gam) (g : Gh) (H : Hp) : Ty → V → Prop
  | .scr ns, v => ∃ a : Addr, v = .ref a ∧ SqL K (hid Γ H) a (ns.map V.int)
  | .dat P, v => ∃ d, Da K (hid Γ H) v d ∧ P d
  | .lst i t, v => ∃ a, v = .ref a ∧ Γ a = some (.ty (.lst i t))
  | .rcd ts, v => ∃ a, v = .ref a ∧ Γ a = some (.ty (.rcd ts))
  | .dic n P, v => ∃ a, v = .ref a ∧ Γ a = some (.ty (.dic n P))
  | .its P, v => ∃ ds, Da K (hid Γ H) v (.list ds) ∧ AllD P ds ∧ ds.length ≤ g.ub
  | .tpl _, _ => False
  | .pr F, v => ∃ (i j : Nat) (a : Addr), v = .ref a ∧ Γ a = some (.ty (.rcd (F i j)))
/-- the tables that a program's lambdas stand in -/
class TBs where
  tb : List (Addr × Str)
/-- which texts are names -/
class Nms where
  nm : Str → Prop
variable [TBs] [Nms]
/-- a name -/
structure NmOk (s : Str) : Prop where
  l : s.length ≤ 40
  k : PyData.strOk s = true
  n : Nms.nm s
def ObOk (K : PySem.W.Frag) (Γ : Gam) (g : Gh) (H : Hp) : GT → HO → Prop
  | .one u, o => o = u
  | .tab q, o => ∃ ps : Array Value, o = .tbl ps ∧ TriplesOk ps.toList ∧ ∀ (pos : Pos) (cv : Value), codeAmong pos ps.toList = some cv → ∃ c, cv = .ref c ∧ hid Γ H c = some (LamX.CodeO c q)
  | .own ds, o => ∃ xs, o = .lst xs ∧ DaAll K (hid Γ H) xs ds
  | .ty (.lst i t), o => ∃ xs, o = .lst xs ∧ g.lb i ≤ xs.length ∧ xs.length ≤ g.ub ∧ (∀ x, x ∈ xs → TyOk K Γ g H t x) ∧ ∀ q : Nat × List Ty, q ∈ g.pt i → ∃ b : Addr, xs[q.1]? = some (.ref b) ∧ Γ b = some (.ty (.rcd q.2))
  | .ty (.rcd ts), o => ∃ xs, o = .lst xs ∧ Paired (TyOk K Γ g H) ts xs
  | .ty (.dic i P), o => ∃ kvs : List (Key × V), o = .dK kvs ∧ kvs.length ≤ g.kn i ∧ (∀ q : Str × PyData, q ∈ g.ks i → ∃ v, valV kvs (.inr q.1) = some v ∧ Da K (hid Γ H) v q.2) ∧ ∀ kv, kv ∈ kvs → (∃ s : Str, kv.1 = .inr s ∧ NmOk s) ∧ ∃ d, Da K (hid Γ H) kv.2 d ∧ P d
  | .ty (.scr _), _ => False
  | .ty (.dat _), _ => False
  | .ty (.its _), _ => False
  | .ty (.tpl _), _ => False
  | .ty (.pr _), _ => False

structure HeapOk (K : PySem.W.Frag) (Γ : Gam) (g : Gh) (H : Hp) : Prop where
  ob : ∀ a t, Γ a = some t → ∃ o, H a = some o ∧ ObOk K Γ g H t o
  idl : ∀ a i t, Γ a = some (.ty (.lst i t)) → i = a
  idd : ∀ a i t, Γ a = some (.ty (.dic i t)) → i = a
  lz : ∀ a, H a = none → g.lb a = 0 ∧ g.ks a = [] ∧ g.kn a = 0 ∧ g.pt a = []
  tb : ∀ p, p ∈ TBs.tb → Γ p.1 = some (.tab p.2)
theorem HeapOk.uq {K : PySem.W.Frag} {Γ : Gam} {g : Gh} {H : Hp} (h : HeapOk K Γ g H) (a b : Addr) (i : Nat) (t u : Ty) (x : Γ a = some (.ty (.lst i t))) (y : Γ b = some (.ty (.lst i u))) : a = b := (h.idl a i t x).symm.trans (h.idl b i u y)
theorem HeapOk.ud {K : PySem.W.Frag} {Γ : Gam} {g : Gh} {H : Hp} (h : HeapOk K Γ g H) (a b : Addr) (i : Nat) (t u : PyData → Prop) (x : Γ a = some (.ty (.dic i t))) (y : Γ b = some (.ty (.dic i u))) : a = b := (h.idd a i t x).symm.trans (h.idd b i u y)
theorem upd_none {H : Hp} {p a : Addr} {o : HO} (h : upd H p o a = none) : H a = none := by
  by_cases e : a = p
  · subst e
    rw [upd_same] at h
    cases h
  · rw [upd_ne e] at h
    exact h

/-! ### what may become of a state -/
structure Ext0 (Γ : Gam) (H : Hp) (Γ' : Gam) (H' : Hp) : Prop where
  un : ∀ a o, Γ a = none → H a = some o → Γ' a = none ∧ H' a = some o
  ty : ∀ a t, Γ a = some (.ty t) → Γ' a = some (.ty t)
structure Ext (Γ : Gam) (H : Hp) (Γ' : Gam) (H' : Hp) : Prop extends Ext0 Γ H Γ' H' where
  own : ∀ a ds, Γ a = some (.own ds) → Γ' a = some (.own ds)
  tab : ∀ a q, Γ a = some (.tab q) → Γ' a = some (.tab q)
  one : ∀ a u, Γ a = some (.one u) → Γ' a = some (.one u)
theorem Ext.of {Γ Γ' : Gam} {H H' : Hp} (h1 : ∀ a o, Γ a = none → H a = some o → Γ' a = none ∧ H' a = some o) (h2 : ∀ a t, Γ a = some t → Γ' a = some t) : Ext Γ H Γ' H' := ⟨⟨h1, fun a t h => h2 a _ h⟩, fun a t h => h2 a _ h, fun a t h => h2 a _ h, fun a t h => h2 a _ h⟩
theorem Ext.all {Γ Γ' : Gam} {H H' : Hp} (e : Ext Γ H Γ' H') (a : Addr) (t : GT) (h : Γ a = some t) : Γ' a = some t := by
  cases t with
  | ty t => exact e.ty a t h
  | own ds => exact e.own a ds h
  | tab q => exact e.tab a q h
  | one u => exact e.one a u h
theorem Ext.refl (Γ : Gam) (H : Hp) : Ext Γ H Γ H := .of (fun _ _ h k => ⟨h, k⟩) fun _ _ h => h
theorem Ext.trans {Γ Γ1 Γ2 : Gam} {H H1 H2 : Hp} (a : Ext Γ H Γ1 H1) (b : Ext Γ1 H1 Γ2 H2) : Ext Γ H Γ2 H2 :=
  .of (fun c o h k => let ⟨h1, k1⟩ := a.un c o h k; b.un c o h1 k1) fun c t h => b.all c t (a.all c t h)
theorem Ext0.sub {Γ Γ' : Gam} {H H' : Hp} (e : Ext0 Γ H Γ' H') : Sub (hid Γ H) (hid Γ' H') := fun a o h => by
  obtain ⟨h1, h2⟩ := hid_some h
  obtain ⟨k1, k2⟩ := e.un a o h1 h2
  rw [hid_none k1]
  exact k2
theorem TyOk.ext {K : PySem.W.Frag} {Γ Γ' : Gam} {g : Gh} {H H' : Hp} (e : Ext0 Γ H Γ' H') {t : Ty} {v : V} (h : TyOk K Γ g H t v) : TyOk K Γ' g H' t v := by
  cases t with
  | scr ns => obtain ⟨a, h1, h2⟩ := h; exact ⟨a, h1, e.sub.sqL h2⟩
  | dat P => obtain ⟨d, h1, h2⟩ := h; exact ⟨d, h1.mono e.sub, h2⟩
  | lst i t => obtain ⟨a, h1, h2⟩ := h; exact ⟨a, h1, e.ty _ _ h2⟩
  | rcd ts => obtain ⟨a, h1, h2⟩ := h; exact ⟨a, h1, e.ty _ _ h2⟩
  | dic n P => obtain ⟨a, h1, h2⟩ := h; exact ⟨a, h1, e.ty _ _ h2⟩
  | its P => obtain ⟨d, h1, h2⟩ := h; exact ⟨d, h1.mono e.sub, h2⟩
  | tpl _ => exact h
  | pr F => obtain ⟨i, j, a, h1, h2⟩ := h; exact ⟨i, j, a, h1, e.ty _ _ h2⟩
theorem TyOk.up {K : PySem.W.Frag} {Γ : Gam} {g g' : Gh} {H : Hp} (l : g.ub ≤ g'.ub) {t : Ty} {v : V} (h : TyOk K Γ g H t v) : TyOk K Γ g' H t v := by
  cases t with
  | its P => obtain ⟨d, h1, h2, h3⟩ := h; exact ⟨d, h1, h2, Nat.le_trans h3 l⟩
  | scr _ => exact h
  | dat _ => exact h
  | lst _ _ => exact h
  | rcd _ => exact h
  | dic _ _ => exact h
  | tpl _ => exact h
  | pr _ => exact h
def Gh.zero : Gh := ⟨fun _ => 0, 0, fun _ => [], fun _ => 0, fun _ => []⟩

/-! ### slots -/
inductive Sl where
  | un
  | d (x : PyData)
  | s (ns : List Int)
  | t (t : Ty)
  | own (ds : List PyData)
  | ob (f : Addr → HO)
/-- what a value is that is no slot's own list -/
def ROk (K : PySem.W.Frag) (Γ : Gam) (H : Hp) : Sl → V → Prop
  | .d x, v => Da K (hid Γ H) v x
  | .s ns, v => ∃ a, v = .ref a ∧ SqL K (hid Γ H) a (ns.map V.int)
  | .t (.lst i t), v => ∃ a, v = .ref a ∧ Γ a = some (.ty (.lst i t))
  | .t (.rcd ts), v => ∃ a, v = .ref a ∧ Γ a = some (.ty (.rcd ts))
  | .t (.dic n P), v => ∃ a, v = .ref a ∧ Γ a = some (.ty (.dic n P))
  | .t (.tpl ts), v => ∃ a xs, v = .ref a ∧ SqT K (hid Γ H) a xs ∧ Paired (TyOk K Γ Gh.zero H) ts xs
  | _, _ => False
theorem ROk.ext {K : PySem.W.Frag} {Γ Γ' : Gam} {H H' : Hp} (e : Ext0 Γ H Γ' H') {s : Sl} {v : V} (h : ROk K Γ H s v) : ROk K Γ' H' s v := by
  cases s with
  | un => exact h
  | d x => exact Da.mono e.sub h
  | s ns => obtain ⟨a, h1, h2⟩ := h; exact ⟨a, h1, e.sub.sqL h2⟩
  | own ds => exact h
  | ob f => exact h
  | t t =>
    cases t with
    | scr ns => exact h
    | dat P => exact h
    | lst i t => obtain ⟨a, h1, h2⟩ := h; exact ⟨a, h1, e.ty _ _ h2⟩
    | rcd ts => obtain ⟨a, h1, h2⟩ := h; exact ⟨a, h1, e.ty _ _ h2⟩
    | dic n P => obtain ⟨a, h1, h2⟩ := h; exact ⟨a, h1, e.ty _ _ h2⟩
    | its P => exact h
    | pr F => exact h
    | tpl ts => obtain ⟨a, xs, h1, h2, h3⟩ := h; exact ⟨a, xs, h1, e.sub.sqT h2, L2.Paired.mapP h3 fun _ _ q => TyOk.ext e q⟩
/-- the entry of a def -/
structure Ent where
  Γ : Gam
  H : Hp
  g : Gh
  pv : List (V × Sl)
def SOk (K : PySem.W.Frag) (E : Ent) (Γ : Gam) (H : Hp) : Sl → Option V → Prop
  | .un, _ => True
  | .own ds, ov => ∃ a, ov = some (.ref a) ∧ Γ a = some (.own ds) ∧ E.Γ a = none ∧ E.H a = none
  | .ob f, ov => ∃ a, ov = some (.ref a) ∧ Γ a = some (.one (f a)) ∧ E.Γ a = none ∧ E.H a = none
  | s, ov => ∃ v, ov = some v ∧ ROk K Γ H s v
def slot (σ : L2.St) (i : Nat) : Option V := (σ[i]?).getD none
structure EnvOk (K : PySem.W.Frag) (E : Ent) (Γ : Gam) (g : Gh) (ρ : List Sl) (σ : L2.St) (H : Hp) : Prop where
  len : σ.length = ρ.length
  sl : ∀ i s, ρ[i]? = some s → SOk K E Γ H s (slot σ i)
  dis : ∀ i j x y a, i ≠ j → ρ[i]? = some (.own x) → ρ[j]? = some (.own y) → slot σ i = some (.ref a) → slot σ j = some (.ref a) → False
  hp : HeapOk K Γ g H
  fr : Ext E.Γ E.H Γ H
  gle : E.g.le g
  pv : ∀ p, p ∈ E.pv → ROk K Γ H p.2 p.1
section
variable {K : PySem.W.Frag} {E : Ent} {Γ Γ' : Gam} {g g' : Gh} {ρ : List Sl} {σ : L2.St} {H H' : Hp}
theorem SOk.ext (e : Ext Γ H Γ' H') {s : Sl} {ov : Option V} (h : SOk K E Γ H s ov) : SOk K E Γ' H' s ov := by
  cases s with
  | un => trivial
  | own ds => obtain ⟨a, h1, h2, h3⟩ := h; exact ⟨a, h1, e.own _ _ h2, h3⟩
  | ob f => obtain ⟨a, h1, h2, h3⟩ := h; exact ⟨a, h1, e.one _ _ h2, h3⟩
  | d x => obtain ⟨v, h1, h2⟩ := h; exact ⟨v, h1, ROk.ext e.toExt0 h2⟩
  | s ns => obtain ⟨v, h1, h2⟩ := h; exact ⟨v, h1, ROk.ext e.toExt0 h2⟩
  | t t => obtain ⟨v, h1, h2⟩ := h; exact ⟨v, h1, ROk.ext e.toExt0 h2⟩
theorem EnvOk.ext (I : EnvOk K E Γ g ρ σ H) (e : Ext Γ H Γ' H') (hp : HeapOk K Γ' g' H') (hg : g.le g') : EnvOk K E Γ' g' ρ σ H' where
  len := I.len
  sl := fun i s h => (I.sl i s h).ext e
  dis := I.dis
  hp := hp
  fr := I.fr.trans e
  gle := Gh.le_trans I.gle hg
  pv := fun p h => (I.pv p h).ext e.toExt0
/-- a plain value goes to a slot -/
theorem SOk.of {s : Sl} {v : V} (h : ROk K Γ H s v) : SOk K E Γ H s (some v) := by
  cases s with
  | un => trivial
  | own ds => exact h.elim
  | ob _ => exact h.elim
  | d x => exact ⟨v, rfl, h⟩
  | s ns => exact ⟨v, rfl, h⟩
  | t t => exact ⟨v, rfl, h⟩
theorem slot_set {σ : L2.St} {i j : Nat} {o : Option V} (hi : i < σ.length) : slot (σ.set i o) j = if i = j then o else slot σ j := by
  unfold slot
  rw [List.getElem?_set]
  by_cases h : i = j
  · subst h
    rw [if_pos rfl, if_pos rfl, if_pos hi]
    rfl
  · rw [if_neg h, if_neg h]
theorem set_get {α : Type} {l : List α} {i j : Nat} {x y : α} (h : (l.set i x)[j]? = some y) : (i = j ∧ x = y) ∨ (i ≠ j ∧ l[j]? = some y) := by
  rw [List.getElem?_set] at h
  by_cases e : i = j
  · subst e
    rw [if_pos rfl] at h
    by_cases h2 : i < l.length
    · rw [if_pos h2] at h
      exact .inl ⟨rfl, Option.some.inj h⟩
    · rw [if_neg h2] at h
      cases h
  · rw [if_neg e] at h
    exact .inr ⟨e, h⟩
theorem EnvOk.set (I : EnvOk K E Γ g ρ σ H) {i : Nat} {s : Sl} {o : Option V} (hs : SOk K E Γ H s o) (hn : ∀ ds, s ≠ .own ds) (hi : i < ρ.length) : EnvOk K E Γ g (ρ.set i s) (σ.set i o) H where
  len := by rw [List.length_set, List.length_set]; exact I.len
  sl := fun j s' h => by
    rw [slot_set (by rw [I.len]; exact hi)]
    rcases set_get h with ⟨e, e2⟩ | ⟨e, e2⟩
    · rw [if_pos e, ← e2]
      exact hs
    · rw [if_neg e]
      exact I.sl j s' e2
  dis := fun j k x y a hjk h1 h2 h3 h4 => by
    have hi' : i < σ.length := by rw [I.len]; exact hi
    rcases set_get h1 with ⟨e, e2⟩ | ⟨e, e2⟩
    · exact hn _ e2
    · rcases set_get h2 with ⟨f, f2⟩ | ⟨f, f2⟩
      · exact hn _ f2
      · rw [slot_set hi', if_neg e] at h3
        rw [slot_set hi', if_neg f] at h4
        exact I.dis j k x y a hjk e2 f2 h3 h4
  hp := I.hp
  fr := I.fr
  gle := I.gle
  pv := I.pv
end
end PL
set_option maxRecDepth 100000
set_option maxHeartbeats 4000000
set_option autoImplicit false
namespace PL
open PySem L2 PyProof.Rows
variable [TBs] [Nms]
section
variable {K : PySem.W.Frag} {E : Ent} {Γ Γ' : Gam} {g g' : Gh} {ρ : List Sl} {σ : L2.St} {H H' : Hp}
theorem ObOk.ext (e : Ext0 Γ H Γ' H') {t : GT} {o : HO} (h : ObOk K Γ g H t o) : ObOk K Γ' g H' t o := by
  cases t with
  | own ds => obtain ⟨xs, h1, h2⟩ := h; exact ⟨xs, h1, h2.mono e.sub⟩
  | one u => exact h
  | tab q => obtain ⟨ps, h1, h2, h3⟩ := h; exact ⟨ps, h1, h2, fun pos cv hc => let ⟨c, e1, e2⟩ := h3 pos cv hc; ⟨c, e1, e.sub _ _ e2⟩⟩
  | ty t =>
    cases t with
    | scr ns => exact h
    | dat P => exact h
    | lst i t => obtain ⟨xs, h1, h2, h3, h4, h5⟩ := h; exact ⟨xs, h1, h2, h3, fun x hx => (h4 x hx).ext e, fun q hq => let ⟨b, b1, b2⟩ := h5 q hq; ⟨b, b1, e.ty _ _ b2⟩⟩
    | rcd ts => obtain ⟨xs, h1, h2⟩ := h; exact ⟨xs, h1, L2.Paired.mapP h2 fun _ _ q => TyOk.ext e q⟩
    | dic n P => obtain ⟨xs, h1, h2, h4, h3⟩ := h; exact ⟨xs, h1, h2, fun q hq => let ⟨v, z1, z2⟩ := h4 q hq; ⟨v, z1, z2.mono e.sub⟩, fun kv hk => ⟨(h3 kv hk).1, let ⟨d, q1, q2⟩ := (h3 kv hk).2; ⟨d, q1.mono e.sub, q2⟩⟩⟩
    | its P => exact h
    | tpl _ => exact h
    | pr _ => exact h
theorem HeapOk.free (h : HeapOk K Γ g H) {p : Addr} (hp : H p = none) : Γ p = none := by
  cases e : Γ p with
  | none => rfl
  | some t =>
    obtain ⟨o, ho, _⟩ := h.ob p t e
    rw [hp] at ho
    cases ho
/-- a new object that no type tells -/
theorem ext_upd {p : Addr} {o : HO} (hp : H p = none) : Ext Γ H Γ (upd H p o) := .of (fun a u h k => ⟨h, by rw [upd_ne (ne_of_none k hp)]; exact k⟩) fun _ _ h => h
theorem HeapOk.new (h : HeapOk K Γ g H) {p : Addr} {o : HO} (hp : H p = none) : HeapOk K Γ g (upd H p o) where
  ob := fun a t ha => by
    obtain ⟨u, hu, q⟩ := h.ob a t ha
    exact ⟨u, by rw [upd_ne (ne_of_none hu hp)]; exact hu, q.ext (ext_upd hp).toExt0⟩
  idl := h.idl
  idd := h.idd
  lz := fun a ha => h.lz a (upd_none ha)
  tb := h.tb
theorem EnvOk.new (I : EnvOk K E Γ g ρ σ H) {p : Addr} {o : HO} (hp : H p = none) : EnvOk K E Γ g ρ σ (upd H p o) := I.ext (ext_upd hp) (I.hp.new hp) (Gh.le_refl g)
theorem hid_new (I : EnvOk K E Γ g ρ σ H) {p : Addr} {o : HO} (hp : H p = none) : hid Γ (upd H p o) p = some o := by
  rw [hid_none (I.hp.free hp), upd_same]
end

/-! ### what an expression, a test, arguments, a statement tell -/
def WE (K : PySem.W.Frag) (te : TE) (ρ : List Sl) (g : Gh) (P : Sl → Gh → Prop) : Prop :=
  ∀ (E : Ent) (Γ : Gam) (σ : L2.St) (H : Hp) (Q : VK), EnvOk K E Γ g ρ σ H → (∀ Γ' g' H' v s, Ext Γ H Γ' H' → EnvOk K E Γ' g' ρ σ H' → ROk K Γ' H' s v → P s g' → Q v H') → te σ H Q
def WT (K : PySem.W.Frag) (tt : TT) (ρ : List Sl) (g : Gh) (P : Bool → Gh → Prop) : Prop :=
  ∀ (E : Ent) (Γ : Gam) (σ : L2.St) (H : Hp) (Q : Bool → Hp → Prop), EnvOk K E Γ g ρ σ H → (∀ Γ' g' H' b, Ext Γ H Γ' H' → EnvOk K E Γ' g' ρ σ H' → P b g' → Q b H') → tt σ H Q
def WA (K : PySem.W.Frag) (ta : TA) (ρ : List Sl) (g : Gh) (P : List Sl → Gh → Prop) : Prop :=
  ∀ (E : Ent) (Γ : Gam) (σ : L2.St) (H : Hp) (Q : List V → Hp → Prop), EnvOk K E Γ g ρ σ H → (∀ Γ' g' H' vs ss, Ext Γ H Γ' H' → EnvOk K E Γ' g' ρ σ H' → Paired (ROk K Γ' H') ss vs → P ss g' → Q vs H') → ta σ H Q
structure PD where
  nx : List Sl → Gh → Prop
  rt : Sl → Gh → Prop
  bk : List Sl → Gh → Prop := fun _ _ => False
  ct : List Sl → Gh → Prop := fun _ _ => False
structure DOk (K : PySem.W.Frag) (E : Ent) (D : Ends) (p : PD) : Prop where
  nx : ∀ Γ g ρ σ H, EnvOk K E Γ g ρ σ H → p.nx ρ g → D.nx σ H
  rt : ∀ Γ g ρ σ H v s, EnvOk K E Γ g ρ σ H → ROk K Γ H s v → p.rt s g → D.rt v H
  bk : ∀ Γ g ρ σ H, EnvOk K E Γ g ρ σ H → p.bk ρ g → D.bk σ H
  ct : ∀ Γ g ρ σ H, EnvOk K E Γ g ρ σ H → p.ct ρ g → D.ct σ H
def SW (K : PySem.W.Frag) (ts : TS) (p : PD) (ρ : List Sl) (g : Gh) : Prop :=
  ∀ (E : Ent) (Γ : Gam) (σ : L2.St) (H : Hp) (D : Ends), EnvOk K E Γ g ρ σ H → DOk K E D p → ts D σ H
/-- an operation on two values; on one; a call on a list of values -/
def R2W (K : PySem.W.Frag) (r : R2) (x y : Sl) (g : Gh) (P : Sl → Gh → Prop) : Prop :=
  ∀ (E : Ent) (Γ : Gam) (ρ : List Sl) (σ : L2.St) (H : Hp) (v u : V) (Q : VK), EnvOk K E Γ g ρ σ H → ROk K Γ H x v → ROk K Γ H y u → (∀ Γ' g' H' w s, Ext Γ H Γ' H' → EnvOk K E Γ' g' ρ σ H' → ROk K Γ' H' s w → P s g' → Q w H') → r v u H Q
def RCW (K : PySem.W.Frag) (r : List V → Hp → VK → Prop) (ss : List Sl) (g : Gh) (P : Sl → Gh → Prop) : Prop :=
  ∀ (E : Ent) (Γ : Gam) (ρ : List Sl) (σ : L2.St) (H : Hp) (vs : List V) (Q : VK), EnvOk K E Γ g ρ σ H → Paired (ROk K Γ H) ss vs → (∀ Γ' g' H' w s, Ext Γ H Γ' H' → EnvOk K E Γ' g' ρ σ H' → ROk K Γ' H' s w → P s g' → Q w H') → r vs H Q

section
variable {K : PySem.W.Frag} {ρ : List Sl} {g : Gh} {P : Sl → Gh → Prop} {ta tb tc te : TE} {tt tu : TT} {t u : TS} {p : PD}
theorem WE.imp {P' : Sl → Gh → Prop} (h : WE K te ρ g P) (f : ∀ s g, P s g → P' s g) : WE K te ρ g P' := fun E Γ σ H Q I q => h E Γ σ H Q I fun Γ' g' H' v s e I' r p => q Γ' g' H' v s e I' r (f s g' p)
theorem SW.imp {p' : PD} (h : SW K t p ρ g) (h1 : ∀ ρ g, p.nx ρ g → p'.nx ρ g) (h2 : ∀ s g, p.rt s g → p'.rt s g) (h3 : ∀ ρ g, p.bk ρ g → p'.bk ρ g) (h4 : ∀ ρ g, p.ct ρ g → p'.ct ρ g) : SW K t p' ρ g := fun E Γ σ H D I d => h E Γ σ H D I
  ⟨fun Γ g ρ σ H I q => d.nx Γ g ρ σ H I (h1 _ _ q), fun Γ g ρ σ H v s I r q => d.rt Γ g ρ σ H v s I r (h2 _ _ q), fun Γ g ρ σ H I q => d.bk Γ g ρ σ H I (h3 _ _ q), fun Γ g ρ σ H I q => d.ct Γ g ρ σ H I (h4 _ _ q)⟩

/-! ### names, constants -/
theorem SOk.plain {E : Ent} {Γ : Gam} {H : Hp} {s : Sl} {ov : Option V} (h : SOk K E Γ H s ov) (hn : s ≠ .un) (ho : ∀ ds, s ≠ .own ds) (hb : ∀ f, s ≠ .ob f := by (intro f z; cases z)) : ∃ v, ov = some v ∧ ROk K Γ H s v := by
  cases s with
  | un => exact absurd rfl hn
  | own ds => exact absurd rfl (ho ds)
  | ob f => exact absurd rfl (hb f)
  | d x => exact h
  | s ns => exact h
  | t t => exact h
theorem slot_some {σ : L2.St} {i : Nat} {v : V} (h : slot σ i = some v) : σ[i]? = some (some v) := by
  unfold slot at h
  cases e : σ[i]? with
  | none =>
    rw [e] at h
    cases h
  | some o =>
    rw [e] at h
    exact congrArg some h
theorem we_var {i : Nat} {s : Sl} (h : ρ[i]? = some s) (hn : s ≠ .un) (ho : ∀ ds, s ≠ .own ds) (q : P s g) (hb : ∀ f, s ≠ .ob f := by (intro f z; cases z)) : WE K (tVar i) ρ g P := fun E Γ σ H Q I k => by
  obtain ⟨v, e, r⟩ := (I.sl i s h).plain hn ho hb
  exact ⟨v, slot_some e, k Γ g H v s (Ext.refl Γ H) I r q⟩
theorem we_vd {i : Nat} {x : PyData} (h : ρ[i]? = some (.d x)) (q : P (.d x) g) : WE K (tVar i) ρ g P := we_var h (fun z => by cases z) (fun _ z => by cases z) q
theorem we_vt {i : Nat} {x : Ty} (h : ρ[i]? = some (.t x)) (q : P (.t x) g) : WE K (tVar i) ρ g P := we_var h (fun z => by cases z) (fun _ z => by cases z) q
theorem we_vs {i : Nat} {x : List Int} (h : ρ[i]? = some (.s x)) (q : P (.s x) g) : WE K (tVar i) ρ g P := we_var h (fun z => by cases z) (fun _ z => by cases z) q
theorem we_int {i : Int} (q : P (.d (.int i)) g) : WE K (tC (.int i)) ρ g P := fun E Γ σ H Q I k => k Γ g H _ (.d (.int i)) (Ext.refl Γ H) I (Da.int i) q
theorem we_str {i : Str} (q : P (.d (.str i)) g) : WE K (tC (.str i)) ρ g P := fun E Γ σ H Q I k => k Γ g H _ (.d (.str i)) (Ext.refl Γ H) I (Da.str i) q
theorem we_bl {i : Bool} (q : P (.d (.bool i)) g) : WE K (tC (.bl i)) ρ g P := fun E Γ σ H Q I k => k Γ g H _ (.d (.bool i)) (Ext.refl Γ H) I (Da.bl i) q
theorem we_non (q : P (.d .none) g) : WE K (tC .non) ρ g P := fun E Γ σ H Q I k => k Γ g H _ (.d .none) (Ext.refl Γ H) I Da.non q

/-! ### operators -/
theorem we_op {r : R2} (h : WE K ta ρ g fun x g1 => WE K tb ρ g1 fun y g2 => R2W K r x y g2 P) : WE K (tOp r ta tb) ρ g P := fun E Γ σ H Q I k => by
  refine h E Γ σ H _ I fun Γ1 g1 H1 v x e1 I1 r1 q1 => ?_
  refine q1 E Γ1 σ H1 _ I1 fun Γ2 g2 H2 u y e2 I2 r2 q2 => ?_
  exact q2 E Γ2 ρ σ H2 v u Q I2 (r1.ext e2.toExt0) r2 fun Γ3 g3 H3 w s e3 I3 r3 q3 => k Γ3 g3 H3 w s ((e1.trans e2).trans e3) I3 r3 q3
/-- an operation without a new object -/
theorem r2_val {r : R2} {x y z : Sl} (q : P z g) (h : ∀ (Γ : Gam) (H : Hp) (v u : V), ROk K Γ H x v → ROk K Γ H y u → ∃ w, ROk K Γ H z w ∧ ∀ Q : VK, Q w H → r v u H Q) : R2W K r x y g P := fun E Γ ρ σ H v u Q I r1 r2 k => by
  obtain ⟨w, rw', f⟩ := h Γ H v u r1 r2
  exact f Q (k Γ g H w z (Ext.refl Γ H) I rw' q)
theorem da_int {H : Hp} {v : V} {i : Int} (h : Da K H v (.int i)) : v = .int i := by cases h; rfl
theorem da_str {H : Hp} {v : V} {i : Str} (h : Da K H v (.str i)) : v = .str i := by cases h; rfl
theorem da_bl {H : Hp} {v : V} {i : Bool} (h : Da K H v (.bool i)) : v = .bl i := by cases h; rfl
theorem da_non {H : Hp} {v : V} (h : Da K H v .none) : v = .non := by cases h; rfl
theorem r2_I0 {f : Int → Int → Int} {i j : Int} (q : P (.d (.int (f i j))) g) : R2W K (rI0 fun i j => .int (f i j)) (.d (.int i)) (.d (.int j)) g P := r2_val q fun Γ H v u r1 r2 => by
  cases da_int r1
  cases da_int r2
  exact ⟨_, Da.int _, fun Q h => ⟨i, j, rfl, rfl, h⟩⟩
theorem r2_B0 {f : Int → Int → Bool} {i j : Int} (q : P (.d (.bool (f i j))) g) : R2W K (rI0 fun i j => .bl (f i j)) (.d (.int i)) (.d (.int j)) g P := r2_val q fun Γ H v u r1 r2 => by
  cases da_int r1
  cases da_int r2
  exact ⟨_, Da.bl _, fun Q h => ⟨i, j, rfl, rfl, h⟩⟩
theorem r2_I {C : Int → Int → Prop} {f : Int → Int → Int} {i j : Int} (c : C i j) (q : P (.d (.int (f i j))) g) : R2W K (rI C fun i j => .int (f i j)) (.d (.int i)) (.d (.int j)) g P := r2_val q fun Γ H v u r1 r2 => by
  cases da_int r1
  cases da_int r2
  exact ⟨_, Da.int _, fun Q h => ⟨i, j, rfl, rfl, c, h⟩⟩

/-! ### tests -/
theorem wt_tst {P' : Bool → Gh → Prop} (h : WE K te ρ g fun s g1 => ∃ b, s = .d (.bool b) ∧ P' b g1) : WT K (tTest te) ρ g P' := fun E Γ σ H Q I k => h E Γ σ H _ I fun Γ1 g1 H1 v s e1 I1 r1 ⟨b, es, q⟩ => by
  subst es
  exact ⟨b, da_bl r1, k Γ1 g1 H1 b e1 I1 q⟩
theorem wt_B {P' : Bool → Gh → Prop} (h : WE K te ρ g fun s g1 => ∃ b, s = .d (.bool b) ∧ P' b g1) : WT K (tB te) ρ g P' := fun E Γ σ H Q I k => h E Γ σ H _ I fun Γ1 g1 H1 v s e1 I1 r1 ⟨b, es, q⟩ => by
  subst es
  exact ⟨b, da_bl r1, k Γ1 g1 H1 b e1 I1 q⟩
theorem wt_not {P' : Bool → Gh → Prop} (h : WT K tt ρ g fun b g1 => P' (!b) g1) : WT K (tNot tt) ρ g P' := fun E Γ σ H Q I k => h E Γ σ H _ I fun Γ1 g1 H1 b e1 I1 q => k Γ1 g1 H1 _ e1 I1 q
theorem wt_and {P' : Bool → Gh → Prop} (h : WT K tt ρ g fun b g1 => if b = true then WT K tu ρ g1 P' else P' false g1) : WT K (tAnd tt tu) ρ g P' := fun E Γ σ H Q I k => h E Γ σ H _ I fun Γ1 g1 H1 b e1 I1 q => by
  cases b with
  | true => exact q E Γ1 σ H1 Q I1 fun Γ2 g2 H2 b2 e2 I2 q2 => k Γ2 g2 H2 b2 (e1.trans e2) I2 q2
  | false => exact k Γ1 g1 H1 false e1 I1 q
theorem wt_or {P' : Bool → Gh → Prop} (h : WT K tt ρ g fun b g1 => if b = true then P' true g1 else WT K tu ρ g1 P') : WT K (tOr tt tu) ρ g P' := fun E Γ σ H Q I k => h E Γ σ H _ I fun Γ1 g1 H1 b e1 I1 q => by
  cases b with
  | false => exact q E Γ1 σ H1 Q I1 fun Γ2 g2 H2 b2 e2 I2 q2 => k Γ2 g2 H2 b2 (e1.trans e2) I2 q2
  | true => exact k Γ1 g1 H1 true e1 I1 q
theorem wt_yes {P' : Bool → Gh → Prop} (h : P' true g) : WT K tYes ρ g P' := fun E Γ σ H Q I k => k Γ g H true (Ext.refl Γ H) I h
theorem we_if (h : WT K tt ρ g fun b g1 => if b = true then WE K ta ρ g1 P else WE K tb ρ g1 P) : WE K (tIf tt ta tb) ρ g P := fun E Γ σ H Q I k => h E Γ σ H _ I fun Γ1 g1 H1 b e1 I1 q => by
  cases b with
  | true => exact q E Γ1 σ H1 Q I1 fun Γ2 g2 H2 v s e2 I2 r2 q2 => k Γ2 g2 H2 v s (e1.trans e2) I2 r2 q2
  | false => exact q E Γ1 σ H1 Q I1 fun Γ2 g2 H2 v s e2 I2 r2 q2 => k Γ2 g2 H2 v s (e1.trans e2) I2 r2 q2

/-! ### arguments, displays -/
theorem wa_nil {P' : List Sl → Gh → Prop} (h : P' [] g) : WA K tNil ρ g P' := fun E Γ σ H Q I k => k Γ g H [] [] (Ext.refl Γ H) I .nil h
theorem wa_cons {P' : List Sl → Gh → Prop} {ts : TA} (h : WE K te ρ g fun s g1 => WA K ts ρ g1 fun ss g2 => P' (s :: ss) g2) : WA K (tCons te ts) ρ g P' := fun E Γ σ H Q I k => h E Γ σ H _ I fun Γ1 g1 H1 v s e1 I1 r1 q1 =>
  q1 E Γ1 σ H1 _ I1 fun Γ2 g2 H2 vs ss e2 I2 r2 q2 => k Γ2 g2 H2 _ _ (e1.trans e2) I2 (.cons (r1.ext e2.toExt0) r2) q2
def datas : List Sl → Option (List PyData)
  | [] => some []
  | .d x :: r => match datas r with
    | some l => some (x :: l)
    | none => none
  | _ :: _ => none
theorem datas_all {Γ : Gam} {H : Hp} : ∀ {ss : List Sl} {vs : List V} {ds : List PyData}, Paired (ROk K Γ H) ss vs → datas ss = some ds → DaAll K (hid Γ H) vs ds
  | _, _, _, .nil, h => by
    cases h
    exact .nil
  | .d x :: r, _, ds, .cons a t, h => by
    unfold datas at h
    cases e : datas r with
    | none =>
      rw [e] at h
      cases h
    | some es =>
      rw [e] at h
      cases h
      exact .cons a (datas_all t e)
  | .un :: r, _, ds, .cons a t, h => by cases h
  | .s _ :: r, _, ds, .cons a t, h => by cases h
  | .t _ :: r, _, ds, .cons a t, h => by cases h
  | .own _ :: r, _, ds, .cons a t, h => by cases h
  | .ob _ :: r, _, ds, .cons a t, h => by cases h
theorem we_tup {ts : TA} (h : WA K ts ρ g fun ss g1 => ∃ ds, datas ss = some ds ∧ ds.length ≤ sizeLine ∧ P (.d (.tuple ds)) g1) : WE K (tTup ts) ρ g P := fun E Γ σ H Q I k => h E Γ σ H _ I fun Γ1 g1 H1 vs ss e1 I1 r1 ⟨ds, hd, hl, q⟩ => by
  have a := datas_all r1 hd
  refine ⟨by rw [a.length]; exact hl, fun p np => ?_⟩
  exact k Γ1 g1 _ _ (.d (.tuple ds)) (e1.trans (ext_upd np)) (I1.new np) (.tup (SqT.of (hid_new I1 np)) (a.mono (ext_upd np).sub)) q
theorem we_lst {ts : TA} (h : WA K ts ρ g fun ss g1 => ∃ ds, datas ss = some ds ∧ ds.length ≤ sizeLine ∧ P (.d (.list ds)) g1) : WE K (tLst ts) ρ g P := fun E Γ σ H Q I k => h E Γ σ H _ I fun Γ1 g1 H1 vs ss e1 I1 r1 ⟨ds, hd, hl, q⟩ => by
  have a := datas_all r1 hd
  refine ⟨by rw [a.length]; exact hl, fun p np => ?_⟩
  exact k Γ1 g1 _ _ (.d (.list ds)) (e1.trans (ext_upd np)) (I1.new np) (.lst (.inl (hid_new I1 np)) (a.mono (ext_upd np).sub)) q

/-! ### calls -/
abbrev FS := List Sl → Gh → (Sl → Gh → Prop) → Prop
def spF (K : PySem.W.Frag) (f : FS) : Sp := fun vs H Q _ => ∃ (Γ : Gam) (g : Gh) (ss : List Sl) (P : Sl → Gh → Prop), HeapOk K Γ g H ∧ Paired (ROk K Γ H) ss vs ∧ f ss g P ∧
  ∀ Γ' g' H' v s, Ext Γ H Γ' H' → HeapOk K Γ' g' H' → g.le g' → ROk K Γ' H' s v → P s g' → Q v H'
theorem we_call {f : FS} {X : XK} {ts : TA} (h : WA K ts ρ g fun ss g1 => f ss g1 P) : WE K (tCall (spF K f) [] X ts) ρ g P := fun E Γ σ H Q I k => h E Γ σ H _ I fun Γ1 g1 H1 vs ss e1 I1 r1 q => by
  refine ⟨Γ1, g1, ss, P, I1.hp, by rw [List.append_nil]; exact r1, q, fun Γ2 g2 H2 v s e2 h2 l2 r2 q2 => ?_⟩
  exact k Γ2 g2 H2 v s (e1.trans e2) (I1.ext e2 h2 l2) r2 q2
theorem we_cb {r : List V → Hp → VK → Prop} {ts : TA} (h : WA K ts ρ g fun ss g1 => RCW K r ss g1 P) : WE K (tCB r ts) ρ g P := fun E Γ σ H Q I k => h E Γ σ H _ I fun Γ1 g1 H1 vs ss e1 I1 r1 q =>
  q E Γ1 ρ σ H1 vs Q I1 r1 fun Γ2 g2 H2 w s e2 I2 r2 q2 => k Γ2 g2 H2 w s (e1.trans e2) I2 r2 q2

/-! ### statements -/
theorem sw_seq (h : SW K t { p with nx := fun ρ g => SW K u p ρ g } ρ g) : SW K (tSeq t u) p ρ g := fun E Γ σ H D I d => h E Γ σ H { D with nx := u D } I
  ⟨fun Γ g ρ σ H I q => q E Γ σ H D I d, d.rt, d.bk, d.ct⟩
theorem sw_next (h : p.nx ρ g) : SW K tNext p ρ g := fun E Γ σ H D I d => d.nx Γ g ρ σ H I h
theorem sw_brk (h : p.bk ρ g) : SW K tBreak p ρ g := fun E Γ σ H D I d => d.bk Γ g ρ σ H I h
theorem sw_cont (h : p.ct ρ g) : SW K tCont p ρ g := fun E Γ σ H D I d => d.ct Γ g ρ σ H I h
theorem sw_ret (h : WE K te ρ g p.rt) : SW K (tRet te) p ρ g := fun E Γ σ H D I d => h E Γ σ H _ I fun Γ1 g1 H1 v s e1 I1 r1 q1 => d.rt Γ1 g1 ρ σ H1 v s I1 r1 q1
theorem sw_retN (h : p.rt (.d .none) g) : SW K tRetN p ρ g := fun E Γ σ H D I d => d.rt Γ g ρ σ H .non (.d .none) I Da.non h
theorem sw_drop (h : WE K te ρ g fun _ g1 => p.nx ρ g1) : SW K (tDrop te) p ρ g := fun E Γ σ H D I d => h E Γ σ H _ I fun Γ1 g1 H1 v s e1 I1 r1 q1 => d.nx Γ1 g1 ρ σ H1 I1 q1
theorem ROk.plain {Γ : Gam} {H : Hp} {s : Sl} {v : V} (h : ROk K Γ H s v) : ∀ ds, s ≠ .own ds := fun ds e => by
  subst e
  exact h
theorem sw_asg {i : Nat} (hi : i < ρ.length) (h : WE K te ρ g fun s g1 => p.nx (ρ.set i s) g1) : SW K (tAsg te (gName i)) p ρ g := fun E Γ σ H D I d => h E Γ σ H _ I fun Γ1 g1 H1 v s e1 I1 r1 q1 =>
  d.nx Γ1 g1 _ _ H1 (I1.set (SOk.of r1) r1.plain hi) q1
theorem sw_if (h : WT K tt ρ g fun b g1 => if b = true then SW K t p ρ g1 else SW K u p ρ g1) : SW K (tIfS tt t u) p ρ g := fun E Γ σ H D I d => h E Γ σ H _ I fun Γ1 g1 H1 b e1 I1 q => by
  cases b with
  | true => exact q E Γ1 σ H1 D I1 d
  | false => exact q E Γ1 σ H1 D I1 d
/-- a def's body -/
theorem paired_get {α β : Type} {F : α → β → Prop} {a : α} : ∀ {l₁ : List α} {l₂ : List β} {i : Nat}, Paired F l₁ l₂ → l₁[i]? = some a → ∃ b, l₂[i]? = some b ∧ F a b
  | _, _, _, .nil, h => by simp at h
  | _, _, 0, .cons r _, h => by
    have e := Option.some.inj h
    subst e
    exact ⟨_, rfl, r⟩
  | _, _, i + 1, .cons _ t, h => paired_get (i := i) t h
theorem sw_run {f : FS} {N : List Str} {vs : List V} {H : Hp} {Q : VK} {X : XK} (h : spF K f vs H Q X) (hN : vs.length ≤ N.length)
    (b : ∀ ss g P, ss.length = vs.length → f ss g P → SW K t { nx := fun _ g => P (.d .none) g, rt := P } (ss ++ List.replicate (N.length - ss.length) .un) g) : t { nx := fun _ H' => Q .non H', rt := Q } (L2.start N vs) H := by
  obtain ⟨Γ, g, ss, P, hp, r, q, k⟩ := h
  have hl : ss.length = vs.length := Paired.length r
  have hget : ∀ (i : Nat) (s : Sl), ss[i]? = some s → ∃ v, vs[i]? = some v ∧ ROk K Γ H s v := fun i s hs => paired_get r hs
  have I : EnvOk K ⟨Γ, H, g, []⟩ Γ g (ss ++ List.replicate (N.length - ss.length) .un) (L2.start N vs) H := {
    len := by
      unfold L2.start
      rw [List.length_append, List.length_append, List.length_map, List.length_replicate, List.length_replicate, hl]
    sl := fun i s hs => by
      by_cases hi : i < ss.length
      · rw [List.getElem?_append_left hi] at hs
        obtain ⟨v, hv, hr⟩ := hget i s hs
        have e : slot (L2.start N vs) i = some v := by
          unfold slot L2.start
          rw [List.getElem?_append_left (by rw [List.length_map, ← hl]; exact hi), List.getElem?_map, hv]
          rfl
        rw [e]
        exact SOk.of hr
      · have e : s = .un := by
          rw [List.getElem?_append_right (by omega)] at hs
          exact (List.mem_replicate.mp (List.mem_of_getElem? hs)).2
        subst e
        trivial
    dis := fun i j x y a hij h1 h2 h3 h4 => by
      by_cases hi : i < ss.length
      · rw [List.getElem?_append_left hi] at h1
        obtain ⟨v, _, hr⟩ := hget i _ h1
        exact hr
      · rw [List.getElem?_append_right (by omega)] at h1
        cases (List.mem_replicate.mp (List.mem_of_getElem? h1)).2
    hp := hp
    fr := Ext.refl Γ H
    gle := Gh.le_refl g
    pv := fun p hp => by cases hp }
  exact b ss g P hl q _ Γ _ H _ I ⟨fun Γ' g' ρ' σ' H' I' q' => k Γ' g' H' .non (.d .none) I'.fr I'.hp I'.gle Da.non q', fun Γ' g' ρ' σ' H' v s I' r' q' => k Γ' g' H' v s I'.fr I'.hp I'.gle r' q', fun _ _ _ _ _ _ z => z.elim, fun _ _ _ _ _ _ z => z.elim⟩
end
end PL
set_option maxRecDepth 100000
set_option maxHeartbeats 4000000
set_option autoImplicit false
namespace PL
open PySem L2 PyProof.Rows
variable [TBs] [Nms]
/-! ### rules of operators that the layer has not: readable lists, texts times ints -/
section
variable {X : Cx}
theorem rdM {pins : List (Addr × Obj)} {σ : L2.St} {H : Hp} {s : Shared} {l : Addr} {xs : List V} (I : Inv X pins σ H s) (hH : Rd H l (.lst xs)) : xs.length ≤ sizeLine ∧ ∃ (its : List Value) (n : Nat), Vals xs its ∧ xs.length = its.length ∧ s.heap.get? l = some { cls := .type "list", data := .seq its.toArray n } := by
  obtain ⟨z, its, n, r, e⟩ := hH.ok I.hok
  exact ⟨z, its, n, r, r.length, e⟩
def rCatR : R2 := fun x y H Q => ∃ l b xs zs, x = .ref l ∧ y = .ref b ∧ Rd H l (.lst xs) ∧ Rd H b (.lst zs) ∧ xs.length + zs.length ≤ sizeLine ∧ ∀ p, H p = none → Q (.ref p) (upd H p (.lst (xs ++ zs)))
theorem op_catR : OpR X (binaryOp .Add) rCatR := by
  intro pins s σ H x y v u Q I rx ry h
  obtain ⟨l, b, xs, zs, rfl, rfl, hH, hB, hz, q⟩ := h
  cases rx
  cases ry
  obtain ⟨z, its, n, r, hl, e⟩ := rdM I hH
  obtain ⟨z2, its2, n2, r2, hl2, e2⟩ := rdM I hB
  refine PySem.P.add_list e e2 ?_ (by rw [List.size_toArray, List.size_toArray]; omega)
  have ea : its.toArray ++ its2.toArray = (its ++ its2).toArray := by simp
  rw [ea]
  exact ⟨.ref _, _, I.lnew (t' := s.toks) (r.append r2) (by rw [List.length_append]; omega), rfl, q _ I.fresh⟩
def rRepR : R2 := fun x y H Q => ∃ l k xs, x = .ref l ∧ y = .int k ∧ Rd H l (.lst xs) ∧ -(2 ^ 63) ≤ k ∧ k < 2 ^ 63 ∧ xs.length * k.toNat ≤ sizeLine ∧
  ∀ p, H p = none → Q (.ref p) (upd H p (.lst (List.replicate k.toNat xs).flatten))
theorem op_repR : OpR X (binaryOp .Mult) rRepR := by
  intro pins s σ H x y v u Q I rx ry h
  obtain ⟨l, k, xs, rfl, rfl, hH, h1, h2, hz, q⟩ := h
  cases rx
  obtain ⟨t, rfl⟩ := ry
  obtain ⟨z, its, n, r, hl, e⟩ := rdM I hH
  have hlen : its.toArray.size * k.toNat ≤ sizeLine := by rw [List.size_toArray, ← hl]; exact hz
  have hcap : ¬ its.toArray.size * k.toNat > (2 ^ 63 - 1) / 8 := by
    have : (sizeLine : Nat) ≤ (2 ^ 63 - 1) / 8 := by decide
    omega
  have hfit : ¬ (!Builtin.List.listFitsIndex k) = true := by
    rw [fitsIndex_both h1 h2]
    exact Bool.false_ne_true
  have hlong : ¬ Builtin.List.listTooLong (its.toArray.size * k.toNat) = true := by
    rw [notLongL hlen]
    exact Bool.false_ne_true
  have hnew : List.foldl (fun x1 x2 => x1 ++ x2) #[] (List.replicate (if its.toArray.isEmpty = true then 0 else k.toNat) its.toArray) = (List.replicate k.toNat its).flatten.toArray := by
    have f0 : ∀ m : Nat, List.foldl (fun x1 x2 => x1 ++ x2) #[] (List.replicate m its.toArray) = (List.replicate m its).flatten.toArray := fun m => by
      have := foldl_rep its m []
      rw [List.nil_append] at this
      exact this
    rw [f0]
    cases its with
    | nil => simp
    | cons a r' => rw [if_neg (by simp)]
  refine wpAny_binaryOp_repeat_ref (T := "list") (U := "int") (by decide) ⟨_, e, rfl⟩ (fun s' => typeIs_int s' k t) noFill_list_mul F.fills_int_mul F.slot_int_rmul repeat_list F.slot_int_index.lookup
    (call_meets F.slot_int_rmul (typeIs_int s k t) F.entry_int_rmul (F.args_int_rmul_2 _ _) (int___rmul___int_list k t l its.toArray n)
      ⟨e, rfl, ⟨_, e, rfl⟩, call_meets F.slot_list_mul ⟨_, e, rfl⟩ F.entry_list_mul (F.args_list_mul_2 _ _) (AutoListH.list___mul___list_int_3 l its.toArray n k t hfit hcap hlong) ⟨e, ?_⟩⟩)
  rw [hnew]
  exact ⟨.ref _, _, I.lnew (t' := s.toks) (r.rep k.toNat) (by rw [PyProof.Rows.lm_len_rep_flat, Nat.mul_comm]; exact hz), rfl, q _ I.fresh⟩
/-- a text times an int -/
def rRepS : R2 := fun x y H Q => ∃ (z : Str) (k : Int), x = .str z ∧ y = .int k ∧ 0 ≤ k ∧ k ≤ 1000 ∧ z.length ≤ 1000 ∧ Q (.str (Txt.mul z k)) H
theorem op_repS : OpR X (binaryOp .Mult) rRepS := by
  intro pins s σ H x y v u Q I rx ry h
  obtain ⟨z, k, rfl, rfl, h0, h1, h2, q⟩ := h
  obtain ⟨t, rfl⟩ := rx
  obtain ⟨t', rfl⟩ := ry
  refine PySem.SB.mul ⟨?_, fun hk _ => ?_, fun hk _ => ?_⟩ fun t' k' => ⟨.str (Txt.mul z k), H, I.tok _, ⟨_, rfl⟩, q⟩
  · rw [Bool.or_eq_false_iff]
    exact ⟨decide_eq_false (by omega), decide_eq_false (by omega)⟩
  · have : (2 ^ 63 - 1) / k ≥ (2 ^ 63 - 1) / 1000 := by
      have hk0 : 0 < k := by omega
      rw [ge_iff_le, Int.le_ediv_iff_mul_le hk0]
      have : (2 ^ 63 - 1) / 1000 * k ≤ (2 ^ 63 - 1) / 1000 * 1000 := Int.mul_le_mul_of_nonneg_left h1 (by decide)
      omega
    omega
  · have hm : z.length * k.toNat ≤ 1000 * 1000 := Nat.mul_le_mul h2 (by omega)
    have hs := sizeLine_eq
    unfold Builtin.Str.tooLong
    first
      | exact decide_eq_false (by omega)
      | (simp; omega)
def rPlus (K : PySem.W.Frag) : R2 := fun x y H Q => rI0 (fun i j => .int (i + j)) x y H Q ∨ (∃ i j, x = .str i ∧ y = .str j ∧ i.length + j.length ≤ sizeLine ∧ Q (.str (i ++ j)) H) ∨ rCatR x y H Q ∨ rCatA K x y H Q
theorem op_plus : OpR X (binaryOp .Add) (rPlus X.K) := op_add.or (op_add_str.or (op_catR.or op_catA))
def rTimes : R2 := fun x y H Q => rI CMul (fun i j => .int (i * j)) x y H Q ∨ rRepR x y H Q ∨ rRepS x y H Q
theorem op_times : OpR X (binaryOp .Mult) rTimes := op_mul.or (op_repR.or op_repS)
def rEqu (K : PySem.W.Frag) : R2 := fun x y H Q => rEq x y H Q ∨ rEqD K x y H Q
theorem op_equ (hu : X.A.units + 64 < cLine) : OpR X (compareOp .Eq) (rEqu X.K) := op_eq.or (op_eqD hu)
def rNeq (K : PySem.W.Frag) : R2 := fun x y H Q => rNe x y H Q ∨ rNeD K x y H Q
theorem op_neq (hu : X.A.units + 64 < cLine) : OpR X (compareOp .NotEq) (rNeq X.K) := op_ne.or (op_neD hu)
def rInS2 : R2 := fun x y H Q => ∃ i j, x = .str i ∧ y = .str j ∧ Q (.bl (!(Builtin.Str.occurrences j i 0 j.length 1).isEmpty)) H
def rNotInS2 : R2 := fun x y H Q => ∃ i j, x = .str i ∧ y = .str j ∧ Q (.bl (!(!(Builtin.Str.occurrences j i 0 j.length 1).isEmpty))) H
def rInn (K : PySem.W.Frag) : R2 := fun x y H Q => rIn K false x y H Q ∨ rInD K x y H Q ∨ rInS2 x y H Q
theorem op_inn (hu : X.A.units + 65 < cLine) : OpR X (compareOp .In) (rInn X.K) := op_in_seq.or ((op_inD hu).or op_in_str)
def rNin (K : PySem.W.Frag) : R2 := fun x y H Q => rIn K true x y H Q ∨ rNotInD K x y H Q ∨ rNotInS2 x y H Q
theorem op_nin (hu : X.A.units + 65 < cLine) : OpR X (compareOp .NotIn) (rNin X.K) := op_notIn_seq.or ((op_notInD hu).or op_notin_str)
def rSli (K : PySem.W.Frag) : V → Option Int → Option Int → Hp → VK → Prop := fun x lo hi H Q => rSlL K x lo hi H Q ∨ rSlA K x lo hi H Q ∨ rSlS x lo hi H Q
theorem sl_any : SlR X (rSli X.K) := sl_list.or (sl_tupA.or sl_str)
end
theorem room65 {A : Around} {k : Nat} (hr : Room k A) : A.units + 65 < cLine := by have := hr.un; omega
theorem room64 {A : Around} {k : Nat} (hr : Room k A) : A.units + 64 < cLine := by have := hr.un; omega

section
variable {K : PySem.W.Frag} {ρ : List Sl} {g : Gh} {P : Sl → Gh → Prop} {ta tb tc te : TE}
theorem R2W.l {r r' : R2} {x y : Sl} (h : R2W K r x y g P) : R2W K (fun x y H Q => r x y H Q ∨ r' x y H Q) x y g P := fun E Γ ρ σ H v u Q I r1 r2 k => .inl (h E Γ ρ σ H v u Q I r1 r2 k)
theorem R2W.r {r r' : R2} {x y : Sl} (h : R2W K r' x y g P) : R2W K (fun x y H Q => r x y H Q ∨ r' x y H Q) x y g P := fun E Γ ρ σ H v u Q I r1 r2 k => .inr (h E Γ ρ σ H v u Q I r1 r2 k)
/-- a new list, a new tuple, of data -/
theorem r2_newL {r : R2} {x y : Sl} {ds : List PyData} (q : P (.d (.list ds)) g) (h : ∀ (Γ : Gam) (H : Hp) (v u : V), ROk K Γ H x v → ROk K Γ H y u → ∃ ws, DaAll K (hid Γ H) ws ds ∧ ∀ Q : VK, (∀ p, H p = none → Q (.ref p) (upd H p (.lst ws))) → r v u H Q) : R2W K r x y g P := fun E Γ ρ σ H v u Q I r1 r2 k => by
  obtain ⟨ws, a, f⟩ := h Γ H v u r1 r2
  exact f Q fun p np => k Γ g _ _ (.d (.list ds)) (ext_upd np) (I.new np) (.lst (.inl (hid_new I np)) (a.mono (ext_upd np).sub)) q
theorem r2_newT {r : R2} {x y : Sl} {ds : List PyData} (q : P (.d (.tuple ds)) g) (h : ∀ (Γ : Gam) (H : Hp) (v u : V), ROk K Γ H x v → ROk K Γ H y u → ∃ ws, DaAll K (hid Γ H) ws ds ∧ ∀ Q : VK, (∀ p, H p = none → Q (.ref p) (upd H p (.tup ws))) → r v u H Q) : R2W K r x y g P := fun E Γ ρ σ H v u Q I r1 r2 k => by
  obtain ⟨ws, a, f⟩ := h Γ H v u r1 r2
  exact f Q fun p np => k Γ g _ _ (.d (.tuple ds)) (ext_upd np) (I.new np) (.tup (SqT.of (hid_new I np)) (a.mono (ext_upd np).sub)) q
theorem da_list {H : Hp} {v : V} {ds : List PyData} (h : Da K H v (.list ds)) : ∃ a xs, v = .ref a ∧ Rd H a (.lst xs) ∧ DaAll K H xs ds := by
  cases h with
  | lst h a => exact ⟨_, _, rfl, h, a⟩
theorem da_tup {H : Hp} {v : V} {ds : List PyData} (h : Da K H v (.tuple ds)) : ∃ a xs, v = .ref a ∧ SqT K H a xs ∧ DaAll K H xs ds := by
  cases h with
  | tup h a => exact ⟨_, _, rfl, h, a⟩
theorem hid_sub {Γ : Gam} {H : Hp} : Sub (hid Γ H) H := fun a o h => (hid_some h).2
theorem hid_rd {Γ : Gam} {H : Hp} {a : Addr} {o : HO} (h : Rd (hid Γ H) a o) : Rd H a o := hid_sub.rd h

theorem r2_plus_int {i j : Int} (q : P (.d (.int (i + j))) g) : R2W K (rPlus K) (.d (.int i)) (.d (.int j)) g P := R2W.l (r2_I0 (f := fun i j => i + j) q)
theorem r2_plus_str {i j : Str} (hl : i.length + j.length ≤ sizeLine) (q : P (.d (.str (i ++ j))) g) : R2W K (rPlus K) (.d (.str i)) (.d (.str j)) g P := R2W.r (R2W.l (r2_val q fun Γ H v u r1 r2 => by
  cases da_str r1
  cases da_str r2
  exact ⟨_, Da.str _, fun Q h => ⟨i, j, rfl, rfl, hl, h⟩⟩))
theorem r2_plus_list {xs ys : List PyData} (hl : xs.length + ys.length ≤ sizeLine) (q : P (.d (.list (xs ++ ys))) g) : R2W K (rPlus K) (.d (.list xs)) (.d (.list ys)) g P := R2W.r (R2W.r (R2W.l (r2_newL q fun Γ H v u r1 r2 => by
  obtain ⟨a, vs, rfl, h1, h2⟩ := da_list r1
  obtain ⟨b, us, rfl, k1, k2⟩ := da_list r2
  exact ⟨_, h2.append k2, fun Q f => ⟨a, b, vs, us, rfl, rfl, hid_rd h1, hid_rd k1, by rw [h2.length, k2.length]; exact hl, f⟩⟩)))
theorem r2_plus_tup {xs ys : List PyData} (hl : xs.length + ys.length ≤ sizeLine) (q : P (.d (.tuple (xs ++ ys))) g) : R2W K (rPlus K) (.d (.tuple xs)) (.d (.tuple ys)) g P := R2W.r (R2W.r (R2W.r fun E Γ ρ σ H v u Q I r1 r2 k => by
  obtain ⟨a, vs, rfl, h1, h2⟩ := da_tup r1
  obtain ⟨b, us, rfl, k1, k2⟩ := da_tup r2
  refine ⟨a, b, vs, us, rfl, rfl, hid_sub.sqT h1, hid_sub.sqT k1, by rw [h2.length, k2.length]; exact hl, fun e => ?_, fun _ e => ?_, fun _ _ p np => ?_⟩
  · subst e
    cases h2
    exact k Γ g H _ _ (Ext.refl Γ H) I r2 q
  · subst e
    cases k2
    rw [List.append_nil] at q
    exact k Γ g H _ _ (Ext.refl Γ H) I r1 q
  · exact k Γ g _ _ (.d (.tuple (xs ++ ys))) (ext_upd np) (I.new np) (.tup (SqT.of (hid_new I np)) ((h2.append k2).mono (ext_upd np).sub)) q))
theorem r2_times_int {i j : Int} (c : CMul i j) (q : P (.d (.int (i * j))) g) : R2W K rTimes (.d (.int i)) (.d (.int j)) g P := R2W.l (r2_I (C := CMul) (f := fun i j => i * j) c q)
theorem r2_times_list {xs : List PyData} {k : Int} (h0 : 0 ≤ k) (hl : xs.length * k.toNat ≤ sizeLine) (h1 : k < 2 ^ 63) (q : P (.d (.list (List.replicate k.toNat xs).flatten)) g) : R2W K rTimes (.d (.list xs)) (.d (.int k)) g P := R2W.r (R2W.l (r2_newL q fun Γ H v u r1 r2 => by
  obtain ⟨a, vs, rfl, h1', h2⟩ := da_list r1
  cases da_int r2
  exact ⟨_, h2.rep k.toNat, fun Q f => ⟨a, k, vs, rfl, rfl, hid_rd h1', by omega, h1, by rw [h2.length]; exact hl, f⟩⟩))
theorem r2_times_str {z : Str} {k : Int} (h0 : 0 ≤ k) (h1 : k ≤ 1000) (hz : z.length ≤ 1000) (q : P (.d (.str (Txt.mul z k))) g) : R2W K rTimes (.d (.str z)) (.d (.int k)) g P := R2W.r (R2W.r (r2_val q fun Γ H v u r1 r2 => by
  cases da_str r1
  cases da_int r2
  exact ⟨_, Da.str _, fun Q h => ⟨z, k, rfl, rfl, h0, h1, hz, h⟩⟩))
/-- == : ints, texts, data -/
theorem r2_eq_int {i j : Int} (q : P (.d (.bool (decide (i = j)))) g) : R2W K (rEqu K) (.d (.int i)) (.d (.int j)) g P := R2W.l (r2_val q fun Γ H v u r1 r2 => by
  cases da_int r1
  cases da_int r2
  refine ⟨_, Da.bl _, fun Q h => ⟨rfl, ?_⟩⟩
  have e : decide (V.int i = V.int j) = decide (i = j) := by simp
  rw [e]
  exact h)
theorem r2_eq_str {i j : Str} (q : P (.d (.bool (decide (i = j)))) g) : R2W K (rEqu K) (.d (.str i)) (.d (.str j)) g P := R2W.l (r2_val q fun Γ H v u r1 r2 => by
  cases da_str r1
  cases da_str r2
  refine ⟨_, Da.bl _, fun Q h => ⟨rfl, ?_⟩⟩
  have e : decide (V.str i = V.str j) = decide (i = j) := by simp
  rw [e]
  exact h)
theorem r2_eq_data {d e : PyData} (sd : SeqAt.shaped d = true) (se : SeqAt.shaped e = true) (q : P (.d (.bool (PyData.eqv d e))) g) : R2W K (rEqu K) (.d d) (.d e) g P := R2W.r (r2_val q fun Γ H v u r1 r2 =>
  ⟨_, Da.bl _, fun Q h => ⟨d, e, (Da.mono hid_sub r1).dp, (Da.mono hid_sub r2).dp, sd, se, h⟩⟩)
theorem r2_ne_int {i j : Int} (q : P (.d (.bool (!decide (i = j)))) g) : R2W K (rNeq K) (.d (.int i)) (.d (.int j)) g P := R2W.l (r2_val q fun Γ H v u r1 r2 => by
  cases da_int r1
  cases da_int r2
  refine ⟨_, Da.bl _, fun Q h => ⟨rfl, ?_⟩⟩
  have e : decide (V.int i = V.int j) = decide (i = j) := by simp
  rw [e]
  exact h)
theorem r2_ne_str {i j : Str} (q : P (.d (.bool (!decide (i = j)))) g) : R2W K (rNeq K) (.d (.str i)) (.d (.str j)) g P := R2W.l (r2_val q fun Γ H v u r1 r2 => by
  cases da_str r1
  cases da_str r2
  refine ⟨_, Da.bl _, fun Q h => ⟨rfl, ?_⟩⟩
  have e : decide (V.str i = V.str j) = decide (i = j) := by simp
  rw [e]
  exact h)
theorem r2_ne_data {d e : PyData} (sd : SeqAt.shaped d = true) (se : SeqAt.shaped e = true) (q : P (.d (.bool (!PyData.eqv d e))) g) : R2W K (rNeq K) (.d d) (.d e) g P := R2W.r (r2_val q fun Γ H v u r1 r2 =>
  ⟨_, Da.bl _, fun Q h => ⟨d, e, (Da.mono hid_sub r1).dp, (Da.mono hid_sub r2).dp, sd, se, h⟩⟩)
/-- in, not in -/
theorem r2_in_list {d : PyData} {ds : List PyData} (sd : SeqAt.shaped d = true) (se : SeqAt.shaped (.list ds) = true) (q : P (.d (.bool (ds.any fun z => PyData.eqv z d))) g) : R2W K (rInn K) (.d d) (.d (.list ds)) g P := R2W.r (R2W.l (r2_val q fun Γ H v u r1 r2 =>
  ⟨_, Da.bl _, fun Q h => ⟨d, ds, (Da.mono hid_sub r1).dp, (Da.mono hid_sub r2).dp, sd, se, h⟩⟩))
theorem r2_nin_list {d : PyData} {ds : List PyData} (sd : SeqAt.shaped d = true) (se : SeqAt.shaped (.list ds) = true) (q : P (.d (.bool (!ds.any fun z => PyData.eqv z d))) g) : R2W K (rNin K) (.d d) (.d (.list ds)) g P := R2W.r (R2W.l (r2_val q fun Γ H v u r1 r2 =>
  ⟨_, Da.bl _, fun Q h => ⟨d, ds, (Da.mono hid_sub r1).dp, (Da.mono hid_sub r2).dp, sd, se, h⟩⟩))
theorem r2_in_str {i j : Str} (q : P (.d (.bool (!(Builtin.Str.occurrences j i 0 j.length 1).isEmpty))) g) : R2W K (rInn K) (.d (.str i)) (.d (.str j)) g P := R2W.r (R2W.r (r2_val q fun Γ H v u r1 r2 => by
  cases da_str r1
  cases da_str r2
  exact ⟨_, Da.bl _, fun Q h => ⟨i, j, rfl, rfl, h⟩⟩))
/-- subscripts -/
theorem atI_da {H : Hp} {xs : List V} {ds : List PyData} {i : Int} {d : PyData} (h : DaAll K H xs ds) (a : atI ds i = some d) : ∃ v, atI xs i = some v ∧ Da K H v d := by
  unfold atI at a ⊢
  rw [h.length]
  cases e : ixN ds.length i with
  | none =>
    rw [e] at a
    cases a
  | some j =>
    rw [e] at a
    exact h.get a
theorem r2_ix_list {ds : List PyData} {i : Int} {d : PyData} (a : atI ds i = some d) (q : P (.d d) g) : R2W K (rIx K) (.d (.list ds)) (.d (.int i)) g P := R2W.l (r2_val q fun Γ H v u r1 r2 => by
  obtain ⟨l, xs, rfl, h1, h2⟩ := da_list r1
  cases da_int r2
  obtain ⟨w, e, f⟩ := atI_da h2 a
  exact ⟨w, f, fun Q h => ⟨l, xs, i, w, rfl, rfl, .inl (hid_rd h1), e, h⟩⟩)
theorem r2_ix_tup {ds : List PyData} {i : Int} {d : PyData} (a : atI ds i = some d) (q : P (.d d) g) : R2W K (rIx K) (.d (.tuple ds)) (.d (.int i)) g P := R2W.r (R2W.l (r2_val q fun Γ H v u r1 r2 => by
  obtain ⟨l, xs, rfl, h1, h2⟩ := da_tup r1
  cases da_int r2
  obtain ⟨w, e, f⟩ := atI_da h2 a
  exact ⟨w, f, fun Q h => ⟨l, xs, i, w, rfl, rfl, hid_sub.sqT h1, e, h⟩⟩))
theorem r2_ix_str {z : Str} {i : Int} {c : Nat} (hz : z.length ≤ sizeLine) (a : atI z.cps.toList i = some c) (q : P (.d (.str ⟨#[c]⟩)) g) : R2W K (rIx K) (.d (.str z)) (.d (.int i)) g P := R2W.r (R2W.r (r2_val q fun Γ H v u r1 r2 => by
  cases da_str r1
  cases da_int r2
  exact ⟨_, Da.str _, fun Q h => ⟨z, i, c, rfl, rfl, hz, a, h⟩⟩))
theorem r2_ix_scr {ns : List Int} {i : Int} {n : Int} (a : atI ns i = some n) (q : P (.d (.int n)) g) : R2W K (rIx K) (.s ns) (.d (.int i)) g P := R2W.l (r2_val q fun Γ H v u r1 r2 => by
  obtain ⟨l, rfl, h1⟩ := r1
  cases da_int r2
  refine ⟨.int n, Da.int n, fun Q h => ⟨l, _, i, _, rfl, rfl, hid_sub.sqL h1, ?_, h⟩⟩
  unfold atI at a ⊢
  rw [List.length_map]
  cases e : ixN ns.length i with
  | none =>
    rw [e] at a
    cases a
  | some j =>
    rw [e] at a
    show (ns.map V.int)[j]? = _
    rw [List.getElem?_map, show ns[j]? = some n from a]
    rfl)
end
end PL
set_option maxRecDepth 100000
set_option maxHeartbeats 4000000
set_option autoImplicit false
namespace PL
open PySem L2 PyProof.Rows
variable [TBs] [Nms]
section
variable {K : PySem.W.Frag} {E : Ent} {Γ Γ' : Gam} {g g' : Gh} {ρ : List Sl} {σ : L2.St} {H H' : Hp} {P : Sl → Gh → Prop} {ta tb tc te : TE} {tt tu : TT} {t u : TS} {p : PD}
/-! ### typed objects -/
theorem ext_put {a : Addr} {ty : GT} {o : HO} (ha : Γ a = some ty) : Ext Γ H Γ (upd H a o) := .of (fun b u h k => ⟨h, by
  rw [upd_ne (fun z => by
    subst z
    rw [ha] at h
    cases h)]
  exact k⟩) fun _ _ h => h
theorem HeapOk.put (h : HeapOk K Γ g H) {a : Addr} {ty : GT} {o : HO} (ha : Γ a = some ty) (ho : ObOk K Γ g' H ty o) (hg : ∀ b t u, b ≠ a → Γ b = some t → ObOk K Γ g H t u → ObOk K Γ g' H t u) (hz : ∀ b, H b = none → g'.lb b = 0 ∧ g'.ks b = [] ∧ g'.kn b = 0 ∧ g'.pt b = []) : HeapOk K Γ g' (upd H a o) where
  ob := fun b t hb => by
    by_cases e : b = a
    · subst e
      rw [ha] at hb
      cases hb
      exact ⟨o, upd_same, ho.ext (ext_put ha).toExt0⟩
    · obtain ⟨u, hu, q⟩ := h.ob b t hb
      exact ⟨u, by rw [upd_ne e]; exact hu, (hg b t u e hb q).ext (ext_put ha).toExt0⟩
  idl := h.idl
  idd := h.idd
  tb := h.tb
  lz := fun b hb => hz b (upd_none hb)
theorem Paired.at : ∀ {ts : List Ty} {xs : List V} {F : Ty → V → Prop} {i : Nat} {t : Ty}, Paired F ts xs → ts[i]? = some t → ∃ x, xs[i]? = some x ∧ F t x
  | _, _, _, _, _, .nil, h => by simp at h
  | _, _, _, 0, _, .cons r _, h => by
    have e := Option.some.inj h
    subst e
    exact ⟨_, rfl, r⟩
  | _, _, _, i + 1, _, .cons _ t, h => Paired.at (i := i) t h
theorem Paired.set : ∀ {ts : List Ty} {xs : List V} {F : Ty → V → Prop} {i : Nat} {t : Ty} {v : V}, Paired F ts xs → ts[i]? = some t → F t v → Paired F ts (xs.set i v)
  | _, _, _, _, _, _, .nil, h, _ => by simp at h
  | _, _, _, 0, _, _, .cons r q, h, f => by
    have e := Option.some.inj h
    subst e
    exact .cons f q
  | _, _, _, i + 1, _, _, .cons r t, h, f => .cons r (Paired.set (i := i) t h f)
/-- what is read off a place of a type -/
def cellP (t : Ty) (g : Gh) (P : Sl → Gh → Prop) : Prop := match t with
  | .scr ns => P (.s ns) g
  | .dat Pd => ∀ d, Pd d → P (.d d) g
  | .lst i u => P (.t (.lst i u)) g
  | .rcd us => P (.t (.rcd us)) g
  | .dic n Pd => P (.t (.dic n Pd)) g
  | .its Pd => ∀ ds, AllD Pd ds → ds.length ≤ g.ub → P (.d (.list ds)) g
  | .tpl _ => True
  | .pr F => ∀ i j, P (.t (.rcd (F i j))) g
theorem cell_at {t : Ty} {v : V} (h : TyOk K Γ g H t v) (c : cellP t g P) : ∃ s, ROk K Γ H s v ∧ P s g := by
  cases t with
  | scr ns => obtain ⟨a, h1, h2⟩ := h; exact ⟨.s ns, ⟨a, h1, h2⟩, c⟩
  | dat Pd => obtain ⟨d, h1, h2⟩ := h; exact ⟨.d d, h1, c d h2⟩
  | lst i u => exact ⟨.t (.lst i u), h, c⟩
  | rcd us => exact ⟨.t (.rcd us), h, c⟩
  | dic n Pd => exact ⟨.t (.dic n Pd), h, c⟩
  | its Pd => obtain ⟨d, h1, h2, h3⟩ := h; exact ⟨.d (.list d), h1, c d h2 h3⟩
  | tpl _ => exact h.elim
  | pr F => obtain ⟨i, j, a, h1, h2⟩ := h; exact ⟨.t (.rcd (F i j)), ⟨a, h1, h2⟩, c i j⟩
/-- what may stand at a place of a type -/
def fits (g : Gh) (t : Ty) (s : Sl) : Prop := match t, s with
  | .dat Pd, .d d => Pd d
  | .its Pd, .d (.list ds) => AllD Pd ds ∧ ds.length ≤ g.ub
  | .scr ns, .s ms => ns = ms
  | .lst i u, .t (.lst j w) => i = j ∧ u = w
  | .rcd us, .t (.rcd ws) => us = ws
  | .dic n Pd, .t (.dic m Pe) => n = m ∧ Pd = Pe
  | .pr F, .t (.rcd ws) => ∃ i j, ws = F i j
  | _, _ => False
theorem fits_ok {t : Ty} {s : Sl} {v : V} (f : fits g t s) (r : ROk K Γ H s v) : TyOk K Γ g H t v := by
  cases t with
  | tpl _ => exact f.elim
  | pr F =>
    cases s with
    | t w =>
      cases w with
      | rcd ws =>
        obtain ⟨i, j, rfl⟩ := f
        obtain ⟨a, h1, h2⟩ := r
        exact ⟨i, j, a, h1, h2⟩
      | scr _ => exact f.elim
      | dat _ => exact f.elim
      | lst _ _ => exact f.elim
      | dic _ _ => exact f.elim
      | its _ => exact f.elim
      | tpl _ => exact f.elim
      | pr _ => exact f.elim
    | un => exact f.elim
    | d _ => exact f.elim
    | s _ => exact f.elim
    | own _ => exact f.elim
    | ob _ => exact f.elim
  | its Pd =>
    cases s with
    | d d =>
      cases d with
      | list ds => exact ⟨ds, r, f⟩
      | none => exact f.elim
      | bool _ => exact f.elim
      | int _ => exact f.elim
      | str _ => exact f.elim
      | tuple _ => exact f.elim
      | dict _ => exact f.elim
    | un => exact f.elim
    | s _ => exact f.elim
    | t _ => exact f.elim
    | own _ => exact f.elim
    | ob _ => exact f.elim
  | dat Pd =>
    cases s with
    | d d => exact ⟨d, r, f⟩
    | un => exact f.elim
    | s _ => exact f.elim
    | t _ => exact f.elim
    | own _ => exact f.elim
    | ob _ => exact f.elim
  | scr ns =>
    cases s with
    | s ms => cases f; exact r
    | un => exact f.elim
    | d _ => exact f.elim
    | t _ => exact f.elim
    | own _ => exact f.elim
    | ob _ => exact f.elim
  | lst i u =>
    cases s with
    | t w =>
      cases w with
      | lst j w => obtain ⟨rfl, rfl⟩ := f; exact r
      | scr _ => exact f.elim
      | dat _ => exact f.elim
      | rcd _ => exact f.elim
      | dic _ _ => exact f.elim
      | its _ => exact f.elim
      | tpl _ => exact f.elim
      | pr _ => exact f.elim
    | un => exact f.elim
    | d _ => exact f.elim
    | s _ => exact f.elim
    | own _ => exact f.elim
    | ob _ => exact f.elim
  | rcd us =>
    cases s with
    | t w =>
      cases w with
      | rcd ws => cases f; exact r
      | scr _ => exact f.elim
      | dat _ => exact f.elim
      | lst _ _ => exact f.elim
      | dic _ _ => exact f.elim
      | its _ => exact f.elim
      | tpl _ => exact f.elim
      | pr _ => exact f.elim
    | un => exact f.elim
    | d _ => exact f.elim
    | s _ => exact f.elim
    | own _ => exact f.elim
    | ob _ => exact f.elim
  | dic n Pd =>
    cases s with
    | t w =>
      cases w with
      | dic m Pe => obtain ⟨rfl, rfl⟩ := f; exact r
      | its _ => exact f.elim
      | tpl _ => exact f.elim
      | pr _ => exact f.elim
      | scr _ => exact f.elim
      | dat _ => exact f.elim
      | lst _ _ => exact f.elim
      | rcd _ => exact f.elim
    | un => exact f.elim
    | d _ => exact f.elim
    | s _ => exact f.elim
    | own _ => exact f.elim
    | ob _ => exact f.elim
theorem r2_ix_rcd {ts : List Ty} {i : Int} {t : Ty} (a : atI ts i = some t) (q : cellP t g P) : R2W K (rIx K) (.t (.rcd ts)) (.d (.int i)) g P := R2W.l fun E Γ ρ σ H v u Q I r1 r2 k => by
  obtain ⟨l, rfl, h1⟩ := r1
  cases da_int r2
  obtain ⟨o, ho, xs, rfl, hp⟩ := I.hp.ob l _ h1
  have hx : ∃ x, atI xs i = some x ∧ TyOk K Γ g H t x := by
    unfold atI at a ⊢
    rw [← Paired.length hp]
    cases e : ixN ts.length i with
    | none =>
      rw [e] at a
      cases a
    | some j =>
      rw [e] at a
      exact Paired.at hp a
  obtain ⟨x, hx1, hx2⟩ := hx
  obtain ⟨s, hs1, hs2⟩ := cell_at hx2 q
  exact ⟨l, xs, i, x, rfl, rfl, .inl (.inl ho), hx1, k Γ g H x s (Ext.refl Γ H) I hs1 hs2⟩
/-- o[i] = e, o a record -/
theorem sw_setRcd {to ti : TE} (h : WE K te ρ g fun s g1 => WE K to ρ g1 fun so g2 => WE K ti ρ g2 fun si g3 => ∃ ts i j t, so = .t (.rcd ts) ∧ si = .d (.int i) ∧ ixN ts.length i = some j ∧ ts[j]? = some t ∧ fits g3 t s ∧ p.nx ρ g3) : SW K (tAsg te (gSub to ti rSetL)) p ρ g := fun E Γ σ H D I d => by
  refine h E Γ σ H _ I fun Γ1 g1 H1 v s e1 I1 r1 q1 => ?_
  refine q1 E Γ1 σ H1 _ I1 fun Γ2 g2 H2 vo so e2 I2 r2 q2 => ?_
  refine q2 E Γ2 σ H2 _ I2 fun Γ3 g3 H3 vi si e3 I3 r3 ⟨ts, i, j, t, es, ei, hj, ht, hf, q3⟩ => ?_
  subst es ei
  obtain ⟨l, rfl, h1⟩ := r2.ext e3.toExt0
  cases da_int r3
  obtain ⟨o, ho, xs, rfl, hp⟩ := I3.hp.ob l _ h1
  have hv : TyOk K Γ3 g3 H3 t v := fits_ok hf ((r1.ext e2.toExt0).ext e3.toExt0)
  refine ⟨l, xs, i, j, rfl, rfl, ho, by rw [← Paired.length hp]; exact hj, ?_⟩
  have hh : HeapOk K Γ3 g3 (upd H3 l (.lst (xs.set j v))) := I3.hp.put h1 ⟨_, rfl, Paired.set hp ht hv⟩ (fun _ _ _ _ _ q => q) I3.hp.lz
  exact d.nx Γ3 g3 ρ σ _ (I3.ext (ext_put h1) hh (Gh.le_refl g3)) q3

/-! ### len, int, str, min, max, abs, sum -/
abbrev rLenK (K : PySem.W.Frag) : List V → Hp → VK → Prop := fun xs H Q => ∃ x n, xs = [x] ∧ LenV K x H n ∧ Q (.int n) H
theorem rc_len_list {ds : List PyData} (q : P (.d (.int ds.length)) g) : RCW K (rLenK K) [.d (.list ds)] g P := fun E Γ ρ σ H vs Q I r k => by
  cases r with
  | cons r rr =>
    cases rr
    obtain ⟨a, xs, rfl, h1, h2⟩ := da_list r
    exact ⟨_, ds.length, rfl, .inl ⟨xs, .inl (hid_rd h1), h2.length.symm⟩, k Γ g H _ (.d (.int ds.length)) (Ext.refl Γ H) I (Da.int _) q⟩
theorem rc_len_tup {ds : List PyData} (q : P (.d (.int ds.length)) g) : RCW K (rLenK K) [.d (.tuple ds)] g P := fun E Γ ρ σ H vs Q I r k => by
  cases r with
  | cons r rr =>
    cases rr
    obtain ⟨a, xs, rfl, h1, h2⟩ := da_tup r
    exact ⟨_, ds.length, rfl, .inr ⟨xs, hid_sub.sqT h1, h2.length.symm⟩, k Γ g H _ (.d (.int ds.length)) (Ext.refl Γ H) I (Da.int _) q⟩
theorem rc_len_str {z : Str} (hz : z.length ≤ sizeLine) (q : P (.d (.int z.length)) g) : RCW K (rLenK K) [.d (.str z)] g P := fun E Γ ρ σ H vs Q I r k => by
  cases r with
  | cons r rr =>
    cases rr
    cases da_str r
    exact ⟨_, z.length, rfl, ⟨hz, rfl⟩, k Γ g H _ (.d (.int z.length)) (Ext.refl Γ H) I (Da.int _) q⟩
theorem rc_len_scr {ns : List Int} (q : P (.d (.int ns.length)) g) : RCW K (rLenK K) [.s ns] g P := fun E Γ ρ σ H vs Q I r k => by
  cases r with
  | cons r rr =>
    cases rr
    obtain ⟨a, rfl, h1⟩ := r
    exact ⟨_, ns.length, rfl, .inl ⟨_, hid_sub.sqL h1, (List.length_map _).symm⟩, k Γ g H _ (.d (.int ns.length)) (Ext.refl Γ H) I (Da.int _) q⟩
/-- a call on values without a new object -/
theorem rc_val {r : List V → Hp → VK → Prop} {ss : List Sl} {z : Sl} (q : P z g) (h : ∀ (Γ : Gam) (H : Hp) (vs : List V), Paired (ROk K Γ H) ss vs → ∃ w, ROk K Γ H z w ∧ ∀ Q : VK, Q w H → r vs H Q) : RCW K r ss g P := fun E Γ ρ σ H vs Q I r1 k => by
  obtain ⟨w, rw', f⟩ := h Γ H vs r1
  exact f Q (k Γ g H w z (Ext.refl Γ H) I rw' q)
theorem p1 {Γ : Gam} {H : Hp} {s : Sl} {vs : List V} (r : Paired (ROk K Γ H) [s] vs) : ∃ v, vs = [v] ∧ ROk K Γ H s v := by
  cases r with
  | cons r rr =>
    cases rr
    exact ⟨_, rfl, r⟩
theorem p2 {Γ : Gam} {H : Hp} {s s' : Sl} {vs : List V} (r : Paired (ROk K Γ H) [s, s'] vs) : ∃ v u, vs = [v, u] ∧ ROk K Γ H s v ∧ ROk K Γ H s' u := by
  cases r with
  | cons r rr =>
    cases rr with
    | cons r' rr =>
      cases rr
      exact ⟨_, _, rfl, r, r'⟩
theorem rc_int_bool {b : Bool} (q : P (.d (.int (if b then 1 else 0))) g) : RCW K (fun xs H Q => (∃ i, xs = [.int i] ∧ Q (.int i) H) ∨ ∃ k, xs = [.bl k] ∧ Q (.int (if k then 1 else 0)) H) [.d (.bool b)] g P := rc_val q fun Γ H vs r => by
  obtain ⟨v, rfl, r0⟩ := p1 r
  cases da_bl r0
  exact ⟨_, Da.int _, fun Q h => .inr ⟨b, rfl, h⟩⟩
theorem rc_str_int {i : Int} (hi : i.natAbs.log2 < 1920) (q : P (.d (.str (toString i))) g) : RCW K (fun xs H Q => ∃ i : Int, xs = [.int i] ∧ i.natAbs.log2 < 1920 ∧ Q (.str (toString i)) H) [.d (.int i)] g P := rc_val q fun Γ H vs r => by
  obtain ⟨v, rfl, r0⟩ := p1 r
  cases da_int r0
  exact ⟨_, Da.str _, fun Q h => ⟨i, rfl, hi, h⟩⟩
theorem rc_max2 {i j : Int} (q : P (.d (.int (if j > i then j else i))) g) : RCW K (fun xs H Q => ∃ i j : Int, xs = [.int i, .int j] ∧ Q (.int (if j > i then j else i)) H) [.d (.int i), .d (.int j)] g P := rc_val q fun Γ H vs r => by
  obtain ⟨v, u, rfl, r1, r2⟩ := p2 r
  cases da_int r1
  cases da_int r2
  exact ⟨_, Da.int _, fun Q h => ⟨i, j, rfl, h⟩⟩
theorem rc_min2 {i j : Int} (q : P (.d (.int (if j < i then j else i))) g) : RCW K (fun xs H Q => ∃ i j : Int, xs = [.int i, .int j] ∧ Q (.int (if j < i then j else i)) H) [.d (.int i), .d (.int j)] g P := rc_val q fun Γ H vs r => by
  obtain ⟨v, u, rfl, r1, r2⟩ := p2 r
  cases da_int r1
  cases da_int r2
  exact ⟨_, Da.int _, fun Q h => ⟨i, j, rfl, h⟩⟩
theorem rc_abs {i : Int} (q : P (.d (.int (if i < 0 then -i else i))) g) : RCW K (fun xs H Q => ∃ i : Int, xs = [.int i] ∧ Q (.int (if i < 0 then -i else i)) H) [.d (.int i)] g P := rc_val q fun Γ H vs r => by
  obtain ⟨v, rfl, r0⟩ := p1 r
  cases da_int r0
  exact ⟨_, Da.int _, fun Q h => ⟨i, rfl, h⟩⟩
theorem rc_sum {ns : List Int} (q : P (.d (.int ns.sum)) g) : RCW K (rSum K) [.d (.list (ns.map .int))] g P := rc_val q fun Γ H vs r => by
  obtain ⟨v, rfl, r0⟩ := p1 r
  obtain ⟨a, xs, rfl, h1, h2⟩ := da_list r0
  have e := h2.ints
  subst e
  exact ⟨_, Da.int _, fun Q h => ⟨a, ns, rfl, .inl (hid_rd h1), h⟩⟩
end
end PL
set_option maxRecDepth 100000
set_option maxHeartbeats 4000000
set_option autoImplicit false
namespace PL
open PySem L2 PyProof.Rows
variable [TBs] [Nms]
section
variable {K : PySem.W.Frag} {E E' : Ent} {Γ Γ' : Gam} {g g' : Gh} {ρ : List Sl} {σ : L2.St} {H H' : Hp} {P : Sl → Gh → Prop} {ta tb tc te : TE} {tt tu : TT} {t u : TS} {p : PD} {wi : TI} {tg : TG}
/-! ### pins -/
structure PinOf (E E' : Ent) : Prop where
  Γ : E'.Γ = E.Γ
  H : E'.H = E.H
  g : E'.g = E.g
  pv : ∀ p, p ∈ E.pv → p ∈ E'.pv
theorem PinOf.refl (E : Ent) : PinOf E E := ⟨rfl, rfl, rfl, fun _ h => h⟩
theorem SOk.pin {s : Sl} {ov : Option V} (q : PinOf E E') (h : SOk K E' Γ H s ov) : SOk K E Γ H s ov := by
  cases s with
  | un => trivial
  | own ds => obtain ⟨a, h1, h2, h3, h4⟩ := h; exact ⟨a, h1, h2, by rw [← q.Γ]; exact h3, by rw [← q.H]; exact h4⟩
  | ob ds => obtain ⟨a, h1, h2, h3, h4⟩ := h; exact ⟨a, h1, h2, by rw [← q.Γ]; exact h3, by rw [← q.H]; exact h4⟩
  | d x => exact h
  | s x => exact h
  | t x => exact h
theorem EnvOk.unpin (q : PinOf E E') (I : EnvOk K E' Γ g ρ σ H) : EnvOk K E Γ g ρ σ H where
  len := I.len
  sl := fun i s h => (I.sl i s h).pin q
  dis := I.dis
  hp := I.hp
  fr := by
    have f := I.fr
    rw [q.Γ, q.H] at f
    exact f
  gle := by
    have f := I.gle
    rw [q.g] at f
    exact f
  pv := fun p hp => I.pv p (q.pv p hp)
theorem DOk.pin {D : Ends} (q : PinOf E E') (d : DOk K E D p) : DOk K E' D p :=
  ⟨fun Γ g ρ σ H I x => d.nx Γ g ρ σ H (I.unpin q) x, fun Γ g ρ σ H v s I r x => d.rt Γ g ρ σ H v s (I.unpin q) r x, fun Γ g ρ σ H I x => d.bk Γ g ρ σ H (I.unpin q) x, fun Γ g ρ σ H I x => d.ct Γ g ρ σ H (I.unpin q) x⟩
def Ent.pin (E : Ent) (v : V) (s : Sl) : Ent := { E with pv := (v, s) :: E.pv }
theorem pinOf_pin (E : Ent) (v : V) (s : Sl) : PinOf E (E.pin v s) := ⟨rfl, rfl, rfl, fun _ h => List.mem_cons_of_mem _ h⟩
theorem EnvOk.topin {v : V} {s : Sl} (I : EnvOk K E Γ g ρ σ H) (r : ROk K Γ H s v) : EnvOk K (E.pin v s) Γ g ρ σ H where
  len := I.len
  sl := fun i s h => by
    have q := I.sl i s h
    cases s with
    | un => trivial
    | own ds => exact q
    | ob ds => exact q
    | d x => exact q
    | s x => exact q
    | t x => exact q
  dis := I.dis
  hp := I.hp
  fr := I.fr
  gle := I.gle
  pv := fun p hp => by
    rcases List.mem_cons.mp hp with e | e
    · subst e
      exact r
    · exact I.pv p e

/-! ### what a loop walks -/
structure ItOk (K : PySem.W.Frag) (E : Ent) (J : It) (n : Nat) (y : Nat → Sl) : Prop where
  go : ∀ Γ g ρ σ H k, EnvOk K E Γ g ρ σ H → k < n → J.go k H
  stop : ∀ Γ g ρ σ H, EnvOk K E Γ g ρ σ H → J.stop n H
  yld : ∀ Γ g ρ σ H k x H', EnvOk K E Γ g ρ σ H → k < n → J.yld k H x H' → Ext Γ H Γ H' ∧ EnvOk K E Γ g ρ σ H' ∧ ROk K Γ H' (y k) x
def WI (K : PySem.W.Frag) (wi : TI) (ρ : List Sl) (g : Gh) (P : Nat → (Nat → Sl) → Gh → Prop) : Prop :=
  ∀ (E : Ent) (Γ : Gam) (σ : L2.St) (H : Hp) (R : It → Hp → Prop), EnvOk K E Γ g ρ σ H → (∀ Γ' g' H' E' J n y, Ext Γ H Γ' H' → PinOf E E' → EnvOk K E' Γ' g' ρ σ H' → ItOk K E' J n y → P n y g' → R J H') → wi σ H R
theorem wi_range1 {P : Nat → (Nat → Sl) → Gh → Prop} (h : WE K ta ρ g fun s g1 => ∃ n : Int, s = .d (.int n) ∧ (-(2 ^ 62) ≤ n ∧ n < 2 ^ 62) ∧ P n.toNat (fun k => .d (.int (k : Int))) g1) : WI K (iRng1 (tCons ta tNil)) ρ g P := fun E Γ σ H R I k => by
  refine h E Γ σ H _ I fun Γ1 g1 H1 v s e1 I1 r1 ⟨n, es, ⟨b1, b2⟩, q⟩ => ?_
  subst es
  cases da_int r1
  refine ⟨n, rfl, b1, b2, k Γ1 g1 H1 E _ n.toNat _ e1 (PinOf.refl E) I1 ⟨fun _ _ _ _ _ k _ hk => hk, fun _ _ _ _ _ _ => Nat.le_refl _, fun Γ g ρ σ H k x H' I hk y => ?_⟩ q⟩
  obtain ⟨rfl, rfl⟩ := y
  exact ⟨Ext.refl Γ H', I, by rw [Int.zero_add]; exact Da.int _⟩
theorem wi_range2 {P : Nat → (Nat → Sl) → Gh → Prop} (h : WE K ta ρ g fun s g1 => ∃ lo : Int, s = .d (.int lo) ∧ WE K tb ρ g1 fun s2 g2 => ∃ hi : Int, s2 = .d (.int hi) ∧ (-(2 ^ 62) ≤ lo ∧ lo < 2 ^ 62 ∧ -(2 ^ 62) ≤ hi ∧ hi < 2 ^ 62) ∧ P (hi - lo).toNat (fun k => .d (.int (lo + (k : Int)))) g2) : WI K (iRng2 (tCons ta (tCons tb tNil))) ρ g P := fun E Γ σ H R I k => by
  refine h E Γ σ H _ I fun Γ1 g1 H1 v s e1 I1 r1 ⟨lo, es, q1⟩ => ?_
  subst es
  cases da_int r1
  refine q1 E Γ1 σ H1 _ I1 fun Γ2 g2 H2 v2 s2 e2 I2 r2 ⟨hi, es, b, q⟩ => ?_
  subst es
  cases da_int r2
  refine ⟨lo, hi, rfl, b, k Γ2 g2 H2 E _ (hi - lo).toNat _ (e1.trans e2) (PinOf.refl E) I2 ⟨fun _ _ _ _ _ k _ hk => hk, fun _ _ _ _ _ _ => Nat.le_refl _, fun Γ g ρ σ H k x H' I hk y => ?_⟩ q⟩
  obtain ⟨rfl, rfl⟩ := y
  exact ⟨Ext.refl Γ H', I, Da.int _⟩
def nth (ds : List PyData) (k : Nat) : Sl := .d (ds.getD k .none)
theorem nth_get {ds : List PyData} {k : Nat} {d : PyData} (h : ds[k]? = some d) : nth ds k = .d d := by
  unfold nth
  rw [List.getD_eq_getElem?_getD, h]
  rfl
theorem wi_list {P : Nat → (Nat → Sl) → Gh → Prop} (h : WE K te ρ g fun s g1 => ∃ ds, s = .d (.list ds) ∧ P ds.length (nth ds) g1) : WI K (iList K te) ρ g P := fun E Γ σ H R I k => by
  refine h E Γ σ H _ I fun Γ1 g1 H1 v s e1 I1 r1 ⟨ds, es, q⟩ => ?_
  subst es
  obtain ⟨a, xs, rfl, h1, h2⟩ := da_list r1
  have pinned : ∀ {Γ g ρ σ H}, EnvOk K (E.pin (.ref a) (.d (.list ds))) Γ g ρ σ H → ∃ xs, SqL K H a xs ∧ DaAll K (hid Γ H) xs ds := fun {Γ g ρ σ H} I => by
    have r : Da K (hid Γ H) (.ref a) (.list ds) := I.pv _ List.mem_cons_self
    obtain ⟨a', xs', e, h1, h2⟩ := da_list r
    cases e
    exact ⟨xs', .inl (hid_rd h1), h2⟩
  refine ⟨a, rfl, ⟨xs, .inl (hid_rd h1)⟩, k Γ1 g1 H1 (E.pin (.ref a) (.d (.list ds))) _ ds.length _ e1 (pinOf_pin E _ _) (I1.topin r1) ⟨fun Γ g ρ σ H k I hk => ?_, fun Γ g ρ σ H I => ?_, fun Γ g ρ σ H k x H' I hk y => ?_⟩ q⟩
  · obtain ⟨xs, s1, s2⟩ := pinned I
    have hk' : k < xs.length := by
      rw [s2.length]
      exact hk
    exact ⟨xs, xs[k], s1, List.getElem?_eq_getElem hk'⟩
  · obtain ⟨xs, s1, s2⟩ := pinned I
    exact ⟨xs, s1, by rw [s2.length]; exact Nat.le_refl _⟩
  · obtain ⟨xs, s1, s2⟩ := pinned I
    obtain ⟨rfl, y⟩ := y
    obtain ⟨d, hd, q⟩ := s2.get' (y xs s1)
    exact ⟨Ext.refl Γ H', I, by rw [nth_get hd]; exact q⟩
theorem wi_tup {P : Nat → (Nat → Sl) → Gh → Prop} (h : WE K te ρ g fun s g1 => ∃ ds, s = .d (.tuple ds) ∧ P ds.length (nth ds) g1) : WI K (iTup K te) ρ g P := fun E Γ σ H R I k => by
  refine h E Γ σ H _ I fun Γ1 g1 H1 v s e1 I1 r1 ⟨ds, es, q⟩ => ?_
  subst es
  obtain ⟨a, xs, rfl, h1, h2⟩ := da_tup r1
  have pinned : ∀ {Γ g ρ σ H}, EnvOk K (E.pin (.ref a) (.d (.tuple ds))) Γ g ρ σ H → ∃ xs, SqT K H a xs ∧ DaAll K (hid Γ H) xs ds := fun {Γ g ρ σ H} I => by
    have r : Da K (hid Γ H) (.ref a) (.tuple ds) := I.pv _ List.mem_cons_self
    obtain ⟨a', xs', e, h1, h2⟩ := da_tup r
    cases e
    exact ⟨xs', hid_sub.sqT h1, h2⟩
  refine ⟨a, rfl, ⟨xs, hid_sub.sqT h1⟩, k Γ1 g1 H1 (E.pin (.ref a) (.d (.tuple ds))) _ ds.length _ e1 (pinOf_pin E _ _) (I1.topin r1) ⟨fun Γ g ρ σ H k I hk => ?_, fun Γ g ρ σ H I => ?_, fun Γ g ρ σ H k x H' I hk y => ?_⟩ q⟩
  · obtain ⟨xs, s1, s2⟩ := pinned I
    have hk' : k < xs.length := by
      rw [s2.length]
      exact hk
    exact ⟨xs, xs[k], s1, List.getElem?_eq_getElem hk'⟩
  · obtain ⟨xs, s1, s2⟩ := pinned I
    exact ⟨xs, s1, by rw [s2.length]; exact Nat.le_refl _⟩
  · obtain ⟨xs, s1, s2⟩ := pinned I
    obtain ⟨rfl, y⟩ := y
    obtain ⟨d, hd, q⟩ := s2.get' (y xs s1)
    exact ⟨Ext.refl Γ H', I, by rw [nth_get hd]; exact q⟩

/-! ### targets -/
def WG (K : PySem.W.Frag) (tg : TG) (is : List Nat) (s : Sl) (ρ : List Sl) (g : Gh) (P : List Sl → Gh → Prop) : Prop :=
  ∀ (E : Ent) (Γ : Gam) (σ : L2.St) (H : Hp) (v : V) (Q : L2.St → Hp → Prop), EnvOk K E Γ g ρ σ H → ROk K Γ H s v → (∀ Γ' g' ρ' σ' H', Ext Γ H Γ' H' → EnvOk K E Γ' g' ρ' σ' H' → (σ'.length = σ.length ∧ ∀ j, j ∉ is → σ'[j]? = σ[j]?) → P ρ' g' → Q σ' H') → tg v σ H Q
theorem wg_name {i : Nat} {s : Sl} {P : List Sl → Gh → Prop} (hi : i < ρ.length) (h : P (ρ.set i s) g) : WG K (gName i) [i] s ρ g P := fun E Γ σ H v Q I r k =>
  k Γ g _ _ H (Ext.refl Γ H) (I.set (SOk.of r) r.plain hi) ⟨List.length_set, fun j hj => by
    rw [List.getElem?_set]
    rw [if_neg (fun e => hj (by rw [e]; exact List.mem_singleton.mpr rfl))]⟩ h
/-- the items of a tuple, one after the other -/
def WGs (K : PySem.W.Frag) (tg : TGs) (is : List Nat) (ss : List PyData) (ρ : List Sl) (g : Gh) (P : List Sl → Gh → Prop) : Prop :=
  ∀ (E : Ent) (Γ : Gam) (σ : L2.St) (H : Hp) (vs : List V) (Q : L2.St → Hp → Prop), EnvOk K E Γ g ρ σ H → DaAll K (hid Γ H) vs ss → (∀ Γ' g' ρ' σ' H', Ext Γ H Γ' H' → EnvOk K E Γ' g' ρ' σ' H' → (σ'.length = σ.length ∧ ∀ j, j ∉ is → σ'[j]? = σ[j]?) → P ρ' g' → Q σ' H') → tg vs σ H Q
theorem wgs_nil {P : List Sl → Gh → Prop} (h : P ρ g) : WGs K gNil [] [] ρ g P := fun E Γ σ H vs Q I r k => by
  cases r
  exact ⟨rfl, k Γ g ρ σ H (Ext.refl Γ H) I ⟨rfl, fun _ _ => rfl⟩ h⟩
theorem wgs_cons {tgs : TGs} {is js : List Nat} {d : PyData} {ds : List PyData} {P : List Sl → Gh → Prop} (h : WG K tg is (.d d) ρ g fun ρ1 g1 => WGs K tgs js ds ρ1 g1 P) : WGs K (gCons tg tgs) (is ++ js) (d :: ds) ρ g P := fun E Γ σ H vs Q I r k => by
  cases r with
  | cons r0 rr =>
    refine ⟨_, _, rfl, ?_⟩
    refine h E Γ σ H _ _ I r0 fun Γ1 g1 ρ1 σ1 H1 e1 I1 s1 q1 => ?_
    refine q1 E Γ1 σ1 H1 _ _ I1 (rr.mono e1.sub) fun Γ2 g2 ρ2 σ2 H2 e2 I2 s2 q2 => ?_
    exact k Γ2 g2 ρ2 σ2 H2 (e1.trans e2) I2 ⟨s2.1.trans s1.1, fun j hj => (s2.2 j fun z => hj (List.mem_append_right _ z)).trans (s1.2 j fun z => hj (List.mem_append_left _ z))⟩ q2
theorem wg_tup {tgs : TGs} {is : List Nat} {n : Nat} {ds : List PyData} {P : List Sl → Gh → Prop} (hn : ds.length = n) (h : WGs K tgs is ds ρ g P) : WG K (gTup K n tgs) is (.d (.tuple ds)) ρ g P := fun E Γ σ H v Q I r k => by
  obtain ⟨a, xs, rfl, h1, h2⟩ := da_tup r
  exact ⟨a, xs, rfl, hid_sub.sqT h1, by rw [h2.length]; exact hn, h E Γ σ H xs Q I h2 k⟩
theorem sw_asgG {is : List Nat} (h : WE K te ρ g fun s g1 => WG K tg is s ρ g1 p.nx) : SW K (tAsg te tg) p ρ g := fun E Γ σ H D I d => h E Γ σ H _ I fun Γ1 g1 H1 v s e1 I1 r1 q1 =>
  q1 E Γ1 σ H1 v _ I1 r1 fun Γ2 g2 ρ2 σ2 H2 e2 I2 _ q2 => d.nx Γ2 g2 ρ2 σ2 H2 I2 q2

/-! ### for -/
theorem sw_for {is : List Nat} (h : WI K wi ρ g fun n y g1 => ∃ I : Nat → List Sl → Gh → Prop, I 0 ρ g1 ∧
    (∀ k ρ' g', k < n → I k ρ' g' → WG K tg is (y k) ρ' g' fun ρ2 g2 => SW K t { nx := I (k + 1), ct := I (k + 1), bk := p.nx, rt := p.rt } ρ2 g2) ∧ ∀ ρ' g', I n ρ' g' → p.nx ρ' g') : SW K (tFor wi tg t) p ρ g := fun E Γ σ H D Iv d => by
  refine h E Γ σ H _ Iv fun Γ1 g1 H1 E1 J n y e1 q1 I1 it ⟨I, i0, step, fin⟩ => ?_
  have dp : DOk K E1 D p := d.pin q1
  refine ⟨fun i m σ H => m = n - i ∧ i ≤ n ∧ ∃ Γ g ρ, EnvOk K E1 Γ g ρ σ H ∧ I i ρ g, ⟨n, by simp, Nat.zero_le _, Γ1, g1, ρ, I1, i0⟩, ?_⟩
  rintro i m σ2 H2 ⟨rfl, hi, Γ2, g2, ρ2, I2, p2⟩
  by_cases hlt : i < n
  · refine .inr ⟨it.go Γ2 g2 ρ2 σ2 H2 i I2 hlt, fun σ H => ∃ Γ g ρ, EnvOk K E1 Γ g ρ σ H ∧ I (i + 1) ρ g, fun σ' H' hN => ⟨n - (i + 1), by omega, rfl, hlt, hN⟩, fun x H3 yl => ?_⟩
    obtain ⟨e3, I3, r3⟩ := it.yld Γ2 g2 ρ2 σ2 H2 i x H3 I2 hlt yl
    refine step i ρ2 g2 hlt p2 E1 Γ2 σ2 H3 x _ I3 r3 fun Γ4 g4 ρ4 σ4 H4 e4 I4 _ q4 => ?_
    exact q4 E1 Γ4 σ4 H4 _ I4 ⟨fun Γ g ρ σ H I q => ⟨Γ, g, ρ, I, q⟩, dp.rt, dp.nx, fun Γ g ρ σ H I q => ⟨Γ, g, ρ, I, q⟩⟩
  · have e : i = n := by omega
    subst e
    exact .inl ⟨it.stop Γ2 g2 ρ2 σ2 H2 I2, dp.nx Γ2 g2 ρ2 σ2 H2 I2 (fin ρ2 g2 p2)⟩
end
end PL
set_option maxRecDepth 100000
set_option maxHeartbeats 4000000
set_option autoImplicit false
namespace PL
open PySem L2 PyProof.Rows
variable [TBs] [Nms]
section
variable {K : PySem.W.Frag} {E E' : Ent} {Γ Γ' : Gam} {g g' : Gh} {ρ : List Sl} {σ : L2.St} {H H' : Hp} {P : Sl → Gh → Prop} {ta tb tc te : TE} {tt tu : TT} {t u : TS} {p : PD} {wi : TI} {tg : TG}
/-! ### a slot's own list, changed -/
def Gam.put (Γ : Gam) (D : Addr) (o : Option GT) : Gam := fun a => if a = D then o else Γ a
theorem put_same {D : Addr} {o : Option GT} : Γ.put D o D = o := if_pos rfl
theorem put_ne {D a : Addr} {o : Option GT} (h : a ≠ D) : Γ.put D o a = Γ a := if_neg h
/-- the own list at D becomes another, or data -/
theorem ext0_own {D : Addr} {ds : List PyData} {o : Option GT} {u : HO} (hD : Γ D = some (.own ds)) : Ext0 Γ H (Γ.put D o) (upd H D u) where
  un := fun a x h k => by
    have e : a ≠ D := fun z => by
      subst z
      rw [hD] at h
      cases h
    exact ⟨by rw [put_ne e]; exact h, by rw [upd_ne e]; exact k⟩
  ty := fun a t h => by
    have e : a ≠ D := fun z => by
      subst z
      rw [hD] at h
      cases h
    rw [put_ne e]
    exact h
theorem HeapOk.own (h : HeapOk K Γ g H) {D : Addr} {ds es : List PyData} {xs : List V} (hD : Γ D = some (.own ds)) (hx : DaAll K (hid Γ H) xs es) : HeapOk K (Γ.put D (some (.own es))) g (upd H D (.lst xs)) where
  ob := fun a t ha => by
    by_cases e : a = D
    · subst e
      rw [put_same] at ha
      cases ha
      exact ⟨_, upd_same, xs, rfl, hx.mono (ext0_own hD).sub⟩
    · rw [put_ne e] at ha
      obtain ⟨o, ho, q⟩ := h.ob a t ha
      exact ⟨o, by rw [upd_ne e]; exact ho, q.ext (ext0_own hD)⟩
  idl := fun a i t ha => by
    have ea : a ≠ D := fun z => by
      subst z
      rw [put_same] at ha
      cases ha
    rw [put_ne ea] at ha
    exact h.idl a i t ha
  idd := fun a i t ha => by
    have ea : a ≠ D := fun z => by
      subst z
      rw [put_same] at ha
      cases ha
    rw [put_ne ea] at ha
    exact h.idd a i t ha
  tb := fun p hq => by
    have e : p.1 ≠ D := fun z => by
      have q := h.tb p hq
      rw [z, hD] at q
      cases q
    rw [put_ne e]
    exact h.tb p hq
  lz := fun a ha => h.lz a (upd_none ha)
theorem HeapOk.data (h : HeapOk K Γ g H) {D : Addr} {ds : List PyData} (hD : Γ D = some (.own ds)) : HeapOk K (Γ.put D none) g H where
  ob := fun a t ha => by
    have ea : a ≠ D := fun z => by
      subst z
      rw [put_same] at ha
      cases ha
    rw [put_ne ea] at ha
    obtain ⟨o, ho, q⟩ := h.ob a t ha
    have e0 : Ext0 Γ H (Γ.put D none) H := ⟨fun b x h k => by
      have e : b ≠ D := fun z => by
        subst z
        rw [hD] at h
        cases h
      exact ⟨by rw [put_ne e]; exact h, k⟩, fun b t h => by
      have e : b ≠ D := fun z => by
        subst z
        rw [hD] at h
        cases h
      rw [put_ne e]
      exact h⟩
    exact ⟨o, ho, q.ext e0⟩
  idl := fun a i t ha => by
    have ea : a ≠ D := fun z => by
      subst z
      rw [put_same] at ha
      cases ha
    rw [put_ne ea] at ha
    exact h.idl a i t ha
  idd := fun a i t ha => by
    have ea : a ≠ D := fun z => by
      subst z
      rw [put_same] at ha
      cases ha
    rw [put_ne ea] at ha
    exact h.idd a i t ha
  tb := fun p hq => by
    have e : p.1 ≠ D := fun z => by
      have q := h.tb p hq
      rw [z, hD] at q
      cases q
    rw [put_ne e]
    exact h.tb p hq
  lz := h.lz
theorem ext0_data {D : Addr} {ds : List PyData} (hD : Γ D = some (.own ds)) : Ext0 Γ H (Γ.put D none) H := ⟨fun b x h k => by
      have e : b ≠ D := fun z => by
        subst z
        rw [hD] at h
        cases h
      exact ⟨by rw [put_ne e]; exact h, k⟩, fun b t h => by
      have e : b ≠ D := fun z => by
        subst z
        rw [hD] at h
        cases h
      rw [put_ne e]
      exact h⟩
/-- the entry's word stays: D was nobody's there -/
theorem fr_own {D : Addr} {o : Option GT} {H2 : Hp} (f : Ext E.Γ E.H Γ H) (h1 : E.Γ D = none) (h2 : E.H D = none) (hk : ∀ a x, a ≠ D → H a = some x → H2 a = some x) : Ext E.Γ E.H (Γ.put D o) H2 := .of (fun a x h k => by
    have e : a ≠ D := fun z => by
      subst z
      rw [h2] at k
      cases k
    obtain ⟨q1, q2⟩ := f.un a x h k
    exact ⟨by rw [put_ne e]; exact q1, hk a x e q2⟩) fun a t h => by
    have e : a ≠ D := fun z => by
      subst z
      rw [h1] at h
      cases h
    rw [put_ne e]
    exact f.all a t h
/-- slots that aren't the one of D -/
theorem SOk.own {D : Addr} {ds : List PyData} {o : Option GT} {H2 : Hp} {s : Sl} {ov : Option V} (hD : Γ D = some (.own ds)) (e0 : Ext0 Γ H (Γ.put D o) H2) (hn : ∀ es, s = .own es → ov ≠ some (.ref D)) (h : SOk K E Γ H s ov) : SOk K E (Γ.put D o) H2 s ov := by
  cases s with
  | un => trivial
  | ob f =>
    obtain ⟨a, h1, h2, h3⟩ := h
    have e : a ≠ D := fun z => by
      rw [z, hD] at h2
      cases h2
    exact ⟨a, h1, by rw [put_ne e]; exact h2, h3⟩
  | own es =>
    obtain ⟨a, h1, h2, h3⟩ := h
    have e : a ≠ D := fun z => by
      subst z
      exact hn es rfl h1
    exact ⟨a, h1, by rw [put_ne e]; exact h2, h3⟩
  | d x => obtain ⟨v, h1, h2⟩ := h; exact ⟨v, h1, ROk.ext e0 h2⟩
  | s x => obtain ⟨v, h1, h2⟩ := h; exact ⟨v, h1, ROk.ext e0 h2⟩
  | t x => obtain ⟨v, h1, h2⟩ := h; exact ⟨v, h1, ROk.ext e0 h2⟩
/-- no slot's own list is at D -/
def NoOwn (ρ : List Sl) (σ : L2.St) (D : Addr) : Prop := ∀ i es, ρ[i]? = some (.own es) → slot σ i ≠ some (.ref D)
theorem EnvOk.own (I : EnvOk K E Γ g ρ σ H) {D : Addr} {ds es : List PyData} {xs : List V} (hD : Γ D = some (.own ds)) (h1 : E.Γ D = none) (h2 : E.H D = none) (hn : NoOwn ρ σ D) (hx : DaAll K (hid Γ H) xs es) : EnvOk K E (Γ.put D (some (.own es))) g ρ σ (upd H D (.lst xs)) where
  len := I.len
  sl := fun i s h => (I.sl i s h).own (ds := ds) hD (ext0_own hD) fun es e => by
    subst e
    exact hn i es h
  dis := I.dis
  hp := I.hp.own hD hx
  fr := fr_own I.fr h1 h2 fun a x e k => by rw [upd_ne e]; exact k
  gle := I.gle
  pv := fun p hp => (I.pv p hp).ext (ext0_own hD)
theorem EnvOk.data (I : EnvOk K E Γ g ρ σ H) {D : Addr} {ds : List PyData} (hD : Γ D = some (.own ds)) (h1 : E.Γ D = none) (h2 : E.H D = none) (hn : NoOwn ρ σ D) : EnvOk K E (Γ.put D none) g ρ σ H where
  len := I.len
  sl := fun i s h => (I.sl i s h).own (ds := ds) hD (ext0_data hD) fun es e => by
    subst e
    exact hn i es h
  dis := I.dis
  hp := I.hp.data hD
  fr := fr_own I.fr h1 h2 fun a x e k => k
  gle := I.gle
  pv := fun p hp => (I.pv p hp).ext (ext0_data hD)
theorem EnvOk.fresh (I : EnvOk K E Γ g ρ σ H) {D : Addr} (hD : H D = none) : Γ D = none ∧ E.Γ D = none ∧ E.H D = none := by
  have h1 := I.hp.free hD
  have h2 : E.Γ D = none := by
    cases e : E.Γ D with
    | none => rfl
    | some t =>
      have q := I.fr.all D t e
      rw [h1] at q
      cases q
  refine ⟨h1, h2, ?_⟩
  cases e : E.H D with
  | none => rfl
  | some o =>
    have q := (I.fr.un D o h2 e).2
    rw [hD] at q
    cases q
theorem EnvOk.noOwn (I : EnvOk K E Γ g ρ σ H) {D : Addr} (hD : Γ D = none) : NoOwn ρ σ D := fun i es h z => by
  obtain ⟨a, e, q, _⟩ := I.sl i _ h
  rw [z] at e
  cases e
  rw [hD] at q
  cases q
/-- a new list that is own -/
theorem ext_newown {D : Addr} {ds : List PyData} {u : HO} (hp : H D = none) (hg : Γ D = none) : Ext Γ H (Γ.put D (some (.own ds))) (upd H D u) := .of (fun a x h k => by
    have e : a ≠ D := ne_of_none k hp
    exact ⟨by rw [put_ne e]; exact h, by rw [upd_ne e]; exact k⟩) fun a t h => by
    have e : a ≠ D := fun z => by
      subst z
      rw [hg] at h
      cases h
    rw [put_ne e]
    exact h
theorem HeapOk.newown (h : HeapOk K Γ g H) {D : Addr} {ds : List PyData} {xs : List V} (hp : H D = none) (hx : DaAll K (hid Γ H) xs ds) : HeapOk K (Γ.put D (some (.own ds))) g (upd H D (.lst xs)) where
  ob := fun a t ha => by
    have hg := h.free hp
    by_cases e : a = D
    · subst e
      rw [put_same] at ha
      cases ha
      exact ⟨_, upd_same, xs, rfl, hx.mono (ext_newown hp hg).sub⟩
    · rw [put_ne e] at ha
      obtain ⟨o, ho, q⟩ := h.ob a t ha
      exact ⟨o, by rw [upd_ne e]; exact ho, q.ext (ext_newown hp hg).toExt0⟩
  idl := fun a i t ha => by
    have ea : a ≠ D := fun z => by
      subst z
      rw [put_same] at ha
      cases ha
    rw [put_ne ea] at ha
    exact h.idl a i t ha
  idd := fun a i t ha => by
    have ea : a ≠ D := fun z => by
      subst z
      rw [put_same] at ha
      cases ha
    rw [put_ne ea] at ha
    exact h.idd a i t ha
  tb := fun p hq => by
    have e : p.1 ≠ D := fun z => by
      have q := h.tb p hq
      rw [z, h.free hp] at q
      cases q
    rw [put_ne e]
    exact h.tb p hq
  lz := fun a ha => h.lz a (upd_none ha)
theorem EnvOk.newown (I : EnvOk K E Γ g ρ σ H) {D : Addr} {ds : List PyData} {xs : List V} (hp : H D = none) (hx : DaAll K (hid Γ H) xs ds) : EnvOk K E (Γ.put D (some (.own ds))) g ρ σ (upd H D (.lst xs)) :=
  I.ext (ext_newown hp (I.hp.free hp)) (I.hp.newown hp hx) (Gh.le_refl g)

/-! ### comprehensions -/
theorem wipe_get {σ : L2.St} {j : Nat} : ∀ {vs : List Nat}, (wipe σ vs)[j]? = if j ∈ vs then (if j < σ.length then some none else none) else σ[j]?
  | [] => by simp [wipe]
  | v :: vs => by
    unfold wipe
    rw [List.getElem?_set, wipe_length, wipe_get]
    by_cases h : v = j
    · subst h
      simp
    · have h' : ¬ j = v := fun z => h z.symm
      simp [h, h']
theorem wipe_same {σ σ' : L2.St} {is vs : List Nat} (hs : ∀ j, j ∈ is → j ∈ vs) (h : σ'.length = (wipe σ vs).length ∧ ∀ j, j ∉ is → σ'[j]? = (wipe σ vs)[j]?) : wipe σ' vs = wipe σ vs := by
  apply List.ext_getElem?
  intro j
  have hl : σ'.length = σ.length := by rw [h.1, wipe_length]
  by_cases hj : j ∈ vs
  · rw [wipe_get, wipe_get, if_pos hj, if_pos hj, hl]
  · rw [wipe_get, if_neg hj, h.2 j fun z => hj (hs j z)]
def wipeS (ρ : List Sl) : List Nat → List Sl
  | [] => ρ
  | v :: vs => (wipeS ρ vs).set v .un
theorem wipeS_length (ρ : List Sl) : ∀ vs : List Nat, (wipeS ρ vs).length = ρ.length
  | [] => rfl
  | v :: vs => by unfold wipeS; rw [List.length_set, wipeS_length ρ vs]
theorem EnvOk.wipe (I : EnvOk K E Γ g ρ σ H) : ∀ vs : List Nat, (∀ v, v ∈ vs → v < ρ.length) → EnvOk K E Γ g (wipeS ρ vs) (wipe σ vs) H
  | [], _ => I
  | v :: vs, h => (I.wipe vs fun u hu => h u (List.mem_cons_of_mem _ hu)).set (s := .un) trivial (fun ds z => by cases z) (by rw [wipeS_length]; exact h v List.mem_cons_self)
/-- behind a comprehension the names stand as ahead: only the objects have grown -/
theorem EnvOk.unwipe {σ0 : L2.St} {ρ0 : List Sl} {Γ0 : Gam} {H0 : Hp} {g0 : Gh} (I0 : EnvOk K E Γ0 g0 ρ0 σ0 H0) (I : EnvOk K E' Γ g ρ σ H) (q : PinOf E E') (e : Ext Γ0 H0 Γ H) (hg : g0.le g) : EnvOk K E Γ g ρ0 σ0 H := I0.ext e I.hp hg
theorem lc_core {F : List PyData → Gh → Prop} {is vs : List Nat} (hv : ∀ v, v ∈ vs → v < ρ.length) (hs : ∀ j, j ∈ is → j ∈ vs) (h : WI K wi ρ g fun n y g1 => n ≤ sizeLine ∧ ∃ J : Nat → List PyData → Gh → Prop, J 0 [] g1 ∧
    (∀ k acc g', k < n → acc.length ≤ k → J k acc g' → g1.le g' → WG K tg is (y k) (wipeS ρ vs) g' fun ρ2 g2 => WT K tt ρ2 g2 fun b g3 => if b = true then WE K te ρ2 g3 fun s g4 => ∃ d, s = .d d ∧ g1.le g4 ∧ J (k + 1) (acc ++ [d]) g4 else g1.le g3 ∧ J (k + 1) acc g3) ∧
    ∀ acc g', acc.length ≤ n → J n acc g' → F acc g')
    (E : Ent) (Γ : Gam) (σ : L2.St) (H : Hp) (Q : VK) (Iv : EnvOk K E Γ g ρ σ H) (kk : ∀ Γ' g' H' D acc, Ext Γ H Γ' H' → EnvOk K E Γ' g' ρ σ H' → Γ' D = some (.own acc) → H D = none → Γ D = none → E.Γ D = none → E.H D = none → NoOwn ρ σ D → F acc g' → Q (.ref D) H') : tLc wi tg tt te vs σ H Q := by
  refine h E Γ σ H _ Iv fun Γ1 g1 H1 E1 J n y e1 q1 I1 it ⟨hn, Jv, j0, step, fin⟩ D nD => ?_
  have Iw := I1.wipe vs hv
  obtain ⟨f1, f2, f3⟩ := I1.fresh nD
  have no : NoOwn (wipeS ρ vs) (wipe σ vs) D := Iw.noOwn f1
  have eN : Ext Γ1 H1 (Γ1.put D (some (.own []))) (upd H1 D (.lst [])) := ext_newown nD f1
  -- W: the turn; what the new list holds; the state; what has become of the state ahead, the new list left out
  refine ⟨fun i m H => m = n - i ∧ i ≤ n ∧ ∃ Γ g acc, EnvOk K E1 Γ g (wipeS ρ vs) (wipe σ vs) H ∧ Γ D = some (.own acc) ∧ acc.length ≤ i ∧ g1.le g ∧ Ext Γ1 H1 (Γ.put D none) H ∧ Jv i acc g,
    ⟨n, by simp, Nat.zero_le _, _, g1, [], Iw.newown nD .nil, put_same, Nat.zero_le _, Gh.le_refl g1, ?_, j0⟩, ?_⟩
  · refine .of (fun a x ha hx => ?_) fun a t ha => ?_
    · have e : a ≠ D := ne_of_none hx nD
      rw [put_ne e, put_ne e, upd_ne e]
      exact ⟨ha, hx⟩
    · have e : a ≠ D := fun z => by
        subst z
        rw [f1] at ha
        cases ha
      rw [put_ne e, put_ne e]
      exact ha
  rintro i m H2 ⟨rfl, hi, Γ2, g2, acc, I2, hD, hl, lg, ex, jv⟩
  by_cases hlt : i < n
  · refine .inr ⟨it.go Γ2 g2 _ _ H2 i I2 hlt, _, fun H' hN => ⟨n - (i + 1), by omega, rfl, hlt, hN⟩, fun x H3 yl => ?_⟩
    obtain ⟨e3, I3, r3⟩ := it.yld Γ2 g2 _ _ H2 i x H3 I2 hlt yl
    -- a state reached from Γ2, H2 keeps the new list and what stood ahead
    have ahead : ∀ {Γ4 : Gam} {H4 : Hp}, Ext Γ2 H2 Γ4 H4 → Ext Γ1 H1 (Γ4.put D none) H4 := fun {Γ4 H4} e4 => .of (fun a x ha hx => by
        have e : a ≠ D := ne_of_none hx nD
        obtain ⟨z1, z2⟩ := ex.un a x ha hx
        rw [put_ne e] at z1 ⊢
        exact e4.un a x z1 z2) fun a t ha => by
        have e : a ≠ D := fun z => by
          subst z
          rw [f1] at ha
          cases ha
        have z := ex.all a t ha
        rw [put_ne e] at z ⊢
        exact e4.all a t z
    refine step i acc g2 hlt hl jv lg E1 Γ2 _ H3 x _ I3 r3 fun Γ4 g4 ρ4 σ4 H4 e4 I4 s4 q4 => ?_
    refine ⟨wipe_same hs s4, ?_⟩
    refine q4 E1 Γ4 σ4 H4 _ I4 fun Γ5 g5 H5 b e5 I5 q5 => ?_
    have e25 : Ext Γ2 H2 Γ5 H5 := (e3.trans e4).trans e5
    have back : ∀ {Γ6 : Gam} {g6 : Gh} {H6 : Hp}, EnvOk K E1 Γ6 g6 ρ4 σ4 H6 → Ext Γ2 H2 Γ6 H6 → g1.le g6 → EnvOk K E1 Γ6 g6 (wipeS ρ vs) (wipe σ vs) H6 := fun {Γ6 g6 H6} I6 e6 l6 => by
      refine ⟨I2.len, fun i s h => (I2.sl i s h).ext e6, I2.dis, I6.hp, I6.fr, I6.gle, I6.pv⟩
    cases b with
    | false =>
      rw [if_neg Bool.false_ne_true] at q5 ⊢
      exact ⟨Γ5, g5, acc, back I5 e25 q5.1, e25.own D acc hD, by omega, q5.1, ahead e25, q5.2⟩
    | true =>
      rw [if_pos rfl] at q5 ⊢
      refine q5 E1 Γ5 σ4 H5 _ I5 fun Γ6 g6 H6 v s e6 I6 r6 ⟨d, es, l6, q6⟩ => ?_
      subst es
      have e26 := e25.trans e6
      have hD6 := e26.own D acc hD
      obtain ⟨o, ho, xs, rfl, hx⟩ := I6.hp.ob D _ hD6
      have I6' := back I6 e26 l6
      have hx2 : DaAll K (hid Γ6 H6) (xs ++ [v]) (acc ++ [d]) := hx.append (.cons r6 .nil)
      have hxl := hx.length
      have hE1 : E1.Γ D = none := by rw [q1.Γ]; exact ((I1.unpin q1).fresh nD).2.1
      have hE2 : E1.H D = none := by rw [q1.H]; exact ((I1.unpin q1).fresh nD).2.2
      refine ⟨xs, ho, by omega, Γ6.put D (some (.own (acc ++ [d]))), g6, acc ++ [d], I6'.own hD6 hE1 hE2 no hx2, put_same, by rw [List.length_append, List.length_singleton]; omega, l6, ?_, q6⟩
      have a6 := ahead e26
      refine .of (fun a x ha hx => ?_) fun a t ha => ?_
      · have e : a ≠ D := ne_of_none hx nD
        obtain ⟨z1, z2⟩ := a6.un a x ha hx
        rw [put_ne e] at z1
        rw [put_ne e, put_ne e, upd_ne e]
        exact ⟨z1, z2⟩
      · have e : a ≠ D := fun z => by
          subst z
          rw [f1] at ha
          cases ha
        have z := a6.all a t ha
        rw [put_ne e] at z
        rw [put_ne e, put_ne e]
        exact z
  · have e : i = n := by omega
    subst e
    refine .inl ⟨it.stop Γ2 g2 _ _ H2 I2, ?_⟩
    obtain ⟨o, ho, xs, rfl, hx⟩ := I2.hp.ob D _ hD
    have hE1 : E1.Γ D = none := by rw [q1.Γ]; exact ((I1.unpin q1).fresh nD).2.1
    have hE2 : E1.H D = none := by rw [q1.H]; exact ((I1.unpin q1).fresh nD).2.2
    have I1u := I1.unpin q1
    have ex2 : Ext Γ1 H1 Γ2 H2 := .of (fun a x ha hx => by
        have e : a ≠ D := ne_of_none hx nD
        obtain ⟨z1, z2⟩ := ex.un a x ha hx
        rw [put_ne e] at z1
        exact ⟨z1, z2⟩) fun a t ha => by
        have e : a ≠ D := fun z => by
          subst z
          rw [f1] at ha
          cases ha
        have z := ex.all a t ha
        rw [put_ne e] at z
        exact z
    have hH : H D = none := by
      cases e : H D with
      | none => rfl
      | some o =>
        cases e2 : Γ D with
        | none =>
          have z := (e1.un D o e2 e).2
          rw [nD] at z
          cases z
        | some t =>
          have z := e1.all D t e2
          rw [f1] at z
          cases z
    have hΓ : Γ D = none := Iv.hp.free hH
    exact kk Γ2 g2 H2 D acc (e1.trans ex2) (I1u.ext ex2 I2.hp lg) hD hH hΓ (by rw [← q1.Γ]; exact hE1) (by rw [← q1.H]; exact hE2) (I1u.noOwn f1) (fin acc g2 hl jv)
theorem ext_less {D : Addr} {ds : List PyData} (e : Ext Γ H Γ' H') (hH : H D = none) (hΓ : Γ D = none) : Ext Γ H (Γ'.put D none) H' := .of (fun a x ha hx => by
    have e2 : a ≠ D := ne_of_none hx hH
    rw [put_ne e2]
    exact e.un a x ha hx) fun a t ha => by
    have e2 : a ≠ D := fun z => by
      subst z
      rw [hΓ] at ha
      cases ha
    rw [put_ne e2]
    exact e.all a t ha
theorem we_lc {is vs : List Nat} (hv : ∀ v, v ∈ vs → v < ρ.length) (hs : ∀ j, j ∈ is → j ∈ vs) (h : WI K wi ρ g fun n y g1 => n ≤ sizeLine ∧ ∃ J : Nat → List PyData → Gh → Prop, J 0 [] g1 ∧
    (∀ k acc g', k < n → acc.length ≤ k → J k acc g' → g1.le g' → WG K tg is (y k) (wipeS ρ vs) g' fun ρ2 g2 => WT K tt ρ2 g2 fun b g3 => if b = true then WE K te ρ2 g3 fun s g4 => ∃ d, s = .d d ∧ g1.le g4 ∧ J (k + 1) (acc ++ [d]) g4 else g1.le g3 ∧ J (k + 1) acc g3) ∧
    ∀ acc g', acc.length ≤ n → J n acc g' → P (.d (.list acc)) g') : WE K (tLc wi tg tt te vs) ρ g P := fun E Γ σ H Q Iv kk => lc_core (F := fun acc g => P (.d (.list acc)) g) hv hs h E Γ σ H Q Iv fun Γ2 g2 H2 D acc e I2 hD hH hΓ hE1 hE2 no q => by
  obtain ⟨o, ho, xs, rfl, hx⟩ := I2.hp.ob D _ hD
  refine kk (Γ2.put D none) g2 H2 (.ref D) (.d (.list acc)) (ext_less (ds := acc) e hH hΓ) (I2.data hD hE1 hE2 no) ?_ q
  refine Da.lst (.inl ?_) (hx.mono (ext0_data hD).sub)
  rw [hid_none put_same]
  exact ho
end
end PL
set_option maxRecDepth 100000
set_option maxHeartbeats 4000000
set_option autoImplicit false
namespace PL
open PySem L2 PyProof.Rows
variable [TBs] [Nms]
section
variable {K : PySem.W.Frag} {E E' : Ent} {Γ Γ' : Gam} {g g' : Gh} {ρ : List Sl} {σ : L2.St} {H H' : Hp} {P : Sl → Gh → Prop} {ta tb tc te : TE} {tt tu : TT} {t u : TS} {p : PD} {wi : TI} {tg : TG}
theorem own_at {i : Nat} {ds : List PyData} (I : EnvOk K E Γ g ρ σ H) (h : ρ[i]? = some (.own ds)) : ∃ D xs, slot σ i = some (.ref D) ∧ σ[i]? = some (some (.ref D)) ∧ Γ D = some (.own ds) ∧ E.Γ D = none ∧ E.H D = none ∧ H D = some (.lst xs) ∧ DaAll K (hid Γ H) xs ds := by
  obtain ⟨D, h1, h2, h3, h4⟩ := I.sl i _ h
  obtain ⟨o, ho, xs, rfl, hx⟩ := I.hp.ob D _ h2
  exact ⟨D, xs, h1, slot_some h1, h2, h3, h4, ho, hx⟩
theorem noOwn_un (I : EnvOk K E Γ g ρ σ H) {i : Nat} {ds : List PyData} {D : Addr} (h : ρ[i]? = some (.own ds)) (hs : slot σ i = some (.ref D)) : NoOwn (ρ.set i .un) σ D := fun j es hj hz => by
  rcases set_get hj with ⟨e, e2⟩ | ⟨e, e2⟩
  · cases e2
  · exact I.dis i j ds es D e h e2 hs hz
/-- forget a slot -/
theorem EnvOk.forget (I : EnvOk K E Γ g ρ σ H) (i : Nat) : EnvOk K E Γ g (ρ.set i .un) σ H where
  len := by rw [List.length_set]; exact I.len
  sl := fun j s h => by
    rcases set_get h with ⟨e, e2⟩ | ⟨e, e2⟩
    · subst e2
      trivial
    · exact I.sl j s e2
  dis := fun j k x y a hjk h1 h2 h3 h4 => by
    rcases set_get h1 with ⟨e, e2⟩ | ⟨e, e2⟩
    · cases e2
    · rcases set_get h2 with ⟨f, f2⟩ | ⟨f, f2⟩
      · cases f2
      · exact I.dis j k x y a hjk e2 f2 h3 h4
  hp := I.hp
  fr := I.fr
  gle := I.gle
  pv := I.pv
/-- a forgotten slot is own again -/
theorem EnvOk.takeOwn (I : EnvOk K E Γ g ρ σ H) {i : Nat} {D : Addr} {ds : List PyData} (hi : i < ρ.length) (hs : slot σ i = some (.ref D)) (h1 : Γ D = some (.own ds)) (h2 : E.Γ D = none) (h3 : E.H D = none) (hn : NoOwn (ρ.set i .un) σ D) : EnvOk K E Γ g (ρ.set i (.own ds)) σ H where
  len := by rw [List.length_set]; exact I.len
  sl := fun j s h => by
    rcases set_get h with ⟨e, e2⟩ | ⟨e, e2⟩
    · subst e e2
      exact ⟨D, hs, h1, h2, h3⟩
    · exact I.sl j s e2
  dis := fun j k x y a hjk g1 g2 g3 g4 => by
    have other : ∀ {m : Nat} {z : List PyData}, i ≠ m → ρ[m]? = some (.own z) → slot σ m ≠ some (.ref D) := fun {m z} hm hz => hn m z (by rw [List.getElem?_set, if_neg hm]; exact hz)
    rcases set_get g1 with ⟨e, e2⟩ | ⟨e, e2⟩
    · rcases set_get g2 with ⟨f, f2⟩ | ⟨f, f2⟩
      · exact hjk (e.symm.trans f)
      · subst e
        rw [hs] at g3
        cases g3
        exact other f f2 g4
    · rcases set_get g2 with ⟨f, f2⟩ | ⟨f, f2⟩
      · subst f
        rw [hs] at g4
        cases g4
        exact other e e2 g3
      · exact I.dis j k x y a hjk e2 f2 g3 g4
  hp := I.hp
  fr := I.fr
  gle := I.gle
  pv := I.pv
theorem set_set {α : Type} (l : List α) (i : Nat) (x y : α) : (l.set i x).set i y = l.set i y := by
  apply List.ext_getElem?
  intro j
  rw [List.getElem?_set, List.getElem?_set, List.getElem?_set]
  by_cases h : i = j
  · subst h
    simp
  · simp [h]
/-- the own list of a slot changes -/
theorem EnvOk.change (I : EnvOk K E Γ g ρ σ H) {i : Nat} {ds es : List PyData} {D : Addr} {ys : List V} (h : ρ[i]? = some (.own ds)) (hs : slot σ i = some (.ref D)) (hD : Γ D = some (.own ds)) (h1 : E.Γ D = none) (h2 : E.H D = none) (hy : DaAll K (hid Γ H) ys es) :
    EnvOk K E (Γ.put D (some (.own es))) g (ρ.set i (.own es)) σ (upd H D (.lst ys)) := by
  have hn := noOwn_un I h hs
  have q := (I.forget i).own hD h1 h2 hn hy
  have hi : i < ρ.length := (List.getElem?_eq_some_iff.mp h).1
  have q2 := q.takeOwn (i := i) (by rw [List.length_set]; exact hi) hs put_same h1 h2 (by rw [set_set]; exact hn)
  rw [set_set] at q2
  exact q2
/-- x = [..]: a slot's own list -/
theorem sw_own {i : Nat} {ts : TA} (hi : i < ρ.length) (h : WA K ts ρ g fun ss g1 => ∃ ds, datas ss = some ds ∧ ds.length ≤ sizeLine ∧ p.nx (ρ.set i (.own ds)) g1) : SW K (tAsg (tLst ts) (gName i)) p ρ g := fun E Γ σ H D I d => h E Γ σ H _ I fun Γ1 g1 H1 vs ss e1 I1 r1 ⟨ds, hd, hl, q⟩ => by
  have a := datas_all r1 hd
  refine ⟨by rw [a.length]; exact hl, fun q1 nq => ?_⟩
  obtain ⟨f1, f2, f3⟩ := I1.fresh nq
  have I2 := I1.newown nq a
  have I3 := I2.set (s := .un) (o := some (.ref q1)) (i := i) trivial (fun ds z => by cases z) hi
  have hs : slot (σ.set i (some (.ref q1))) i = some (.ref q1) := by
    rw [slot_set (by rw [I1.len]; exact hi), if_pos rfl]
  have I4 := I3.takeOwn (i := i) (D := q1) (by rw [List.length_set]; exact hi) hs put_same f2 f3 (by
    rw [set_set]
    intro j es hj hz
    rcases set_get hj with ⟨e, e2⟩ | ⟨e, e2⟩
    · cases e2
    · rw [slot_set (by rw [I1.len]; exact hi), if_neg e] at hz
      exact I1.noOwn f1 j es e2 hz)
  rw [set_set] at I4
  exact d.nx _ g1 _ _ _ I4 q
/-- x.append(e) -/
theorem sw_append {i : Nat} {ds : List PyData} (h : ρ[i]? = some (.own ds)) (hl : ds.length < sizeLine) (q : WE K te ρ g fun s g1 => ∃ d, s = .d d ∧ p.nx (ρ.set i (.own (ds ++ [d]))) g1) : SW K (tDrop (tBM K "list" rAppend (tVar i) (tCons te tNil))) p ρ g := fun E Γ σ H D I d => by
  obtain ⟨a, xs, h1, h2, h3, h4, h5, h6, h7⟩ := own_at I h
  refine ⟨_, h2, .inl ⟨rfl, xs, SqL.of h6⟩, ?_⟩
  refine q E Γ σ H _ I fun Γ1 g1 H1 v s e1 I1 r1 ⟨x, es, q1⟩ => ?_
  subst es
  obtain ⟨b, ys, k1, k2, k3, k4, k5, k6, k7⟩ := own_at I1 h
  rw [h1] at k1
  cases k1
  refine ⟨a, ys, v, rfl, rfl, k6, by rw [k7.length]; exact hl, ?_⟩
  exact d.nx _ g1 _ _ _ (I1.change h h1 k3 k4 k5 (k7.append (.cons r1 .nil))) q1
/-- return x, x a slot's own list -/
theorem sw_ret_own {i : Nat} {ds : List PyData} (h : ρ[i]? = some (.own ds)) (q : p.rt (.d (.list ds)) g) : SW K (tRet (tVar i)) p ρ g := fun E Γ σ H D I d => by
  obtain ⟨a, xs, h1, h2, h3, h4, h5, h6, h7⟩ := own_at I h
  refine ⟨_, h2, ?_⟩
  have I1 := (I.forget i).data h3 h4 h5 (noOwn_un I h h1)
  refine d.rt _ g _ _ _ _ _ I1 ?_ q
  refine Da.lst (.inl ?_) (h7.mono (ext0_data h3).sub)
  rw [hid_none put_same]
  exact h6
/-- from here on the list of a slot stays as it is: it is data -/
theorem sw_freeze (i : Nat) {ds : List PyData} (h : ρ[i]? = some (.own ds)) (q : SW K t p (ρ.set i (.d (.list ds))) g) : SW K t p ρ g := fun E Γ σ H D I d => by
  obtain ⟨a, xs, h1, h2, h3, h4, h5, h6, h7⟩ := own_at I h
  have I1 := (I.forget i).data h3 h4 h5 (noOwn_un I h h1)
  have r : Da K (hid (Γ.put a none) H) (.ref a) (.list ds) := Da.lst (.inl (by
    rw [hid_none put_same]
    exact h6)) (h7.mono (ext0_data h3).sub)
  have hi : i < ρ.length := (List.getElem?_eq_some_iff.mp h).1
  have I2 := I1.set (s := .d (.list ds)) (o := some (.ref a)) (i := i) ⟨_, rfl, r⟩ (fun ds z => by cases z) (by rw [List.length_set]; exact hi)
  rw [set_set] at I2
  have e : σ.set i (some (.ref a)) = σ := by
    apply List.ext_getElem?
    intro j
    rw [List.getElem?_set]
    by_cases hj : i = j
    · subst hj
      rw [if_pos rfl, if_pos (List.getElem?_eq_some_iff.mp h2).1, h2]
    · rw [if_neg hj]
  rw [e] at I2
  exact q E _ σ H D I2 d
end
end PL
set_option maxRecDepth 100000
set_option maxHeartbeats 4000000
set_option autoImplicit false
namespace PL
open PySem L2 PyProof.Rows
variable [TBs] [Nms]
/-- a def that is called: where it stands, its promise -/
def Cal (P : Program) (w : World) (K : PySem.W.Frag) (mg : Str → Option Value) (base : Heap) (k : Nat) (x : Str) (ps : List Str) (f : FS) : Prop :=
  ∃ (a : Addr) (fd : FuncData), FnOk P w K mg base CX0 k a fd ps (spF K f) ∧ mg x = some (.ref a) ∧ PySem.W.keepIn K (.ref a) = true ∧ Binds K fd ps []
/-- a def as the top left it -/
def Std (K : PySem.W.Frag) (mg : Str → Option Value) (x : Str) (st : Stmt) (ps : List Str) : Prop :=
  ∃ (a : Addr) (fd : FuncData), Fun K x x st a fd ∧ mg x = some (.ref a) ∧ Binds K fd ps []
section
variable {P : Program} {w : World} {K : PySem.W.Frag} {mg : Str → Option Value} {base : Heap}
theorem cal_of {x : Str} {st : Stmt} {N ps : List Str} {k : Nat} {f : FS} (S : Std K mg x st ps) (sc : FnScope N ps (defScope st)) (hN : ps.length ≤ N.length) (hl : ∀ ss g P, f ss g P → ss.length = ps.length)
    (body : ∀ (a : Addr) (cdv : Value) (A : Around) (outer : List Env) (s : Shared) (H : Hp) (vs : List V) (Q : VK) (E : XK), Room k (A.deeper (envOfC x (defScope st) s.heap.objs.size a cdv)) →
      ∃ t, PSs (cxOf CX0 P w K mg base N x (defScope st) a cdv A outer s H E).nox (defBody st) t ∧ ∀ ss g P, f ss g P → SW K t { nx := fun _ g => P (.d .none) g, rt := P } (ss ++ List.replicate (N.length - ss.length) .un) g) : Cal P w K mg base (k + 1) x ps f := by
  obtain ⟨a, fd, F, hg, hb⟩ := S
  refine ⟨a, fd, F.ok sc (fun vs H Q E h => ?_) (fun cdv A outer s H vs Q E hr h => ?_), hg, F.kp, hb⟩
  · obtain ⟨Γ, g, ss, P, hp, r, q, _⟩ := h
    rw [← Paired.length r]
    exact hl ss g P q
  · obtain ⟨t, d, q⟩ := body a cdv A outer s H vs Q E hr
    refine ⟨t, d, sw_run (N := N) h ?_ fun ss g P _ hf => q ss g P hf⟩
    obtain ⟨Γ, g, ss, P, hp, r, q, _⟩ := h
    rw [← Paired.length r, hl ss g P q]
    exact hN
theorem Cal.mono {x : Str} {ps : List Str} {f : FS} {j k : Nat} (C : Cal P w K mg base j x ps f) (h : j ≤ k) : Cal P w K mg base k x ps f := by
  obtain ⟨a, fd, F, r⟩ := C
  exact ⟨a, fd, F.mono h, r⟩
end
section
variable {K : PySem.W.Frag} {ρ : List Sl} {g : Gh} {P : Sl → Gh → Prop} {p : PD} {tt : TT} {t u : TS}
theorem ifd {c A B : Prop} [Decidable c] (h1 : c → A) (h2 : ¬ c → B) : if decide c = true then A else B := by
  by_cases h : c
  · rw [if_pos (decide_eq_true h)]
    exact h1 h
  · rw [if_neg (by rw [decide_eq_true_eq]; exact h)]
    exact h2 h
theorem ifn {c A B : Prop} [Decidable c] (h1 : ¬ c → A) (h2 : c → B) : if (!decide c) = true then A else B := by
  by_cases h : c
  · rw [decide_eq_true h, Bool.not_true, if_neg Bool.false_ne_true]
    exact h2 h
  · rw [decide_eq_false h, Bool.not_false, if_pos rfl]
    exact h1 h
theorem ifb {b : Bool} {A B : Prop} (h1 : b = true → A) (h2 : b = false → B) : if b = true then A else B := by
  cases b with
  | true => exact h1 rfl
  | false => exact h2 rfl
theorem r2_ix_mem {ds : List PyData} {i : Int} (h0 : 0 ≤ i) (h1 : i < ds.length) (q : ∀ d, d ∈ ds → P (.d d) g) : R2W K (rIx K) (.d (.list ds)) (.d (.int i)) g P := by
  obtain ⟨n, rfl⟩ := Int.eq_ofNat_of_zero_le h0
  have h2 : n < ds.length := by omega
  exact r2_ix_list (atI_nat (List.getElem?_eq_getElem h2)) (q _ (List.getElem_mem h2))
theorem r2_ge {i j : Int} (q : P (.d (.bool (decide (j ≤ i)))) g) : R2W K (rI0 fun i j => .bl (decide (j ≤ i))) (.d (.int i)) (.d (.int j)) g P := r2_B0 (f := fun i j => decide (j ≤ i)) q
theorem r2_gt {i j : Int} (q : P (.d (.bool (decide (j < i)))) g) : R2W K (rI0 fun i j => .bl (decide (j < i))) (.d (.int i)) (.d (.int j)) g P := r2_B0 (f := fun i j => decide (j < i)) q
theorem r2_le {i j : Int} (q : P (.d (.bool (decide (i ≤ j)))) g) : R2W K (rI0 fun i j => .bl (decide (i ≤ j))) (.d (.int i)) (.d (.int j)) g P := r2_B0 (f := fun i j => decide (i ≤ j)) q
theorem r2_lt {i j : Int} (q : P (.d (.bool (decide (i < j)))) g) : R2W K (rI0 fun i j => .bl (decide (i < j))) (.d (.int i)) (.d (.int j)) g P := r2_B0 (f := fun i j => decide (i < j)) q
theorem r2_sub {i j : Int} (q : P (.d (.int (i - j))) g) : R2W K (rI0 fun i j => .int (i - j)) (.d (.int i)) (.d (.int j)) g P := r2_I0 (f := fun i j => i - j) q
theorem r2_mod {i j : Int} (c : 0 < j) (q : P (.d (.int (i % j))) g) : R2W K (rI (fun _ j => 0 < j) fun i j => .int (i % j)) (.d (.int i)) (.d (.int j)) g P := r2_I (C := fun _ j => 0 < j) (f := fun i j => i % j) c q
theorem r2_fdiv {i j : Int} (c : CDiv i j) (q : P (.d (.int (i / j))) g) : R2W K (rI CDiv fun i j => .int (i / j)) (.d (.int i)) (.d (.int j)) g P := r2_I (C := CDiv) (f := fun i j => i / j) c q
theorem r2_pow {i j : Int} (c : CPow i j) (q : P (.d (.int (i ^ j.toNat))) g) : R2W K (rI CPow fun i j => .int (i ^ j.toNat)) (.d (.int i)) (.d (.int j)) g P := r2_I (C := CPow) (f := fun i j => i ^ j.toNat) c q
theorem we_neg {te : TE} (h : WE K te ρ g fun s g1 => ∃ i, s = .d (.int i) ∧ P (.d (.int (-i))) g1) : WE K (tUn (rU fun i => .int (-i)) te) ρ g P := fun E Γ σ H Q I k => h E Γ σ H _ I fun Γ1 g1 H1 v s e1 I1 r1 ⟨i, es, q⟩ => by
  subst es
  cases da_int r1
  exact ⟨i, rfl, k Γ1 g1 H1 _ (.d (.int (-i))) e1 I1 (Da.int _) q⟩
theorem sw_cut (M : List Sl → Gh → Prop) (h : SW K t { p with nx := M } ρ g) (k : ∀ ρ g, M ρ g → SW K u p ρ g) : SW K (tSeq t u) p ρ g := fun E Γ σ H D I d => h E Γ σ H { D with nx := u D } I
  ⟨fun Γ g ρ σ H I q => k ρ g q E Γ σ H D I d, d.rt, d.bk, d.ct⟩
/-- o[i] = e, o a record, the place written -/
theorem sw_setR {te to ti : TE} (h : WE K te ρ g fun s g1 => WE K to ρ g1 fun so g2 => WE K ti ρ g2 fun si g3 => ∃ ts i, so = .t (.rcd ts) ∧ si = .d (.int i) ∧ ∃ t j, ixN ts.length i = some j ∧ ts[j]? = some t ∧ fits g3 t s ∧ p.nx ρ g3) : SW K (tAsg te (gSub to ti rSetL)) p ρ g :=
  sw_setRcd (h.imp fun s g1 q => q.imp fun so g2 q => q.imp fun si g3 ⟨ts, i, e1, e2, t, j, h1, h2, h3, h4⟩ => ⟨ts, i, j, t, e1, e2, h1, h2, h3, h4⟩)
theorem r2_ix_scrI {ns : List Int} {i : Int} (h0 : 0 ≤ i) (h1 : i < ns.length) (q : ∀ n, P (.d (.int n)) g) : R2W K (rIx K) (.s ns) (.d (.int i)) g P := by
  obtain ⟨n, rfl⟩ := Int.eq_ofNat_of_zero_le h0
  have h2 : n < ns.length := by omega
  exact r2_ix_scr (atI_nat (List.getElem?_eq_getElem h2)) (q _)
theorem cell_scr {ns : List Int} (q : P (.s ns) g) : cellP (.scr ns) g P := q
theorem cell_lst {i : Nat} {t : Ty} (q : P (.t (.lst i t)) g) : cellP (.lst i t) g P := q
theorem cell_rcd {ts : List Ty} (q : P (.t (.rcd ts)) g) : cellP (.rcd ts) g P := q
theorem cell_its {Pd : PyData → Prop} (q : ∀ ds, AllD Pd ds → ds.length ≤ g.ub → P (.d (.list ds)) g) : cellP (.its Pd) g P := q
theorem cell_dic {n : Nat} {Pd : PyData → Prop} (q : P (.t (.dic n Pd)) g) : cellP (.dic n Pd) g P := q
/-- two names at once -/
theorem sw_par {i j : Nat} {ta : TA} (hi : i < ρ.length) (hj : j < ρ.length) (h : WA K ta ρ g fun ss g1 => ∃ a b, ss = [a, b] ∧ p.nx ((ρ.set i a).set j b) g1) : SW K (tPar i j ta) p ρ g := fun E Γ σ H D I d => h E Γ σ H _ I fun Γ1 g1 H1 vs ss e1 I1 r1 ⟨a, b, es, q⟩ => by
  subst es
  obtain ⟨v, u, rfl, r1, r2⟩ := p2 r1
  exact ⟨v, u, rfl, d.nx Γ1 g1 _ _ H1 ((I1.set (SOk.of r1) r1.plain hi).set (SOk.of r2) r2.plain (by rw [List.length_set]; exact hj)) q⟩
end
end PL
set_option maxRecDepth 100000
set_option maxHeartbeats 4000000
set_option autoImplicit false
namespace PL
open PySem L2 PyProof.Rows
variable [TBs] [Nms]
section
variable {K : PySem.W.Frag} {E E' : Ent} {Γ Γ' : Gam} {g g' : Gh} {ρ : List Sl} {σ : L2.St} {H H' : Hp} {P : Sl → Gh → Prop} {ta tb tc te : TE} {tt tu : TT} {t u : TS} {p : PD} {wi : TI} {tg : TG}
/-- a new list becomes a slot's own -/
theorem EnvOk.putOwn (I1 : EnvOk K E Γ g ρ σ H) {q1 : Addr} {i : Nat} {ds : List PyData} {xs : List V} (nq : H q1 = none) (a : DaAll K (hid Γ H) xs ds) (hi : i < ρ.length) : EnvOk K E (Γ.put q1 (some (.own ds))) g (ρ.set i (.own ds)) (σ.set i (some (.ref q1))) (upd H q1 (.lst xs)) := by
  obtain ⟨f1, f2, f3⟩ := I1.fresh nq
  have I2 := I1.newown nq a
  have I3 := I2.set (s := .un) (o := some (.ref q1)) (i := i) trivial (fun ds z => by cases z) hi
  have hs : slot (σ.set i (some (.ref q1))) i = some (.ref q1) := by
    rw [slot_set (by rw [I1.len]; exact hi), if_pos rfl]
  have I4 := I3.takeOwn (i := i) (D := q1) (by rw [List.length_set]; exact hi) hs put_same f2 f3 (by
    rw [set_set]
    intro j es hj hz
    rcases set_get hj with ⟨e, e2⟩ | ⟨e, e2⟩
    · cases e2
    · rw [slot_set (by rw [I1.len]; exact hi), if_neg e] at hz
      exact I1.noOwn f1 j es e2 hz)
  rw [set_set] at I4
  exact I4
/-- x, y = [..], [..]: two own lists, x's empty -/
theorem sw_parOwn {i j : Nat} (hij : i ≠ j) (hi : i < ρ.length) (hj : j < ρ.length) (q : p.nx ((ρ.set i (.own [])).set j (.own [])) g) : SW K (tPar i j (tCons (tLst tNil) (tCons (tLst tNil) tNil))) p ρ g := fun E Γ σ H D I d => by
  refine ⟨Nat.zero_le _, fun a na => ⟨Nat.zero_le _, fun b nb => ⟨_, _, rfl, ?_⟩⟩⟩
  have I1 := I.putOwn (i := i) (ds := []) na .nil hi
  have I2 := I1.putOwn (i := j) (ds := []) nb .nil (by rw [List.length_set]; exact hj)
  exact d.nx _ g _ _ _ I2 q
/-- x = x + e, x a slot's own list -/
theorem sw_catOwn {i : Nat} {ds : List PyData} (h : ρ[i]? = some (.own ds)) (q : WE K te ρ g fun s g1 => ∃ es, s = .d (.list es) ∧ ds.length + es.length ≤ sizeLine ∧ p.nx (ρ.set i (.own (ds ++ es))) g1) : SW K (tAsg (tOp (rPlus K) (tVar i) te) (gName i)) p ρ g := fun E Γ σ H D I d => by
  obtain ⟨a, xs, h1, h2, h3, h4, h5, h6, h7⟩ := own_at I h
  refine ⟨_, h2, ?_⟩
  refine q E Γ σ H _ I fun Γ1 g1 H1 v s e1 I1 r1 ⟨es, hs, hl, q1⟩ => ?_
  subst hs
  obtain ⟨b, ys, k1, k2, k3, k4, k5, k6, k7⟩ := own_at I1 h
  rw [h1] at k1
  cases k1
  obtain ⟨l, zs, rfl, z1, z2⟩ := da_list r1
  refine .inr (.inr (.inl ⟨a, l, ys, zs, rfl, rfl, .inl k6, hid_rd z1, by rw [k7.length, z2.length]; exact hl, fun np nn => ?_⟩))
  have hi : i < ρ.length := (List.getElem?_eq_some_iff.mp h).1
  exact d.nx _ g1 _ _ _ (I1.putOwn (i := i) nn (k7.append z2) hi) q1
theorem we_len_own {i : Nat} {ds : List PyData} (h : ρ[i]? = some (.own ds)) (q : P (.d (.int ds.length)) g) : WE K (tCB (rLenK K) (tCons (tVar i) tNil)) ρ g P := fun E Γ σ H Q I k => by
  obtain ⟨a, xs, h1, h2, h3, h4, h5, h6, h7⟩ := own_at I h
  exact ⟨_, h2, _, ds.length, rfl, .inl ⟨xs, SqL.of h6, h7.length.symm⟩, k Γ g H _ (.d (.int ds.length)) (Ext.refl Γ H) I (Da.int _) q⟩
theorem we_nin_own {i : Nat} {ds : List PyData} (h : ρ[i]? = some (.own ds)) (q : WE K ta ρ g fun s g1 => ∃ d, s = .d d ∧ SeqAt.shaped d = true ∧ SeqAt.shaped (.list ds) = true ∧ P (.d (.bool (!ds.any fun z => PyData.eqv z d))) g1) : WE K (tOp (rNin K) ta (tVar i)) ρ g P := fun E Γ σ H Q I k => by
  refine q E Γ σ H _ I fun Γ1 g1 H1 v s e1 I1 r1 ⟨d, es, s1, s2, q1⟩ => ?_
  subst es
  obtain ⟨a, xs, h1, h2, h3, h4, h5, h6, h7⟩ := own_at I1 h
  refine ⟨_, h2, .inr (.inl ⟨d, ds, (Da.mono hid_sub r1).dp, .lst (.inl (.inl h6)) (h7.mono hid_sub).dp, s1, s2, ?_⟩)⟩
  exact k Γ1 g1 H1 _ (.d (.bool _)) e1 I1 (Da.bl _) q1
/-- max(xs) of ints -/
theorem rc_max {ns : List Int} (h0 : 0 < ns.length) (q : ∀ m, m ∈ ns → (∀ y, y ∈ ns → y ≤ m) → P (.d (.int m)) g) : RCW K (rMax K) [.d (.list (ns.map .int))] g P := fun E Γ ρ σ H vs Q I r k => by
  obtain ⟨v, rfl, r0⟩ := p1 r
  obtain ⟨a, xs, rfl, h1, h2⟩ := da_list r0
  have e := h2.ints
  subst e
  exact ⟨a, ns, rfl, .inl (hid_rd h1), h0, fun m hm hy => k Γ g H _ (.d (.int m)) (Ext.refl Γ H) I (Da.int _) (q m hm hy)⟩
/-- tuple(xs), xs a list -/
theorem rc_tuple_list {ds : List PyData} (q : P (.d (.tuple ds)) g) : RCW K (fun xs H Q => ∃ p ys, xs = [.ref p] ∧ ((SqL K H p ys ∧ ∀ l, H l = none → Q (.ref l) (upd H l (.tup ys))) ∨ (SqT K H p ys ∧ Q (.ref p) H))) [.d (.list ds)] g P := fun E Γ ρ σ H vs Q I r k => by
  obtain ⟨v, rfl, r0⟩ := p1 r
  obtain ⟨a, xs, rfl, h1, h2⟩ := da_list r0
  exact ⟨a, xs, rfl, .inl ⟨.inl (hid_rd h1), fun l nl => k Γ g _ _ (.d (.tuple ds)) (ext_upd nl) (I.new nl) (.tup (SqT.of (hid_new I nl)) (h2.mono (ext_upd nl).sub)) q⟩⟩
theorem r2_ix_b {a b : PyData} {c : Bool} (q0 : c = false → P (.d a) g) (q1 : c = true → P (.d b) g) : R2W K (rIx K) (.d (.list [a, b])) (.d (.int (if c = true then 1 else 0))) g P := by
  cases c with
  | true => exact r2_ix_list (d := b) rfl (q1 rfl)
  | false => exact r2_ix_list (d := a) rfl (q0 rfl)
/-- a value's truth -/
theorem wt_tru_b {P' : Bool → Gh → Prop} (h : WE K te ρ g fun s g1 => ∃ b, s = .d (.bool b) ∧ P' b g1) : WT K (tTru K te) ρ g P' := fun E Γ σ H Q I k => h E Γ σ H _ I fun Γ1 g1 H1 v s e1 I1 r1 ⟨b, es, q⟩ => by
  subst es
  cases da_bl r1
  exact ⟨b, rfl, k Γ1 g1 H1 b e1 I1 q⟩
/-- what data is by truth (texts and lists not longer than they may be) -/
def truD : PyData → Option Bool
  | .none => some false
  | .bool b => some b
  | .int i => some (i != 0)
  | .str y => some ((y.length : Int) != 0)
  | .list ds => some (!ds.isEmpty)
  | .tuple ds => some (!ds.isEmpty)
  | .dict _ => none
def smallD : PyData → Prop
  | .str y => y.length ≤ sizeLine
  | _ => True
theorem wt_tru {P' : Bool → Gh → Prop} (h : WE K te ρ g fun s g1 => ∃ d b, s = .d d ∧ truD d = some b ∧ smallD d ∧ P' b g1) : WT K (tTru K te) ρ g P' := fun E Γ σ H Q I k => h E Γ σ H _ I fun Γ1 g1 H1 v s e1 I1 r1 ⟨d, b, es, ed, hs, q⟩ => by
  subst es
  refine ⟨b, ?_, k Γ1 g1 H1 b e1 I1 q⟩
  cases d with
  | none => cases da_non r1; cases ed; rfl
  | bool c => cases da_bl r1; cases ed; rfl
  | int i => cases da_int r1; cases ed; rfl
  | str y => cases da_str r1; cases ed; exact ⟨hs, rfl⟩
  | list ds =>
    obtain ⟨a, xs, rfl, h1, h2⟩ := da_list r1
    cases ed
    refine .inl ⟨xs, .inl (hid_rd h1), ?_⟩
    cases h2 <;> rfl
  | tuple ds =>
    obtain ⟨a, xs, rfl, h1, h2⟩ := da_tup r1
    cases ed
    refine .inr (.inl ⟨xs, hid_sub.sqT h1, ?_⟩)
    cases h2 <;> rfl
  | dict _ => cases ed
/-- slices -/
def SLW (K : PySem.W.Frag) (x : Sl) (lo hi : Option Int) (g : Gh) (P : Sl → Gh → Prop) : Prop :=
  ∀ (E : Ent) (Γ : Gam) (ρ : List Sl) (σ : L2.St) (H : Hp) (v : V) (Q : VK), EnvOk K E Γ g ρ σ H → ROk K Γ H x v → (∀ Γ' g' H' w s, Ext Γ H Γ' H' → EnvOk K E Γ' g' ρ σ H' → ROk K Γ' H' s w → P s g' → Q w H') → rSli K v lo hi H Q
def WO (K : PySem.W.Frag) (to : TO) (ρ : List Sl) (g : Gh) (P : Option Int → Gh → Prop) : Prop :=
  ∀ (E : Ent) (Γ : Gam) (σ : L2.St) (H : Hp) (Q : Option Int → Hp → Prop), EnvOk K E Γ g ρ σ H → (∀ Γ' g' H' o, Ext Γ H Γ' H' → EnvOk K E Γ' g' ρ σ H' → P o g' → Q o H') → to σ H Q
theorem wo_none {P : Option Int → Gh → Prop} (q : P none g) : WO K tNoPart ρ g P := fun E Γ σ H Q I k => k Γ g H none (Ext.refl Γ H) I q
theorem wo_some {P : Option Int → Gh → Prop} (h : WE K te ρ g fun s g1 => ∃ i, s = .d (.int i) ∧ P (some i) g1) : WO K (tPart te) ρ g P := fun E Γ σ H Q I k => h E Γ σ H _ I fun Γ1 g1 H1 v s e1 I1 r1 ⟨i, es, q⟩ => by
  subst es
  exact ⟨i, da_int r1, k Γ1 g1 H1 _ e1 I1 q⟩
theorem we_slice {tl th : TO} (h : WE K te ρ g fun x g1 => WO K tl ρ g1 fun lo g2 => WO K th ρ g2 fun hi g3 => SLW K x lo hi g3 P) : WE K (tSl (rSli K) te tl th) ρ g P := fun E Γ σ H Q I k => by
  refine h E Γ σ H _ I fun Γ1 g1 H1 v x e1 I1 r1 q1 => ?_
  refine q1 E Γ1 σ H1 _ I1 fun Γ2 g2 H2 lo e2 I2 q2 => ?_
  refine q2 E Γ2 σ H2 _ I2 fun Γ3 g3 H3 hi e3 I3 q3 => ?_
  exact q3 E Γ3 ρ σ H3 v Q I3 ((r1.ext e2.toExt0).ext e3.toExt0) fun Γ4 g4 H4 w s e4 I4 r4 q4 => k Γ4 g4 H4 w s (((e1.trans e2).trans e3).trans e4) I4 r4 q4
def cutD (xs : List PyData) (lo hi : Option Int) : List PyData := (xs.drop (HT.sIx xs.length 0 lo)).take (HT.sIx xs.length xs.length hi - HT.sIx xs.length 0 lo)
theorem cut_da {H : Hp} {xs : List V} {ds : List PyData} (h : DaAll K H xs ds) (lo hi : Option Int) : DaAll K H (cutV xs lo hi) (cutD ds lo hi) := by
  unfold cutV cutD
  rw [h.length]
  exact (h.drop _).take _
theorem sl_w_list {ds : List PyData} {lo hi : Option Int} (q : P (.d (.list (cutD ds lo hi))) g) : SLW K (.d (.list ds)) lo hi g P := fun E Γ ρ σ H v Q I r k => by
  obtain ⟨a, xs, rfl, h1, h2⟩ := da_list r
  exact .inl ⟨a, xs, rfl, .inl (hid_rd h1), fun p np => k Γ g _ _ (.d (.list (cutD ds lo hi))) (ext_upd np) (I.new np) (.lst (.inl (hid_new I np)) ((cut_da h2 lo hi).mono (ext_upd np).sub)) q⟩
theorem sl_w_tup {ds : List PyData} {lo hi : Option Int} (q : P (.d (.tuple (cutD ds lo hi))) g) : SLW K (.d (.tuple ds)) lo hi g P := fun E Γ ρ σ H v Q I r k => by
  obtain ⟨a, xs, rfl, h1, h2⟩ := da_tup r
  refine .inr (.inl ⟨a, xs, rfl, hid_sub.sqT h1, fun ⟨e1, e2⟩ => ?_, fun _ p np => ?_⟩)
  · have e : cutD ds lo hi = ds := by
      unfold cutD
      rw [← h2.length, e1, e2, List.drop_zero, Nat.sub_zero, h2.length, List.take_length]
    rw [e] at q
    exact k Γ g H _ _ (Ext.refl Γ H) I r q
  · exact k Γ g _ _ (.d (.tuple (cutD ds lo hi))) (ext_upd np) (I.new np) (.tup (SqT.of (hid_new I np)) ((cut_da h2 lo hi).mono (ext_upd np).sub)) q
theorem sl_w_str {z : Str} {lo hi : Option Int} (hz : z.length ≤ sizeLine) (q : P (.d (.str (cutS z lo hi))) g) : SLW K (.d (.str z)) lo hi g P := fun E Γ ρ σ H v Q I r k => by
  cases da_str r
  exact .inr (.inr ⟨z, rfl, hz, k Γ g H _ (.d (.str (cutS z lo hi))) (Ext.refl Γ H) I (Da.str _) q⟩)
end
end PL
set_option maxRecDepth 100000
set_option maxHeartbeats 4000000
set_option autoImplicit false
namespace PL
open PySem L2 PyProof.Rows
variable [TBs] [Nms]
section
variable {K : PySem.W.Frag} {E E' : Ent} {Γ Γ' : Gam} {g g' : Gh} {ρ : List Sl} {σ : L2.St} {H H' : Hp} {P : Sl → Gh → Prop} {ta tb tc te : TE} {tt tu : TT} {t u : TS} {p : PD} {wi : TI} {tg : TG}
/-! ### more is known of the objects -/
theorem ObOk.gh {ty : GT} {o : HO} (h : ObOk K Γ g H ty o) (hub : g.ub ≤ g'.ub) (hn : ∀ i, g.kn i ≤ g'.kn i) (hl : ∀ i u xs, ty = .ty (.lst i u) → o = .lst xs → g.lb i ≤ xs.length → g'.lb i ≤ xs.length)
    (hk : ∀ i Pd (kvs : List (Key × V)), ty = .ty (.dic i Pd) → o = .dK kvs → (∀ q : Str × PyData, q ∈ g.ks i → ∃ v, valV kvs (.inr q.1) = some v ∧ Da K (hid Γ H) v q.2) → ∀ q : Str × PyData, q ∈ g'.ks i → ∃ v, valV kvs (.inr q.1) = some v ∧ Da K (hid Γ H) v q.2) (hq : ∀ i u xs, ty = .ty (.lst i u) → o = .lst xs → (∀ q : Nat × List Ty, q ∈ g.pt i → ∃ b : Addr, xs[q.1]? = some (.ref b) ∧ Γ b = some (.ty (.rcd q.2))) → ∀ q : Nat × List Ty, q ∈ g'.pt i → ∃ b : Addr, xs[q.1]? = some (.ref b) ∧ Γ b = some (.ty (.rcd q.2))) : ObOk K Γ g' H ty o := by
  cases ty with
  | own ds => exact h
  | one u => exact h
  | tab q => exact h
  | ty t =>
    cases t with
    | scr _ => exact h
    | dat _ => exact h
    | its _ => exact h
    | tpl _ => exact h
    | pr _ => exact h
    | lst i u => obtain ⟨xs, h1, h2, h3, h4, h5⟩ := h; exact ⟨xs, h1, hl i u xs rfl h1 h2, Nat.le_trans h3 hub, fun x hx => (h4 x hx).up hub, hq i u xs rfl h1 h5⟩
    | rcd ts => obtain ⟨xs, h1, h2⟩ := h; exact ⟨xs, h1, L2.Paired.mapP h2 fun _ _ q => TyOk.up hub q⟩
    | dic i Pd => obtain ⟨kvs, h1, h2, h3, h4⟩ := h; exact ⟨kvs, h1, Nat.le_trans h2 (hn i), hk i Pd kvs rfl h1 h3, h4⟩
/-- the list i has just n -/
def Gh.len (g : Gh) (i n : Nat) : Gh := { g with lb := fun j => if j = i then n else g.lb j }
/-- the dict i has these keys -/
def Gh.know (g : Gh) (i : Nat) (ns : List (Str × PyData)) : Gh := { g with ks := fun j => if j = i then ns else g.ks j }
theorem Gh.le_len {i n : Nat} (h : g.lb i ≤ n) : g.le (g.len i n) := ⟨fun j => by
  show g.lb j ≤ if j = i then n else g.lb j
  by_cases e : j = i
  · subst e
    rw [if_pos rfl]
    exact h
  · rw [if_neg e]
    exact Nat.le_refl _, Nat.le_refl _, fun _ _ h => h, fun _ _ h => h⟩
theorem Gh.le_know {i : Nat} {ns : List (Str × PyData)} (h : ∀ s, s ∈ g.ks i → s ∈ ns) : g.le (g.know i ns) := ⟨fun _ => Nat.le_refl _, Nat.le_refl _, fun j s q => by
  show s ∈ if j = i then ns else g.ks j
  by_cases e : j = i
  · subst e
    rw [if_pos rfl]
    exact h s q
  · rw [if_neg e]
    exact q, fun _ _ h => h⟩
theorem HeapOk.len (h : HeapOk K Γ g H) {a : Addr} {i : Nat} {ty : Ty} {xs : List V} (ha : Γ a = some (.ty (.lst i ty))) (ho : H a = some (.lst xs)) : HeapOk K Γ (g.len i xs.length) H where
  ob := fun b t hb => by
    obtain ⟨o, hob, q⟩ := h.ob b t hb
    refine ⟨o, hob, q.gh (Nat.le_refl _) (fun _ => Nat.le_refl _) (fun j u ys e1 e2 hl => ?_) (fun _ _ _ _ _ hk => hk) fun _ _ _ _ _ z => z⟩
    show (if j = i then xs.length else g.lb j) ≤ ys.length
    by_cases e : j = i
    · subst e
      rw [if_pos rfl]
      subst e1 e2
      have e3 := h.uq a b j ty u ha hb
      subst e3
      rw [ho] at hob
      cases hob
      exact Nat.le_refl _
    · rw [if_neg e]
      exact hl
  idl := h.idl
  idd := h.idd
  tb := h.tb
  lz := fun b hb => by
    have e : b ≠ i := fun z => by
      rw [z, h.idl a i ty ha, ho] at hb
      cases hb
    refine ⟨?_, (h.lz b hb).2⟩
    show (if b = i then xs.length else g.lb b) = 0
    rw [if_neg e]
    exact (h.lz b hb).1
theorem HeapOk.know (h : HeapOk K Γ g H) {a : Addr} {i : Nat} {Pd : PyData → Prop} {kvs : List (Key × V)} {ns : List (Str × PyData)} (ha : Γ a = some (.ty (.dic i Pd))) (ho : H a = some (.dK kvs)) (hs : ∀ q : Str × PyData, q ∈ ns → ∃ v, valV kvs (.inr q.1) = some v ∧ Da K (hid Γ H) v q.2) : HeapOk K Γ (g.know i ns) H where
  ob := fun b t hb => by
    obtain ⟨o, hob, q⟩ := h.ob b t hb
    refine ⟨o, hob, q.gh (Nat.le_refl _) (fun _ => Nat.le_refl _) (fun _ _ _ _ _ hl => hl) (fun j Pe zs e1 e2 hk s hm => ?_) fun _ _ _ _ _ z => z⟩
    have hm : s ∈ if j = i then ns else g.ks j := hm
    by_cases e : j = i
    · subst e
      rw [if_pos rfl] at hm
      subst e1 e2
      have e3 := h.ud a b j Pd Pe ha hb
      subst e3
      rw [ho] at hob
      cases hob
      exact hs s hm
    · rw [if_neg e] at hm
      exact hk s hm
  idl := h.idl
  idd := h.idd
  tb := h.tb
  lz := fun b hb => by
    have e : b ≠ i := fun z => by
      rw [z, h.idd a i Pd ha, ho] at hb
      cases hb
    refine ⟨(h.lz b hb).1, ?_, (h.lz b hb).2.2⟩
    show (if b = i then ns else g.ks b) = []
    rw [if_neg e]
    exact (h.lz b hb).2.1

/-! ### tuples that hold typed objects -/
theorem fits_all : ∀ {tys : List Ty} {ss : List Sl} {vs : List V} {Γ : Gam} {H : Hp}, Paired (fun t s => fits Gh.zero t s) tys ss → Paired (ROk K Γ H) ss vs → Paired (TyOk K Γ Gh.zero H) tys vs
  | _, _, _, _, _, .nil, .nil => .nil
  | _, _, _, _, _, .cons f t, .cons r q => .cons (fits_ok f r) (fits_all t q)
theorem we_tupT {ts : TA} (tys : List Ty) (h : WA K ts ρ g fun ss g1 => ss.length ≤ sizeLine ∧ Paired (fun t s => fits Gh.zero t s) tys ss ∧ P (.t (.tpl tys)) g1) : WE K (tTup ts) ρ g P := fun E Γ σ H Q I k => h E Γ σ H _ I fun Γ1 g1 H1 vs ss e1 I1 r1 ⟨hl, hf, q⟩ => by
  have a := fits_all hf r1
  refine ⟨by rw [← Paired.length r1]; exact hl, fun p np => ?_⟩
  exact k Γ1 g1 _ _ (.t (.tpl tys)) (e1.trans (ext_upd np)) (I1.new np) ⟨p, vs, rfl, SqT.of (hid_new I1 np), L2.Paired.mapP a fun _ _ q => TyOk.ext (ext_upd np).toExt0 q⟩ q
theorem r2_ix_tpl {ts : List Ty} {i : Int} {ty : Ty} (a : atI ts i = some ty) (q : cellP ty g P) : R2W K (rIx K) (.t (.tpl ts)) (.d (.int i)) g P := R2W.r (R2W.l fun E Γ ρ σ H v u Q I r1 r2 k => by
  obtain ⟨l, xs, rfl, h1, hp⟩ := r1
  cases da_int r2
  have hx : ∃ x, atI xs i = some x ∧ TyOk K Γ Gh.zero H ty x := by
    unfold atI at a ⊢
    rw [← Paired.length hp]
    cases e : ixN ts.length i with
    | none =>
      rw [e] at a
      cases a
    | some j =>
      rw [e] at a
      exact Paired.at hp a
  obtain ⟨x, hx1, hx2⟩ := hx
  obtain ⟨s, hs1, hs2⟩ := cell_at (hx2.up (Nat.zero_le _)) q
  exact ⟨l, xs, i, x, rfl, rfl, hid_sub.sqT h1, hx1, k Γ g H x s (Ext.refl Γ H) I hs1 hs2⟩)

/-! ### dicts -/
theorem dic_at {v : V} {i : Nat} {Pd : PyData → Prop} (I : EnvOk K E Γ g ρ σ H) (r : ROk K Γ H (.t (.dic i Pd)) v) : ∃ a, ∃ kvs : List (Key × V), v = .ref a ∧ Γ a = some (.ty (.dic i Pd)) ∧ H a = some (.dK kvs) ∧ kvs.length ≤ g.kn i ∧ (∀ q : Str × PyData, q ∈ g.ks i → ∃ v, valV kvs (.inr q.1) = some v ∧ Da K (hid Γ H) v q.2) ∧ ∀ kv, kv ∈ kvs → (∃ s : Str, kv.1 = .inr s ∧ NmOk s) ∧ ∃ d, Da K (hid Γ H) kv.2 d ∧ Pd d := by
  obtain ⟨a, rfl, h1⟩ := r
  obtain ⟨o, ho, kvs, rfl, h2, h3, h4⟩ := I.hp.ob a _ h1
  exact ⟨a, kvs, rfl, h1, ho, h2, h3, h4⟩
theorem val_mem {kvs : List (Key × V)} {k : Key} {v : V} (h : valV kvs k = some v) : ∃ kv, kv ∈ kvs ∧ kv.1 = k ∧ kv.2 = v := by
  unfold valV at h
  cases e : kvs.find? fun kv => decide (kv.1 = k) with
  | none =>
    rw [e] at h
    cases h
  | some kv =>
    rw [e] at h
    have e2 := List.find?_some (p := fun kv : Key × V => decide (kv.1 = k)) e
    exact ⟨kv, List.mem_of_find?_eq_some e, of_decide_eq_true e2, Option.some.inj h⟩
theorem val_of_mem {kvs : List (Key × V)} {k : Key} (h : k ∈ kvs.map (·.1)) : (valV kvs k).isSome = true := by
  obtain ⟨kv, h1, h2⟩ := List.mem_map.mp h
  rw [← valV_any, List.any_eq_true]
  exact ⟨kv, h1, decide_eq_true h2⟩
/-- d[k], the key surely there -/
theorem we_dget {td ty : TE} (h : WE K td ρ g fun sd g1 => WE K ty ρ g1 fun sk g2 => ∃ i Pd s d, sd = .t (.dic i Pd) ∧ sk = .d (.str s) ∧ (s, d) ∈ g2.ks i ∧ P (.d d) g2) : WE K (tDGet td ty) ρ g P := fun E Γ σ H Q I k => by
  refine h E Γ σ H _ I fun Γ1 g1 H1 v sd e1 I1 r1 q1 => ?_
  refine q1 E Γ1 σ H1 _ I1 fun Γ2 g2 H2 w sk e2 I2 r2 ⟨i, Pd, s, d, ed, ek, hs, q⟩ => ?_
  subst ed ek
  obtain ⟨a, kvs, rfl, h1, h2, h3, h4, h5⟩ := dic_at I2 (r1.ext e2.toExt0)
  cases da_str r2
  obtain ⟨x, hx, d1⟩ := h4 (s, d) hs
  exact ⟨a, x, rfl, .inl ⟨kvs, .inr s, .inl h2, rfl, hx.symm⟩, k Γ2 g2 H2 x (.d d) (e1.trans e2) I2 d1 q⟩
/-- k in d -/
theorem wt_din {td ty : TE} {P' : Bool → Gh → Prop} (h : WE K ty ρ g fun sk g1 => WE K td ρ g1 fun sd g2 => ∃ i Pd s, sd = .t (.dic i Pd) ∧ sk = .d (.str s) ∧ (∀ d, Pd d → P' true (g2.know i ((s, d) :: g2.ks i))) ∧ P' false g2) : WT K (tB (tDIn ty td)) ρ g P' := fun E Γ σ H Q I k => by
  refine h E Γ σ H _ I fun Γ1 g1 H1 v sk e1 I1 r1 q1 => ?_
  refine q1 E Γ1 σ H1 _ I1 fun Γ2 g2 H2 w sd e2 I2 r2 ⟨i, Pd, s, ed, ek, qt, qf⟩ => ?_
  subst ed ek
  obtain ⟨a, kvs, rfl, h1, h2, h3, h4, h5⟩ := dic_at I2 r2
  cases da_str r1
  refine ⟨a, valV kvs (.inr s), rfl, .inl ⟨kvs, .inr s, .inl h2, rfl, rfl⟩, _, rfl, ?_⟩
  cases e : valV kvs (.inr s) with
  | some x =>
    obtain ⟨kv, m1, m2, m3⟩ := val_mem e
    obtain ⟨_, d, d1, d2⟩ := h5 kv m1
    rw [m3] at d1
    have hh : HeapOk K Γ2 (g2.know i ((s, d) :: g2.ks i)) H2 := I2.hp.know h1 h2 fun z hz => by
      rcases List.mem_cons.mp hz with rfl | hz
      · exact ⟨x, e, d1⟩
      · exact h4 z hz
    exact k Γ2 _ H2 true (e1.trans e2) (I2.ext (Ext.refl Γ2 H2) hh (Gh.le_know fun z hz => List.mem_cons_of_mem _ hz)) (qt d d2)
  | none => exact k Γ2 g2 H2 false (e1.trans e2) I2 qf
/-- sorted of a dict's keys, of a list of texts -/
def rSrt (K : PySem.W.Frag) : List V → Hp → VK → Prop := fun xs H Q => rSortedS K xs H Q ∨ ∃ (a : Addr) (kvs : List (Key × V)) (ks : List Str), xs = [.ref a] ∧ Rd H a (.dK kvs) ∧ kvs.map (·.1) = ks.map Sum.inr ∧ ks.length < 64 ∧
    ∀ ys p, ys.Perm ks → sortedS ys = true → H p = none → Q (.ref p) (upd H p (.lst (ys.map V.str)))
theorem cr_srt {X : Cx} (hc : X.calm = true) : CallR X (.builtin "sorted") (rSrt X.K) := cr_sortedS.or (call_sortedD hc)
theorem keys_strs : ∀ {kvs : List (Key × V)}, (∀ kv, kv ∈ kvs → ∃ s : Str, kv.1 = .inr s ∧ NmOk s) → ∃ ks : List Str, kvs.map (·.1) = ks.map Sum.inr ∧ ∀ s, s ∈ ks → NmOk s
  | [], _ => ⟨[], rfl, fun _ h => by cases h⟩
  | kv :: r, h => by
    obtain ⟨s, e, hs⟩ := h kv List.mem_cons_self
    obtain ⟨ks, e2, h2⟩ := keys_strs fun kv hk => h kv (List.mem_cons_of_mem _ hk)
    exact ⟨s :: ks, by rw [List.map_cons, List.map_cons, e, e2], fun z hz => (List.mem_cons.mp hz).elim (fun e => e ▸ hs) (h2 z)⟩
theorem pairs_of {Pd : PyData → Prop} {kvs : List (Key × V)} {H : Hp} (h5 : ∀ kv, kv ∈ kvs → (∃ s : Str, kv.1 = .inr s ∧ NmOk s) ∧ ∃ d, Da K H kv.2 d ∧ Pd d) : ∀ ns : List Str, (∀ s, s ∈ ns → (valV kvs (.inr s)).isSome = true) →
    ∃ kv : List (Str × PyData), (∀ q, q ∈ kv → ∃ v, valV kvs (.inr q.1) = some v ∧ Da K H v q.2) ∧ ∀ s, s ∈ ns → ∃ d, (s, d) ∈ kv ∧ Pd d
  | [], _ => ⟨[], fun _ h => absurd h List.not_mem_nil, fun _ h => absurd h List.not_mem_nil⟩
  | s :: ns, h => by
    obtain ⟨kv, a1, a2⟩ := pairs_of h5 ns fun z hz => h z (List.mem_cons_of_mem _ hz)
    obtain ⟨x, hx⟩ := Option.isSome_iff_exists.mp (h s List.mem_cons_self)
    obtain ⟨p, m1, m2, m3⟩ := val_mem hx
    obtain ⟨_, d, d1, d2⟩ := h5 p m1
    rw [m3] at d1
    refine ⟨(s, d) :: kv, fun q hq => ?_, fun z hz => ?_⟩
    · rcases List.mem_cons.mp hq with rfl | hq
      · exact ⟨x, hx, d1⟩
      · exact a1 q hq
    · rcases List.mem_cons.mp hz with rfl | hz
      · exact ⟨d, List.mem_cons_self, d2⟩
      · obtain ⟨d', b1, b2⟩ := a2 z hz
        exact ⟨d', List.mem_cons_of_mem _ b1, b2⟩
theorem rc_sorted_dic {i : Nat} {Pd : PyData → Prop} (hn : g.kn i < 64) (q : ∀ (ns : List Str) (kv : List (Str × PyData)), (∀ s, s ∈ ns → NmOk s) → ns.length ≤ g.kn i → (∀ s, s ∈ ns → ∃ d, (s, d) ∈ kv ∧ Pd d) → (∀ z, z ∈ g.ks i → z ∈ kv) → (∀ z : Str × PyData, z ∈ g.ks i → z.1 ∈ ns) → P (.d (.list (ns.map .str))) (g.know i kv)) : RCW K (rSrt K) [.t (.dic i Pd)] g P := fun E Γ ρ σ H vs Q I r k => by
  obtain ⟨v, rfl, r0⟩ := p1 r
  obtain ⟨a, kvs, rfl, h1, h2, h3, h4, h5⟩ := dic_at I r0
  obtain ⟨ks, e1, e2⟩ := keys_strs fun kv hk => (h5 kv hk).1
  have hl : ks.length = kvs.length := by
    have := congrArg List.length e1
    rw [List.length_map, List.length_map] at this
    exact this.symm
  refine .inr ⟨a, kvs, ks, rfl, .inl h2, e1, by omega, fun ys p pm _ np => ?_⟩
  have hkey : ∀ s : Str, s ∈ ks ↔ Sum.inr s ∈ kvs.map (·.1) := fun s => by
    rw [e1]
    constructor
    · intro h
      exact List.mem_map.mpr ⟨s, h, rfl⟩
    · intro h
      obtain ⟨z, z1, z2⟩ := List.mem_map.mp h
      cases z2
      exact z1
  have hsome : ∀ s, s ∈ ys → (valV kvs (.inr s)).isSome = true := fun s hs => val_of_mem ((hkey s).mp (pm.mem_iff.mp hs))
  obtain ⟨kv, a1, a2⟩ := pairs_of h5 ys hsome
  have hin : ∀ z : Str × PyData, z ∈ g.ks i → z.1 ∈ ys := fun z hz => by
    obtain ⟨x, hx, _⟩ := h4 z hz
    obtain ⟨p, m1, m2, m3⟩ := val_mem hx
    exact pm.mem_iff.mpr ((hkey z.1).mpr (List.mem_map.mpr ⟨p, m1, m2⟩))
  have I1 : EnvOk K E Γ (g.know i (kv ++ g.ks i)) ρ σ H := I.ext (Ext.refl Γ H) (I.hp.know h1 h2 fun z hz => (List.mem_append.mp hz).elim (a1 z) (h4 z)) (Gh.le_know fun z hz => List.mem_append_right _ hz)
  exact k Γ _ _ _ (.d (.list (ys.map .str))) (ext_upd np) (I1.new np) (.lst (.inl (hid_new I1 np)) (daAll_strs ys)) (q ys (kv ++ g.ks i) (fun s hs => e2 s (pm.mem_iff.mp hs)) (by rw [pm.length_eq]; omega) (fun s hs => let ⟨d, b1, b2⟩ := a2 s hs; ⟨d, List.mem_append_left _ b1, b2⟩) (fun z hz => List.mem_append_right _ hz) hin)
theorem rc_sorted_list {ns : List Str} (h : ns.length < 64) (q : ∀ ys : List Str, ys.Perm ns → sortedS ys = true → P (.d (.list (ys.map .str))) g) : RCW K (rSrt K) [.d (.list (ns.map .str))] g P := fun E Γ ρ σ H vs Q I r k => by
  obtain ⟨v, rfl, r0⟩ := p1 r
  obtain ⟨a, xs, rfl, h1, h2⟩ := da_list r0
  have e := h2.strs
  subst e
  exact .inl ⟨a, ns, rfl, .inl (hid_rd h1), h, fun ys p pm hs np => k Γ g _ _ (.d (.list (ys.map .str))) (ext_upd np) (I.new np) (.lst (.inl (hid_new I np)) (daAll_strs ys)) (q ys pm hs)⟩

/-! ### typed lists -/
/-- element k of the list i is a row of these -/
def Gh.mark (g : Gh) (i k : Nat) (ts : List Ty) : Gh := { g with pt := fun j => if j = i then (k, ts) :: g.pt i else g.pt j }
theorem Gh.le_mark (g : Gh) (i k : Nat) (ts : List Ty) : g.le (g.mark i k ts) := ⟨fun _ => Nat.le_refl _, Nat.le_refl _, fun _ _ h => h, fun j s q => by
  show s ∈ if j = i then (k, ts) :: g.pt i else g.pt j
  by_cases e : j = i
  · subst e
    rw [if_pos rfl]
    exact List.mem_cons_of_mem _ q
  · rw [if_neg e]
    exact q⟩
theorem HeapOk.mark (h : HeapOk K Γ g H) {a b : Addr} {i k : Nat} {ty : Ty} {xs : List V} {ts : List Ty} (ha : Γ a = some (.ty (.lst i ty))) (ho : H a = some (.lst xs)) (hk : xs[k]? = some (.ref b)) (hb : Γ b = some (.ty (.rcd ts))) : HeapOk K Γ (g.mark i k ts) H where
  ob := fun c t hc => by
    obtain ⟨o, hob, q⟩ := h.ob c t hc
    refine ⟨o, hob, q.gh (Nat.le_refl _) (fun _ => Nat.le_refl _) (fun _ _ _ _ _ z => z) (fun _ _ _ _ _ z => z) fun j u ys e1 e2 hl s hs => ?_⟩
    have hs : s ∈ if j = i then (k, ts) :: g.pt i else g.pt j := hs
    by_cases e : j = i
    · subst e
      rw [if_pos rfl] at hs
      subst e1 e2
      have e3 := h.uq a c j ty u ha hc
      subst e3
      rw [ho] at hob
      cases hob
      rcases List.mem_cons.mp hs with rfl | hs
      · exact ⟨b, hk, hb⟩
      · exact hl s hs
    · rw [if_neg e] at hs
      exact hl s hs
  idl := h.idl
  idd := h.idd
  tb := h.tb
  lz := fun c hc => by
    have e : c ≠ i := fun z => by
      rw [z, h.idl a i ty ha, ho] at hc
      cases hc
    refine ⟨(h.lz c hc).1, (h.lz c hc).2.1, (h.lz c hc).2.2.1, ?_⟩
    show (if c = i then (k, ts) :: g.pt i else g.pt c) = []
    rw [if_neg e]
    exact (h.lz c hc).2.2.2
theorem lst_at {v : V} {i : Nat} {ty : Ty} (I : EnvOk K E Γ g ρ σ H) (r : ROk K Γ H (.t (.lst i ty)) v) : ∃ a xs, v = .ref a ∧ Γ a = some (.ty (.lst i ty)) ∧ H a = some (.lst xs) ∧ g.lb i ≤ xs.length ∧ xs.length ≤ g.ub ∧ ∀ x, x ∈ xs → TyOk K Γ g H ty x := by
  obtain ⟨a, rfl, h1⟩ := r
  obtain ⟨o, ho, xs, rfl, h2, h3, h4, h5⟩ := I.hp.ob a _ h1
  exact ⟨a, xs, rfl, h1, ho, h2, h3, h4⟩
theorem lst_at' {v : V} {i : Nat} {ty : Ty} (I : EnvOk K E Γ g ρ σ H) (r : ROk K Γ H (.t (.lst i ty)) v) : ∃ a xs, v = .ref a ∧ Γ a = some (.ty (.lst i ty)) ∧ H a = some (.lst xs) ∧ g.lb i ≤ xs.length ∧ xs.length ≤ g.ub ∧ (∀ x, x ∈ xs → TyOk K Γ g H ty x) ∧ ∀ q : Nat × List Ty, q ∈ g.pt i → ∃ b : Addr, xs[q.1]? = some (.ref b) ∧ Γ b = some (.ty (.rcd q.2)) := by
  obtain ⟨a, rfl, h1⟩ := r
  obtain ⟨o, ho, xs, rfl, h2, h3, h4, h5⟩ := I.hp.ob a _ h1
  exact ⟨a, xs, rfl, h1, ho, h2, h3, h4, h5⟩
/-- list[j], of pairs, marked -/
theorem r2_ix_mk {i : Nat} {F : Nat → Nat → List Ty} {n : Nat} (hj : n < g.lb i) (q : ∀ c d, P (.t (.rcd (F c d))) (g.mark i n (F c d))) : R2W K (rIx K) (.t (.lst i (.pr F))) (.d (.int (n : Int))) g P := R2W.l fun E Γ ρ σ H v u Q I r1 r2 k => by
  obtain ⟨a, xs, rfl, h1, h2, h3, h4, h5⟩ := lst_at I r1
  cases da_int r2
  have hn : n < xs.length := by omega
  obtain ⟨c, d, b, e1, e2⟩ := h5 _ (List.getElem_mem hn)
  have e3 : xs[n]? = some (.ref b) := by rw [List.getElem?_eq_getElem hn, e1]
  exact ⟨a, xs, n, xs[n], rfl, rfl, .inl (.inl h2), atI_nat (List.getElem?_eq_getElem hn), k Γ _ H _ (.t (.rcd (F c d))) (Ext.refl Γ H) (I.ext (Ext.refl Γ H) (I.hp.mark h1 h2 e3 e2) (Gh.le_mark g i n _)) ⟨b, e1, e2⟩ (q c d)⟩
/-- list[j], j marked -/
theorem r2_ix_pt {i : Nat} {ty : Ty} {n : Nat} {ts : List Ty} (hj : (n, ts) ∈ g.pt i) (q : P (.t (.rcd ts)) g) : R2W K (rIx K) (.t (.lst i ty)) (.d (.int (n : Int))) g P := R2W.l fun E Γ ρ σ H v u Q I r1 r2 k => by
  obtain ⟨a, xs, rfl, h1, h2, h3, h4, h5, h6⟩ := lst_at' I r1
  cases da_int r2
  obtain ⟨b, e1, e2⟩ := h6 _ hj
  exact ⟨a, xs, n, .ref b, rfl, rfl, .inl (.inl h2), atI_nat e1, k Γ g H _ (.t (.rcd ts)) (Ext.refl Γ H) I ⟨b, rfl, e2⟩ q⟩
theorem rc_len_lst {i : Nat} {ty : Ty} (q : ∀ n : Nat, g.lb i ≤ n → n ≤ g.ub → P (.d (.int n)) (g.len i n)) : RCW K (rLenK K) [.t (.lst i ty)] g P := fun E Γ ρ σ H vs Q I r k => by
  obtain ⟨v, rfl, r0⟩ := p1 r
  obtain ⟨a, xs, rfl, h1, h2, h3, h4, h5⟩ := lst_at I r0
  refine ⟨_, xs.length, rfl, .inl ⟨xs, SqL.of h2, rfl⟩, ?_⟩
  exact k Γ _ H _ (.d (.int xs.length)) (Ext.refl Γ H) (I.ext (Ext.refl Γ H) (I.hp.len h1 h2) (Gh.le_len h3)) (Da.int _) (q xs.length h3 h4)
theorem r2_ix_lst {i : Nat} {ty : Ty} {j : Int} (h0 : 0 ≤ j) (hj : j < g.lb i) (q : cellP ty g P) : R2W K (rIx K) (.t (.lst i ty)) (.d (.int j)) g P := R2W.l fun E Γ ρ σ H v u Q I r1 r2 k => by
  obtain ⟨a, xs, rfl, h1, h2, h3, h4, h5⟩ := lst_at I r1
  cases da_int r2
  obtain ⟨n, rfl⟩ := Int.eq_ofNat_of_zero_le h0
  have hn : n < xs.length := by omega
  obtain ⟨s, s1, s2⟩ := cell_at (h5 _ (List.getElem_mem hn)) q
  exact ⟨a, xs, n, xs[n], rfl, rfl, .inl (.inl h2), atI_nat (List.getElem?_eq_getElem hn), k Γ g H _ s (Ext.refl Γ H) I s1 s2⟩
/-- one more in the list i -/
def Gh.push (g : Gh) (i : Nat) : Gh := { g with lb := fun j => if j = i then g.lb i + 1 else g.lb j, ub := g.ub + 1 }
theorem Gh.le_push (g : Gh) (i : Nat) : g.le (g.push i) := ⟨fun j => by
  show g.lb j ≤ if j = i then g.lb i + 1 else g.lb j
  by_cases e : j = i
  · subst e
    rw [if_pos rfl]
    omega
  · rw [if_neg e]
    exact Nat.le_refl _, Nat.le_succ _, fun _ _ h => h, fun _ _ h => h⟩
theorem get_app {α : Type} {xs ys : List α} {k : Nat} {x : α} (h : xs[k]? = some x) : (xs ++ ys)[k]? = some x := by
  rw [List.getElem?_append_left (List.getElem?_eq_some_iff.mp h).1]
  exact h
theorem sw_appendT {to : TE} (h : WE K to ρ g fun so g1 => ∃ i ty, so = .t (.lst i ty) ∧ WE K te ρ g1 fun s g2 => fits g2 ty s ∧ g2.ub < sizeLine ∧ p.nx ρ (g2.push i)) : SW K (tDrop (tBM K "list" rAppend to (tCons te tNil))) p ρ g := fun E Γ σ H D I d => by
  refine h E Γ σ H _ I fun Γ1 g1 H1 v so e1 I1 r1 ⟨i, ty, es, q1⟩ => ?_
  subst es
  obtain ⟨a0, xs0, rfl, k1, k2, _⟩ := lst_at I1 r1
  refine ⟨.inl ⟨rfl, xs0, SqL.of k2⟩, ?_⟩
  refine q1 E Γ1 σ H1 _ I1 fun Γ2 g2 H2 w s e2 I2 r2 ⟨hf, hu, q⟩ => ?_
  obtain ⟨a, xs, ea, h1, h2, h3, h4, h5, h6⟩ := lst_at' I2 (r1.ext e2.toExt0)
  cases ea
  refine ⟨a0, xs, w, rfl, rfl, h2, by omega, ?_⟩
  have hw : TyOk K Γ2 g2 H2 ty w := fits_ok hf r2
  have hh : HeapOk K Γ2 (g2.push i) (upd H2 a0 (.lst (xs ++ [w]))) := I2.hp.put h1 ⟨_, rfl, by
      show (if i = i then g2.lb i + 1 else g2.lb i) ≤ _
      rw [if_pos rfl, List.length_append, List.length_singleton]
      omega, by
      show _ ≤ g2.ub + 1
      rw [List.length_append, List.length_singleton]
      omega, fun x hx => by
      rcases List.mem_append.mp hx with z | z
      · exact (h5 x z).up (Nat.le_succ _)
      · rw [List.mem_singleton.mp z]
        exact hw.up (Nat.le_succ _), fun q hq => let ⟨b, b1, b2⟩ := h6 q hq; ⟨b, get_app b1, b2⟩⟩ (fun b t u hb hΓ ho => ho.gh (Nat.le_succ _) (fun _ => Nat.le_refl _) (fun j ty2 ys e3 e4 hl => by
      show (if j = i then g2.lb i + 1 else g2.lb j) ≤ _
      by_cases e : j = i
      · subst e e3
        exact absurd (I2.hp.uq b a0 j ty2 ty hΓ h1) hb
      · rw [if_neg e]
        exact hl) (fun _ _ _ _ _ hk => hk) (fun _ _ _ _ _ z => z)) (fun b hb => by
      have e : b ≠ i := fun z => by
        rw [z, I2.hp.idl _ _ _ h1, h2] at hb
        cases hb
      refine ⟨?_, (I2.hp.lz b hb).2⟩
      show (if b = i then g2.lb i + 1 else g2.lb b) = 0
      rw [if_neg e]
      exact (I2.hp.lz b hb).1)
  exact d.nx Γ2 _ ρ σ _ (I2.ext (ext_put h1) hh (Gh.le_push g2 i)) q
/-- a new list of fixed places, typed -/
theorem ext_newT {D : Addr} {ty : Ty} {u : HO} (hp : H D = none) (hg : Γ D = none) : Ext Γ H (Γ.put D (some (.ty ty))) (upd H D u) := .of (fun a x h k => by
    have e : a ≠ D := ne_of_none k hp
    exact ⟨by rw [put_ne e]; exact h, by rw [upd_ne e]; exact k⟩) fun a t h => by
    have e : a ≠ D := fun z => by
      subst z
      rw [hg] at h
      cases h
    rw [put_ne e]
    exact h
theorem HeapOk.newT (h : HeapOk K Γ g H) {D : Addr} {tys : List Ty} {xs : List V} (hp : H D = none) (hx : Paired (TyOk K Γ g H) tys xs) : HeapOk K (Γ.put D (some (.ty (.rcd tys)))) g (upd H D (.lst xs)) where
  ob := fun a t ha => by
    have hg := h.free hp
    by_cases e : a = D
    · subst e
      rw [put_same] at ha
      cases ha
      exact ⟨_, upd_same, xs, rfl, L2.Paired.mapP hx fun _ _ q => TyOk.ext (ext_newT hp hg).toExt0 q⟩
    · rw [put_ne e] at ha
      obtain ⟨o, ho, q⟩ := h.ob a t ha
      exact ⟨o, by rw [upd_ne e]; exact ho, q.ext (ext_newT hp hg).toExt0⟩
  idl := fun a i t ha => by
    have ea : a ≠ D := fun z => by
      subst z
      rw [put_same] at ha
      cases ha
    rw [put_ne ea] at ha
    exact h.idl a i t ha
  idd := fun a i t ha => by
    have ea : a ≠ D := fun z => by
      subst z
      rw [put_same] at ha
      cases ha
    rw [put_ne ea] at ha
    exact h.idd a i t ha
  tb := fun p hq => by
    have e : p.1 ≠ D := fun z => by
      have q := h.tb p hq
      rw [z, h.free hp] at q
      cases q
    rw [put_ne e]
    exact h.tb p hq
  lz := fun a ha => h.lz a (upd_none ha)
theorem fits_allG : ∀ {tys : List Ty} {ss : List Sl} {vs : List V} {Γ : Gam} {g : Gh} {H : Hp}, Paired (fits g) tys ss → Paired (ROk K Γ H) ss vs → Paired (TyOk K Γ g H) tys vs
  | _, _, _, _, _, _, .nil, .nil => .nil
  | _, _, _, _, _, _, .cons f t, .cons r q => .cons (fits_ok f r) (fits_allG t q)
theorem we_lstT {ts : TA} (tys : List Ty) (h : WA K ts ρ g fun ss g1 => ss.length ≤ sizeLine ∧ Paired (fits g1) tys ss ∧ P (.t (.rcd tys)) g1) : WE K (tLst ts) ρ g P := fun E Γ σ H Q I k => h E Γ σ H _ I fun Γ1 g1 H1 vs ss e1 I1 r1 ⟨hl, hf, q⟩ => by
  have a := fits_allG hf r1
  refine ⟨by rw [← Paired.length r1]; exact hl, fun p np => ?_⟩
  have hg := I1.hp.free np
  have en : Ext Γ1 H1 (Γ1.put p (some (.ty (.rcd tys)))) (upd H1 p (.lst vs)) := ext_newT np hg
  exact k _ g1 _ _ (.t (.rcd tys)) (e1.trans en) (I1.ext en (I1.hp.newT np a) (Gh.le_refl g1)) ⟨p, rfl, put_same⟩ q
end
end PL
set_option maxRecDepth 100000
set_option maxHeartbeats 4000000
set_option autoImplicit false
namespace PL
open PySem L2 PyProof.Rows
variable [TBs] [Nms]
/-! ### flat data: by equality itself -/
def isStrD : PyData → Bool
  | .str _ => true
  | _ => false
section
variable {K : PySem.W.Frag} {E E' : Ent} {Γ Γ' : Gam} {g g' : Gh} {ρ : List Sl} {σ : L2.St} {H H' : Hp} {P : Sl → Gh → Prop} {ta tb tc te : TE} {tt tu : TT} {t u : TS} {p : PD} {wi : TI} {tg : TG}
theorem flat_map_str : ∀ ns : List Str, (ns.map V.str).all flatV = true
  | [] => rfl
  | n :: ns => by
    rw [List.map_cons, List.all_cons, flat_map_str ns]
    rfl
theorem inV_strs (x : Str) : ∀ ns : List Str, inV (.str x) (ns.map V.str) = decide (x ∈ ns)
  | [] => by simp [inV]
  | n :: ns => by
    have ih := inV_strs x ns
    unfold inV at ih ⊢
    rw [List.map_cons, List.any_cons, ih]
    show (n == x || decide (x ∈ ns)) = decide (x ∈ n :: ns)
    by_cases h : x = n
    · subst h
      simp
    · have h' : ¬ n = x := fun z => h z.symm
      simp [h, h']
theorem strs_of {ds : List PyData} (h : AllD (fun d => ∃ x : Str, d = .str x) ds) : ∃ ns : List Str, ds = ns.map .str := by
  induction ds with
  | nil => exact ⟨[], rfl⟩
  | cons d ds ih =>
    obtain ⟨x, rfl⟩ := h d List.mem_cons_self
    obtain ⟨ns, rfl⟩ := ih fun y hy => h y (List.mem_cons_of_mem _ hy)
    exact ⟨x :: ns, rfl⟩
/-- x in a list of texts -/
theorem r2_in_strs {x : Str} {ns : List Str} (q : P (.d (.bool (decide (x ∈ ns)))) g) : R2W K (rInn K) (.d (.str x)) (.d (.list (ns.map .str))) g P := R2W.l (r2_val q fun Γ H v u r1 r2 => by
  cases da_str r1
  obtain ⟨a, xs, rfl, h1, h2⟩ := da_list r2
  have e := h2.strs
  subst e
  refine ⟨_, Da.bl _, fun Q h => ⟨a, _, rfl, .inl (.inl (hid_rd h1)), rfl, flat_map_str ns, ?_⟩⟩
  rw [if_neg Bool.false_ne_true, inV_strs]
  exact h)
theorem r2_nin_strs {x : Str} {ns : List Str} (q : P (.d (.bool (!decide (x ∈ ns)))) g) : R2W K (rNin K) (.d (.str x)) (.d (.list (ns.map .str))) g P := R2W.l (r2_val q fun Γ H v u r1 r2 => by
  cases da_str r1
  obtain ⟨a, xs, rfl, h1, h2⟩ := da_list r2
  have e := h2.strs
  subst e
  refine ⟨_, Da.bl _, fun Q h => ⟨a, _, rfl, .inl (.inl (hid_rd h1)), rfl, flat_map_str ns, ?_⟩⟩
  rw [if_pos rfl, inV_strs]
  exact h)
theorem r2_ix_strs {ns : List Str} {r : Int} (h0 : 0 ≤ r) (h1 : r < ((ns.map PyData.str).length : Nat)) (q : ∀ x, x ∈ ns → P (.d (.str x)) g) : R2W K (rIx K) (.d (.list (ns.map .str))) (.d (.int r)) g P := r2_ix_mem h0 h1 fun d hd => by
  obtain ⟨x, hx, rfl⟩ := List.mem_map.mp hd
  exact q x hx
/-- xs == [] -/
theorem eqv_nil (ds : List PyData) : PyData.eqv (.list ds) (.list []) = ds.isEmpty := by
  cases ds <;> simp [PyData.eqv, PyData.eqvAll]
theorem r2_eq_nil {ds : List PyData} (s : SeqAt.shaped (.list ds) = true) (q : P (.d (.bool ds.isEmpty)) g) : R2W K (rEqu K) (.d (.list ds)) (.d (.list [])) g P := by
  refine r2_eq_data s (by decide +kernel) ?_
  rw [eqv_nil]
  exact q
theorem r2_ne_nil {ds : List PyData} (s : SeqAt.shaped (.list ds) = true) (q : P (.d (.bool (!ds.isEmpty))) g) : R2W K (rNeq K) (.d (.list ds)) (.d (.list [])) g P := by
  refine r2_ne_data s (by decide +kernel) ?_
  rw [eqv_nil]
  exact q
/-- xs.index(x), x in the list of texts -/
theorem idx_first {x : Str} : ∀ {ns : List Str}, x ∈ ns → ∃ j : Nat, ns[j]? = some x ∧ ∀ (m : Nat) (z : Str), m < j → ns[m]? = some z → z ≠ x
  | n :: ns, h => by
    by_cases e : n = x
    · subst e
      exact ⟨0, rfl, fun m z hm => absurd hm (Nat.not_lt_zero _)⟩
    · obtain ⟨j, h1, h2⟩ := idx_first (ns := ns) ((List.mem_cons.mp h).resolve_left fun z => e z.symm)
      refine ⟨j + 1, h1, fun m z hm hz => ?_⟩
      cases m with
      | zero =>
        have e2 := Option.some.inj hz
        rw [← e2]
        exact e
      | succ m => exact h2 m z (by omega) hz
theorem we_index {to : TE} (h : WE K to ρ g fun so g1 => ∃ ns : List Str, so = .d (.list (ns.map .str)) ∧ WE K te ρ g1 fun s g2 => ∃ x, s = .d (.str x) ∧ x ∈ ns ∧ ∀ j : Nat, j < ns.length → P (.d (.int j)) g2) : WE K (tBM K "list" (rIndex K) to (tCons te tNil)) ρ g P := fun E Γ σ H Q I k => by
  refine h E Γ σ H _ I fun Γ1 g1 H1 v so e1 I1 r1 ⟨ns, es, q1⟩ => ?_
  subst es
  obtain ⟨a, xs, rfl, h1, h2⟩ := da_list r1
  refine ⟨.inl ⟨rfl, xs, .inl (hid_rd h1)⟩, ?_⟩
  refine q1 E Γ1 σ H1 _ I1 fun Γ2 g2 H2 w s e2 I2 r2 ⟨x, es, hx, q⟩ => ?_
  subst es
  cases da_str r2
  obtain ⟨b, ys, eb, k1, k2⟩ := da_list (r1.ext e2.toExt0)
  cases eb
  have e := k2.strs
  subst e
  obtain ⟨j, j1, j2⟩ := idx_first hx
  have hj := (List.getElem?_eq_some_iff.mp j1).1
  refine ⟨a, _, .str x, j, .str x, rfl, rfl, .inl (hid_rd k1), rfl, flat_map_str ns, by rw [List.getElem?_map, j1]; rfl, by show (x == x) = true; simp, fun m z hm hz => ?_, ?_⟩
  · rw [List.getElem?_map] at hz
    cases e3 : ns[m]? with
    | none =>
      rw [e3] at hz
      cases hz
    | some y =>
      rw [e3] at hz
      have e4 : V.str y = z := Option.some.inj hz
      subst e4
      have := j2 m y hm e3
      show (y == x) = false
      simpa using this
  · exact k Γ2 g2 H2 _ (.d (.int j)) (e1.trans e2) I2 (Da.int _) (q j hj)
/-- values by and, or: the first one a truth -/
theorem we_andV (h : WE K ta ρ g fun s g1 => ∃ b, s = .d (.bool b) ∧ if b = true then WE K tb ρ g1 P else P (.d (.bool false)) g1) : WE K (tAndV ta tb) ρ g P := fun E Γ σ H Q I k => h E Γ σ H _ I fun Γ1 g1 H1 v s e1 I1 r1 ⟨b, es, q⟩ => by
  subst es
  refine ⟨b, da_bl r1, ?_⟩
  cases b with
  | true => exact q E Γ1 σ H1 Q I1 fun Γ2 g2 H2 w s e2 I2 r2 q2 => k Γ2 g2 H2 w s (e1.trans e2) I2 r2 q2
  | false => exact k Γ1 g1 H1 _ (.d (.bool false)) e1 I1 (Da.bl _) q
theorem we_orV (h : WE K ta ρ g fun s g1 => ∃ b, s = .d (.bool b) ∧ if b = true then P (.d (.bool true)) g1 else WE K tb ρ g1 P) : WE K (tOrV ta tb) ρ g P := fun E Γ σ H Q I k => h E Γ σ H _ I fun Γ1 g1 H1 v s e1 I1 r1 ⟨b, es, q⟩ => by
  subst es
  refine ⟨b, da_bl r1, ?_⟩
  cases b with
  | false => exact q E Γ1 σ H1 Q I1 fun Γ2 g2 H2 w s e2 I2 r2 q2 => k Γ2 g2 H2 w s (e1.trans e2) I2 r2 q2
  | true => exact k Γ1 g1 H1 _ (.d (.bool true)) e1 I1 (Da.bl _) q
theorem we_notV (h : WE K ta ρ g fun s g1 => ∃ b, s = .d (.bool b) ∧ P (.d (.bool (!b))) g1) : WE K (tNotV ta) ρ g P := fun E Γ σ H Q I k => h E Γ σ H _ I fun Γ1 g1 H1 v s e1 I1 r1 ⟨b, es, q⟩ => by
  subst es
  exact ⟨b, da_bl r1, k Γ1 g1 H1 _ (.d (.bool (!b))) e1 I1 (Da.bl _) q⟩
end
/-! ### shapes -/
theorem shaped_ints : ∀ ns : List Int, PyData.canLayAll0 (ns.map .int) = true ∧ PyData.depthAll (ns.map .int) = 0
  | [] => ⟨by simp [PyData.canLayAll0], by simp [PyData.depthAll]⟩
  | n :: ns => by
    obtain ⟨h1, h2⟩ := shaped_ints ns
    exact ⟨by simp [PyData.canLayAll0, PyData.canLay0, h1], by simp [PyData.depthAll, PyData.depth, h2]⟩
/-- what may be compared: its texts are texts, it isn't deeper than n -/
def ShD (n : Nat) (d : PyData) : Prop := d.canLay0 = true ∧ d.depth ≤ n
theorem shD_all {n : Nat} : ∀ {ds : List PyData}, AllD (ShD n) ds → PyData.canLayAll0 ds = true ∧ PyData.depthAll ds ≤ n
  | [], _ => ⟨by simp [PyData.canLayAll0], by simp [PyData.depthAll]⟩
  | d :: ds, h => by
    obtain ⟨h1, h2⟩ := shD_all (ds := ds) fun y hy => h y (List.mem_cons_of_mem _ hy)
    obtain ⟨k1, k2⟩ := h d List.mem_cons_self
    refine ⟨by simp [PyData.canLayAll0, k1, h1], ?_⟩
    simp only [PyData.depthAll]
    omega
theorem shaped_list {n : Nat} {ds : List PyData} (hn : n ≤ 60) (h : AllD (ShD n) ds) : SeqAt.shaped (.list ds) = true := by
  obtain ⟨h1, h2⟩ := shD_all h
  unfold SeqAt.shaped
  rw [Bool.and_eq_true, decide_eq_true_eq]
  refine ⟨by simpa [PyData.canLay0] using h1, ?_⟩
  simp only [PyData.depth]
  omega
theorem shD_int (n : Nat) (i : Int) : ShD n (.int i) := ⟨by simp [PyData.canLay0], by simp [PyData.depth]⟩
theorem shD_str {n : Nat} {x : Str} (h : PyData.strOk x = true) : ShD n (.str x) := ⟨by simp [PyData.canLay0, h], by simp [PyData.depth]⟩
theorem shD_tup {n : Nat} {ds : List PyData} (h : AllD (ShD n) ds) : ShD (n + 1) (.tuple ds) := by
  obtain ⟨h1, h2⟩ := shD_all h
  exact ⟨by simpa [PyData.canLay0] using h1, by simp only [PyData.depth]; omega⟩
end PL
set_option maxRecDepth 100000
set_option maxHeartbeats 4000000
set_option autoImplicit false
namespace PL
open PySem L2 PyProof.Rows
variable [TBs] [Nms]
section
variable {K : PySem.W.Frag} {E E' : Ent} {Γ Γ' : Gam} {g g' : Gh} {ρ : List Sl} {σ : L2.St} {H H' : Hp} {P : Sl → Gh → Prop} {ta tb tc te : TE} {tt tu : TT} {t u : TS} {p : PD} {wi : TI} {tg : TG}
/-! ### own lists out of comprehensions; what is read off them -/
theorem sw_lcOwn {i : Nat} {is vs : List Nat} (hi : i < ρ.length) (hv : ∀ v, v ∈ vs → v < ρ.length) (hs : ∀ j, j ∈ is → j ∈ vs) (h : WI K wi ρ g fun n y g1 => n ≤ sizeLine ∧ ∃ J : Nat → List PyData → Gh → Prop, J 0 [] g1 ∧
    (∀ k acc g', k < n → acc.length ≤ k → J k acc g' → g1.le g' → WG K tg is (y k) (wipeS ρ vs) g' fun ρ2 g2 => WT K tt ρ2 g2 fun b g3 => if b = true then WE K te ρ2 g3 fun s g4 => ∃ d, s = .d d ∧ g1.le g4 ∧ J (k + 1) (acc ++ [d]) g4 else g1.le g3 ∧ J (k + 1) acc g3) ∧
    ∀ acc g', acc.length ≤ n → J n acc g' → p.nx (ρ.set i (.own acc)) g') : SW K (tAsg (tLc wi tg tt te vs) (gName i)) p ρ g := fun E Γ σ H D0 I d => lc_core (F := fun acc g => p.nx (ρ.set i (.own acc)) g) hv hs h E Γ σ H _ I fun Γ2 g2 H2 D acc e I2 hD hH hΓ hE1 hE2 no q => by
  have I3 := I2.set (s := .un) (o := some (.ref D)) (i := i) trivial (fun ds z => by cases z) hi
  have hs : slot (σ.set i (some (.ref D))) i = some (.ref D) := by
    rw [slot_set (by rw [I2.len]; exact hi), if_pos rfl]
  have I4 := I3.takeOwn (i := i) (D := D) (by rw [List.length_set]; exact hi) hs hD hE1 hE2 (by
    rw [set_set]
    intro j es hj hz
    rcases set_get hj with ⟨e, e2⟩ | ⟨e, e2⟩
    · cases e2
    · rw [slot_set (by rw [I2.len]; exact hi), if_neg e] at hz
      exact no j es e2 hz)
  rw [set_set] at I4
  exact d.nx _ g2 _ _ _ I4 q
theorem we_ix_own {i : Nat} {ds : List PyData} (h : ρ[i]? = some (.own ds)) (q : WE K te ρ g fun s g1 => ∃ j d, s = .d (.int j) ∧ atI ds j = some d ∧ P (.d d) g1) : WE K (tOp (rIx K) (tVar i) te) ρ g P := fun E Γ σ H Q I k => by
  obtain ⟨a, xs, h1, h2, h3, h4, h5, h6, h7⟩ := own_at I h
  refine ⟨_, h2, ?_⟩
  refine q E Γ σ H _ I fun Γ1 g1 H1 v s e1 I1 r1 ⟨j, d, es, ha, q1⟩ => ?_
  subst es
  cases da_int r1
  obtain ⟨a', xs', k1, k2, k3, k4, k5, k6, k7⟩ := own_at I1 h
  rw [h2] at k2
  cases k2
  obtain ⟨w, e, f⟩ := atI_da k7 ha
  exact .inl ⟨a, xs', j, w, rfl, rfl, .inl (.inl k6), e, k Γ1 g1 H1 w (.d d) e1 I1 f q1⟩
theorem we_ne_own {i : Nat} {ds : List PyData} (h : ρ[i]? = some (.own ds)) (s : SeqAt.shaped (.list ds) = true) (q : P (.d (.bool (!ds.isEmpty))) g) : WE K (tOp (rNeq K) (tVar i) (tLst tNil)) ρ g P := fun E Γ σ H Q I k => by
  obtain ⟨a, xs, h1, h2, h3, h4, h5, h6, h7⟩ := own_at I h
  refine ⟨_, h2, Nat.zero_le _, fun p np => ?_⟩
  have I1 := I.new (o := .lst []) np
  obtain ⟨a', xs', k1, k2, k3, k4, k5, k6, k7⟩ := own_at I1 h
  rw [h2] at k2
  cases k2
  refine .inr ⟨.list ds, .list [], .lst (.inl (.inl k6)) (k7.mono hid_sub).dp, .lst (.inl (.inl upd_same)) .nil, s, by decide +kernel, ?_⟩
  rw [eqv_nil]
  exact k Γ g _ _ (.d (.bool _)) (ext_upd np) I1 (Da.bl _) q
/-- the greatest length may be taken greater -/
def Gh.grow (g : Gh) (m : Nat) : Gh := { g with ub := g.ub + m }
theorem Gh.le_grow (g : Gh) (m : Nat) : g.le (g.grow m) := ⟨fun _ => Nat.le_refl _, Nat.le_add_right _ _, fun _ _ h => h, fun _ _ h => h⟩
theorem HeapOk.grow (h : HeapOk K Γ g H) (m : Nat) : HeapOk K Γ (g.grow m) H where
  ob := fun a t ha => by
    obtain ⟨o, ho, q⟩ := h.ob a t ha
    exact ⟨o, ho, q.gh (Nat.le_add_right _ _) (fun _ => Nat.le_refl _) (fun _ _ _ _ _ z => z) (fun _ _ _ _ _ z => z) fun _ _ _ _ _ z => z⟩
  idl := h.idl
  idd := h.idd
  tb := h.tb
  lz := h.lz
theorem sw_grow (m : Nat) (h : SW K t p ρ (g.grow m)) : SW K t p ρ g := fun E Γ σ H D I d => h E Γ σ H D (I.ext (Ext.refl Γ H) (I.hp.grow m) (Gh.le_grow g m)) d
theorem we_grow (m : Nat) (h : WE K te ρ (g.grow m) P) : WE K te ρ g P := fun E Γ σ H Q I k => h E Γ σ H Q (I.ext (Ext.refl Γ H) (I.hp.grow m) (Gh.le_grow g m)) k
theorem ints_of {ds : List PyData} (h : AllD (fun d => ∃ x : Int, d = .int x) ds) : ∃ ns : List Int, ds = ns.map .int := by
  induction ds with
  | nil => exact ⟨[], rfl⟩
  | cons d ds ih =>
    obtain ⟨x, rfl⟩ := h d List.mem_cons_self
    obtain ⟨ns, rfl⟩ := ih fun y hy => h y (List.mem_cons_of_mem _ hy)
    exact ⟨x :: ns, rfl⟩
end
end PL
set_option maxRecDepth 100000
set_option maxHeartbeats 4000000
set_option autoImplicit false
namespace PL
open PySem L2 PyProof.Rows
variable [TBs] [Nms]
section
variable {K : PySem.W.Frag} {E E' : Ent} {Γ Γ' : Gam} {g g' : Gh} {ρ : List Sl} {σ : L2.St} {H H' : Hp} {P : Sl → Gh → Prop} {ta tb tc te : TE} {tt tu : TT} {t u : TS} {p : PD} {wi : TI} {tg : TG}
theorem sw_expr (h : WE K te ρ g fun _ g1 => p.nx ρ g1) : SW K (tDrop te) p ρ g := fun E Γ σ H D I d => h E Γ σ H _ I fun Γ1 g1 H1 v s e1 I1 r1 q => d.nx Γ1 g1 ρ σ H1 I1 q
theorem cell_pr {F : Nat → Nat → List Ty} (q : ∀ i j, P (.t (.rcd (F i j))) g) : cellP (.pr F) g P := q
/-! ### new typed objects -/
theorem HeapOk.newTy (h : HeapOk K Γ g H) {D : Addr} {ty : Ty} {u : HO} (hp : H D = none) (hx : ObOk K (Γ.put D (some (.ty ty))) g (upd H D u) (.ty ty) u) (h1 : ∀ i t, ty = .lst i t → i = D) (h2 : ∀ i t, ty = .dic i t → i = D) : HeapOk K (Γ.put D (some (.ty ty))) g (upd H D u) where
  ob := fun a t ha => by
    have hg := h.free hp
    by_cases e : a = D
    · subst e
      rw [put_same] at ha
      cases ha
      exact ⟨_, upd_same, hx⟩
    · rw [put_ne e] at ha
      obtain ⟨o, ho, q⟩ := h.ob a t ha
      exact ⟨o, by rw [upd_ne e]; exact ho, q.ext (ext_newT hp hg).toExt0⟩
  idl := fun a i t ha => by
    by_cases e : a = D
    · subst e
      rw [put_same] at ha
      exact h1 i t (by cases ha; rfl)
    · rw [put_ne e] at ha
      exact h.idl a i t ha
  idd := fun a i t ha => by
    by_cases e : a = D
    · subst e
      rw [put_same] at ha
      exact h2 i t (by cases ha; rfl)
    · rw [put_ne e] at ha
      exact h.idd a i t ha
  tb := fun p hq => by
    have e : p.1 ≠ D := fun z => by
      have q := h.tb p hq
      rw [z, h.free hp] at q
      cases q
    rw [put_ne e]
    exact h.tb p hq
  lz := fun a ha => h.lz a (upd_none ha)
/-- [] that is to be a typed list -/
theorem we_emptyT (ty : Ty) (q : ∀ D, g.lb D = 0 → P (.t (.lst D ty)) g) : WE K (tLst tNil) ρ g P := fun E Γ σ H Q I k => by
  refine ⟨Nat.zero_le _, fun p np => ?_⟩
  have hg := I.hp.free np
  have en : Ext Γ H (Γ.put p (some (.ty (.lst p ty)))) (upd H p (.lst [])) := ext_newT np hg
  have z := (I.hp.lz p np).1
  refine k _ g _ _ (.t (.lst p ty)) en (I.ext en (I.hp.newTy np ⟨[], rfl, by rw [z]; exact Nat.zero_le _, Nat.zero_le _, (fun _ h => by cases h), fun q hq => by rw [(I.hp.lz p np).2.2.2] at hq; cases hq⟩ (fun i t e => by cases e; rfl) (fun i t e => by cases e)) (Gh.le_refl g)) ⟨p, rfl, put_same⟩ (q p z)
/-- {} that is to be a typed dict -/
theorem we_dnew (Pd : PyData → Prop) (q : ∀ D, g.ks D = [] → g.kn D = 0 → P (.t (.dic D Pd)) g) : WE K tDNewK ρ g P := fun E Γ σ H Q I k p np => by
  have hg := I.hp.free np
  have en : Ext Γ H (Γ.put p (some (.ty (.dic p Pd)))) (upd H p (.dK [])) := ext_newT np hg
  obtain ⟨_, z1, z2, _⟩ := I.hp.lz p np
  refine k _ g _ _ (.t (.dic p Pd)) en (I.ext en (I.hp.newTy np ⟨[], rfl, Nat.zero_le _, fun s hs => ?_, fun _ h => by cases h⟩ (fun i t e => by cases e) (fun i t e => by cases e; rfl)) (Gh.le_refl g)) ⟨p, rfl, put_same⟩ (q p z1 z2)
  rw [z1] at hs
  cases hs
/-! ### d[k] = v -/
def Gh.dput (g : Gh) (i : Nat) (k : Str) (d : PyData) : Gh := { g with ks := fun j => if j = i then (k, d) :: g.ks i else g.ks j, kn := fun j => if j = i then g.kn i + 1 else g.kn j }
theorem Gh.le_dput (g : Gh) (i : Nat) (k : Str) (d : PyData) : g.le (g.dput i k d) := ⟨fun _ => Nat.le_refl _, Nat.le_refl _, fun j s hs => by
  show s ∈ if j = i then (k, d) :: g.ks i else g.ks j
  by_cases e : j = i
  · subst e
    rw [if_pos rfl]
    exact List.mem_cons_of_mem _ hs
  · rw [if_neg e]
    exact hs, fun _ _ h => h⟩
theorem mem_putK {kvs : List (Key × V)} {k : Key} {v : V} {kv : Key × V} (h : kv ∈ putK kvs k v) : (kv.1 = k ∧ kv.2 = v) ∨ kv ∈ kvs := by
  unfold putK at h
  split at h
  · obtain ⟨z, hz, rfl⟩ := List.mem_map.mp h
    by_cases e : z.1 = k
    · rw [if_pos e]
      exact .inl ⟨e, rfl⟩
    · rw [if_neg e]
      exact .inr hz
  · rcases List.mem_append.mp h with z | z
    · exact .inr z
    · rw [List.mem_singleton.mp z]
      exact .inl ⟨rfl, rfl⟩
theorem wg_dput {to ti : TE} {s : Sl} {Pr : List Sl → Gh → Prop} (h : WE K to ρ g fun so g1 => WE K ti ρ g1 fun si g2 => ∃ i Pd k d, so = .t (.dic i Pd) ∧ si = .d (.str k) ∧ s = .d d ∧ Pd d ∧ (NmOk k) ∧ (∀ z, z ∈ g2.ks i → z.1 ≠ k) ∧ g2.kn i < sizeLine ∧ Pr ρ (g2.dput i k d)) : WG K (gSub to ti rSetD) [] s ρ g Pr := fun E Γ σ H v Q I r kk => by
  refine h E Γ σ H _ I fun Γ1 g1 H1 vo so e1 I1 r1 q1 => ?_
  refine q1 E Γ1 σ H1 _ I1 fun Γ2 g2 H2 vi si e2 I2 r2 ⟨i, Pd, k, d, es, ei, ed, hd, hk, hz, hn, q⟩ => ?_
  subst es ei ed
  obtain ⟨a, kvs, rfl, h1, h2, h3, h4, h5⟩ := dic_at I2 (r1.ext e2.toExt0)
  cases da_str r2
  have rv : Da K (hid Γ2 H2) v d := Da.mono (e1.trans e2).toExt0.sub r
  have hia := I2.hp.idd a i Pd h1
  refine ⟨a, _, rfl, .inl ⟨kvs, .inr k, h2, rfl, by omega, rfl⟩, ?_⟩
  have hh : HeapOk K Γ2 (g2.dput i k d) (upd H2 a (.dK (putK kvs (.inr k) v))) := I2.hp.put h1 ⟨_, rfl, by
      show _ ≤ if i = i then g2.kn i + 1 else g2.kn i
      rw [if_pos rfl]
      exact Nat.le_trans (length_putK _ _ _) (by omega), fun z hz2 => by
      have hz3 : z ∈ if i = i then (k, d) :: g2.ks i else g2.ks i := hz2
      rw [if_pos rfl] at hz3
      rcases List.mem_cons.mp hz3 with rfl | hz4
      · exact ⟨v, by rw [valV_put, if_pos rfl], rv⟩
      · obtain ⟨x, x1, x2⟩ := h4 z hz4
        exact ⟨x, by rw [valV_put, if_neg (fun e => hz z hz4 (Sum.inr.inj e))]; exact x1, x2⟩, fun kv hkv => by
      rcases mem_putK hkv with ⟨e1, e2⟩ | hkv
      · exact ⟨⟨k, e1, hk⟩, d, by rw [e2]; exact rv, hd⟩
      · exact h5 kv hkv⟩ (fun b t u hb hΓ ho => ho.gh (Nat.le_refl _) (fun j => by
      show _ ≤ if j = i then g2.kn i + 1 else g2.kn j
      by_cases e : j = i
      · subst e
        rw [if_pos rfl]
        omega
      · rw [if_neg e]
        exact Nat.le_refl _) (fun _ _ _ _ _ hl => hl) (fun j Pe zs e3 e4 hk2 z hz2 => by
      have hz3 : z ∈ if j = i then (k, d) :: g2.ks i else g2.ks j := hz2
      by_cases e : j = i
      · subst e e3
        exact absurd ((I2.hp.idd b j Pe hΓ).symm.trans hia) hb
      · rw [if_neg e] at hz3
        exact hk2 z hz3) fun _ _ _ _ _ z => z) (fun b hb => by
      have e : b ≠ i := fun z => by
        rw [z, hia, h2] at hb
        cases hb
      obtain ⟨z0, z1, z2, z3⟩ := I2.hp.lz b hb
      refine ⟨z0, ?_, ?_, z3⟩
      · show (if b = i then (k, d) :: g2.ks i else g2.ks b) = []
        rw [if_neg e]
        exact z1
      · show (if b = i then g2.kn i + 1 else g2.kn b) = 0
        rw [if_neg e]
        exact z2)
  exact kk Γ2 _ ρ σ _ ((e1.trans e2).trans (ext_put h1)) (I2.ext (ext_put h1) hh (Gh.le_dput g2 i k d)) ⟨rfl, fun _ _ => rfl⟩ q
/-! ### a comprehension whose items are typed -/
theorem HeapOk.pushT (h : HeapOk K Γ g H) {a : Addr} {i : Nat} {ty : Ty} {xs : List V} {w : V} (h1 : Γ a = some (.ty (.lst i ty))) (h2 : H a = some (.lst xs)) (hw : TyOk K Γ g H ty w) : HeapOk K Γ (g.push i) (upd H a (.lst (xs ++ [w]))) := by
  obtain ⟨o, ho, ys, rfl, h3, h4, h5, h6⟩ := h.ob a _ h1
  rw [h2] at ho
  cases ho
  exact h.put h1 ⟨_, rfl, by
      show (if i = i then g.lb i + 1 else g.lb i) ≤ _
      rw [if_pos rfl, List.length_append, List.length_singleton]
      omega, by
      show _ ≤ g.ub + 1
      rw [List.length_append, List.length_singleton]
      omega, fun x hx => by
      rcases List.mem_append.mp hx with z | z
      · exact (h5 x z).up (Nat.le_succ _)
      · rw [List.mem_singleton.mp z]
        exact hw.up (Nat.le_succ _), fun q hq => let ⟨b, b1, b2⟩ := h6 q hq; ⟨b, get_app b1, b2⟩⟩ (fun b t u hb hΓ ho => ho.gh (Nat.le_succ _) (fun _ => Nat.le_refl _) (fun j ty2 ys e3 e4 hl => by
      show (if j = i then g.lb i + 1 else g.lb j) ≤ _
      by_cases e : j = i
      · subst e e3
        exact absurd (h.uq b a j ty2 ty hΓ h1) hb
      · rw [if_neg e]
        exact hl) (fun _ _ _ _ _ hk => hk) (fun _ _ _ _ _ z => z)) (fun b hb => by
      have e : b ≠ i := fun z => by
        rw [z, h.idl _ _ _ h1, h2] at hb
        cases hb
      refine ⟨?_, (h.lz b hb).2⟩
      show (if b = i then g.lb i + 1 else g.lb b) = 0
      rw [if_neg e]
      exact (h.lz b hb).1)
theorem we_lcT (ty : Ty) {is vs : List Nat} (hv : ∀ v, v ∈ vs → v < ρ.length) (hs : ∀ j, j ∈ is → j ∈ vs) (h : WI K wi ρ g fun n y g1 => n ≤ sizeLine ∧ ∀ D, g1.lb D = 0 → ∃ J : Nat → Gh → Prop, J 0 g1 ∧
    (∀ k g', k < n → J k g' → g1.le g' → WG K tg is (y k) (wipeS ρ vs) g' fun ρ2 g2 => WT K tt ρ2 g2 fun b g3 => b = true ∧ WE K te ρ2 g3 fun s g4 => g1.le g4 ∧ fits g4 ty s ∧ g4.ub < sizeLine ∧ J (k + 1) (g4.push D)) ∧
    ∀ g', J n g' → P (.t (.lst D ty)) g') : WE K (tLc wi tg tt te vs) ρ g P := fun E Γ σ H Q Iv kk => by
  refine h E Γ σ H _ Iv fun Γ1 g1 H1 E1 J n y e1 q1 I1 it ⟨hn, hJ⟩ D nD => ?_
  have Iw := I1.wipe vs hv
  obtain ⟨f1, f2, f3⟩ := I1.fresh nD
  have z := (I1.hp.lz D nD).1
  obtain ⟨Jv, j0, step, fin⟩ := hJ D z
  have eN : Ext Γ1 H1 (Γ1.put D (some (.ty (.lst D ty)))) (upd H1 D (.lst [])) := ext_newT nD f1
  have I0 := Iw.ext eN (Iw.hp.newTy nD ⟨[], rfl, by rw [z]; exact Nat.zero_le _, Nat.zero_le _, (fun _ h => by cases h), fun q hq => by rw [(I1.hp.lz D nD).2.2.2] at hq; cases hq⟩ (fun i t e => by cases e; rfl) (fun i t e => by cases e)) (Gh.le_refl g1)
  refine ⟨fun i m H => m = n - i ∧ i ≤ n ∧ ∃ Γ g, EnvOk K E1 Γ g (wipeS ρ vs) (wipe σ vs) H ∧ Γ D = some (.ty (.lst D ty)) ∧ g1.le g ∧ Ext Γ1 H1 Γ H ∧ Jv i g,
    ⟨n, by simp, Nat.zero_le _, _, g1, I0, put_same, Gh.le_refl g1, eN, j0⟩, ?_⟩
  rintro i m H2 ⟨rfl, hi, Γ2, g2, I2, hD, lg, ex, jv⟩
  by_cases hlt : i < n
  · refine .inr ⟨it.go Γ2 g2 _ _ H2 i I2 hlt, _, fun H' hN => ⟨n - (i + 1), by omega, rfl, hlt, hN⟩, fun x H3 yl => ?_⟩
    obtain ⟨e3, I3, r3⟩ := it.yld Γ2 g2 _ _ H2 i x H3 I2 hlt yl
    refine step i g2 hlt jv lg E1 Γ2 _ H3 x _ I3 r3 fun Γ4 g4 ρ4 σ4 H4 e4 I4 s4 q4 => ?_
    refine ⟨wipe_same hs s4, ?_⟩
    refine q4 E1 Γ4 σ4 H4 _ I4 fun Γ5 g5 H5 b e5 I5 ⟨hb, q5⟩ => ?_
    subst hb
    rw [if_pos rfl]
    refine q5 E1 Γ5 σ4 H5 _ I5 fun Γ6 g6 H6 v s e6 I6 r6 ⟨l6, hf, hu, q6⟩ => ?_
    have e26 := ((e3.trans e4).trans e5).trans e6
    have hD6 := e26.ty D _ hD
    obtain ⟨o, ho, xs, rfl, x1, x2, x3⟩ := I6.hp.ob D _ hD6
    have I6' : EnvOk K E1 Γ6 g6 (wipeS ρ vs) (wipe σ vs) H6 := ⟨I2.len, fun i s h => (I2.sl i s h).ext e26, I2.dis, I6.hp, I6.fr, I6.gle, I6.pv⟩
    have hh := I6.hp.pushT hD6 ho (fits_ok hf r6)
    exact ⟨xs, ho, by omega, Γ6, g6.push D, I6'.ext (ext_put hD6) hh (Gh.le_push g6 D), hD6, Gh.le_trans l6 (Gh.le_push g6 D), (ex.trans e26).trans (ext_put hD6), q6⟩
  · have e : i = n := by omega
    subst e
    refine .inl ⟨it.stop Γ2 g2 _ _ H2 I2, ?_⟩
    have I1u := I1.unpin q1
    exact kk Γ2 g2 H2 (.ref D) (.t (.lst D ty)) (e1.trans ex) (I1u.ext ex I2.hp lg) ⟨D, rfl, hD⟩ (fin g2 jv)
end
end PL
set_option maxRecDepth 100000
set_option maxHeartbeats 4000000
set_option autoImplicit false
namespace PL
open PySem L2 PyProof.Rows
variable [TBs] [Nms]
section
variable {K : PySem.W.Frag} {E E' : Ent} {Γ Γ' : Gam} {g g' : Gh} {ρ : List Sl} {σ : L2.St} {H H' : Hp} {P : Sl → Gh → Prop} {ta tb tc te : TE} {tt tu : TT} {t u : TS} {p : PD} {wi : TI} {tg : TG}
/-! ### comprehensions over a typed list of data, whose test and item change nothing -/
theorem upd_twice {H : Hp} {D : Addr} {o u : HO} : upd (upd H D o) D u = upd H D u := by
  funext b
  by_cases e : b = D
  · subst e
    rw [upd_same, upd_same]
  · rw [upd_ne e, upd_ne e, upd_ne e]
theorem we_lcP {i : Nat} {vs : List Nat} {tl : TE} {F : PyData → Prop} {T : PyData → Bool → Prop} {G : PyData → PyData → Prop} (hi : i ∈ vs)
    (h : WE K tl ρ g fun s g1 => ∃ j, s = .t (.lst j (.dat F)) ∧ g1.ub ≤ sizeLine ∧
      (∀ (E : Ent) (Γ : Gam) (σ : L2.St) (H : Hp), EnvOk K E Γ g1 ρ σ H → ∀ (x : V) (d : PyData) (H' : Hp), Da K (hid Γ H) x d → F d → Sub (hid Γ H) H' →
        (∀ Q : Bool → Hp → Prop, (∀ b, T d b → Q b H') → tt ((wipe σ vs).set i (some x)) H' Q) ∧ (T d true → ∀ Q : VK, (∀ y e, Da K (hid Γ H) y e → G d e → Q y H') → te ((wipe σ vs).set i (some x)) H' Q)) ∧
      ∀ es, AllD (fun e => ∃ d, F d ∧ T d true ∧ G d e) es → es.length ≤ g1.ub → P (.d (.list es)) g1) : WE K (tLc (iList K tl) (gName i) tt te vs) ρ g P := fun E Γ σ H Q I k => by
  refine h E Γ σ H _ I fun Γ1 g1 H1 v s e1 I1 r1 ⟨j, es, hu, hp, q⟩ => ?_
  subst es
  obtain ⟨a, xs, rfl, h1, h2, h3, h4, h5⟩ := lst_at I1 r1
  refine ⟨a, rfl, ⟨xs, SqL.of h2⟩, fun D nD => ?_⟩
  refine ⟨fun n m H => m = xs.length - n ∧ n ≤ xs.length ∧ ∃ acc es, H = upd H1 D (.lst acc) ∧ DaAll K (hid Γ1 H1) acc es ∧ acc.length ≤ n ∧ AllD (fun e => ∃ d, F d ∧ T d true ∧ G d e) es, ⟨xs.length, by simp, Nat.zero_le _, [], [], rfl, .nil, Nat.zero_le _, fun _ h => by cases h⟩, ?_⟩
  rintro n m _ ⟨rfl, hn, acc, es, rfl, hd, hl, ha⟩
  have aD : a ≠ D := ne_of_none h2 nD
  have hH : upd H1 D (.lst acc) a = some (.lst xs) := by
    rw [upd_ne aD]
    exact h2
  have hsub : Sub (hid Γ1 H1) (upd H1 D (.lst acc)) := fun b o hb => by
    obtain ⟨_, z⟩ := hid_some hb
    rw [upd_ne (ne_of_none z nD)]
    exact z
  by_cases hlt : n < xs.length
  · refine .inr ⟨⟨xs, xs[n], SqL.of hH, List.getElem?_eq_getElem hlt⟩, _, fun H' hN => ⟨xs.length - (n + 1), by omega, rfl, hlt, hN⟩, fun x H3 y => ?_⟩
    obtain ⟨rfl, y⟩ := y
    have ex := y xs (SqL.of hH)
    obtain ⟨d, d1, d2⟩ := h5 x (List.mem_of_getElem? ex)
    obtain ⟨p1, p2⟩ := hp E Γ1 σ H1 I1 x d _ d1 d2 hsub
    refine ⟨wipe_same (is := [i]) (fun j hj => by rw [List.mem_singleton.mp hj]; exact hi) ⟨List.length_set, fun j hj => by rw [List.getElem?_set, if_neg (fun e => hj (by rw [e]; exact List.mem_singleton.mpr rfl))]⟩, ?_⟩
    refine p1 _ fun b hb => ?_
    cases b with
    | false =>
      rw [if_neg Bool.false_ne_true]
      exact ⟨acc, es, rfl, hd, by omega, ha⟩
    | true =>
      rw [if_pos rfl]
      refine p2 hb _ fun y e y1 y2 => ?_
      refine ⟨acc, upd_same, by omega, acc ++ [y], es ++ [e], upd_twice, hd.append (.cons y1 .nil), by rw [List.length_append, List.length_singleton]; omega, fun z hz => ?_⟩
      rcases List.mem_append.mp hz with hz | hz
      · exact ha z hz
      · rw [List.mem_singleton.mp hz]
        exact ⟨d, d2, hb, y2⟩
  · refine .inl ⟨⟨xs, SqL.of hH, by omega⟩, ?_⟩
    exact k Γ1 g1 _ (.ref D) (.d (.list es)) (e1.trans (ext_upd nD)) (I1.new nD) (.lst (.inl (hid_new I1 nD)) (hd.mono (ext_upd nD).sub)) (q es ha (by rw [← hd.length]; omega))
/-- x[0] of a tuple that is known -/
theorem pure_fst {σ : L2.St} {H H' : Hp} {i : Nat} {x : V} {d0 : PyData} {r : List PyData} {Q : VK} (hx : Da K (hid Γ H) x (.tuple (d0 :: r))) (hs : Sub (hid Γ H) H') (hi : i < σ.length) (q : ∀ y, Da K (hid Γ H) y d0 → Q y H') : tOp (rIx K) (tVar i) (tC (.int 0)) (σ.set i (some x)) H' Q := by
  obtain ⟨a, xs, rfl, h1, h2⟩ := da_tup hx
  cases h2 with
  | @cons v vs _ _ a0 a1 =>
    refine ⟨_, by rw [List.getElem?_set, if_pos rfl, if_pos hi], ?_⟩
    exact .inr (.inl ⟨a, v :: vs, 0, v, rfl, rfl, hs.sqT h1, atI_nat (j := 0) rfl, q v a0⟩)
theorem das_of {F : PyData → Prop} {H : Hp} : ∀ {xs : List V}, (∀ x, x ∈ xs → ∃ d, Da K H x d ∧ F d) → ∃ ds, DaAll K H xs ds ∧ AllD F ds
  | [], _ => ⟨[], .nil, fun _ h => by cases h⟩
  | x :: xs, h => by
    obtain ⟨d, d1, d2⟩ := h x List.mem_cons_self
    obtain ⟨ds, e1, e2⟩ := das_of fun y hy => h y (List.mem_cons_of_mem _ hy)
    exact ⟨d :: ds, .cons d1 e1, fun z hz => (List.mem_cons.mp hz).elim (fun e => e ▸ d2) (e2 z)⟩
/-- a typed list of data and a list -/
theorem r2_plus_lst {j : Nat} {F : PyData → Prop} {es : List PyData} (hl : g.ub + es.length ≤ sizeLine) (q : ∀ ds, AllD F ds → ds.length ≤ g.ub → P (.d (.list (ds ++ es))) g) : R2W K (rPlus K) (.t (.lst j (.dat F))) (.d (.list es)) g P := fun E Γ ρ σ H v u Q I r1 r2 k => by
  obtain ⟨a, xs, rfl, h1, h2, h3, h4, h5⟩ := lst_at I r1
  obtain ⟨b, us, rfl, k1, k2⟩ := da_list r2
  obtain ⟨ds, d1, d2⟩ := das_of h5
  have l1 := d1.length
  have l2 := k2.length
  refine .inr (.inr (.inl ⟨a, b, xs, us, rfl, rfl, .inl h2, hid_rd k1, by omega, fun p np => ?_⟩))
  exact k Γ g _ _ (.d (.list (ds ++ es))) (ext_upd np) (I.new np) (.lst (.inl (hid_new I np)) ((d1.append k2).mono (ext_upd np).sub)) (q ds d2 (by omega))
end
end PL
set_option maxRecDepth 100000
set_option maxHeartbeats 4000000
set_option autoImplicit false
/-! TX1: sets of texts over the model: what a set holds, one text more, one text less. -/
namespace TX
open PySem PySem.Spec PyProof.Rows L2
/-- the text of an entry -/
def tOf (e : Int × Value) : Str := match e.2 with | .str x _ => x | _ => Str.empty
/-- an entry that is a text with its own hash -/
def IsTE (w : World) (e : Int × Value) : Prop := ∃ (x : Str) (tk : Tok), e = (hashStr w x, Value.str x tk)
/-- the entries and the table at a, walkable -/
structure Tab (w : World) (es : Array (Int × Value)) (t : SetTable) (L : List Str) : Prop where
  te : ∀ e, e ∈ es.toList → IsTE w e
  pm : (es.toList.map tOf).Perm L
  nd : L.Nodup
  few : L.length < scanBound
  fit : t.fits es.size = true
  ris : Ris t.place.toList
  led : w.params.followText "set-order" = true ∨ t.led = true
/-- the set at a holds the texts L -/
def TSet (w : World) (h : Heap) (a : Addr) (L : List Str) : Prop := ∃ o es ep t, h.get? a = some o ∧ o.ExactSet ∧ o.data = .set es ep t ∧ Tab w es t L
section
variable {P : Program} {w : World} {h h' : Heap} {a : Addr} {L : List Str} {es : Array (Int × Value)} {t : SetTable}
theorem TSet.same (R : TSet w h a L) (k : ∀ o, h.get? a = some o → h'.get? a = some o) : TSet w h' a L := by
  obtain ⟨o, es, ep, t, ho, r⟩ := R
  exact ⟨o, es, ep, t, k o ho, r⟩
theorem TSet.get (R : TSet w h a L) : ∃ o, h.get? a = some o := let ⟨o, _, _, _, ho, _⟩ := R; ⟨o, ho⟩
theorem tOf_mk (x : Str) (tk : Tok) (i : Int) : tOf (i, Value.str x tk) = x := rfl
theorem Tab.size (T : Tab w es t L) : es.size = L.length := by
  have e := T.pm.length_eq
  rw [List.length_map, Array.length_toList] at e
  exact e
theorem Tab.small (T : Tab w es t L) : es.size < scanBound := by rw [T.size]; exact T.few
theorem elems_of (g : ∀ e, e ∈ es.toList → IsTE w e) : ElemsOf (strKind P w) es.toList := by
  intro e he
  obtain ⟨x, tk, rfl⟩ := g e he
  exact ⟨⟨x, strKind_is P w x tk, rfl⟩, rfl⟩
theorem is_iff {e : Int × Value} (g : IsTE w e) (x : Str) : (strKind P w).is x e.2 = true ↔ tOf e = x := by
  obtain ⟨y, tk, rfl⟩ := g
  constructor
  · intro z
    exact (strKind P w).inj (Value.str y tk) y x (strKind_is P w y tk) z
  · intro z
    have z' : y = x := z
    subst z'
    exact strKind_is P w y tk
theorem Tab.mem (T : Tab w es t L) (x : Str) : x ∈ L ↔ ∃ e, e ∈ es.toList ∧ (strKind P w).is x e.2 = true := by
  rw [← T.pm.mem_iff, List.mem_map]
  constructor
  · intro ⟨e, he, q⟩
    exact ⟨e, he, (is_iff (P := P) (T.te e he) x).mpr q⟩
  · intro ⟨e, he, q⟩
    exact ⟨e, he, (is_iff (P := P) (T.te e he) x).mp q⟩
/-- a look for x among the entries -/
theorem look_none (T : Tab w es t L) {x : Str} (q : List.findIdx? (fun e : Int × Value => (strKind P w).is x e.2) es.toList = none) : x ∉ L := fun z => by
  obtain ⟨e, he, c⟩ := (T.mem (P := P) x).mp z
  rw [List.findIdx?_eq_none_iff.mp q e he] at c
  cases c
theorem look_some (T : Tab w es t L) {x : Str} {j : Nat} (q : List.findIdx? (fun e : Int × Value => (strKind P w).is x e.2) es.toList = some j) : x ∈ L ∧ ∃ hj : j < es.toList.length, tOf es.toList[j] = x := by
  obtain ⟨hj, c, _⟩ := List.findIdx?_eq_some_iff_getElem.mp q
  have m := List.getElem_mem hj
  exact ⟨(T.mem (P := P) x).mpr ⟨_, m, c⟩, hj, (is_iff (P := P) (T.te _ m) x).mp c⟩
/-- more by one -/
theorem Tab.more {es1 : Array (Int × Value)} {t1 : SetTable} {x : Str} {tk : Tok} (T : Tab w es t L) (hx : x ∉ L) (few : L.length + 1 < scanBound) (pm : es1.toList.Perm (es.push (hashStr w x, .str x tk)).toList) (fit : t1.fits es1.size = true) (ris : Ris t1.place.toList) (led : t1.led = t.led) : Tab w es1 t1 (L ++ [x]) := by
  rw [Array.toList_push] at pm
  refine ⟨fun e he => ?_, ?_, ?_, ?_, fit, ris, ?_⟩
  · rcases List.mem_append.mp (pm.mem_iff.mp he) with z | z
    · exact T.te e z
    · exact ⟨x, tk, List.mem_singleton.mp z⟩
  · refine (pm.map tOf).trans ?_
    rw [List.map_append]
    exact List.Perm.append_right _ T.pm
  · rw [List.nodup_append]
    refine ⟨T.nd, List.nodup_cons.mpr ⟨List.not_mem_nil, List.nodup_nil⟩, fun u hu v hv e => ?_⟩
    rw [List.mem_singleton.mp hv] at e
    exact hx (e ▸ hu)
  · rw [List.length_append]
    exact few
  · rw [led]
    exact T.led
/-- laid anew -/
theorem Tab.anew {es1 : Array (Int × Value)} {t1 : SetTable} (T : Tab w es t L) (pm : es1.toList.Perm es.toList) (fit : t1.fits es1.size = true) (ris : Ris t1.place.toList) (led : t1.led = t.led) : Tab w es1 t1 L :=
  ⟨fun e he => T.te e (pm.mem_iff.mp he), (pm.map tOf).trans T.pm, T.nd, T.few, fit, ris, by rw [led]; exact T.led⟩
theorem erase_list {α : Type} (xs : Array α) (i : Nat) : (SetTable.eraseAt xs i).toList = xs.toList.eraseIdx i := by
  rw [List.eraseIdx_eq_take_drop_succ]
  simp [SetTable.eraseAt, List.extract_eq_take_drop, List.take_of_length_le]
/-- less by one -/
theorem Tab.less (T : Tab w es t L) {i : Nat} (hi : i < es.toList.length) : Tab w (SetTable.eraseAt es i) (t.drop i) (L.erase (tOf es.toList[i])) := by
  have fit := T.fit
  unfold SetTable.fits at fit
  rw [Bool.and_eq_true, beq_iff_eq, decide_eq_true_eq] at fit
  obtain ⟨f1, f2⟩ := fit
  have hi2 : i < t.place.size := by rw [f1, ← Array.length_toList]; exact hi
  have hsz : (SetTable.eraseAt es i).size = es.size - 1 := by
    rw [← Array.length_toList, erase_list, List.length_eraseIdx, if_pos hi, Array.length_toList]
  have hpz : (SetTable.eraseAt t.place i).size = t.place.size - 1 := by
    rw [← Array.length_toList, erase_list, List.length_eraseIdx, if_pos (by rw [Array.length_toList]; exact hi2), Array.length_toList]
  have hd : t.drop i = { t with place := SetTable.eraseAt t.place i, dummies := SetTable.insertAt t.dummies (SetTable.below t.dummies t.place[i]) t.place[i] } := by
    unfold SetTable.drop
    rw [Array.getElem?_eq_getElem hi2]
  have hdz : (SetTable.insertAt t.dummies (SetTable.below t.dummies t.place[i]) t.place[i]).size = t.dummies.size + 1 := by
    rw [← Array.length_toList, (SetTable.insertAt_perm _ _ _).length_eq, Array.length_toList, Array.size_push]
  have sub : (es.toList.eraseIdx i).Sublist es.toList := List.eraseIdx_sublist _ _
  refine ⟨fun e he => ?_, ?_, T.nd.erase _, ?_, ?_, ?_, ?_⟩
  · rw [erase_list] at he
    exact T.te e (sub.mem he)
  · rw [erase_list]
    have c := erase_perm es.toList i _ (List.getElem?_eq_getElem hi)
    have c2 : (tOf es.toList[i] :: (es.toList.eraseIdx i).map tOf).Perm L := (c.map tOf).trans T.pm
    have m : tOf es.toList[i] ∈ L := c2.mem_iff.mp List.mem_cons_self
    exact List.Perm.cons_inv (c2.trans (List.perm_cons_erase m))
  · exact Nat.lt_of_le_of_lt (List.length_erase_le ..) T.few
  · unfold SetTable.fits SetTable.fill
    rw [hd]
    show (((SetTable.eraseAt t.place i).size == (SetTable.eraseAt es i).size) && decide ((SetTable.eraseAt t.place i).size + (SetTable.insertAt t.dummies (SetTable.below t.dummies t.place[i]) t.place[i]).size ≤ t.mask)) = true
    rw [hpz, hsz, hdz, f1]
    unfold SetTable.fill at f2
    rw [Bool.and_eq_true, beq_iff_eq, decide_eq_true_eq]
    exact ⟨rfl, by omega⟩
  · rw [hd]
    show Ris (SetTable.eraseAt t.place i).toList
    rw [erase_list]
    exact List.Pairwise.sublist (List.eraseIdx_sublist _ _) T.ris
  · rw [hd]
    exact T.led
end
/-- L and x -/
def addL (L : List Str) (x : Str) : List Str := if x ∈ L then L else L ++ [x]
section
variable {P : Program} {w : World} {A : Around} {E : Value → Shared → Prop} {s : Shared} {a : Addr} {L L' : List Str} {o : Obj} {es es1 : Array (Int × Value)} {ep : Nat} {t t1 : SetTable}
/-- what is stored is the set -/
theorem stored (ho : s.heap.get? a = some o) (hex : o.ExactSet) (hd : o.data = .set es ep t) (T1 : Tab w es1 t1 L') : ∃ o1, (s.heap.update a (Obj.putSet es1 t1)).get? a = some o1 ∧ o1.ExactSet ∧ o1.data = .set es1 (ep + 1) t1 := by
  have q := Heap.get?_update_self (Obj.putSet es1 t1) ho (by rw [putSet_of es1 t1 hd]; rfl)
  rw [putSet_of es1 t1 hd] at q
  exact ⟨_, q, hex, rfl⟩
theorem storing {Q : Unit → Shared → Prop} (ho : s.heap.get? a = some o) (hex : o.ExactSet) (hd : o.data = .set es ep t) (T1 : Tab w es1 t1 L')
    (h : ∀ h' o1, h' = s.heap.update a (Obj.putSet es1 t1) → h'.get? a = some o1 → o1.ExactSet → o1.data = .set es1 (ep + 1) t1 → Heap.SameBut a s.heap h' → TSet w h' a L' → Q () { s with heap := h' }) : wpAny (model P w) A (storeSet a es1 t1) Q E s := by
  obtain ⟨o1, h1, h2, h3⟩ := stored ho hex hd T1
  exact wpAny_storeSet_of ho hd (h _ o1 rfl h1 h2 h3 (Heap.SameBut.update _ _ _) ⟨o1, es1, _, t1, h1, h2, h3, T1⟩) (fits_of_scanBound T1.small)
/-- behind one laid new: stored, laid anew where it is too full -/
theorem lay_tail {g : Bool → Sem Unit} (hg : ∀ (b : Bool) (s₁ : Shared) (Q' : Unit → Shared → Prop), Q' () s₁ → wpAny (model P w) A (g b) Q' E s₁) {wd : Bool} {R : Option Bool → Shared → Prop}
    (ho : s.heap.get? a = some o) (hex : o.ExactSet) (hd : o.data = .set es ep t) (T1 : Tab w es1 t1 L') (hR : ∀ h', Heap.SameBut a s.heap h' → TSet w h' a L' → R (some true) { s with heap := h' }) :
    wpAny (model P w) A (do
        storeSet a es1 t1
        if (!wd && t1.tooFull) = true then do
            g (relayAll t1 es1 (SetTable.grown es1.size)).2.2
            storeSet a (relayAll t1 es1 (SetTable.grown es1.size)).1 (relayAll t1 es1 (SetTable.grown es1.size)).2.1
            pure (some true)
          else pure (some true)) R E s := by
  refine wpAny_bind (storing ho hex hd T1 fun h1 o1 _ k1 k2 k3 sb1 S1 => ?_)
  by_cases c : (!wd && t1.tooFull) = true
  · rw [if_pos c]
    have T2 : Tab w (relayAll t1 es1 (SetTable.grown es1.size)).1 (relayAll t1 es1 (SetTable.grown es1.size)).2.1 L' := T1.anew (relayAll_perm _ _ _) (relayAll_fits _ _ _) (relayAll_ris _ _ _) (relayAll_led _ _ _)
    exact wpAny_bind (hg _ _ _ (wpAny_bind (storing (s := { s with heap := h1 }) k1 k2 k3 T2 fun h2 o2 _ _ _ _ sb2 S2 => wpAny_pure (hR h2 (sb1.trans sb2) S2))))
  · rw [if_neg c]
    exact wpAny_pure (hR h1 sb1 S1)
theorem plain_off (T1 : Tab w es1 t1 L') (b : Bool) : Tab w es1 (if b = true then t1 else { t1 with plain := false }) L' := by
  cases b with
  | true => exact T1
  | false => exact ⟨T1.te, T1.pm, T1.nd, T1.few, T1.fit, T1.ris, T1.led⟩
theorem add_hashed {x : Str} {tk : Tok} {Q : Bool → Shared → Prop} (R : TSet w s.heap a L) (room : L.length + 1 < scanBound)
    (hQ : ∀ b h', Heap.SameBut a s.heap h' → TSet w h' a (addL L x) → Q b { s with heap := h' }) : wpAny (model P w) A (setAddHashed a (.str x tk) (hashStr w x)) Q E s := by
  obtain ⟨o, es, ep, t, ho, hex, hd, T⟩ := R
  have key := strKind_is P w x tk
  have el : ElemsOf (strKind P w) es.toList := elems_of T.te
  have gave : ∀ (b : Bool) (s₁ : Shared) (Q' : Unit → Shared → Prop), Q' () s₁ → wpAny (model P w) A (match b with | true => rule "set.scan.the-table-gave-way" | false => pure ()) Q' E s₁ := fun b s₁ Q' q => by
    cases b with
    | true => exact wpAny_rule q
    | false => exact wpAny_pure q
  unfold setAddHashed setAddHashedIn
  refine wpAny_holding (wpAny_bind (wpAny_setState_of ho hd T.fit ?_))
  dsimp only
  rw [if_pos (byScan_of (x := Value.str x tk) rfl T.small el)]
  unfold setAddByScan
  refine wpAny_bind (wpAny_bind (wpAny_rule (wpAny_bind (wpAny_setScan_of (knd := strKind P w) key ho hd T.fit el ?_))))
  cases c : List.findIdx? (fun e : Int × Value => (strKind P w).is x e.2) es.toList with
  | some j =>
    have m := (look_some (P := P) T c).1
    refine wpAny_pure (wpAny_pure (hQ false s.heap (Heap.SameBut.refl a s.heap) ?_))
    unfold addL
    rw [if_pos m]
    exact ⟨o, es, ep, t, ho, hex, hd, T⟩
  | none =>
    have m := look_none (P := P) T c
    have ea : addL L x = L ++ [x] := by
      unfold addL
      rw [if_neg m]
    have T1 : Tab w (layNew t es (hashStr w x) (.str x tk)).1 (layNew t es (hashStr w x) (.str x tk)).2.1 (L ++ [x]) :=
      T.more m room (layNew_perm _ _ _ _) (layNew_fits _ _ _ _) (layNew_ris _ _ _ _ T.ris) (layNew_led _ _ _ _)
    have fin : ∀ h', Heap.SameBut a s.heap h' → TSet w h' a (L ++ [x]) → Q true { s with heap := h' } := fun h' sb S => hQ true h' sb (by rw [ea]; exact S)
    dsimp only
    show wpAny _ _ _ _ _ _
    generalize layNew t es (hashStr w x) (.str x tk) = Z at T1
    obtain ⟨es1, t1, wd, gv⟩ := Z
    dsimp only at T1 ⊢
    refine wpAny_bind (gave _ _ _ ?_)
    split
    · refine wpAny_bind ?_
      rw [hashByValue_scannable 8 (x := Value.str x tk) rfl]
      refine wpAny_pure (lay_tail gave ho hex hd (plain_off T1 _) fun h' sb S => wpAny_pure (fin h' sb S))
    · refine wpAny_bind (wpAny_pure ?_)
      simp only [↓reduceIte]
      exact lay_tail gave ho hex hd T1 fun h' sb S => wpAny_pure (fin h' sb S)
end
end TX
set_option maxRecDepth 100000
set_option maxHeartbeats 8000000
set_option autoImplicit false
/-! TX2: set(a list of texts). -/
namespace TX
open PySem PySem.Spec PyProof.Rows L2
/-- the texts met so far, each once -/
def met (xs : List Str) : List Str := xs.foldl addL []
theorem met_snoc (xs : List Str) (x : Str) : met (xs ++ [x]) = addL (met xs) x := by
  unfold met
  rw [List.foldl_append]
  rfl
theorem addL_len (L : List Str) (x : Str) : (addL L x).length ≤ L.length + 1 := by
  unfold addL
  split
  · exact Nat.le_succ _
  · rw [List.length_append]
    exact Nat.le_refl _
theorem met_len (xs : List Str) : (met xs).length ≤ xs.length := by
  have : ∀ (xs L : List Str), (xs.foldl addL L).length ≤ L.length + xs.length := by
    intro xs
    induction xs with
    | nil => intro L; exact Nat.le_refl _
    | cons x r ih =>
      intro L
      have h1 := ih (addL L x)
      have h2 := addL_len L x
      simp only [List.foldl_cons, List.length_cons]
      omega
  have h := this xs []
  rw [List.length_nil, Nat.zero_add] at h
  exact h
theorem mem_addL {L : List Str} {x y : Str} : y ∈ addL L x ↔ y ∈ L ∨ y = x := by
  unfold addL
  split
  · rename_i h
    exact ⟨.inl, fun z => z.elim id fun e => e ▸ h⟩
  · rw [List.mem_append, List.mem_singleton]
theorem mem_met {xs : List Str} {y : Str} : y ∈ met xs ↔ y ∈ xs := by
  have : ∀ (xs L : List Str), y ∈ xs.foldl addL L ↔ y ∈ L ∨ y ∈ xs := by
    intro xs
    induction xs with
    | nil => intro L; simp
    | cons x r ih =>
      intro L
      rw [List.foldl_cons, ih, mem_addL, List.mem_cons, or_assoc]
  exact (this xs []).trans ⟨fun z => z.elim (fun q => absurd q List.not_mem_nil) id, .inr⟩
theorem nodup_addL {L : List Str} {x : Str} (h : L.Nodup) : (addL L x).Nodup := by
  unfold addL
  split
  · exact h
  · rename_i hx
    rw [List.nodup_append]
    refine ⟨h, List.nodup_cons.mpr ⟨List.not_mem_nil, List.nodup_nil⟩, fun u hu v hv e => ?_⟩
    rw [List.mem_singleton.mp hv] at e
    exact hx (e ▸ hu)
theorem nodup_met (xs : List Str) : (met xs).Nodup := by
  have : ∀ (xs L : List Str), L.Nodup → (xs.foldl addL L).Nodup := by
    intro xs
    induction xs with
    | nil => intro L h; exact h
    | cons x r ih => intro L h; exact ih _ (nodup_addL h)
  exact this xs [] List.nodup_nil
/-- no more texts than N has -/
theorem few_of : ∀ (L N : List Str), L.Nodup → (∀ y, y ∈ L → y ∈ N) → L.length ≤ N.length
  | [], _, _, _ => Nat.zero_le _
  | x :: L, N, hn, hs => by
    obtain ⟨h1, h2⟩ := List.nodup_cons.mp hn
    have hx := hs x List.mem_cons_self
    have ih := few_of L (N.erase x) h2 fun y hy => (List.mem_erase_of_ne fun e : y = x => h1 (by rw [← e]; exact hy)).mpr (hs y (List.mem_cons_of_mem _ hy))
    have hp := List.length_pos_of_mem hx
    rw [List.length_erase_of_mem hx] at ih
    rw [List.length_cons]
    omega
theorem met_few {xs N : List Str} (h : ∀ y, y ∈ xs → y ∈ N) : (met xs).length ≤ N.length := few_of _ _ (nodup_met xs) fun y hy => h y (mem_met.mp hy)
section
variable {prog : Program} {w : World} {A : Around} {E : Value → Shared → Prop} {s : Shared}
abbrev newSetObj (w : World) : Obj := { cls := .type "set", dict := none, data := .set #[] 0 (.fresh 0 0 (!w.params.followText "set-order")) }
theorem empty_set (w : World) (h : Heap) {a : Addr} (ha : h.get? a = some (newSetObj w)) : TSet w h a [] := by
  refine ⟨_, #[], 0, _, ha, ⟨rfl, rfl, rfl⟩, rfl, ⟨fun e he => by simp at he, List.Perm.refl _, List.nodup_nil, by decide, by rfl, List.Pairwise.nil, ?_⟩⟩
  show w.params.followText "set-order" = true ∨ (!w.params.followText "set-order") = true
  cases w.params.followText "set-order" with
  | true => exact .inl rfl
  | false => exact .inr rfl
/-- one text after the other -/
theorem add_loop {R : Result → Shared → Prop} {I : Addr} {fp wr : List Addr} {G : Array GenState → Array GenState → Prop} {n : Nat} {Pv : Nat → Value → Prop} {St : Nat → Shared → Prop} (W : WalksS prog w A.in1 I fp wr G n Pv St) {S : Addr} (hS : S ∉ fp) (xs : List Str) (hn : xs.length = n)
    (hv : ∀ i v, Pv i v → ∃ (x : Str) (tk : Tok), xs[i]? = some x ∧ v = Value.str x tk) {N : List Str} (inN : ∀ y, y ∈ xs → y ∈ N) (room : N.length + 1 < scanBound) : ∀ (m i : Nat) (s : Shared), n - i = m → i ≤ n → St i s → TSet w s.heap S (met (xs.take i)) →
      (∀ s', Moved (S :: wr) G s s' → TSet w s'.heap S (met xs) → R (.ok (.ret .none)) s') → codeAny (model prog w) A (.builtin "set.update.loop" ⟨[.ref S, .ref I], []⟩) R s
  | 0, i, s, hm, hi, st, T, hR => by
    have e : i = n := by omega
    subst e
    rw [List.take_of_length_le (Nat.le_of_eq hn)] at T
    refine codeAny_builtin PyProof.Rows.F.entry_set_update_loop ?_
    rw [Around.under_plainId PyProof.Rows.F.plain_set_update_loop _]
    refine wpAny_bind (m := pyNext (.ref I)) (W.done s _ _ st fun s' mv => ?_)
    have T' : TSet w s'.heap S (met xs) := T.same fun o ho => mv.heap S o (fun z => hS (W.sub S z)) ho
    exact wpAny_pure (hR s' (mv.mono fun b hb => List.mem_cons_of_mem _ hb) T')
  | m + 1, i, s, hm, hi, st, T, hR => by
    have hlt : i < n := by omega
    refine codeAny_builtin PyProof.Rows.F.entry_set_update_loop ?_
    rw [Around.under_plainId PyProof.Rows.F.plain_set_update_loop _]
    refine wpAny_bind (m := pyNext (.ref I)) (W.item i s _ _ hlt st fun v s' pv st' mv => ?_)
    obtain ⟨x, tk, hx, rfl⟩ := hv i v pv
    have T' : TSet w s'.heap S (met (xs.take i)) := T.same fun o ho => mv.heap S o (fun z => hS (W.sub S z)) ho
    have hk : (met (xs.take i)).length + 1 < scanBound := by
      have := met_few (xs := xs.take i) fun y hy => inN y (List.mem_of_mem_take hy)
      omega
    have et : met (xs.take (i + 1)) = addL (met (xs.take i)) x := by
      rw [List.take_add_one, hx]
      exact met_snoc _ _
    refine wpAny_bind (m := holding [Value.str x tk] (setAdd S (.str x tk))) (wpAny_holding ?_)
    unfold setAdd
    refine wpAny_holding (wpAny_bind ((strKind prog w).pyHash (strKind_is prog w x tk) ?_))
    refine add_hashed (s := { s' with toks := s'.toks + 1 }) T' hk fun b h' sb T2 => ?_
    rw [← et] at T2
    have keep : ∀ b o, b ≠ S → s'.heap.get? b = some o → h'.get? b = some o := fun b o hb e => (sb.2 b hb).trans e
    refine wpAny_pure ⟨plainId_quiet PyProof.Rows.F.plain_set_update_loop _, add_loop W hS xs hn hv inN room m (i + 1) _ (by omega) hlt (W.frame _ s' h' (s'.toks + 1) st' (Nat.le_succ _) fun b hb o e => keep b o (fun z => hS (z ▸ hb)) e) T2 fun s2 mv2 T3 => ?_⟩
    exact hR s2 (Moved.trans W.gtrans ((mv.mono fun b hb => List.mem_cons_of_mem _ hb).then_heap (Nat.le_succ _) fun b o hb e => keep b o (fun z => hb (z ▸ List.mem_cons_self)) e) mv2) T3
/-- set.__new__ with one argument -/
theorem new_set_1 (v : Value) {Q₁ : Value → Shared → Prop} (h : Q₁ (.ref s.heap.objs.size) { s with heap := s.heap.push (newSetObj w) }) : codeAny (model prog w) A (.call (.builtin "set.__new__") ⟨[.type "set", v], []⟩) (wants Q₁ E) s := by
  refine codeAny_of_tree ?_
  refine wpAny_bind (m := checkBuiltinCall "set.__new__" ⟨[.type "set", v], []⟩) (wpAny_of_eq (PySem.F.newCall_set_1 v) (wpAny_pure ⟨plainId_quiet PySem.F.plain_set_new _, codeAny_builtin PySem.F.entry_set_new ?_⟩))
  rw [Around.under_plainId PySem.F.plain_set_new _]
  unfold Builtin.«set.__new__» Builtin.Frozenset.newClass
  have sub := PySem.sub_set_self
  cases s
  dsimp only
  wp_walk
  refine wpAny_askSetting (wpAny_pure ?_)
  dsimp only
  simp only [newObj]
  exact wpAny_bind (wpAny_alloc (wpAny_pure (wpAny_pure h)))
/-- set(xs) -/
theorem call_set_texts {l : Addr} {items : Array Value} {xs : List Str} {Q : Value → Shared → Prop} (hh : A.handled = none) (hl : s.heap.IsList l items) (hi : items.size = xs.length) (hv : ∀ (i : Nat) (v : Value), items[i]? = some v → ∃ (x : Str) (tk : Tok), xs[i]? = some x ∧ v = Value.str x tk) {N : List Str} (inN : ∀ y, y ∈ xs → y ∈ N) (room : N.length + 1 < scanBound)
    (h : ∀ (h' : Heap) (tk : Nat), TSet w h' s.heap.objs.size (met xs) → (∀ b o, s.heap.get? b = some o → h'.get? b = some o) → Q (.ref s.heap.objs.size) { s with heap := h', toks := tk }) : wpAny (model prog w) A (call (.type "set") [.ref l]) Q E s := by
  obtain ⟨c, tl, hmro⟩ := PySem.F.called_set.mro
  have x1 := PySem.F.called_set.made
  have x2 := PySem.F.called_set.sub
  have x3 := PySem.F.called_set.notType
  have x4 := PySem.F.called_set.canCreate
  have x5 := PySem.F.typeCall_set_1 (.ref l)
  refine wpAny_call (codeAny_of_tree (wpAny_pure ⟨Code.quiet_builtin _ (by decide +kernel), codeAny_builtin PySem.F.entry_type_call ?_⟩))
  rw [Around.under_plain (weight_type_call_type "set" [.ref l] []) rfl]
  repeat (any_goals (first | assumption | wp_step))
  refine codeAny_mono (new_set_1 (.ref l) (E := E) (Q₁ := fun v s1 => v = .ref s.heap.objs.size ∧ s1 = { s with heap := s.heap.push (newSetObj w) }) ⟨rfl, rfl⟩) fun r s1 hr => ?_
  match r, hr with
  | .error _, hr => exact hr
  | .ok (.ret v), hr =>
    obtain ⟨rfl, rfl⟩ := hr
    have gS : (s.heap.push (newSetObj w)).get? s.heap.objs.size = some (newSetObj w) := Heap.get?_push_size _ rfl
    have tS : Shared.TypeIs { s with heap := s.heap.push (newSetObj w) } (.ref s.heap.objs.size) "set" := ⟨_, gS, rfl⟩
    have y1 := PySem.F.called_set.init.lookup
    have y2 := PySem.F.called_set.init.bind (.ref s.heap.objs.size)
    repeat (any_goals (first | assumption | wp_step))
    refine codeAny_mono (codeAny_call_builtin (R := wants (fun r s2 => r = .none ∧ ∃ h' tk, s2 = { s with heap := h', toks := tk } ∧ TSet w h' s.heap.objs.size (met xs) ∧ ∀ b o, s.heap.get? b = some o → h'.get? b = some o) E)
      PySem.F.called_set.init.plain PySem.F.entry_set_init (PySem.check_set_init_1 tS ?_)) fun r2 s2 hr2 => ?_
    · obtain ⟨ol, hol, hcl, nl, hdl⟩ := hl
      obtain ⟨oc, od, oda, os⟩ := ol
      dsimp only at hcl hdl
      subst hcl
      subst hdl
      have z1 := PySem.F.sub_list_set
      have z2 := PySem.F.sub_list_frozenset
      have z3 : (Value.type "list" == Value.type "dict") = false := by decide
      have hol1 : (s.heap.push (newSetObj w)).get? l = some { cls := .type "list", dict := od, data := .seq items nl, slots := os } := Heap.get?_push_of_some _ hol
      have li : (s.heap.push (newSetObj w)).IsList l items := ⟨_, hol1, rfl, nl, rfl⟩
      have lt : l < s.heap.objs.size := Heap.lt_size hol
      unfold Builtin.«set.__init__» noKeywords Builtin.Frozenset.updateFrom
      generalize hPI : pyIter = PI
      wp_walk
      subst hPI
      refine wpAny_pyIter_list li (wpAny_bind (wpAny_runValue ?_))
      have e1 : (s.heap.push (newSetObj w)).objs.size = s.heap.objs.size + 1 := Heap.size_push ..
      have hA : A.in1.in1.in1.handled = none := hh
      have ni : l ≠ (s.heap.push (newSetObj w)).objs.size := by rw [e1]; exact Nat.ne_of_lt (Nat.lt_succ_of_lt lt)
      have nS : s.heap.objs.size ∉ [(s.heap.push (newSetObj w)).objs.size, l] := by
        rw [e1]
        intro z
        rcases List.mem_cons.mp z with z | z
        · exact Nat.ne_of_lt (Nat.lt_succ_self _) z
        · exact Nat.ne_of_gt lt (List.mem_singleton.mp z)
      refine add_loop ((Walks.list hA _ l ni items).toS) nS xs hi.symm hv inN room items.size 0 _ rfl (Nat.zero_le _) ⟨⟨_, Heap.get?_push_size _ rfl, rfl, rfl⟩, li.push _⟩ (empty_set w _ (Heap.get?_push_of_some _ gS)) fun s' mv T => ?_
      obtain ⟨h', g', d', tk', os'⟩ := s'
      have eg : g' = s.gens := mv.gens
      have ed : d' = s.drawn := mv.drawn
      have eo : os' = s.os := mv.os
      subst eg
      subst ed
      subst eo
      refine wpAny_pure (wpAny_pure ⟨rfl, h', tk', rfl, T, fun b o e => ?_⟩)
      have lb := Heap.lt_size e
      refine mv.heap b o (fun z => ?_) (Heap.get?_push_of_some _ (Heap.get?_push_of_some _ e))
      rcases List.mem_cons.mp z with z | z
      · exact Nat.ne_of_lt lb z
      · have z2 := (List.mem_singleton.mp z).trans e1
        exact Nat.ne_of_lt (Nat.lt_succ_of_lt lb) z2
    · match r2, hr2 with
      | .error _, hr2 => exact hr2
      | .ok (.ret v), hr2 =>
        obtain ⟨rfl, h', tk, rfl, T, k⟩ := hr2
        repeat (any_goals (first | assumption | wp_step))
        exact h _ _ T k
end
end TX
set_option maxRecDepth 100000
set_option maxHeartbeats 8000000
set_option autoImplicit false
/-! TX3: found.discard(x), sorted(found). -/
namespace TX
open PySem PySem.Spec PyProof.Rows L2
section
variable {prog : Program} {w : World} {A : Around} {E : Value → Shared → Prop} {s : Shared} {a : Addr} {L : List Str}
theorem TSet.isSet (R : TSet w s.heap a L) : s.TypeIs (.ref a) "set" := by
  obtain ⟨o, es, ep, t, ho, hx, _⟩ := R
  exact ⟨o, ho, hx.1⟩
theorem TSet.bare (R : TSet w s.heap a L) : ∀ b, Value.ref a = .ref b → ∃ o, s.heap.get? b = some o ∧ o.dict = none := fun b e => by
  obtain ⟨o, es, ep, t, ho, hx, _⟩ := R
  injection e with e
  subst e
  exact ⟨o, ho, hx.2.1⟩
/-- found.discard(x) -/
theorem call_discard {x : Str} {tk : Tok} {Q : Value → Shared → Prop} (R : TSet w s.heap a L) (hQ : ∀ h' tk', Heap.SameBut a s.heap h' → TSet w h' a (L.erase x) → Q .none { s with heap := h', toks := tk' }) :
    wpAny (model prog w) A (call (.builtin "set.discard") [.ref a, .str x tk]) Q E s := by
  have ts := R.isSet
  obtain ⟨o, es, ep, t, ho, hex, hd, T⟩ := R
  have key := strKind_is prog w x tk
  have el : ElemsOf (strKind prog w) es.toList := elems_of T.te
  refine wpAny_call_entry F.slot_set_discard ts F.entry_set_discard ?_ (F.args_set_discard_2 _ _)
  unfold Builtin.«set.discard» Builtin.Frozenset.oneOther
  simp only [List.isEmpty_nil, bind_assoc]
  unfold Builtin.Frozenset.addrOf Builtin.Frozenset.withSetAsKey setDiscard
  refine wpAny_bind (wpAny_pure ?_)
  try dsimp only
  refine wpAny_bind (wpAny_pure ?_)
  try dsimp only
  refine wpAny_bind (wpAny_tryCatch (wpAny_holding (wpAny_bind ((strKind prog w).pyHash key ?_))))
  unfold setDiscardHashed setFind setFindIn
  refine wpAny_bind (wpAny_bind (wpAny_setState_of (s := { s with toks := s.toks + 1 }) ho hd T.fit ?_))
  dsimp only
  rw [if_pos (byScan_of (x := Value.str x tk) rfl T.small el)]
  refine wpAny_bind (wpAny_rule (wpAny_bind (wpAny_setScan_of (knd := strKind prog w) (s := { s with toks := s.toks + 1 }) key ho hd T.fit el ?_)))
  cases c : List.findIdx? (fun e : Int × Value => (strKind prog w).is x e.2) es.toList with
  | none =>
    have m := look_none (P := prog) T c
    have e : L.erase x = L := List.erase_of_not_mem m
    refine wpAny_pure (wpAny_pure (wpAny_pure ⟨_, rfl, hQ s.heap (s.toks + 1) (Heap.SameBut.refl a s.heap) ?_⟩))
    rw [e]
    exact ⟨o, es, ep, t, ho, hex, hd, T⟩
  | some j =>
    obtain ⟨m, hj, ej⟩ := look_some (P := prog) T c
    have T1 := T.less hj
    rw [ej] at T1
    refine wpAny_pure ?_
    dsimp only
    rw [Nat.zero_add]
    refine wpAny_bind (wpAny_setState_of (s := { s with toks := s.toks + 1 }) ho hd T.fit ?_)
    dsimp only
    refine wpAny_bind (storing (s := { s with toks := s.toks + 1 }) ho hex hd T1 fun h' o1 _ _ _ _ sb S => ?_)
    exact wpAny_bind (wpAny_point (wpAny_pure (wpAny_pure ⟨_, rfl, hQ h' (s.toks + 1) sb S⟩)))

/-! ### sorted -/
def leT (a b : Str) : Bool := decide (a.cps.toList ≤ b.cps.toList)
/-- the texts, rising -/
def srt (L : List Str) : List Str := L.mergeSort leT
theorem str_ext {a b : Str} (h : a.cps.toList = b.cps.toList) : a = b := by
  cases a
  cases b
  congr
  exact Array.toList_inj.mp h
theorem leT_total (a b : Str) : (leT a b || leT b a) = true := by
  unfold leT
  rcases Std.Total.total (r := fun x y : List Nat => x ≤ y) a.cps.toList b.cps.toList with h | h
  · simp [h]
  · simp [h]
theorem leT_trans (a b c : Str) (h : leT a b = true) (k : leT b c = true) : leT a c = true := by
  unfold leT at h k ⊢
  rw [decide_eq_true_eq] at h k ⊢
  exact List.le_trans h k
theorem leT_anti {a b : Str} (h : leT a b = true) (k : leT b a = true) : a = b := by
  unfold leT at h k
  rw [decide_eq_true_eq] at h k
  exact str_ext (List.le_antisymm h k)
theorem srt_pair (L : List Str) : (srt L).Pairwise (fun a b => leT a b = true) := List.pairwise_mergeSort leT_trans leT_total L
theorem srt_perm (L : List Str) : (srt L).Perm L := List.mergeSort_perm L leT
theorem srt_eq {L M : List Str} (h : L.Perm M) : srt L = srt M :=
  List.Perm.eq_of_pairwise (le := fun a b => leT a b = true) (fun _ _ _ _ h k => leT_anti h k) (srt_pair L) (srt_pair M) ((srt_perm L).trans (h.trans (srt_perm M).symm))
theorem dataLe_srt (L : List Str) : L.mergeSort (PySem.W.dataLe false PyData.str) = srt L := by
  have e : PySem.W.dataLe false PyData.str = leT := PySem.W.dataLe_str (fun x : Str => x)
  rw [e]
  rfl
/-- the members of the set, as values -/
theorem members {es : Array (Int × Value)} {t : SetTable} {vs : List Value} (T : Tab w es t L) (pm : vs.Perm (es.toList.map (·.2))) : ∃ bs : List Str, bs.Perm L ∧ PySem.W.EachIs (fun v b => ∃ tk, v = Value.str b tk) vs bs := by
  let f : Value → Str := fun v => match v with | .str x _ => x | _ => Str.empty
  have ef : (es.toList.map (·.2)).map f = es.toList.map tOf := by
    rw [List.map_map]
    rfl
  refine ⟨vs.map f, ?_, ?_⟩
  · have q := pm.map f
    rw [ef] at q
    exact q.trans T.pm
  · have all : ∀ v, v ∈ vs → ∃ x tk, v = Value.str x tk := fun v hv => by
      obtain ⟨e, he, rfl⟩ := List.mem_map.mp (pm.mem_iff.mp hv)
      obtain ⟨x, tk, rfl⟩ := T.te e he
      exact ⟨x, tk, rfl⟩
    clear pm
    induction vs with
    | nil => exact .nil
    | cons v r ih =>
      obtain ⟨x, tk, rfl⟩ := all v List.mem_cons_self
      exact .cons ⟨tk, rfl⟩ (ih fun u hu => all u (List.mem_cons_of_mem _ hu))
theorem sorted_texts {Q : Value → Shared → Prop} (R : TSet w s.heap a L) (hh : A.handled = none) (hu : A.units + 4 < cLine)
    (hQ : ∀ s' p (out : List Value) (c : Nat), (∀ b o, s.heap.get? b = some o → s'.heap.get? b = some o) → s'.gens = s.gens → s'.os = s.os → s.heap.objs.size ≤ p →
      s'.heap.get? p = some (seqObj "list" out.toArray c) → PySem.W.EachIs (fun v b => ∃ tk, v = Value.str b tk) out (srt L) → Q (.ref p) s') :
    wpAny (model prog w) A (call (.builtin "sorted") [.ref a]) Q E s := by
  obtain ⟨o, es, ep, t, ho, hex, hd, T⟩ := R
  refine Calls.call_function_entry kind_sorted plain_sorted entry_sorted (args_sorted1 _) ?_
  unfold Builtin.«sorted»
  refine wpAny_bind (m := checkCount "sorted" 1 1 _) (wpAny_pure ?_)
  refine wpAny_bind (collect_set (A := A.in1) hh ⟨o, ho, hex.1, hd⟩ T.fit T.small T.ris T.led fun s1 vs k1 hz g1 o1 pm => ?_)
  obtain ⟨bs, pb, each⟩ := members T pm
  have few : vs.length ≤ sizeLine := by
    rw [each.length, pb.length_eq]
    exact fits_of_scanBound T.few
  refine wpAny_bind (wpAny_newList ?_ few)
  have hoL : (s1.heap.push (seqObj "list" vs.toArray 0)).get? s1.heap.objs.size = some (seqObj "list" vs.toArray 0) := Heap.get?_push_size _ rfl
  have er : PySem.W.EachIs (fun v b => ∃ as, Reads (s1.heap.push (seqObj "list" vs.toArray 0)) v (PyData.str b) as ∧ s1.heap.objs.size ∉ as) vs bs := each.mono fun v b ⟨tk, e⟩ => by
    subst e
    exact ⟨[], .str b tk, List.not_mem_nil⟩
  refine wpAny_bind (wpAny_holding (PySem.W.list_sort_data (A := A.in1) (s := { s1 with heap := s1.heap.push (seqObj "list" vs.toArray 0) }) (enc := PyData.str) hoL each er (PySem.W.AllAlike.of fun _ _ => rfl) (PySem.W.Sortable.others fun _ => ⟨fun z => (by cases z), fun _ z => (by cases z)⟩) (by rw [← each.length]; exact few) (fun b _ => ?_) fun out hl he => ?_))
  · show A.in1.units + 1 + 0 < cLine
    have : A.in1.units ≤ A.units + 1 := Nat.le_refl _
    omega
  · obtain ⟨c, hc⟩ := sortedHeap_at (vs := vs) (out := out.toArray) hoL
    rw [dataLe_srt, srt_eq pb] at he
    refine wpAny_pure ⟨_, rfl, hQ _ s1.heap.objs.size out c (fun b u e => ?_) g1 o1 hz hc he⟩
    have q := k1 b u e
    have lt := Heap.lt_size q
    show (sortedHeap (s1.heap.push (seqObj "list" vs.toArray 0)) s1.heap.objs.size vs out.toArray).get? b = some u
    rw [sortedHeap_old (Nat.ne_of_lt lt) (by rw [size_push']; exact Nat.lt_succ_of_lt lt)]
    exact Heap.get?_push_of_some _ q
end
end TX
set_option maxRecDepth 100000
set_option maxHeartbeats 4000000
set_option autoImplicit false
/-! TX4: sets of texts over the hand layer. -/
namespace TX
open PySem PySem.Spec PyProof.Rows L2
/-- the set of the texts T at a -/
def TO (w : World) (a : Addr) (T : List Str) : HO := .ext fun h => TSet w h a T
section
variable {X : Cx}
theorem to_new {w : World} {P : Program} {H : Hp} {h : Heap} {a : Addr} {T : List Str} (R : TSet w h a T) : ObjOk P w H h a (TO w a T) := ⟨R, R.get, fun _ _ p k => p.same k⟩
theorem to_get {pins : List (Addr × Obj)} {σ : L2.St} {H : Hp} {s : Shared} {a : Addr} {T : List Str} (I : Inv X pins σ H s) (ha : H a = some (TO X.w a T)) : TSet X.w s.heap a T := (I.hok a _ ha).1
theorem strs_vals : ∀ {ys : List Str} {us : List Value}, Vals (ys.map V.str) us → ∀ (i : Nat) (v : Value), us[i]? = some v → ∃ (x : Str) (tk : Tok), ys[i]? = some x ∧ v = Value.str x tk
  | [], us, r, i, v, h => by
    cases r
    simp at h
  | y :: ys, us, r, i, v, h => by
    cases r with
    | cons r0 rr =>
      obtain ⟨tk, rfl⟩ := r0
      cases i with
      | zero =>
        have e := Option.some.inj h
        exact ⟨y, tk, rfl, e.symm⟩
      | succ i => exact strs_vals rr i v h
theorem vals_strs : ∀ {us : List Value} {ys : List Str}, PySem.W.EachIs (fun v b => ∃ tk, v = Value.str b tk) us ys → Vals (ys.map V.str) us
  | _, _, .nil => .nil
  | _, _, .cons ⟨tk, e⟩ t => .cons ⟨tk, e⟩ (vals_strs t)
/-- set(xs), xs a list of texts -/
def rSetT (K : PySem.W.Frag) (w : World) : List V → Hp → VK → Prop := fun xs H Q => ∃ (l : Addr) (ys : List Str), xs = [.ref l] ∧ SqL K H l (ys.map V.str) ∧ (∃ N : List Str, (∀ y, y ∈ ys → y ∈ N) ∧ N.length + 1 < scanBound) ∧ ∀ p, H p = none → Q (.ref p) (upd H p (TO w p (met ys)))
theorem cr_setT (hc : X.calm = true) : CallR X (.type "set") (rSetT X.K X.w) := by
  intro pins s σ H xs us Q I r h
  obtain ⟨l, ys, rfl, hl, ⟨N, inN, few⟩, q⟩ := h
  rw [Vals.ref1 r]
  obtain ⟨its, rv, pl, hz⟩ := I.list hl
  have n : H s.heap.objs.size = none := I.hok.fresh (Nat.le_refl _)
  refine call_set_texts (xs := ys) (I.ok.hd hc) pl.isList (by rw [List.size_toArray, ← Vals.length rv, List.length_map]) (fun i v hv => strs_vals rv i v (by rw [List.getElem?_toArray] at hv; exact hv)) inN few fun h' tk T k => ?_
  exact ⟨.ref s.heap.objs.size, _, I.laid (t' := tk) k (Nat.le_refl _) (to_new T), rfl, q _ n⟩
/-- sorted(found) -/
def rSrtT (w : World) : List V → Hp → VK → Prop := fun xs H Q => ∃ (a : Addr) (T : List Str), xs = [.ref a] ∧ H a = some (TO w a T) ∧ ∀ p, H p = none → Q (.ref p) (upd H p (.lst ((srt T).map V.str)))
theorem cr_srtT (hc : X.calm = true) (hu : X.A.units + 4 < cLine) : CallR X (.builtin "sorted") (rSrtT X.w) := by
  intro pins s σ H xs us Q I r h
  obtain ⟨a, T, rfl, ha, q⟩ := h
  have R := to_get I ha
  rw [Vals.ref1 r]
  refine sorted_texts R (I.ok.hd hc) hu fun s' p out c k g o hp hg he => ?_
  have few : T.length < scanBound := by
    obtain ⟨_, _, _, _, _, _, _, tb⟩ := R
    exact tb.few
  have hlen : ((srt T).map V.str).length ≤ sizeLine := by
    rw [List.length_map, (srt_perm T).length_eq]
    exact fits_of_scanBound few
  have n : H p = none := I.hok.fresh hp
  have J : Inv X pins σ (upd H p (.lst ((srt T).map V.str))) { s with heap := s'.heap, gens := s'.gens, drawn := s'.drawn, toks := s'.toks } :=
    I.call (ch := []) (Un.laid k hp n) (I.hok.laid k hp ⟨hlen, out, c, vals_strs he, hg⟩) (by rw [g]; exact I.bare) (fun _ z => nomatch z)
  have e : s' = { s with heap := s'.heap, gens := s'.gens, drawn := s'.drawn, toks := s'.toks } := by
    cases s'
    cases s
    cases o
    rfl
  rw [e]
  exact ⟨.ref p, _, J, rfl, q p n⟩
theorem each_strs : ∀ {ys : List Str} {us : List Value}, Vals (ys.map V.str) us → PySem.W.EachIs (fun v b => ∃ tk, v = Value.str b tk) us ys
  | [], _, r => by
    cases r
    exact .nil
  | y :: ys, _, r => by
    cases r with
    | cons r0 rr => exact .cons r0 (each_strs rr)
/-- sorted(xs), xs a list of texts -/
def rSrtL (K : PySem.W.Frag) : List V → Hp → VK → Prop := fun xs H Q => ∃ (l : Addr) (ys : List Str), xs = [.ref l] ∧ SqL K H l (ys.map V.str) ∧ ∀ p, H p = none → Q (.ref p) (upd H p (.lst ((srt ys).map V.str)))
theorem cr_srtL (hu : X.A.units + 4 < cLine) : CallR X (.builtin "sorted") (rSrtL X.K) := by
  intro pins s σ H xs us Q I r h
  obtain ⟨l, ys, rfl, hl, q⟩ := h
  rw [Vals.ref1 r]
  obtain ⟨its, rv, pl, hz⟩ := I.list hl
  have each := each_strs rv
  have few : ys.length ≤ sizeLine := by
    rw [List.length_map] at hz
    exact hz
  refine PySem.W.sorted_data (enc := PyData.str) pl.isList each (each.mono fun v b ⟨tk, e⟩ => by rw [e]; exact ⟨[], .str b tk⟩) (PySem.W.AllAlike.of fun _ _ => rfl) (PySem.W.Sortable.others fun _ => ⟨fun z => (by cases z), fun _ z => (by cases z)⟩) few (fun b _ => ?_) fun out ho he => ?_
  · show X.A.units + 2 + 0 < cLine
    omega
  · rw [dataLe_srt] at he
    obtain ⟨c, hc⟩ := sortedAll_at s.heap its out.toArray
    have hp : s.heap.objs.size ≤ s.heap.objs.size + 1 := Nat.le_succ _
    have n : H (s.heap.objs.size + 1) = none := I.hok.fresh hp
    have hlen : ((srt ys).map V.str).length ≤ sizeLine := by
      rw [List.length_map, (srt_perm ys).length_eq]
      exact few
    have k : ∀ b o, s.heap.get? b = some o → (sortedAll s.heap its out.toArray).get? b = some o := fun b o e => sortedAll_old e
    refine ⟨.ref (s.heap.objs.size + 1), _, I.laid (t' := s.toks) k hp ?_, rfl, q _ n⟩
    exact ⟨hlen, out, c, vals_strs he, hc⟩
/-- found.discard(x) -/
def tDiscard (w : World) (to : TE) (t : TA) : TE := fun σ H Q => to σ H fun x H1 => (∃ a T, x = V.ref a ∧ H1 a = some (TO w a T)) ∧ t σ H1 fun xs H2 => ∃ (a : Addr) (T : List Str) (y : Str), x = V.ref a ∧ xs = [V.str y] ∧ H2 a = some (TO w a T) ∧ Q .non (upd H2 a (TO w a (T.erase y)))
theorem mt_discard : MtR X "set.discard" (fun x xs H Q => ∃ (a : Addr) (T : List Str) (y : Str), x = V.ref a ∧ xs = [V.str y] ∧ H a = some (TO X.w a T) ∧ Q .non (upd H a (TO X.w a (T.erase y)))) := by
  intro pins s σ H x xs v us Q I rx rxs h
  obtain ⟨a, T, y, rfl, rfl, ha, q⟩ := h
  cases rx
  cases rxs with
  | cons ry rt =>
    cases rt
    obtain ⟨tk, rfl⟩ := ry
    refine call_discard (to_get I ha) fun h' tk' sb S => ?_
    exact ⟨.non, _, I.write (e := a) (t' := tk') (by rw [ha]; trivial) (.inl rfl) (fun b u hb hu => (sb.2 b hb).trans hu) S.get (to_new S), rfl, q⟩
variable {o e : Expr} {es : List Expr} {to : TE} {t : TA} {apos cpos : Pos}
theorem pe_discard (ho : PE X o to) (ha : PA X (e :: es) t)
    (hbase : attributeBase o "discard" X.env (eval o X.env) = eval o X.env := by rfl)
    (hfew : ((backTo cpos (starEach (e :: es) X.env)).all (fun x => !x.1) && (backToKw cpos (keywordEach [] X.env)).all (fun x => x.1.isSome)
      && decide ((e :: es).length + ([] : List Keyword).length + (if ([] : List Keyword).isEmpty then 0 else 1) < 30)) = true := by rfl)
    (hline : (apos.endLine == cpos.line) = true := by rfl) (hs : starEach (e :: es) X.env = (false, eval e X.env) :: starEach es X.env := by rfl) (hplain : (backTo cpos (starEach es X.env)).any (·.1) = false := by rfl) :
    PE X (.Call (.Attribute o "discard" apos) (e :: es) [] cpos) (tDiscard X.w to t) := by
  refine ⟨fun pins s σ H Q I h => wpAny_Call_method_late hbase hfew hline rfl (thn (ho.run pins s σ H _ I h) fun v s1 ⟨x, H1, I1, r1, ⟨a, T, ex, ea⟩, q1⟩ => ?_)⟩
  subst ex
  cases r1
  have R := to_get I1 ea
  refine ⟨"set", "set.discard", F.plainAttrs_set, F.slot_set_discard, F.type_set_discard, R.isSet, R.bare, ?_⟩
  have run := ha.run cpos pins s1 σ H1 _ I1 q1
  rw [hs] at run ⊢
  refine Calls.callWith_builtin (by show (false || (backTo cpos (starEach es X.env)).any (·.1)) = false; rw [hplain]; rfl) (Calls.evalArgs_plain (thn run fun us s2 ⟨vs, H2, I2, r2, q2⟩ => ?_))
  exact mt_discard pins s2 σ H2 (.ref a) vs (.ref a) us Q I2 rfl r2 q2
end
end TX
set_option maxRecDepth 100000
set_option maxHeartbeats 4000000
set_option autoImplicit false
namespace PL
open PySem L2 PyProof.Rows
variable [TBs] [Nms]
section
variable {K : PySem.W.Frag} {E E' : Ent} {Γ Γ' : Gam} {g g' : Gh} {ρ : List Sl} {σ : L2.St} {H H' : Hp} {P : Sl → Gh → Prop} {ta tb tc te : TE} {tt tu : TT} {t u : TS} {p : PD} {wi : TI} {tg : TG} {w : World}
/-! ### objects that just one slot knows -/
theorem ext_newO {D : Addr} {o : GT} {u : HO} (hp : H D = none) (hg : Γ D = none) : Ext Γ H (Γ.put D (some o)) (upd H D u) := .of (fun a x h k => by
    have e : a ≠ D := ne_of_none k hp
    exact ⟨by rw [put_ne e]; exact h, by rw [upd_ne e]; exact k⟩) fun a t h => by
    have e : a ≠ D := fun z => by
      rw [z, hg] at h
      cases h
    rw [put_ne e]
    exact h
theorem HeapOk.newO (h : HeapOk K Γ g H) {D : Addr} {u : HO} (hp : H D = none) : HeapOk K (Γ.put D (some (.one u))) g (upd H D u) where
  ob := fun a t ha => by
    by_cases e : a = D
    · subst e
      rw [put_same] at ha
      cases ha
      exact ⟨_, upd_same, rfl⟩
    · rw [put_ne e] at ha
      obtain ⟨o, ho, q⟩ := h.ob a t ha
      exact ⟨o, by rw [upd_ne e]; exact ho, q.ext (ext_newO hp (h.free hp)).toExt0⟩
  idl := fun a i t ha => by
    by_cases e : a = D
    · subst e
      rw [put_same] at ha
      cases ha
    · rw [put_ne e] at ha
      exact h.idl a i t ha
  idd := fun a i t ha => by
    by_cases e : a = D
    · subst e
      rw [put_same] at ha
      cases ha
    · rw [put_ne e] at ha
      exact h.idd a i t ha
  lz := fun a ha => h.lz a (upd_none ha)
  tb := fun p hq => by
    have e : p.1 ≠ D := fun z => by
      have q := h.tb p hq
      rw [z, h.free hp] at q
      cases q
    rw [put_ne e]
    exact h.tb p hq
theorem ext0_one {D : Addr} {u v : HO} (hD : Γ D = some (.one u)) : Ext0 Γ H (Γ.put D (some (.one v))) (upd H D v) where
  un := fun a x h k => by
    have e : a ≠ D := fun z => by
      rw [z, hD] at h
      cases h
    exact ⟨by rw [put_ne e]; exact h, by rw [upd_ne e]; exact k⟩
  ty := fun a t h => by
    have e : a ≠ D := fun z => by
      rw [z, hD] at h
      cases h
    rw [put_ne e]
    exact h
theorem HeapOk.one (h : HeapOk K Γ g H) {D : Addr} {u v : HO} (hD : Γ D = some (.one u)) : HeapOk K (Γ.put D (some (.one v))) g (upd H D v) where
  ob := fun a t ha => by
    by_cases e : a = D
    · subst e
      rw [put_same] at ha
      cases ha
      exact ⟨_, upd_same, rfl⟩
    · rw [put_ne e] at ha
      obtain ⟨o, ho, q⟩ := h.ob a t ha
      exact ⟨o, by rw [upd_ne e]; exact ho, q.ext (ext0_one hD)⟩
  idl := fun a i t ha => by
    by_cases e : a = D
    · subst e
      rw [put_same] at ha
      cases ha
    · rw [put_ne e] at ha
      exact h.idl a i t ha
  idd := fun a i t ha => by
    by_cases e : a = D
    · subst e
      rw [put_same] at ha
      cases ha
    · rw [put_ne e] at ha
      exact h.idd a i t ha
  lz := fun a ha => h.lz a (upd_none ha)
  tb := fun p hq => by
    have e : p.1 ≠ D := fun z => by
      have q := h.tb p hq
      rw [z, hD] at q
      cases q
    rw [put_ne e]
    exact h.tb p hq
/-- a slot's own object, as it stands -/
theorem ob_at {i : Nat} {f : Addr → HO} (I : EnvOk K E Γ g ρ σ H) (h : ρ[i]? = some (.ob f)) : ∃ D, slot σ i = some (.ref D) ∧ σ[i]? = some (some (.ref D)) ∧ Γ D = some (.one (f D)) ∧ E.Γ D = none ∧ E.H D = none ∧ H D = some (f D) := by
  obtain ⟨D, h1, h2, h3, h4⟩ := I.sl i _ h
  obtain ⟨o, ho, rfl⟩ := I.hp.ob D _ h2
  exact ⟨D, h1, slot_some h1, h2, h3, h4, ho⟩
/-- the object changes; no other slot knows one -/
theorem EnvOk.turn (I : EnvOk K E Γ g ρ σ H) {i : Nat} {f f' : Addr → HO} {D : Addr} (h : ρ[i]? = some (.ob f)) (hs : slot σ i = some (.ref D)) (hD : Γ D = some (.one (f D))) (h1 : E.Γ D = none) (h2 : E.H D = none) (hn : ∀ j q, j ≠ i → ρ[j]? ≠ some (.ob q)) :
    EnvOk K E (Γ.put D (some (.one (f' D)))) g (ρ.set i (.ob f')) σ (upd H D (f' D)) where
  len := by rw [List.length_set]; exact I.len
  sl := fun j s hj => by
    rcases set_get hj with ⟨e, e2⟩ | ⟨e, e2⟩
    · subst e e2
      exact ⟨D, hs, put_same, h1, h2⟩
    · have q := I.sl j s e2
      have e0 := ext0_one (H := H) (v := f' D) hD
      cases s with
      | un => trivial
      | own es =>
        obtain ⟨a, k1, k2, k3⟩ := q
        have ea : a ≠ D := fun z => by
          rw [z, hD] at k2
          cases k2
        exact ⟨a, k1, by rw [put_ne ea]; exact k2, k3⟩
      | ob z => exact absurd e2 (hn j z (Ne.symm e))
      | d x => obtain ⟨v, k1, k2⟩ := q; exact ⟨v, k1, ROk.ext e0 k2⟩
      | s x => obtain ⟨v, k1, k2⟩ := q; exact ⟨v, k1, ROk.ext e0 k2⟩
      | t x => obtain ⟨v, k1, k2⟩ := q; exact ⟨v, k1, ROk.ext e0 k2⟩
  dis := fun j k x y a hjk g1 g2 g3 g4 => by
    rcases set_get g1 with ⟨e, e2⟩ | ⟨e, e2⟩
    · cases e2
    · rcases set_get g2 with ⟨f, f2⟩ | ⟨f, f2⟩
      · cases f2
      · exact I.dis j k x y a hjk e2 f2 g3 g4
  hp := I.hp.one hD
  fr := fr_own I.fr h1 h2 fun a x e k => by rw [upd_ne e]; exact k
  gle := I.gle
  pv := fun p hp => (I.pv p hp).ext (ext0_one hD)
/-- a new object goes to a slot that is its own -/
theorem EnvOk.newO (I : EnvOk K E Γ g ρ σ H) {i : Nat} {f : Addr → HO} {D : Addr} (hi : i < ρ.length) (nD : H D = none) : EnvOk K E (Γ.put D (some (.one (f D)))) g (ρ.set i (.ob f)) (σ.set i (some (.ref D))) (upd H D (f D)) := by
  obtain ⟨f1, f2, f3⟩ := I.fresh nD
  have I1 := I.ext (ext_newO (o := .one (f D)) (u := f D) nD f1) (I.hp.newO nD) (Gh.le_refl g)
  have hs : slot (σ.set i (some (.ref D))) i = some (.ref D) := by
    rw [slot_set (by rw [I.len]; exact hi), if_pos rfl]
  exact {
    len := by rw [List.length_set, List.length_set]; exact I.len
    sl := fun j s hj => by
      rcases set_get hj with ⟨e, e2⟩ | ⟨e, e2⟩
      · subst e e2
        exact ⟨D, hs, put_same, f2, f3⟩
      · rw [slot_set (by rw [I.len]; exact hi), if_neg e]
        exact I1.sl j s e2
    dis := fun j k x y a hjk g1 g2 g3 g4 => by
      rcases set_get g1 with ⟨e, e2⟩ | ⟨e, e2⟩
      · cases e2
      · rcases set_get g2 with ⟨f, f2⟩ | ⟨f, f2⟩
        · cases f2
        · rw [slot_set (by rw [I.len]; exact hi), if_neg e] at g3
          rw [slot_set (by rw [I.len]; exact hi), if_neg f] at g4
          exact I.dis j k x y a hjk e2 f2 g3 g4
    hp := I1.hp
    fr := I1.fr
    gle := I1.gle
    pv := I1.pv }
/-! ### sets of texts -/
/-- x = set(a list of texts) -/
theorem sw_setOf {i : Nat} (hi : i < ρ.length) (h : WE K te ρ g fun s g1 => ∃ ys : List Str, s = .d (.list (ys.map .str)) ∧ (∃ N : List Str, (∀ y, y ∈ ys → y ∈ N) ∧ N.length + 1 < scanBound) ∧ p.nx (ρ.set i (.ob fun a => TX.TO w a (TX.met ys))) g1) : SW K (tAsg (tCB (TX.rSetT K w) (tCons te tNil)) (gName i)) p ρ g := fun E Γ σ H D I d => h E Γ σ H _ I fun Γ1 g1 H1 v s e1 I1 r1 ⟨ys, es, few, q⟩ => by
  subst es
  obtain ⟨a, xs, rfl, h1, h2⟩ := da_list r1
  have e := h2.strs
  subst e
  exact ⟨a, ys, rfl, .inl (hid_rd h1), few, fun q1 nq => d.nx _ g1 _ _ _ (I1.newO hi nq) q⟩
/-- x.discard(y) -/
theorem sw_discard {i : Nat} {T : List Str} (h : ρ[i]? = some (.ob fun a => TX.TO w a T)) (hn : ∀ j q, j ≠ i → ρ[j]? ≠ some (.ob q)) (q : WE K te ρ g fun s g1 => ∃ y : Str, s = .d (.str y) ∧ p.nx (ρ.set i (.ob fun a => TX.TO w a (T.erase y))) g1) : SW K (tDrop (TX.tDiscard w (tVar i) (tCons te tNil))) p ρ g := fun E Γ σ H D I d => by
  obtain ⟨a, h1, h2, h3, h4, h5, h6⟩ := ob_at I h
  refine ⟨_, h2, ⟨a, T, rfl, h6⟩, ?_⟩
  refine q E Γ σ H _ I fun Γ1 g1 H1 v s e1 I1 r1 ⟨y, es, q1⟩ => ?_
  subst es
  cases da_str r1
  obtain ⟨b, k1, k2, k3, k4, k5, k6⟩ := ob_at I1 h
  rw [h1] at k1
  cases k1
  exact ⟨a, T, y, rfl, rfl, k6, d.nx _ g1 _ _ _ (I1.turn (f' := fun a => TX.TO w a (T.erase y)) h h1 k3 k4 k5 hn) q1⟩
/-- sorted(x), x a slot's own set -/
theorem we_srtO {i : Nat} {T : List Str} {r : List V → Hp → VK → Prop} (h : ρ[i]? = some (.ob fun a => TX.TO w a T)) (q : P (.d (.list ((TX.srt T).map .str))) g) : WE K (tCB (fun xs H Q => r xs H Q ∨ TX.rSrtT w xs H Q) (tCons (tVar i) tNil)) ρ g P := fun E Γ σ H Q I k => by
  obtain ⟨a, h1, h2, h3, h4, h5, h6⟩ := ob_at I h
  refine ⟨_, h2, .inr ⟨a, T, rfl, h6, fun p np => ?_⟩⟩
  exact k Γ g _ _ (.d (.list ((TX.srt T).map .str))) (ext_upd np) (I.new np) (.lst (.inl (hid_new I np)) (daAll_strs _)) q
/-- sorted(a list of texts) -/
theorem rc_srtL {ns : List Str} {r : List V → Hp → VK → Prop} (q : P (.d (.list ((TX.srt ns).map .str))) g) : RCW K (fun xs H Q => TX.rSrtL K xs H Q ∨ r xs H Q) [.d (.list (ns.map .str))] g P := fun E Γ ρ σ H vs Q I r1 k => by
  obtain ⟨v, rfl, r0⟩ := p1 r1
  obtain ⟨a, xs, rfl, h1, h2⟩ := da_list r0
  have e := h2.strs
  subst e
  refine .inl ⟨a, ns, rfl, .inl (hid_rd h1), fun p np => ?_⟩
  exact k Γ g _ _ (.d (.list ((TX.srt ns).map .str))) (ext_upd np) (I.new np) (.lst (.inl (hid_new I np)) (daAll_strs _)) q
theorem hu4 {A : Around} {k : Nat} (hr : Room k A) : A.units + 4 < cLine := by have := hr.un; omega
abbrev rSrtA (K : PySem.W.Frag) (w : World) : List V → Hp → VK → Prop := fun xs H Q => TX.rSrtL K xs H Q ∨ TX.rSrtT w xs H Q
theorem cr_srtA {X : Cx} (hc : X.calm = true) (hu : X.A.units + 4 < cLine) : CallR X (.builtin "sorted") (rSrtA X.K X.w) := (TX.cr_srtL hu).or (TX.cr_srtT hc hu)
end
end PL
set_option maxRecDepth 100000
set_option maxHeartbeats 4000000
set_option autoImplicit false
/-! TX5: sorted(a list of tuples, key=lambda one: one[0]), the first part a text. -/
namespace TX
open PySem PySem.Spec PyProof.Rows L2
abbrev fstBody (x : Str) (p1 p2 p3 : Pos) (j : Nat) : Expr := .Subscript (.Name x p1) (.Constant (.int 0) j p2) p3
/-- the lambda at f, as made -/
def LamAt (h : Heap) (q : Str) (params : Arguments) (body : Expr) (scope : Scope) (f : Addr) : Prop :=
  ∃ (c' : Addr) (pm ctv : Value), h.get? f = some (PySem.W.kla_obj "<lambda>" q params body scope [] pm c' ctv) ∧ h.CodeRec (.ref c') q
theorem LamAt.keeps {h h' : Heap} {q : Str} {params : Arguments} {body : Expr} {scope : Scope} {f : Addr} (k : ∀ b o, h.get? b = some o → h'.get? b = some o) (l : LamAt h q params body scope f) : LamAt h' q params body scope f := by
  obtain ⟨c', pm, ctv, h1, c, oc, vs, t, e, h2, h3, h4⟩ := l
  exact ⟨c', pm, ctv, k _ _ h1, c, oc, vs, t, e, k _ _ h2, h3, h4⟩
/-- one name of its own, the parameter -/
structure OneName (x : Str) (params : Arguments) (scope : Scope) : Prop where
  names : scope.names = [(x, .local)]
  kind : scope.kind = .function
  co : scope.isCoroutine = false
  gen : scope.isGenerator = false
  bind : ∀ (q : Str) (body : Expr) (pm cv ctv v : Value), bindArgs (PySem.W.kla_fn "<lambda>" q params body scope [] pm cv ctv) ⟨[v], []⟩ = pure [(x, v)]
section
variable {prog : Program} {w : World} {A : Around} {s : Shared}
/-- the lambda called on a tuple gives its first part -/
theorem fst_call {f a : Addr} {q x y : Str} {params : Arguments} {scope : Scope} {p1 p2 p3 : Pos} {j : Nat} {its : List Value} {tk : Tok} (O : OneName x params scope) (hx : (x == ("__debug__" : Str)) = false) (hroom : A.depth < recursionLimit) (lim : s.heap.NoLimit)
    (hf : LamAt s.heap q params (fstBody x p1 p2 p3 j) scope f) (ht : IsTup s.heap a its.toArray) (h0 : its[0]? = some (.str y tk)) (hz : its.length ≤ sizeLine) :
    wpAny (model prog w) A (call (.ref f) [.ref a]) (PySem.W.KeyPure (.str y) s) (fun _ _ => False) s := by
  obtain ⟨c', pm, ctv, hfo, hrec⟩ := hf
  refine wpAny_call (PySem.W.kla_callFunE hroom hfo rfl O.co O.gen rfl hrec ?_)
  rw [O.bind]
  have hn : ∀ z ∈ scope.names, z.2 ≠ .cell := by
    rw [O.names]
    intro z hz
    rw [List.mem_singleton.mp hz]
    exact fun e => by cases e
  have hl : ∀ z ∈ [(x, Value.ref a)], scope.names.lookup z.1 = some .local := by
    rw [O.names]
    intro z hz
    rw [List.mem_singleton.mp hz]
    show List.lookup x [(x, NameKind.local)] = _
    rw [List.lookup_cons]
    simp
  refine wpAny_pure (wpAny_newFunctionEnv hn hl (fun h₁ hns hsb => ⟨lim.fresh _ hsb, ?_⟩) O.kind)
  have up : ∀ b o, s.heap.get? b = some o → h₁.get? b = some o := fun b o e => hsb.extBut b o (Nat.ne_of_lt (Heap.lt_size e)) (Heap.get?_push_of_some _ e)
  refine PySem.W.kla_codeExpr (Subscript_ (wpAny_Name (wpAny_loadName_local O.kind ?_ hns (v := .ref a) ?_ ?_) hx))
  · show scope.names.lookup x = some .local
    exact hl (x, .ref a) (List.mem_singleton.mpr rfl)
  · show List.lookup x [(x, Value.ref a)] = _
    rw [List.lookup_cons]
    simp
  · refine wpAny_Constant_int ?_
    have ht1 : IsTup h₁ a its.toArray := by
      obtain ⟨o, ho, r⟩ := ht
      exact ⟨o, up _ _ ho, r⟩
    have l0 : 0 < its.length := (List.getElem?_eq_some_iff.mp h0).1
    refine item_tupleL (j := 0) ht1 (by decide) (by decide) ?_ h0 ?_
    · exact seqIndex_of (Int.le_refl 0) (by omega)
    · exact ⟨h₁, _, rfl, up, .str y tk⟩
end
/-! ### sorted(xs, key=lambda one: one[0]) -/
section
variable {X : Cx}
/-- the table at P: its code objects bear the name q, and G is told of them -/
def TabN (G : Addr → Prop) (H : Hp) (P : Addr) (q : Str) : Prop := ∃ ps : Array Value, H P = some (.tbl ps) ∧ TriplesOk ps.toList ∧ ∀ (pos : Pos) (cv : Value), codeAmong pos ps.toList = some cv → ∃ c, cv = .ref c ∧ H c = some (LamX.CodeO c q) ∧ G c
/-- the lambda is made -/
theorem mk_lam {G : Addr → Prop} {pins : List (Addr × Obj)} {σ : L2.St} {H : Hp} {s : Shared} {c P : Addr} {q : Str} {params : Arguments} {body : Expr} {scope : Scope} {pos : Pos} {E : Value → Shared → Prop} {Q : Value → Shared → Prop} (I : Inv X pins σ H s) (TB : LamX.TabB X.base X.mg c P) (hcode : X.env.code = .ref c)
    (hq : X.env.qual ++ "<lambda>" = q) (hG : ∀ c, H c = none → G c) (hT : TabN G H P q) (hdef : defaultsOf params X.env = ([], [])) (hcl : closureFor scope X.env = pure [])
    (h : ∀ (f : Addr) (H1 : Hp) (s1 : Shared), Inv X pins σ H1 s1 → (∀ b o, b ≠ P → H b = some o → H1 b = some o) → TabN G H1 P q → LamAt s1.heap q params body scope f → Q (.ref f) s1) :
    wpAny (model X.prog X.w) X.A (eval (.Lambda params body scope pos) X.env) Q E s := by
  subst hq
  obtain ⟨ps, hP, ht, ha⟩ := hT
  refine PySem.W.kla_eval hdef ?_
  have bP : s.heap.BuiltinsAt X.mg P := TB.bm.keeps I.bk
  have gP : s.heap.get? P = some { cls := .none, data := .fields ps } := I.hok P _ hP
  have ns := I.mod.glob.keeps I.bk
  have code := TB.code.keeps I.bk
  cases hc : codeAmong pos ps.toList with
  | some cv =>
    obtain ⟨c', e, hco, _⟩ := ha pos cv hc
    subst e
    refine PySem.W.kla_makeFunctionHit hcl I.ok.glob ns hcode code gP ht hc bP fun ctv h' tk up _ => ?_
    have up2 : ∀ b o, s.heap.get? b = some o → (h'.push (PySem.W.kla_obj "<lambda>" (X.env.qual ++ "<lambda>") params body scope [] ((X.mg "__name__").getD .none) c' ctv)).get? b = some o := fun b o e => Heap.get?_push_of_some _ (up b o e)
    obtain ⟨⟨oc, vs, t, e1, e2, e3⟩, _, _⟩ := I.hok c' _ hco
    refine h _ H _ (I.kept (t' := tk) up2) (fun _ _ _ e => e) ⟨ps, hP, ht, ha⟩ ⟨c', _, ctv, Heap.get?_push_size _ rfl, c', oc, vs, t, rfl, up2 _ _ e1, e2, e3⟩
  | none =>
    refine PySem.W.kla_makeFunction hcl I.ok.glob ns hcode code gP ht hc TB.gP bP fun c' ctv h' tk up hge hlt hrec htb => ?_
    obtain ⟨c2, oc, vs, t, e2, hoc, hd, hv⟩ := hrec
    cases e2
    have nC : H c' = none := I.hok.fresh hge
    have J := LamX.inv_table (t' := tk) (q := X.env.qual ++ "<lambda>") (more := #[rawInt pos.line, rawInt pos.col, .ref c']) (h' := h'.push (PySem.W.kla_obj "<lambda>" (X.env.qual ++ "<lambda>") params body scope [] ((X.mg "__name__").getD .none) c' ctv)) I hP
      (fun b o hb e => Heap.get?_push_of_some _ (up b o hb e)) (Heap.get?_push_of_some _ htb) hge ⟨oc, vs, t, Heap.get?_push_of_some _ hoc, hd, hv⟩
    have keep : ∀ b o, b ≠ P → H b = some o → upd (upd H P (.tbl (ps ++ #[rawInt pos.line, rawInt pos.col, .ref c']))) c' (LamX.CodeO c' (X.env.qual ++ "<lambda>")) b = some o := fun b o hb e => by
      rw [upd_ne (ne_of_none e nC), upd_ne hb]
      exact e
    have eL : (ps ++ #[rawInt pos.line, rawInt pos.col, .ref c']).toList = ps.toList ++ [rawInt pos.line, rawInt pos.col, .ref c'] := by simp
    have nP : P ≠ c' := ne_of_none hP nC
    refine h _ _ _ J keep ⟨_, by rw [upd_ne nP, upd_same], by rw [eL]; exact PySem.TriplesOk_snoc _ _ _ _ ht, fun p' cv hcv => ?_⟩ ⟨c', _, ctv, Heap.get?_push_size _ rfl, c', oc, vs, t, rfl, Heap.get?_push_of_some _ hoc, hd, hv⟩
    rw [eL] at hcv
    rcases LamX.among_app _ ht hcv with z | z
    · obtain ⟨c0, e1, e2, e3⟩ := ha p' cv z
      refine ⟨c0, e1, keep _ _ (fun z => ?_) e2, e3⟩
      rw [z, hP] at e2
      exact LamX.codeO_ne ps (Option.some.inj e2).symm
    · exact ⟨c', z, upd_same, hG c' nC⟩
/-- a tuple whose first part is the text -/
def IsFst (K : PySem.W.Frag) (H : Hp) (v : V) (y : Str) : Prop := ∃ a r, v = .ref a ∧ SqT K H a (.str y :: r)
/-- by the second parts -/
def srt2 (L : List (V × Str)) : List (V × Str) := L.mergeSort fun a b => leT a.2 b.2
theorem srt2_perm (L : List (V × Str)) : (srt2 L).Perm L := List.mergeSort_perm _ _
def tSrtF (K : PySem.W.Frag) (P : Addr) (q : Str) (te : TE) : TE := fun σ H Q => te σ H fun x H1 => ∃ (l : Addr) (L : List (V × Str)), x = .ref l ∧ SqL K H1 l (L.map (·.1)) ∧ (∀ p, p ∈ L → IsFst K H1 p.1 p.2) ∧ ∃ G : Addr → Prop, (∀ c, H1 c = none → G c) ∧ TabN G H1 P q ∧
  ∀ (H2 : Hp) (p : Addr), (∀ b o, b ≠ P → H1 b = some o → H2 b = some o) → TabN G H2 P q → H2 p = none → Q (.ref p) (upd H2 p (.lst ((srt2 L).map (·.1))))
theorem each_fst : ∀ {L : List (V × Str)} {us : List Value}, Vals (L.map (·.1)) us → PySem.W.EachIs (fun v (b : V × Str) => RelV b.1 v) us L
  | [], _, r => by
    cases r
    exact .nil
  | y :: ys, _, r => by
    cases r with
    | cons r0 rr => exact .cons r0 (each_fst rr)
theorem vals_fst : ∀ {us : List Value} {L : List (V × Str)}, PySem.W.EachIs (fun v (b : V × Str) => RelV b.1 v) us L → Vals (L.map (·.1)) us
  | _, _, .nil => .nil
  | _, _, .cons e t => .cons e (vals_fst t)
theorem dataLe_srt2 (L : List (V × Str)) : L.mergeSort (PySem.W.dataLe false fun b : V × Str => PyData.str b.2) = srt2 L := by
  have e : (PySem.W.dataLe false fun b : V × Str => PyData.str b.2) = fun a b => leT a.2 b.2 := PySem.W.dataLe_str (fun b : V × Str => b.2)
  rw [e]
  rfl
theorem call_srtF {pins : List (Addr × Obj)} {σ : L2.St} {H : Hp} {s : Shared} {l f : Addr} {L : List (V × Str)} {q x : Str} {params : Arguments} {scope : Scope} {p1 p2 p3 : Pos} {j : Nat} {Q : VK} {k : Nat} (I : Inv X pins σ H s) (hr : Room k X.A) (O : OneName x params scope) (hx : (x == ("__debug__" : Str)) = false)
    (hl : SqL X.K H l (L.map (·.1))) (hL : ∀ p, p ∈ L → IsFst X.K H p.1 p.2) (hf : LamAt s.heap q params (fstBody x p1 p2 p3 j) scope f) (hQ : ∀ p, H p = none → Q (.ref p) (upd H p (.lst ((srt2 L).map (·.1))))) :
    wpAny (model X.prog X.w) X.A (call (.builtin "sorted") [.ref l] [(Str.ofString "key", .ref f)]) (EP X pins σ Q) X.xe s := by
  obtain ⟨its, rv, pl, hz⟩ := I.list hl
  have each := each_fst rv
  have few : L.length ≤ sizeLine := by
    rw [List.length_map] at hz
    exact hz
  have un := hr.units0
  have dp := hr.dp
  have lim := I.nolimit
  refine PySem.W.sorted_key_data (b := false) (fun b : V × Str => PyData.str b.2) pl.isList each (PySem.W.AllAlike.of (enc := fun b : V × Str => PyData.str b.2) fun _ _ => rfl) (PySem.W.Sortable.others (enc := fun b : V × Str => PyData.str b.2) fun _ => ⟨fun z => (by cases z), fun _ z => (by cases z)⟩) few (fun b _ => ?_) (PyProof.Rows.ksk_s1 _ _) (fun _ => PyProof.Rows.ksk_l1 _ _) (fun _ => PyProof.Rows.ksk_t1 _ _) (fun v b hv hb h tk up => ?_) fun out c h' tk up fr hD ho he => ?_
  · show X.A.units + 2 + 0 < cLine
    have := hr.un
    omega
  · obtain ⟨a, r, e1, e2⟩ := hL b hb
    rw [e1] at hv
    cases hv
    obtain ⟨us, ru, pu, zu⟩ := I.tuple e2
    cases ru with
    | @cons _ u0 _ us0 r0 rr =>
      obtain ⟨tk0, rfl⟩ := r0
      have pu2 : IsTup h a (Value.str b.2 tk0 :: us0).toArray := by
        obtain ⟨o, ho, z⟩ := pu
        exact ⟨o, up _ _ ho, z⟩
      refine fst_call (s := { s with heap := h, toks := tk }) O hx ?_ (lim.keeps up) (hf.keeps up) pu2 rfl ?_
      · show X.A.depth < recursionLimit
        omega
      · have := Vals.length rr
        rw [List.length_cons] at zu ⊢
        omega
  · rw [dataLe_srt2] at he
    have hp : s.heap.objs.size ≤ s.heap.objs.size + 1 := Nat.le_succ _
    have n : H (s.heap.objs.size + 1) = none := I.hok.fresh hp
    have hlen : ((srt2 L).map (·.1)).length ≤ sizeLine := by
      rw [List.length_map, (srt2_perm L).length_eq]
      exact few
    have ok : ObjOk X.prog X.w (upd H (s.heap.objs.size + 1) (.lst ((srt2 L).map (·.1)))) h' (s.heap.objs.size + 1) (.lst ((srt2 L).map (·.1))) := ⟨hlen, out, c, vals_fst he, hD⟩
    exact ⟨.ref (s.heap.objs.size + 1), _, I.laid (t' := tk) up hp ok, rfl, hQ _ n⟩
theorem pe_srtF {e : Expr} {te : TE} {c P : Addr} {q x z : Str} {params : Arguments} {scope : Scope} {p p1 p2 p3 lpos kpos pos : Pos} {j k : Nat} (hr : Room k X.A) (TB : LamX.TabB X.base X.mg c P) (hcode : X.env.code = .ref c) (hq : X.env.qual ++ "<lambda>" = q) (O : OneName x params scope) (hx : (x == ("__debug__" : Str)) = false)
    (hg : Gl X z) (hm : X.mg z = none) (hv : bootBuiltins z = some (.builtin "sorted")) (he : PE X e te) (hdef : defaultsOf params X.env = ([], []) := by rfl) (hcl : closureFor scope X.env = pure [] := by rfl) (hn : z ≠ "__name__" := by decide) (hdb : (z == ("__debug__" : Str)) = false := by decide)
    (h1 : backTo pos (starEach [e] X.env) = (false, eval e X.env) :: backTo pos (starEach [] X.env) := by rfl) (h2 : (backTo pos (starEach [e] X.env)).any (·.1) = false := by rfl)
    (h3 : backToKw pos (keywordEach [⟨some "key", .Lambda params (fstBody x p1 p2 p3 j) scope lpos, kpos⟩] X.env) = [(some (Str.ofString "key"), do let v ← eval (.Lambda params (fstBody x p1 p2 p3 j) scope lpos) X.env; standAt pos; pure v)] := by rfl) :
    PE X (.Call (.Name z p) [e] [⟨some "key", .Lambda params (fstBody x p1 p2 p3 j) scope lpos, kpos⟩] pos) (tSrtF X.K P q te) := by
  refine ⟨fun pins s σ H Q I h => ?_⟩
  refine wpAny_Call_Name_kw (ld_blt I hg hm hv ?_ hn hdb)
  refine PyProof.Rows.callWith_kw ?_ h1 h2 (by rw [h3]; rfl) (by rw [h3]; rfl)
  rw [h1, h3]
  refine Calls.spliced_cons (thn (he.run pins s σ H _ I h) fun u s1 ⟨v, H1, I1, r1, l, L, ev, hl, hL, G, hG, hT, hQ⟩ => Calls.spliced_nil ?_)
  subst ev
  cases r1
  refine wpAny_evalAll_cons (wpAny_bind (mk_lam I1 TB hcode hq hG hT hdef hcl fun f H2 s2 I2 keep hT2 hf => wpAny_bind (wpAny_standAt (wpAny_pure (wpAny_evalAll_nil ?_)))))
  have noP : ∀ b o, H1 b = some o → (∀ ps, o ≠ .tbl ps) → b ≠ P := fun b o e n z => by
    obtain ⟨ps, hP, _⟩ := hT
    rw [z, hP] at e
    exact n ps (Option.some.inj e).symm
  have rd : ∀ (b : Addr) (o : HO), (∀ ps, o ≠ .tbl ps) → Rd H1 b o → Rd H2 b o := fun b o n z => by
    rcases z with z | ⟨o2, z⟩
    · exact .inl (keep b _ (noP b _ z n) z)
    · exact .inr ⟨o2, keep b _ (noP b _ z fun ps w => by cases w) z⟩
  refine call_srtF I2 hr O hx (hl.elim (fun z => .inl (rd _ _ (fun ps w => by cases w) z)) .inr) (fun b hb => ?_) hf fun p np => hQ H2 p keep hT2 np
  obtain ⟨a, r, e1, e2⟩ := hL b hb
  exact ⟨a, r, e1, e2.elim (fun z => .inl (rd _ _ (fun ps w => by cases w) z)) .inr⟩
end
end TX
set_option maxRecDepth 100000
set_option maxHeartbeats 4000000
set_option autoImplicit false
namespace PL
open PySem L2 PyProof.Rows
variable [TBs] [Nms]
/-- the first part, where it is a text -/
def fstT : PyData → Str
  | .tuple (.str y :: _) => y
  | _ => Str.empty
/-- by the first parts -/
def srtD (ds : List PyData) : List PyData := ds.mergeSort fun a b => TX.leT (fstT a) (fstT b)
theorem srtD_perm (ds : List PyData) : (srtD ds).Perm ds := List.mergeSort_perm _ _
section
variable {K : PySem.W.Frag} {E E' : Ent} {Γ Γ' : Gam} {g g' : Gh} {ρ : List Sl} {σ : L2.St} {H H' : Hp} {P : Sl → Gh → Prop} {ta tb tc te : TE} {tt tu : TT} {t u : TS} {p : PD} {wi : TI} {tg : TG} {w : World}
theorem da_zip {H : Hp} : ∀ {xs : List V} {ds : List PyData}, DaAll K H xs ds → ∀ z, z ∈ xs.zip ds → Da K H z.1 z.2
  | _, _, .nil, _, h => by simp at h
  | _, _, .cons a t, z, h => by
    rw [List.zip_cons_cons] at h
    rcases List.mem_cons.mp h with e | e
    · rw [e]
      exact a
    · exact da_zip t z e
theorem zip_da {H : Hp} : ∀ {zs : List (V × PyData)}, (∀ z, z ∈ zs → Da K H z.1 z.2) → DaAll K H (zs.map (·.1)) (zs.map (·.2))
  | [], _ => .nil
  | z :: zs, h => .cons (h z List.mem_cons_self) (zip_da fun y hy => h y (List.mem_cons_of_mem _ hy))
/-- the table grows: nothing else changes -/
theorem tab_ext {P0 : Addr} {q : Str} {H2 : Hp} (h : HeapOk K Γ g H) (hm : (P0, q) ∈ TBs.tb) (keep : ∀ b o, b ≠ P0 → H b = some o → H2 b = some o) : Ext Γ H Γ H2 := .of (fun a o h1 h2 => ⟨h1, keep a o (fun z => by
    have e := h.tb _ hm
    rw [← z, h1] at e
    cases e) h2⟩) fun _ _ h => h
theorem tab_heap {P0 : Addr} {q : Str} {H2 : Hp} (h : HeapOk K Γ g H) (hm : (P0, q) ∈ TBs.tb) (keep : ∀ b o, b ≠ P0 → H b = some o → H2 b = some o) (hT : TX.TabN (fun c => Γ c = none) H2 P0 q) : HeapOk K Γ g H2 where
  ob := fun a t ha => by
    by_cases e : a = P0
    · subst e
      have e2 := h.tb _ hm
      rw [ha] at e2
      cases e2
      obtain ⟨ps, h1, h2, h3⟩ := hT
      exact ⟨_, h1, ps, rfl, h2, fun pos cv hc => let ⟨c, e1, e2, e3⟩ := h3 pos cv hc; ⟨c, e1, (hid_none e3).trans e2⟩⟩
    · obtain ⟨o, ho, r⟩ := h.ob a t ha
      exact ⟨o, keep a o e ho, r.ext (tab_ext h hm keep).toExt0⟩
  idl := h.idl
  idd := h.idd
  lz := fun a ha => h.lz a (by
    cases e : H a with
    | none => rfl
    | some o =>
      by_cases z : a = P0
      · subst z
        obtain ⟨ps, h1, _⟩ := hT
        rw [h1] at ha
        cases ha
      · rw [keep a o z e] at ha
        cases ha)
  tb := h.tb
theorem we_srtF {P0 : Addr} {q : Str} (hm : (P0, q) ∈ TBs.tb) (h : WE K te ρ g fun s g1 => ∃ ds : List PyData, s = .d (.list ds) ∧ (∀ d, d ∈ ds → ∃ (y : Str) (r : List PyData), d = .tuple (.str y :: r)) ∧ P (.d (.list (srtD ds))) g1) : WE K (TX.tSrtF K P0 q te) ρ g P := fun E Γ σ H Q I k => h E Γ σ H _ I fun Γ1 g1 H1 v s e1 I1 r1 ⟨ds, es, hd, q1⟩ => by
  subst es
  obtain ⟨a, xs, rfl, h1, h2⟩ := da_list r1
  let f : V × PyData → V × Str := fun z => (z.1, fstT z.2)
  let L := (xs.zip ds).map f
  have eL : L.map (·.1) = xs := by
    show ((xs.zip ds).map f).map (·.1) = xs
    rw [List.map_map]
    exact List.map_fst_zip (Nat.le_of_eq h2.length)
  have eD : (xs.zip ds).map (·.2) = ds := List.map_snd_zip (Nat.le_of_eq h2.length.symm)
  refine ⟨a, L, rfl, .inl (by rw [eL]; exact hid_rd h1), fun z hz => ?_, fun c => Γ1 c = none, fun c hc => I1.hp.free hc, ?_, fun H2 p0 keep hT np => ?_⟩
  · obtain ⟨y, hy, rfl⟩ := List.mem_map.mp hz
    have d0 := da_zip h2 y hy
    obtain ⟨t0, r, e⟩ := hd y.2 (by rw [← eD]; exact List.mem_map.mpr ⟨y, hy, rfl⟩)
    rw [e] at d0
    obtain ⟨b, ys, e2, h3, h4⟩ := da_tup d0
    cases h4 with
    | @cons _ vs0 _ _ d1 dr =>
      cases da_str d1
      refine ⟨b, vs0, e2, ?_⟩
      have e3 : (f y).2 = t0 := by
        show fstT y.2 = t0
        rw [e]
        rfl
      rw [e3]
      exact hid_sub.sqT h3
  · obtain ⟨o, ho, ps, rfl, h3, h4⟩ := I1.hp.ob _ _ (I1.hp.tb _ hm)
    exact ⟨ps, ho, h3, fun pos cv hc => let ⟨c, e1, e2⟩ := h4 pos cv hc; ⟨c, e1, (hid_some e2).2, (hid_some e2).1⟩⟩
  · have ex := tab_ext I1.hp hm keep
    have I2 := I1.ext ex (tab_heap I1.hp hm keep hT) (Gh.le_refl g1)
    have srt : ((TX.srt2 L).map (·.1)) = ((xs.zip ds).mergeSort fun a b => TX.leT (fstT a.2) (fstT b.2)).map (·.1) := by
      show ((((xs.zip ds).map f).mergeSort fun a b => TX.leT a.2 b.2).map (·.1)) = _
      rw [← PySem.W.sort_maps (r := fun a b : V × PyData => TX.leT (fstT a.2) (fstT b.2)) f fun _ _ _ _ => rfl, List.map_map]
      rfl
    have srt' : srtD ds = ((xs.zip ds).mergeSort fun a b => TX.leT (fstT a.2) (fstT b.2)).map (·.2) := by
      unfold srtD
      conv => lhs; rw [← eD]
      rw [← PySem.W.sort_maps (r := fun a b : V × PyData => TX.leT (fstT a.2) (fstT b.2)) (·.2) fun _ _ _ _ => rfl]
    refine k Γ1 g1 _ _ (.d (.list (srtD ds))) ((e1.trans ex).trans (ext_upd np)) (I2.new np) ?_ q1
    refine Da.lst (.inl (hid_new I2 np)) ?_
    rw [srt, srt']
    exact (zip_da fun z hz => (da_zip h2 z ((List.mergeSort_perm _ _).mem_iff.mp hz)).mono ex.sub).mono (ext_upd np).sub
end
end PL
set_option maxRecDepth 100000
set_option maxHeartbeats 4000000
set_option autoImplicit false
namespace PL
open PySem PySem.Spec L2 PyProof.Rows
variable [TBs] [Nms]
/-! ### a dict of the top, text keys, numbers -/
def KTab (K : PySem.W.Frag) (w : World) (a : Addr) (T : List (Str × Int)) : Prop :=
  ∃ es n, K.lookup a = some ⟨.type "dict", none, .dict es n, #[]⟩ ∧ PySem.W.KeysLit w.params es.toList ∧ (a == sysModules) = false ∧ ∀ x : Str, ∃ r, PySem.W.nsIn K a x = some r ∧ (∀ i, T.lookup x = some i → ∃ t, r = some (.int i t)) ∧ (T.lookup x = none → r = none)
def tKGet (K : PySem.W.Frag) (w : World) (td ty : TE) : TE := fun σ H Q => td σ H fun x H1 => ∃ a T, x = .ref a ∧ KTab K w a T ∧ ty σ H1 fun y H2 => ∃ z : Str, y = .str z ∧ (∀ i, T.lookup z = some i → Q (.int i) H2) ∧ (T.lookup z = none → Q .non H2)
section
variable {X : Cx} {o e : Expr} {apos cpos : Pos} {td ty : TE}
theorem pe_kget (hu : X.A.units + 1 < cLine) (ho : PE X o td) (he : PE X e ty) (m : M1 X o "get" apos e cpos) : PE X (.Call (.Attribute o "get" apos) [e] [] cpos) (tKGet X.K X.w td ty) := by
  refine ⟨fun pins s σ H Q I h => ?_⟩
  refine wpAny_Call_method m.base m.few m.line PySem.F.plainAttrs_dict PySem.F.slot_dict_get PySem.F.type_dict_get (thn (ho.run pins s σ H _ I h) fun u s1 ⟨x, H1, I1, rx, a, T, ex, ⟨es, n, hl, hk, low, hall⟩, q1⟩ => ?_)
  subst ex
  obtain rfl : u = Value.ref a := rx
  have hm := PySem.W.mapOf_K (prog := X.prog) (w := X.w) I1.kIn hl hk
  refine ⟨hm.typeIs, hm.noDict, ?_⟩
  rw [m.trees]
  refine Calls.callWith_builtin rfl (Calls.evalArgs_plain (Calls.spliced_cons (thn (he.run pins s1 σ H1 _ I1 q1) fun iv s2 ⟨y, H2, I2, ry, z, ey, q2, q3⟩ => Calls.spliced_nil ?_)))
  subst ey
  obtain ⟨t, rfl⟩ := ry
  have hm2 := PySem.W.mapOf_K (prog := X.prog) (w := X.w) I2.kIn hl hk
  obtain ⟨r, e1, e2, e3⟩ := hall z
  have fnd := PySem.W.find_K hl e1
  refine call_meetsIn PySem.F.slot_dict_get hm2.typeIs PySem.F.entry_dict_get (PySem.F.args_dict_get_2 _ _) (meets_dict_get (strKind X.prog X.w) a (strKind_is X.prog X.w z t) low) ⟨_, hm2, ?_⟩
  show EP X pins σ Q ((findBy Value.isStrOf es z).getD .none) _
  rw [fnd]
  cases q : T.lookup z with
  | none =>
    rw [e3 q]
    exact ⟨.non, H2, I2.tok _, rfl, q3 q⟩
  | some i =>
    obtain ⟨t2, e4⟩ := e2 i q
    rw [e4]
    exact ⟨.int i, H2, I2.tok _, ⟨t2, rfl⟩, q2 i q⟩
end
section
variable {K : PySem.W.Frag} {E E' : Ent} {Γ Γ' : Gam} {g g' : Gh} {ρ : List Sl} {σ : L2.St} {H H' : Hp} {P : Sl → Gh → Prop} {ta tb tc te : TE} {tt tu : TT} {t u : TS} {p : PD} {wi : TI} {tg : TG} {w : World}
theorem we_kget {a : Addr} {T : List (Str × Int)} (hT : KTab K w a T) (h : WE K te ρ g fun s g1 => ∃ z : Str, s = .d (.str z) ∧ (∀ i, T.lookup z = some i → P (.d (.int i)) g1) ∧ (T.lookup z = none → P (.d .none) g1)) : WE K (tKGet K w (tC (.ref a)) te) ρ g P := fun E Γ σ H Q I k => by
  refine ⟨a, T, rfl, hT, h E Γ σ H _ I fun Γ1 g1 H1 v s e1 I1 r1 ⟨z, es, q1, q2⟩ => ?_⟩
  subst es
  cases da_str r1
  exact ⟨z, rfl, fun i hi => k Γ1 g1 H1 _ (.d (.int i)) e1 I1 (Da.int i) (q1 i hi), fun hn => k Γ1 g1 H1 _ (.d .none) e1 I1 Da.non (q2 hn)⟩
end
/-! ### a def whose code object is known -/
section
variable {P : Program} {w : World} {K : PySem.W.Frag} {mg : Str → Option Value} {base : Heap}
/-- a def as the top left it, its code object at c -/
def StdC (K : PySem.W.Frag) (mg : Str → Option Value) (x : Str) (st : Stmt) (ps : List Str) (c : Addr) : Prop :=
  ∃ (a : Addr) (fd : FuncData), Fun K x x st a fd ∧ mg x = some (.ref a) ∧ Binds K fd ps [] ∧ fd.code = .ref c
theorem cal_ofC {x : Str} {st : Stmt} {N ps : List Str} {k : Nat} {f : FS} {c : Addr} (S : StdC K mg x st ps c) (sc : FnScope N ps (defScope st)) (hN : ps.length ≤ N.length) (hl : ∀ ss g P, f ss g P → ss.length = ps.length)
    (body : ∀ (a : Addr) (A : Around) (outer : List Env) (s : Shared) (H : Hp) (vs : List V) (Q : VK) (E : XK), Room k (A.deeper (envOfC x (defScope st) s.heap.objs.size a (.ref c))) →
      ∃ t, PSs (cxOf CX0 P w K mg base N x (defScope st) a (.ref c) A outer s H E).nox (defBody st) t ∧ ∀ ss g P, f ss g P → SW K t { nx := fun _ g => P (.d .none) g, rt := P } (ss ++ List.replicate (N.length - ss.length) .un) g) : Cal P w K mg base (k + 1) x ps f := by
  obtain ⟨a, fd, F, hg, hb, hc⟩ := S
  have kp := F.kp
  obtain ⟨oc, od, kV, doc, pm, an, cdv, ct, osl, e, lk, hcd⟩ := F.ex
  subst e
  have ec : cdv = .ref c := hc
  subst ec
  refine ⟨a, _, fn_of lk hcd sc (fun vs H Q E h => ?_) (fun A outer s H vs Q E hr h => ?_), hg, kp, hb⟩
  · obtain ⟨Γ, g, ss, P, hp, r, q, _⟩ := h
    rw [← Paired.length r]
    exact hl ss g P q
  · obtain ⟨t, d, q⟩ := body a A outer s H vs Q E hr
    refine ⟨t, d.nox, sw_run (N := N) h ?_ fun ss g P _ hf => q ss g P hf⟩
    obtain ⟨Γ, g, ss, P, hp, r, q, _⟩ := h
    rw [← Paired.length r, hl ss g P q]
    exact hN
end
end PL
set_option maxRecDepth 100000
set_option maxHeartbeats 4000000
set_option autoImplicit false
namespace PL
open PySem PySem.Spec L2 PyProof.Rows
variable [TBs] [Nms]
/-! ### {"a": 1, ..}.get(x, 0) -/
def lookLast : List (Str × Int) → Str → Option Int → Option Int
  | [], _, acc => acc
  | (k, i) :: r, z, acc => lookLast r z (if z = k then some i else acc)
theorem look_merge : ∀ (prs : List (Str × Int)) (kvs : List (Key × V)) (z : Str) (acc : Option Int), valV kvs (.inr z) = acc.map V.int → valV (mergeK kvs (prs.map fun q => ((.inr q.1 : Key), V.int q.2))) (.inr z) = (lookLast prs z acc).map V.int
  | [], kvs, z, acc, h => h
  | (k, i) :: r, kvs, z, acc, h => by
    show valV (mergeK (putK kvs (.inr k) (.int i)) (r.map fun q => ((.inr q.1 : Key), V.int q.2))) (.inr z) = (lookLast r z (if z = k then some i else acc)).map V.int
    refine look_merge r _ z _ ?_
    rw [valV_put]
    by_cases e : z = k
    · rw [if_pos e, if_pos (by rw [e])]
      rfl
    · rw [if_neg e, if_neg (fun q => e (Sum.inr.inj q))]
      exact h
theorem pairs_run : ∀ (prs : List (Str × Int)) (σ : L2.St) (H : Hp) (Q : List (V × V) → Hp → Prop), Q (prs.map fun q => (V.str q.1, V.int q.2)) H → tPairs (prs.map fun q => (tC (.str q.1), tC (.int q.2))) σ H Q
  | [], _, _, _, h => h
  | (k, i) :: r, σ, H, Q, h => pairs_run r σ H _ h
section
variable {K : PySem.W.Frag} {E E' : Ent} {Γ Γ' : Gam} {g g' : Gh} {ρ : List Sl} {σ : L2.St} {H H' : Hp} {P : Sl → Gh → Prop} {ta tb tc te tx : TE} {tt tu : TT} {t u : TS} {p : PD} {wi : TI} {tg : TG} {w : World}
theorem we_dispGet2 {prs : List (Str × Int)} (hl : prs.length ≤ 15) (h : WE K te ρ g fun s g1 => ∃ z : Str, s = .d (.str z) ∧ WE K tx ρ g1 fun s2 g2 => ∃ i : Int, s2 = .d (.int i) ∧ P (.d (.int ((lookLast prs z none).getD i))) g2) :
    WE K (tDGet2 (tDisp (prs.map fun q => (tC (.str q.1), tC (.int q.2)))) te tx) ρ g P := fun E Γ σ H Q I k => by
  intro p np
  refine pairs_run prs σ _ _ ⟨upd_same, prs.map fun q => ((.inr q.1 : Key), V.int q.2), by rw [List.map_map]; rfl, by rw [List.length_map]; exact hl, ?_⟩
  rw [upd_twice]
  refine ⟨p, rfl, .inl ⟨_, .inl upd_same⟩, ?_⟩
  refine h E Γ σ _ _ (I.new np) fun Γ1 g1 H1 v s e1 I1 r1 ⟨z, es, q1⟩ => ?_
  subst es
  cases da_str r1
  refine q1 E Γ1 σ H1 _ I1 fun Γ2 g2 H2 u s2 e2 I2 r2 ⟨i, es, q2⟩ => ?_
  subst es
  cases da_int r2
  have hp := ((e1.trans e2).un p _ (I.hp.free np) upd_same).2
  refine ⟨_, DGet.k (k := .inr z) hp, ?_⟩
  have e : (valV (mergeK [] (prs.map fun q => ((.inr q.1 : Key), V.int q.2))) (.inr z)).getD (.int i) = .int ((lookLast prs z none).getD i) := by
    rw [look_merge prs [] z none rfl]
    cases lookLast prs z none <;> rfl
  rw [e]
  exact k Γ2 g2 H2 _ (.d (.int _)) (((ext_upd np).trans e1).trans e2) I2 (Da.int _) q2
end
end PL
set_option maxRecDepth 100000
set_option maxHeartbeats 4000000
set_option autoImplicit false
namespace PL
open PySem PySem.Spec L2 PyProof.Rows
variable [TBs] [Nms]
section
variable {K : PySem.W.Frag} {E E' : Ent} {Γ Γ' : Gam} {g g' : Gh} {ρ : List Sl} {σ : L2.St} {H H' : Hp} {P : Sl → Gh → Prop} {ta tb tc te tx : TE} {tt tu : TT} {t u : TS} {p : PD} {wi : TI} {tg : TG} {w : World}
/-- a, b, c = a record of three -/
theorem wg_lst3 {i j k : Nat} {A B C : PyData → Prop} {Pr : List Sl → Gh → Prop} (hi : i < ρ.length) (hj : j < ρ.length) (hk : k < ρ.length) (q : ∀ d1 d2 ds, A d1 → B d2 → AllD C ds → ds.length ≤ g.ub → Pr (((ρ.set i (.d d1)).set j (.d d2)).set k (.d (.list ds))) g) :
    WG K (gLst K 3 (gCons (gName i) (gCons (gName j) (gCons (gName k) gNil)))) [i, j, k] (.t (.rcd [.dat A, .dat B, .its C])) ρ g Pr := fun E Γ σ H v Q I r kk => by
  obtain ⟨a, rfl, h1⟩ := r
  obtain ⟨o, ho, xs, rfl, hp⟩ := I.hp.ob a _ h1
  cases hp with
  | cons r1 hp =>
    cases hp with
    | cons r2 hp =>
      cases hp with
      | cons r3 hp =>
        cases hp
        obtain ⟨d1, a1, a2⟩ := r1
        obtain ⟨d2, b1, b2⟩ := r2
        obtain ⟨ds, c1, c2, c3⟩ := r3
        refine ⟨a, _, rfl, SqL.of ho, rfl, _, _, rfl, _, _, rfl, _, _, rfl, rfl, ?_⟩
        have I1 := I.set (i := i) (s := .d d1) (o := some _) ⟨_, rfl, a1⟩ (fun ds z => by cases z) hi
        have I2 := I1.set (i := j) (s := .d d2) (o := some _) ⟨_, rfl, b1⟩ (fun ds z => by cases z) (by rw [List.length_set]; exact hj)
        have I3 := I2.set (i := k) (s := .d (.list ds)) (o := some _) ⟨_, rfl, c1⟩ (fun ds z => by cases z) (by rw [List.length_set, List.length_set]; exact hk)
        refine kk Γ g _ _ H (Ext.refl Γ H) I3 ⟨by simp, fun m hm => ?_⟩ (q d1 d2 ds a2 b2 c2 c3)
        simp only [List.mem_cons, List.not_mem_nil, or_false, not_or] at hm
        rw [List.getElem?_set, if_neg (Ne.symm hm.2.2), List.getElem?_set, if_neg (Ne.symm hm.2.1), List.getElem?_set, if_neg (Ne.symm hm.1)]
end
end PL
set_option maxRecDepth 100000
set_option maxHeartbeats 4000000
set_option autoImplicit false
/-! PL20: a def whose answer is a list of the caller's own; isinstance, reverse, != of lists. -/
namespace PL
open PySem PySem.Spec L2 PyProof.Rows
variable [TBs] [Nms]
section
variable {K : PySem.W.Frag} {E E' : Ent} {Γ Γ' : Gam} {g g' : Gh} {ρ : List Sl} {σ : L2.St} {H H' : Hp} {P : Sl → Gh → Prop} {ta tb tc te tx : TE} {tt tu : TT} {t u : TS} {p : PD} {wi : TI} {tg : TG} {w : World}
/-! ### a new list as the answer -/
def SWO (K : PySem.W.Frag) (ts : TS) (PO : List PyData → Gh → Prop) (ρ : List Sl) (g : Gh) : Prop :=
  ∀ (E : Ent) (Γ : Gam) (σ : L2.St) (H : Hp) (D : Ends), EnvOk K E Γ g ρ σ H → (∀ Γ' g' ρ' σ' H' a ds, EnvOk K E Γ' g' ρ' σ' H' → Γ' a = some (.own ds) → E.Γ a = none → E.H a = none → PO ds g' → D.rt (.ref a) H') → ts D σ H
theorem swo_seq {PO : List PyData → Gh → Prop} (h : SW K t { nx := fun ρ g => SWO K u PO ρ g, rt := fun _ _ => False } ρ g) : SWO K (tSeq t u) PO ρ g := fun E Γ σ H D I d => h E Γ σ H { D with nx := u D } I
  ⟨fun Γ g ρ σ H I q => q E Γ σ H D I d, fun _ _ _ _ _ _ _ _ _ z => z.elim, fun _ _ _ _ _ _ z => z.elim, fun _ _ _ _ _ _ z => z.elim⟩
theorem swo_ret_srtO {PO : List PyData → Gh → Prop} {i : Nat} {T : List Str} {r : List V → Hp → VK → Prop} (h : ρ[i]? = some (.ob fun a => TX.TO w a T)) (q : PO ((TX.srt T).map .str) g) : SWO K (tRet (tCB (fun xs H Q => r xs H Q ∨ TX.rSrtT w xs H Q) (tCons (tVar i) tNil))) PO ρ g := fun E Γ σ H D I d => by
  obtain ⟨a, h1, h2, h3, h4, h5, h6⟩ := ob_at I h
  refine ⟨_, h2, .inr ⟨a, T, rfl, h6, fun p np => ?_⟩⟩
  obtain ⟨f1, f2, f3⟩ := I.fresh np
  have I1 := I.newown (ds := (TX.srt T).map .str) np (daAll_strs _)
  exact d _ g ρ σ _ p _ I1 put_same f2 f3 q
abbrev FSO := List Sl → Gh → (List PyData → Gh → Prop) → Prop
def spO (K : PySem.W.Frag) (f : FSO) : Sp := fun vs H Q _ => ∃ (Γ : Gam) (g : Gh) (ss : List Sl) (PO : List PyData → Gh → Prop), HeapOk K Γ g H ∧ Paired (ROk K Γ H) ss vs ∧ f ss g PO ∧
  ∀ Γ' g' H' a ds, Ext Γ H Γ' H' → HeapOk K Γ' g' H' → g.le g' → Γ' a = some (.own ds) → Γ a = none → H a = none → PO ds g' → Q (.ref a) H'
def CalO (P : Program) (w : World) (K : PySem.W.Frag) (mg : Str → Option Value) (base : Heap) (k : Nat) (x : Str) (ps : List Str) (f : FSO) : Prop :=
  ∃ (a : Addr) (fd : FuncData), FnOk P w K mg base CX0 k a fd ps (spO K f) ∧ mg x = some (.ref a) ∧ PySem.W.keepIn K (.ref a) = true ∧ Binds K fd ps []
theorem sw_callO {i : Nat} {f : FSO} {X : XK} {ts : TA} (hi : i < ρ.length) (h : WA K ts ρ g fun ss g1 => f ss g1 fun ds g2 => p.nx (ρ.set i (.own ds)) g2) : SW K (tAsg (tCall (spO K f) [] X ts) (gName i)) p ρ g := fun E Γ σ H D I d => h E Γ σ H _ I fun Γ1 g1 H1 vs ss e1 I1 r1 q => by
  refine ⟨Γ1, g1, ss, _, I1.hp, by rw [List.append_nil]; exact r1, q, fun Γ2 g2 H2 a ds e2 h2 l2 ha n1 n2 q2 => ?_⟩
  have I2 : EnvOk K E Γ2 g2 ρ σ H2 := I1.ext e2 h2 l2
  obtain ⟨f1, f2, f3⟩ := I1.fresh n2
  have no := I1.noOwn n1
  have I3 := I2.set (s := .un) (o := some (.ref a)) (i := i) trivial (fun ds z => by cases z) hi
  have hs : slot (σ.set i (some (.ref a))) i = some (.ref a) := by
    rw [slot_set (by rw [I2.len]; exact hi), if_pos rfl]
  have I4 := I3.takeOwn (i := i) (D := a) (by rw [List.length_set]; exact hi) hs ha f2 f3 (by
    rw [set_set]
    intro j es hj hz
    rcases set_get hj with ⟨e, e2⟩ | ⟨e, e2⟩
    · cases e2
    · rw [slot_set (by rw [I2.len]; exact hi), if_neg e] at hz
      exact no j es e2 hz)
  rw [set_set] at I4
  exact d.nx _ g2 _ _ _ I4 q2
/-! ### own lists: !=, isinstance, reverse -/
theorem _root_.PL.DaAll.rev {H : Hp} : ∀ {vs : List V} {ds : List PyData}, DaAll K H vs ds → DaAll K H vs.reverse ds.reverse
  | _, _, .nil => .nil
  | _, _, .cons a t => by
    rw [List.reverse_cons, List.reverse_cons]
    exact t.rev.append (.cons a .nil)
theorem we_neq_own {i : Nat} {ds : List PyData} (h : ρ[i]? = some (.own ds)) (q : WE K te ρ g fun s g1 => ∃ es, s = .d (.list es) ∧ SeqAt.shaped (.list ds) = true ∧ SeqAt.shaped (.list es) = true ∧ P (.d (.bool (!PyData.eqv (.list ds) (.list es)))) g1) : WE K (tOp (rNeq K) (tVar i) te) ρ g P := fun E Γ σ H Q I k => by
  obtain ⟨a, xs, h1, h2, h3, h4, h5, h6, h7⟩ := own_at I h
  refine ⟨_, h2, ?_⟩
  refine q E Γ σ H _ I fun Γ1 g1 H1 v s e1 I1 r1 ⟨es, eq, s1, s2, q1⟩ => ?_
  subst eq
  obtain ⟨a', xs', k1, k2, k3, k4, k5, k6, k7⟩ := own_at I1 h
  rw [h2] at k2
  cases k2
  exact .inr ⟨.list ds, .list es, .lst (.inl (.inl k6)) (k7.mono hid_sub).dp, (Da.mono hid_sub r1).dp, s1, s2, k Γ1 g1 H1 _ (.d (.bool _)) e1 I1 (Da.bl _) q1⟩
theorem we_isi_own {i : Nat} {ds : List PyData} (h : ρ[i]? = some (.own ds)) (q : P (.d (.bool true)) g) : WE K (tCB (rIsi K) (tCons (tVar i) (tCons (tC (.ty "list")) tNil))) ρ g P := fun E Γ σ H Q I k => by
  obtain ⟨a, xs, h1, h2, h3, h4, h5, h6, h7⟩ := own_at I h
  exact ⟨_, h2, _, .ty "list", .type "list", .type "list", true, rfl, .ty "list", .base (.lst h6), kit_ty (by decide +kernel), k Γ g H _ (.d (.bool true)) (Ext.refl Γ H) I (Da.bl _) q⟩
theorem we_isi_int {i : Nat} {n : Int} (h : ρ[i]? = some (.d (.int n))) (q : P (.d (.bool false)) g) : WE K (tCB (rIsi K) (tCons (tVar i) (tCons (tC (.ty "bool")) tNil))) ρ g P := fun E Γ σ H Q I k => by
  obtain ⟨v, e, r⟩ := (I.sl i _ h).plain (fun z => by cases z) (fun _ z => by cases z)
  cases da_int r
  exact ⟨_, slot_some e, _, .ty "bool", .type "int", .type "bool", false, rfl, .ty "bool", .base (.int n), kit_ty (by decide +kernel), k Γ g H _ (.d (.bool false)) (Ext.refl Γ H) I (Da.bl _) q⟩
theorem r2_notN {d : PyData} (hd : d ≠ .none) (q : P (.d (.bool true)) g) : R2W K (fun x y H Q => y = V.non ∧ Q (V.bl !decide (x = V.non)) H) (.d d) (.d .none) g P := fun E Γ ρ σ H v u Q I r1 r2 k => by
  have hv : v ≠ V.non := by
    rintro rfl
    cases r1
    exact hd rfl
  refine ⟨da_non r2, ?_⟩
  rw [decide_eq_false hv]
  exact k Γ g H _ (.d (.bool true)) (Ext.refl Γ H) I (Da.bl _) q
theorem r2_notNN (q : P (.d (.bool false)) g) : R2W K (fun x y H Q => y = V.non ∧ Q (V.bl !decide (x = V.non)) H) (.d .none) (.d .none) g P := fun E Γ ρ σ H v u Q I r1 r2 k => by
  refine ⟨da_non r2, ?_⟩
  rw [decide_eq_true (da_non r1)]
  exact k Γ g H _ (.d (.bool false)) (Ext.refl Γ H) I (Da.bl _) q
theorem sw_revOwn {i : Nat} {ds : List PyData} (h : ρ[i]? = some (.own ds)) (q : p.nx (ρ.set i (.own ds.reverse)) g) : SW K (tDrop (tBM0 K "list" rReverse (tVar i))) p ρ g := fun E Γ σ H D I d => by
  obtain ⟨a, xs, h1, h2, h3, h4, h5, h6, h7⟩ := own_at I h
  refine ⟨_, h2, .inl ⟨rfl, xs, SqL.of h6⟩, a, xs, rfl, rfl, h6, ?_⟩
  exact d.nx _ g _ _ _ (I.change h h1 h3 h4 h5 h7.rev) q
end
section
variable {P : Program} {w : World} {K : PySem.W.Frag} {mg : Str → Option Value} {base : Heap}
theorem sw_runO {t : TS} {f : FSO} {N : List Str} {vs : List V} {H : Hp} {Q : VK} {X : XK} (h : spO K f vs H Q X) (hN : vs.length ≤ N.length)
    (b : ∀ ss g PO, ss.length = vs.length → f ss g PO → SWO K t PO (ss ++ List.replicate (N.length - ss.length) .un) g) : t { nx := fun _ H' => Q .non H', rt := Q } (L2.start N vs) H := by
  obtain ⟨Γ, g, ss, PO, hp, r, q, k⟩ := h
  have hl : ss.length = vs.length := Paired.length r
  have hget : ∀ (i : Nat) (s : Sl), ss[i]? = some s → ∃ v, vs[i]? = some v ∧ ROk K Γ H s v := fun i s hs => paired_get r hs
  have I : EnvOk K ⟨Γ, H, g, []⟩ Γ g (ss ++ List.replicate (N.length - ss.length) .un) (L2.start N vs) H := {
    len := by
      unfold L2.start
      rw [List.length_append, List.length_append, List.length_map, List.length_replicate, List.length_replicate, hl]
    sl := fun i s hs => by
      by_cases hi : i < ss.length
      · rw [List.getElem?_append_left hi] at hs
        obtain ⟨v, hv, hr⟩ := hget i s hs
        have e : slot (L2.start N vs) i = some v := by
          unfold slot L2.start
          rw [List.getElem?_append_left (by rw [List.length_map, ← hl]; exact hi), List.getElem?_map, hv]
          rfl
        rw [e]
        exact SOk.of hr
      · have e : s = .un := by
          rw [List.getElem?_append_right (by omega)] at hs
          exact (List.mem_replicate.mp (List.mem_of_getElem? hs)).2
        subst e
        trivial
    dis := fun i j x y a hij h1 h2 h3 h4 => by
      by_cases hi : i < ss.length
      · rw [List.getElem?_append_left hi] at h1
        obtain ⟨v, _, hr⟩ := hget i _ h1
        exact hr
      · rw [List.getElem?_append_right (by omega)] at h1
        cases (List.mem_replicate.mp (List.mem_of_getElem? h1)).2
    hp := hp
    fr := Ext.refl Γ H
    gle := Gh.le_refl g
    pv := fun p hp => by cases hp }
  exact b ss g PO hl q _ Γ _ H _ I fun Γ' g' ρ' σ' H' a ds I' ha n1 n2 q' => k Γ' g' H' a ds I'.fr I'.hp I'.gle ha n1 n2 q'
theorem calO_of {x : Str} {st : Stmt} {N ps : List Str} {k : Nat} {f : FSO} (S : Std K mg x st ps) (sc : FnScope N ps (defScope st)) (hN : ps.length ≤ N.length) (hl : ∀ ss g PO, f ss g PO → ss.length = ps.length)
    (body : ∀ (a : Addr) (cdv : Value) (A : Around) (outer : List Env) (s : Shared) (H : Hp) (vs : List V) (Q : VK) (E : XK), Room k (A.deeper (envOfC x (defScope st) s.heap.objs.size a cdv)) →
      ∃ t, PSs (cxOf CX0 P w K mg base N x (defScope st) a cdv A outer s H E).nox (defBody st) t ∧ ∀ ss g PO, f ss g PO → SWO K t PO (ss ++ List.replicate (N.length - ss.length) .un) g) : CalO P w K mg base (k + 1) x ps f := by
  obtain ⟨a, fd, F, hg, hb⟩ := S
  refine ⟨a, fd, F.ok sc (fun vs H Q E h => ?_) (fun cdv A outer s H vs Q E hr h => ?_), hg, F.kp, hb⟩
  · obtain ⟨Γ, g, ss, PO, hp, r, q, _⟩ := h
    rw [← Paired.length r]
    exact hl ss g PO q
  · obtain ⟨t, d, q⟩ := body a cdv A outer s H vs Q E hr
    refine ⟨t, d, sw_runO (N := N) h ?_ fun ss g PO _ hf => q ss g PO hf⟩
    obtain ⟨Γ, g, ss, PO, hp, r, q, _⟩ := h
    rw [← Paired.length r, hl ss g PO q]
    exact hN
theorem CalO.mono {x : Str} {ps : List Str} {f : FSO} {j k : Nat} (C : CalO P w K mg base j x ps f) (h : j ≤ k) : CalO P w K mg base k x ps f := by
  obtain ⟨a, fd, F, r⟩ := C
  exact ⟨a, fd, F.mono h, r⟩
end
end PL
set_option maxRecDepth 100000
set_option maxHeartbeats 4000000
set_option autoImplicit false
/-! PL21: from a head's facts to the calculus. -/
namespace PL
open PySem PySem.Spec L2 PyProof.Rows
section
variable {K : PySem.W.Frag} {mg : Str → Option Value} {base h : Heap} {P : Program} {w : World}
theorem fun_of {x : Str} {st : Stmt} {a : Addr} {fd : FuncData} (F : FunD K x x (defArgs st) (defBody st) (defScope st) [] [] a fd) : Fun K x x st a fd := by
  obtain ⟨oc, od, dV, kV, doc, pm, an, cdv, ct, osl, e, lk, hcd, hD, _⟩ := F.ex
  rcases hD with ⟨_, rfl⟩ | ⟨z, _⟩
  · exact ⟨⟨oc, od, kV, doc, pm, an, cdv, ct, osl, e, lk, hcd⟩, F.kp⟩
  · exact absurd rfl z
theorem stdC_of {x : Str} {st : Stmt} {ps : List Str} {p : Str × Option Str} {fd : FuncData} (F : FunD K x x (defArgs st) (defBody st) (defScope st) [] [] (He.fAd K p) fd) (hm : mg x = some (.ref (He.fAd K p)))
    (h : ∀ (kV doc pm : Value) (an : Option Addr) (cdv ct : Value) (us : List Value), us.length = ps.length → bindArgs (PySem.W.fnOf x x (defArgs st) (defBody st) (defScope st) .none kV doc pm an cdv ct) ⟨us, []⟩ = pure (ps.zip us)) : StdC K mg x st ps (He.codeOf K p) := by
  have F2 := fun_of F
  obtain ⟨oc, od, dV, kV, doc, pm, an, cdv, ct, osl, e, lk, hcd, hD, _⟩ := F.ex
  refine ⟨_, fd, F2, hm, F2.binds h, ?_⟩
  obtain ⟨c, hc⟩ := He.codeIn_ref hcd
  have e2 : fd.code = .ref c := by
    rw [e]
    exact hc
  rw [He.codeOf_eq lk e2]
  exact e2
theorem std_of {x : Str} {st : Stmt} {ps : List Str} {a : Addr} {fd : FuncData} (F : FunD K x x (defArgs st) (defBody st) (defScope st) [] [] a fd) (hm : mg x = some (.ref a))
    (h : ∀ (kV doc pm : Value) (an : Option Addr) (cdv ct : Value) (us : List Value), us.length = ps.length → bindArgs (PySem.W.fnOf x x (defArgs st) (defBody st) (defScope st) .none kV doc pm an cdv ct) ⟨us, []⟩ = pure (ps.zip us)) : Std K mg x st ps :=
  ⟨a, fd, fun_of F, hm, (fun_of F).binds h⟩
/-! ### a table of numbers -/
theorem keys_mem {Q : Params} : ∀ {l : List DictEntry} {ks : List Str}, l.map He.keyOf = He.keysIn Q ks → ∀ e, e ∈ l → ∃ (k : Str) (t : Tok), k ∈ ks ∧ e.key = .str k t
  | [], _, _, e, he => by cases he
  | d :: r, [], h, _, _ => by cases h
  | d :: r, k :: ks, h, e, he => by
    have h1 : He.keyOf d :: r.map He.keyOf = some (k, PyData.keyHash Q k) :: He.keysIn Q ks := h
    injection h1 with h2 h3
    rcases List.mem_cons.mp he with rfl | he
    · unfold He.keyOf at h2
      split at h2
      · rename_i x t q
        have h4 := Option.some.inj h2
        obtain ⟨h5, h6⟩ := Prod.mk.inj h4
        exact ⟨k, t, List.mem_cons_self, by rw [q, h5]⟩
      · cases h2
    · obtain ⟨k2, t, a1, a2⟩ := keys_mem h3 e he
      exact ⟨k2, t, List.mem_cons_of_mem _ a1, a2⟩
theorem dicW_keys {a : Addr} {ks : List Str} {Q : Params} (h : He.dicW K a = some (He.keysIn Q ks)) {es : Array DictEntry} {n : Nat} (lk : K.lookup a = some ⟨.type "dict", none, .dict es n, #[]⟩) : es.toList.map He.keyOf = He.keysIn Q ks := by
  unfold He.dicW at h
  rw [lk] at h
  have h1 : (match decide (("dict" : String) = "dict") && ((#[] : Array (Option Value)).isEmpty && !(a == sysModules)) with
            | true => some (es.toList.map He.keyOf)
            | false => none) = some (He.keysIn Q ks) := h
  cases z : decide (("dict" : String) = "dict") && ((#[] : Array (Option Value)).isEmpty && !(a == sysModules)) with
  | false =>
    rw [z] at h1
    cases h1
  | true =>
    rw [z] at h1
    exact Option.some.inj h1
theorem ktab_of {a : Addr} {T : List (Str × Int)} (h1 : He.dicW K a = some (He.keysIn w.params (T.map (·.1)))) (h2 : He.valsB K a (T.map fun q => (q.1, He.Dv.int q.2)) = true) : KTab K w a T := by
  obtain ⟨es, n, D⟩ := He.dicW_ok h1
  have hk := dicW_keys h1 D.at_
  refine ⟨es, n, D.at_, D.lit, D.low, fun x => ?_⟩
  cases hx : T.lookup x with
  | some i =>
    have hm : (x, i) ∈ T := by
      clear h1 h2 hk
      induction T with
      | nil => cases hx
      | cons q T ih =>
        obtain ⟨y, j⟩ := q
        rw [List.lookup_cons] at hx
        cases e : x == y with
        | true =>
          rw [e] at hx
          cases hx
          rw [beq_iff_eq.mp e]
          exact List.mem_cons_self
        | false =>
          rw [e] at hx
          exact List.mem_cons_of_mem _ (ih hx)
    obtain ⟨u, u1, u2⟩ := He.valsB_ok h2 (q := (x, He.Dv.int i)) (List.mem_map.mpr ⟨(x, i), hm, rfl⟩)
    obtain ⟨t, rfl⟩ : ∃ t, u = Value.int i t := u2
    exact ⟨some (.int i t), u1, fun j hj => ⟨t, by cases hj; rfl⟩, fun z => by cases z⟩
  | none =>
    have hx2 : x ∉ T.map (·.1) := fun z => by
      clear h1 h2 hk
      induction T with
      | nil => cases z
      | cons q T ih =>
        obtain ⟨y, j⟩ := q
        rw [List.lookup_cons] at hx
        cases e : x == y with
        | true =>
          rw [e] at hx
          cases hx
        | false =>
          rw [e] at hx
          rcases List.mem_cons.mp z with z | z
          · have : x = y := z
            rw [this, beq_self_eq_true] at e
            cases e
          · exact ih hx z
    refine ⟨none, ?_, fun i hi => (by cases hi), fun _ => rfl⟩
    unfold PySem.W.nsIn
    rw [D.at_]
    show (match es.toList.find? (·.key.isStr x) with
      | some e => some (some e.val)
      | none => if es.toList.any (·.refKey) then none else some none) = some none
    have f1 : es.toList.find? (·.key.isStr x) = none := List.find?_eq_none.mpr fun e he => by
      obtain ⟨k, t, k1, k2⟩ := keys_mem hk e he
      rw [k2]
      intro z
      have : k = x := by simpa [Value.isStr] using z
      exact hx2 (this ▸ k1)
    have f2 : es.toList.any (·.refKey) = false := List.any_eq_false.mpr fun e he => by
      obtain ⟨k, t, k1, k2⟩ := keys_mem hk e he
      simp [DictEntry.refKey, k2]
    rw [f1, f2]
    rfl
end
/-! ### a def of which the address is known -/
section
variable [TBs] [Nms] {P : Program} {w : World} {K : PySem.W.Frag} {mg : Str → Option Value} {base : Heap}
theorem fnOk_of {x : Str} {st : Stmt} {N ps : List Str} {k : Nat} {f : FS} {a : Addr} {fd : FuncData} (F : Fun K x x st a fd) (sc : FnScope N ps (defScope st)) (hN : ps.length ≤ N.length) (hl : ∀ ss g P, f ss g P → ss.length = ps.length)
    (body : ∀ (a : Addr) (cdv : Value) (A : Around) (outer : List Env) (s : Shared) (H : Hp) (vs : List V) (Q : VK) (E : XK), Room k (A.deeper (envOfC x (defScope st) s.heap.objs.size a cdv)) →
      ∃ t, PSs (cxOf CX0 P w K mg base N x (defScope st) a cdv A outer s H E).nox (defBody st) t ∧ ∀ ss g P, f ss g P → SW K t { nx := fun _ g => P (.d .none) g, rt := P } (ss ++ List.replicate (N.length - ss.length) .un) g) : FnOk P w K mg base CX0 (k + 1) a fd ps (spF K f) := by
  refine F.ok sc (fun vs H Q E h => ?_) (fun cdv A outer s H vs Q E hr h => ?_)
  · obtain ⟨Γ, g, ss, P, hp, r, q, _⟩ := h
    rw [← Paired.length r]
    exact hl ss g P q
  · obtain ⟨t, d, q⟩ := body a cdv A outer s H vs Q E hr
    refine ⟨t, d, sw_run (N := N) h ?_ fun ss g P _ hf => q ss g P hf⟩
    obtain ⟨Γ, g, ss, P, hp, r, q, _⟩ := h
    rw [← Paired.length r, hl ss g P q]
    exact hN
/-- the law's entry: nothing is there but the empty tables and the script -/
theorem sp_law {f : FS} {H : Hp} {a : Addr} {ns : List Int} (hH : ∀ p, p ∈ TBs.tb → H p.1 = some (.tbl #[])) (hnd : ∀ p q, p ∈ TBs.tb → q ∈ TBs.tb → p.1 = q.1 → p = q) (hS : SqL K H a (ns.map V.int))
    (hf : f [.s ns] Gh.zero fun s _ => s = .d (.bool true)) (Ex : XK) : spF K f [.ref a] H (fun v _ => v = .bl true) Ex := by
  let Γ : Gam := fun b => (TBs.tb.find? fun p => p.1 == b).map fun p => .tab p.2
  have hΓ : ∀ b t, Γ b = some t → ∃ p, p ∈ TBs.tb ∧ p.1 = b ∧ t = .tab p.2 := fun b t e => by
    have e2 : (TBs.tb.find? fun p => p.1 == b).map (fun p => GT.tab p.2) = some t := e
    obtain ⟨p, h1, h2⟩ := Option.map_eq_some_iff.mp e2
    exact ⟨p, List.mem_of_find?_eq_some h1, beq_iff_eq.mp (List.find?_some (p := fun p : Addr × Str => p.1 == b) h1), h2.symm⟩
  have hin : ∀ p, p ∈ TBs.tb → Γ p.1 = some (.tab p.2) := fun p hp => by
    show (TBs.tb.find? fun q => q.1 == p.1).map (fun p => GT.tab p.2) = _
    cases e : TBs.tb.find? fun q => q.1 == p.1 with
    | none =>
      have := List.find?_eq_none.mp e p hp
      simp at this
    | some q =>
      have q1 := List.mem_of_find?_eq_some e
      have q2 : (q.1 == p.1) = true := List.find?_some (p := fun q : Addr × Str => q.1 == p.1) e
      rw [hnd q p q1 hp (beq_iff_eq.mp q2)]
      rfl
  refine ⟨Γ, Gh.zero, [.s ns], _, ⟨fun b t e => ?_, fun b i t e => ?_, fun b i t e => ?_, fun _ _ => ⟨rfl, rfl, rfl, rfl⟩, hin⟩, .cons ⟨a, rfl, ?_⟩ .nil, hf, fun Γ' g' H' v s _ _ _ r q => ?_⟩
  · obtain ⟨p, hp, e1, e2⟩ := hΓ b t e
    subst e1 e2
    exact ⟨_, hH p hp, #[], rfl, (by simp [TriplesOk]), fun pos cv hc => by simp [codeAmong] at hc⟩
  · obtain ⟨p, _, _, e2⟩ := hΓ b _ e
    cases e2
  · obtain ⟨p, _, _, e2⟩ := hΓ b _ e
    cases e2
  · have un : ∀ b o, H b = some o → (∀ q : Array Value, o ≠ .tbl q) → hid Γ H b = some o := fun b o hb hn => by
      have : Γ b = none := by
        cases e : Γ b with
        | none => rfl
        | some t =>
          obtain ⟨p, hp, e1, _⟩ := hΓ b t e
          have := hH p hp
          rw [e1, hb] at this
          exact absurd (Option.some.inj this) (hn _)
      rw [hid_none this]
      exact hb
    refine hS.elim (fun h => .inl ?_) .inr
    exact h.elim (fun h => .inl (un a _ h (fun q z => by cases z))) fun ⟨o, h⟩ => .inr ⟨o, un a _ h (fun q z => by cases z)⟩
  · subst q
    exact da_bl r
end
end PL
namespace LK
open PySem L2 PyProof.Rows PL
variable [TBs]
abbrev alph : Str := "abcdefghijkmnopqrstuvwxyz"
/-- the stems that are drawn -/
def stems : List Str := (List.range 25).flatMap fun n => [Txt.mul ⟨#[alph.cps.toList.getD n 0]⟩ 1, Txt.mul ⟨#[alph.cps.toList.getD n 0]⟩ 12]
/-- all names that may come -/
def NM1 (s : Str) : List Str := (["f", "d", "m"] : List Str).flatMap fun c : Str => (List.range 4).map fun i : Nat => s ++ c ++ toString (i : Int)
def NM2 (s : Str) : List Str := [s ++ "c9", s ++ "c10"]
def lab (h k : Nat) : Str := "l" ++ toString (h : Int) ++ "x" ++ toString (k : Int)
def NM3 (h : Nat) : List Str := (List.range 4).map fun k : Nat => lab h k
def NM4 : List Str := ["f", "g", "d", "e", "c", "m", "", "?"]
def NM : List Str := stems.flatMap NM1 ++ (stems.flatMap NM2 ++ ((List.range 801).flatMap NM3 ++ NM4))
instance : Nms := ⟨fun x => x ∈ NM⟩
theorem flat_len {α β : Type} {f : α → List β} {n : Nat} (h : ∀ a, (f a).length = n) : ∀ l : List α, (l.flatMap f).length = l.length * n
  | [] => by simp
  | a :: l => by rw [List.flatMap_cons, List.length_append, h, flat_len h l, List.length_cons, Nat.add_mul, Nat.one_mul, Nat.add_comm]
theorem stems_len : stems.length = 50 := by
  unfold stems
  rw [flat_len (n := 2) (fun _ => rfl)]
  rw [List.length_range]
theorem NM_len : NM.length = 3912 := by
  unfold NM
  rw [List.length_append, List.length_append, List.length_append, flat_len (n := 12) (fun _ => rfl), flat_len (n := 2) (fun _ => rfl), flat_len (n := 4) (fun _ => rfl), stems_len, List.length_range]
  rfl
def topS (i : Nat) : Stmt := PySem.Challenge.pw_weldmill_k02_names_asked_and_lengths.main.body.getD i (.Pass ⟨0, 0, 0, 0⟩)
/-- a whole number that isn't negative -/
def IsNat (d : PyData) : Prop := ∃ n : Int, d = .int n ∧ 0 ≤ n
abbrev penT (ns : List Int) : Ty := .rcd [.scr ns, .dat IsNat, .dat IsNat]
/-- a text, not long -/
def IsStr (d : PyData) : Prop := ∃ x : Str, d = .str x ∧ NmOk x
/-- what a data name's cells hold -/
def Kinds (d : PyData) : Prop := ∃ ks, d = .list ks ∧ AllD IsStr ks ∧ ks.length ≤ 600
def IsFs (fs : List Str) : Prop := (0 < fs.length ∧ fs.length ≤ 100) ∧ ∀ x, x ∈ fs → NmOk x
def IsMs (fs : List Str) : Prop := fs.length ≤ 100 ∧ ∀ x, x ∈ fs → NmOk x
/-- functions, what the data names' cells hold, maybes -/
abbrev planT (i : Nat) (fs ms : List Str) : Ty := .tpl [.dat (fun d => d = .list (fs.map .str)), .dic i Kinds, .dat (fun d => d = .list (ms.map .str))]
/-- no more than more keys are known -/
structure Kno (g g' : Gh) : Prop where
  ks : ∀ i s, s ∈ g.ks i → s ∈ g'.ks i
  lb : g'.lb = g.lb
  ub : g'.ub = g.ub
  kn : g'.kn = g.kn
  pt : g'.pt = g.pt
theorem Kno.refl (g : Gh) : Kno g g := ⟨fun _ _ h => h, rfl, rfl, rfl, rfl⟩
theorem Kno.trans {a b c : Gh} (h : Kno a b) (k : Kno b c) : Kno a c := ⟨fun i s q => k.ks i s (h.ks i s q), k.lb.trans h.lb, k.ub.trans h.ub, k.kn.trans h.kn, k.pt.trans h.pt⟩
theorem kno_know {g : Gh} {i : Nat} {ns : List (Str × PyData)} (h : ∀ s, s ∈ g.ks i → s ∈ ns) : Kno g (g.know i ns) := ⟨(Gh.le_know h).ks, rfl, rfl, rfl, rfl⟩
theorem know_in {g : Gh} {i : Nat} {ns : List (Str × PyData)} {s : Str × PyData} (h : s ∈ ns) : s ∈ (g.know i ns).ks i := by
  show s ∈ if i = i then ns else g.ks i
  rw [if_pos rfl]
  exact h
/-- which part of an item is a name -/
def npart (w : Str) : Option Nat := if w = "place" ∨ w = "when" then some 2 else if w = "call" ∨ w = "jump" ∨ w = "at" then some 1 else none
/-- an item: a word, its parts; the one that is a name is a text; a room's width is a number -/
def GItem (d : PyData) : Prop := ∃ (w : Str) (r : List PyData), d = .tuple (.str w :: r) ∧ (∀ k, npart w = some k → ∃ x : Str, (PyData.str w :: r)[k]? = some (.str x) ∧ NmOk x) ∧ (w = "room" → ∃ n : Int, r = [.int n])
theorem gi_none {w : Str} {r : List PyData} (h : npart w = none) (h2 : w ≠ "room") : GItem (.tuple (.str w :: r)) := by
  refine ⟨w, r, rfl, fun k e => ?_, fun e => absurd e h2⟩
  rw [h] at e
  cases e
theorem gi_one {w x : Str} {r : List PyData} (h : npart w = some 1) (h2 : w ≠ "room") (hx : NmOk x) : GItem (.tuple (.str w :: .str x :: r)) := by
  refine ⟨w, _, rfl, fun k e => ?_, fun e => absurd e h2⟩
  rw [h] at e
  cases e
  exact ⟨x, rfl, hx⟩
theorem gi_two {w x : Str} {d : PyData} {r : List PyData} (h : npart w = some 2) (h2 : w ≠ "room") (hx : NmOk x) : GItem (.tuple (.str w :: d :: .str x :: r)) := by
  refine ⟨w, _, rfl, fun k e => ?_, fun e => absurd e h2⟩
  rw [h] at e
  cases e
  exact ⟨x, rfl, hx⟩
theorem gi_room {n : Int} : GItem (.tuple [.str "room", .int n]) := by
  refine ⟨"room", _, rfl, fun k e => ?_, fun _ => ⟨n, rfl⟩⟩
  have h : npart "room" = none := by decide +kernel
  rw [h] at e
  cases e
theorem _root_.PL.AllD.nil {F : PyData → Prop} : AllD F [] := fun _ h => by cases h
theorem _root_.PL.AllD.cons {F : PyData → Prop} {ds : List PyData} {d : PyData} (x : F d) (h : AllD F ds) : AllD F (d :: ds) := fun y hy => (List.mem_cons.mp hy).elim (fun e => e ▸ x) (h y)
theorem _root_.PL.AllD.snoc {F : PyData → Prop} {ds : List PyData} {d : PyData} (h : AllD F ds) (x : F d) : AllD F (ds ++ [d]) := fun y hy => by
  rcases List.mem_append.mp hy with e | e
  · exact h y e
  · rw [List.mem_singleton.mp e]
    exact x
theorem _root_.PL.AllD.app {F : PyData → Prop} {ds es : List PyData} (h : AllD F ds) (k : AllD F es) : AllD F (ds ++ es) := fun y hy => (List.mem_append.mp hy).elim (h y) (k y)
theorem _root_.PL.AllD.rep {F : PyData → Prop} {ds : List PyData} (h : AllD F ds) (n : Nat) : AllD F (List.replicate n ds).flatten := fun y hy => by
  obtain ⟨l, h1, h2⟩ := List.mem_flatten.mp hy
  rw [(List.mem_replicate.mp h1).2] at h2
  exact h y h2
theorem rep_len (ds : List PyData) : ∀ n : Nat, (List.replicate n ds).flatten.length = n * ds.length
  | 0 => by simp
  | n + 1 => by
    rw [List.replicate_succ, List.flatten_cons, List.length_append, rep_len ds n, Nat.add_mul, Nat.one_mul, Nat.add_comm]
theorem strOk_app (a b : Str) : PyData.strOk (a ++ b) = (PyData.strOk a && PyData.strOk b) := by
  show Array.all (a.cps ++ b.cps) _ = _
  rw [Array.all_append]
  rfl
theorem len_app (a b : Str) : (a ++ b).length = a.length + b.length := by
  show Array.size (a.cps ++ b.cps) = _
  rw [Array.size_append]
  rfl
/-- a text of at most n signs -/
def Txt (n : Nat) (x : Str) : Prop := x.length ≤ n ∧ PyData.strOk x = true
theorem Txt.app {a b : Str} {m n : Nat} (h : Txt m a) (k : Txt n b) : Txt (m + n) (a ++ b) := ⟨by rw [len_app]; exact Nat.add_le_add h.1 k.1, by rw [strOk_app, h.2, k.2]; rfl⟩
theorem Txt.mono {a : Str} {m n : Nat} (h : Txt m a) (l : m ≤ n) : Txt n a := ⟨Nat.le_trans h.1 l, h.2⟩
theorem txt_dig : ∀ k : Nat, k < 32 → Txt 2 (toString (k : Int)) := by
  have : ∀ k : Nat, k < 32 → (toString (k : Int) : Str).length ≤ 2 ∧ PyData.strOk (toString (k : Int)) = true := by decide +kernel
  exact this
theorem log_small {i : Int} (h0 : 0 ≤ i) (h1 : i < 1000) : i.natAbs.log2 < 1920 := by
  have : i.natAbs.log2 ≤ i.natAbs := Nat.log2_le_self _
  omega
theorem char_lt (c : Char) : c.toNat < 0x110000 := by
  have h := c.valid
  unfold UInt32.isValidChar Nat.isValidChar at h
  show c.val.toNat < _
  omega
theorem strOk_of (s : String) : PyData.strOk (Str.ofString s) = true := by
  rw [Str.ofString_eq_toList]
  unfold PyData.strOk
  rw [← Array.all_toList, List.all_eq_true]
  intro x hx
  have hx : x ∈ s.toList.map Char.toNat := hx
  obtain ⟨c, _, rfl⟩ := List.mem_map.mp hx
  exact decide_eq_true (char_lt c)
theorem txt_num {n : Nat} (h : n ≤ 20000) : Txt 10 (toString (n : Int)) := ⟨toString_length_le (by omega) (by decide) (by omega), strOk_of _⟩
theorem log_mid {n : Nat} (h : n ≤ 20000) : ((n : Int)).natAbs.log2 < 1920 := by
  rw [Int.natAbs_natCast]
  have : n.log2 ≤ 14 := by
    by_cases e : n = 0
    · subst e
      decide
    · have := (Nat.log2_lt (k := 15) e).mpr (by omega)
      omega
  omega
/-- a label: a name, where -/
def IsLabs (d : PyData) : Prop := ∃ (y : Str) (k : Int), d = .tuple [.str y, .int k] ∧ Txt 40 y ∧ 0 ≤ k ∧ k ≤ 300
/-! ### parts -/
def IsKind (d : PyData) : Prop := d = .str "code" ∨ d = .str "data"
abbrev rowT : Ty := .rcd [.dat IsKind, .dat IsNat, .its GItem]
def IsSym (d : PyData) : Prop := ∃ (x b : Str) (w : PyData), d = .tuple [.str x, .str b, w] ∧ Txt 40 x
abbrev partF (i j : Nat) : List Ty := [.lst i rowT, .lst j (.dat IsSym)]
/-- what is known stays, the greatest length grows no more than that -/
structure Grw (m : Nat) (g g' : Gh) : Prop where
  le : g.le g'
  kn : g'.kn = g.kn
  ks : g'.ks = g.ks
  ub : g'.ub ≤ g.ub + m
theorem Grw.refl (g : Gh) : Grw 0 g g := ⟨Gh.le_refl g, rfl, rfl, Nat.le_refl _⟩
theorem Grw.trans {m n : Nat} {a b c : Gh} (h : Grw m a b) (k : Grw n b c) : Grw (m + n) a c := ⟨Gh.le_trans h.le k.le, k.kn.trans h.kn, k.ks.trans h.ks, by have := h.ub; have := k.ub; omega⟩
theorem Grw.mono {m n : Nat} {a b : Gh} (h : Grw m a b) (l : m ≤ n) : Grw n a b := ⟨h.le, h.kn, h.ks, by have := h.ub; omega⟩
theorem grw_len {g : Gh} {i n : Nat} (h : g.lb i ≤ n) : Grw 0 g (g.len i n) := ⟨Gh.le_len h, rfl, rfl, Nat.le_refl _⟩
theorem grw_push (g : Gh) (i : Nat) : Grw 1 g (g.push i) := ⟨Gh.le_push g i, rfl, rfl, Nat.le_refl _⟩
theorem grw_grow (g : Gh) (m : Nat) : Grw m g (g.grow m) := ⟨Gh.le_grow g m, rfl, rfl, Nat.le_refl _⟩
theorem lb_len (g : Gh) (i n : Nat) : (g.len i n).lb i = n := by
  show (if i = i then n else g.lb i) = n
  rw [if_pos rfl]
theorem lb_push (g : Gh) (i : Nat) : (g.push i).lb i = g.lb i + 1 := by
  show (if i = i then g.lb i + 1 else g.lb i) = _
  rw [if_pos rfl]
/-- a number from 0 to below n -/
def IsPl (n : Nat) (d : PyData) : Prop := ∃ i : Int, d = .int i ∧ 0 ≤ i ∧ i < n
theorem IsPl.mono {n m : Nat} {d : PyData} (h : IsPl n d) (l : n ≤ m) : IsPl m d := let ⟨i, e, h0, h1⟩ := h; ⟨i, e, h0, by omega⟩
/-- a symbol of a part that is to be -/
def IsSym3 (d : PyData) : Prop := ∃ (x b : Str) (n : Int), d = .tuple [.str x, .str b, .int n] ∧ Txt 40 x
theorem atI_last {ds : List PyData} (h : 0 < ds.length) : ∃ d, d ∈ ds ∧ atI ds (-1) = some d := by
  have e : ixN ds.length (-1) = some (ds.length - 1) := by
    unfold ixN
    split <;> simp_all <;> omega
  refine ⟨ds[ds.length - 1], List.getElem_mem _, ?_⟩
  unfold atI
  rw [e]
  exact List.getElem?_eq_getElem _
theorem atI_zero {d : PyData} {r : List PyData} : atI (d :: r) 0 = some d := atI_nat (j := 0) rfl
theorem isStr_map {ns : List Str} (h : ∀ x, x ∈ ns → NmOk x) : AllD IsStr (ns.map .str) := fun d hd => by
  obtain ⟨x, hx, rfl⟩ := List.mem_map.mp hd
  exact ⟨x, rfl, h x hx⟩
abbrev partsT (p : Nat) : Ty := .lst p (.pr partF)
/-- the dict D grows -/
structure GrwD (m : Nat) (D : Nat) (g g' : Gh) : Prop where
  le : g.le g'
  ub : g'.ub ≤ g.ub + m
theorem Grw.d {m D : Nat} {g g' : Gh} (h : Grw m g g') : GrwD m D g g' := ⟨h.le, h.ub⟩
theorem GrwD.refl (D : Nat) (g : Gh) : GrwD 0 D g g := ⟨Gh.le_refl g, Nat.le_refl _⟩
theorem GrwD.trans {m n D : Nat} {a b c : Gh} (h : GrwD m D a b) (k : GrwD n D b c) : GrwD (m + n) D a c := ⟨Gh.le_trans h.le k.le, by have := h.ub; have := k.ub; omega⟩
theorem GrwD.mono {m n D : Nat} {a b : Gh} (h : GrwD m D a b) (l : m ≤ n) : GrwD n D a b := ⟨h.le, by have := h.ub; omega⟩
theorem grwD_put (g : Gh) (D : Nat) (k : Str) (d : PyData) : GrwD 0 D g (g.dput D k d) := ⟨Gh.le_dput g D k d, Nat.le_refl _⟩
theorem ks_dput (g : Gh) (D : Nat) (k : Str) (d : PyData) : (g.dput D k d).ks D = (k, d) :: g.ks D := by
  show (if D = D then (k, d) :: g.ks D else g.ks D) = _
  rw [if_pos rfl]
theorem kn_dput (g : Gh) (D : Nat) (k : Str) (d : PyData) : (g.dput D k d).kn D = g.kn D + 1 := by
  show (if D = D then g.kn D + 1 else g.kn D) = _
  rw [if_pos rfl]
theorem take_fresh {ds : List Str} {k : Nat} {x : Str} (h : ds.Nodup) (hx : ds[k]? = some x) : ∀ z, z ∈ ds.take k → z ≠ x := fun z hz e => by
  subst e
  obtain ⟨i, hi⟩ := List.mem_iff_getElem?.mp hz
  have h1 : i < k := by
    have := (List.getElem?_eq_some_iff.mp hi).1
    rw [List.length_take] at this
    omega
  have h2 : ds[i]? = some z := by simpa [List.getElem?_take, h1] using hi
  obtain ⟨a1, a2⟩ := List.getElem?_eq_some_iff.mp h2
  obtain ⟨b1, b2⟩ := List.getElem?_eq_some_iff.mp hx
  have := (List.pairwise_iff_getElem.mp h) i k a1 b1 h1
  rw [a2, b2] at this
  exact this rfl
theorem take_more {ds : List Str} {k : Nat} {x z : Str} (hx : ds[k]? = some x) (h : z = x ∨ z ∈ ds.take k) : z ∈ ds.take (k + 1) := by
  rw [List.take_add_one, hx]
  rcases h with rfl | h
  · exact List.mem_append_right _ (by simp)
  · exact List.mem_append_left _ h
theorem strs_of {ds : List PyData} (h : AllD (fun d => ∃ x : Str, d = .str x) ds) : ∃ ns : List Str, ds = ns.map .str := by
  induction ds with
  | nil => exact ⟨[], rfl⟩
  | cons d ds ih =>
    obtain ⟨x, rfl⟩ := h d List.mem_cons_self
    obtain ⟨ns, rfl⟩ := ih fun y hy => h y (List.mem_cons_of_mem _ hy)
    exact ⟨x :: ns, rfl⟩
/-- how long an item is -/
def itemLen : PyData → Int
  | .tuple [.str w, .int n] => if w = "room" then n else 1
  | _ => 1
theorem itemLen_room {n : Int} : itemLen (.tuple [.str "room", .int n]) = n := by
  show (if ("room" : Str) = "room" then n else 1) = n
  rw [if_pos rfl]
theorem itemLen_else {w : Str} {r : List PyData} (h : w ≠ "room") : itemLen (.tuple (.str w :: r)) = 1 := by
  unfold itemLen
  split
  · rename_i e
    cases e
    rw [if_neg h]
  · rfl
theorem map_ints (f : PyData → Int) (ds : List PyData) : ds.map (fun d => PyData.int (f d)) = (ds.map f).map .int := by rw [List.map_map]; rfl
/-- a section, a piece -/
def GSec (d : PyData) : Prop := ∃ (a b c : PyData) (is : List PyData), d = .tuple [a, b, c, .tuple is] ∧ AllD GItem is ∧ is.length ≤ 3000
def GPiece (d : PyData) : Prop := ∃ (a : PyData) (secs syms : List PyData), d = .tuple [a, .tuple secs, .tuple syms] ∧ AllD GSec secs ∧ secs.length ≤ 3000 ∧ AllD IsSym syms ∧ syms.length ≤ 30000
/-- the name that an item names -/
def nameOf : PyData → Option Str
  | .tuple (.str w :: r) => match npart w with
    | some k => match (PyData.str w :: r)[k]? with
      | some (.str x) => some x
      | _ => none
    | none => none
  | _ => none
theorem name_none {w : Str} {r : List PyData} (h : npart w = none) : nameOf (.tuple (.str w :: r)) = none := by
  show (match npart w with
    | some k => match (PyData.str w :: r)[k]? with
      | some (.str x) => some x
      | _ => none
    | none => none) = none
  rw [h]
theorem name_some {w x : Str} {k : Nat} {r : List PyData} (h : npart w = some k) (hx : (PyData.str w :: r)[k]? = some (.str x)) : nameOf (.tuple (.str w :: r)) = some x := by
  show (match npart w with
    | some k => match (PyData.str w :: r)[k]? with
      | some (.str x) => some x
      | _ => none
    | none => none) = some x
  rw [h]
  show (match (PyData.str w :: r)[k]? with
      | some (.str x) => some x
      | _ => none) = some x
  rw [hx]
def rowOf (d : PyData) : Option PyData := (nameOf d).map fun x => .tuple [d, .str x]
def secItems : PyData → List PyData
  | .tuple [_, _, _, .tuple is] => is
  | _ => []
def localOf : PyData → Option Str
  | .tuple [.str x, .str b, _] => if b = "local" then some x else none
  | _ => none
theorem items_len {secs : List PyData} (h : AllD GSec secs) (k : Nat) : ((secs.take k).flatMap secItems).length ≤ 3000 * k := by
  induction k generalizing secs with
  | zero => simp
  | succ k ih =>
    cases secs with
    | nil => simp
    | cons d ds =>
      obtain ⟨a, b, c, is, e, _, hl⟩ := h d List.mem_cons_self
      have := ih (secs := ds) fun y hy => h y (List.mem_cons_of_mem _ hy)
      rw [List.take_succ_cons, List.flatMap_cons, List.length_append, e]
      show is.length + _ ≤ _
      omega
theorem items_all {secs : List PyData} (h : AllD GSec secs) : AllD GItem (secs.flatMap secItems) := fun d hd => by
  obtain ⟨s, h1, h2⟩ := List.mem_flatMap.mp hd
  obtain ⟨a, b, c, is, e, hi, _⟩ := h s h1
  rw [e] at h2
  exact hi d h2
theorem items_step {secs is : List PyData} {k : Nat} {a b c : PyData} (hk : k < secs.length) (e : secs[k] = .tuple [a, b, c, .tuple is]) : (secs.take (k + 1)).flatMap secItems = (secs.take k).flatMap secItems ++ is := by
  rw [List.take_add_one, List.getElem?_eq_getElem hk, List.flatMap_append, e]
  congr 1
  show secItems (.tuple [a, b, c, .tuple is]) ++ [] = is
  rw [List.append_nil]
  rfl
theorem local_eq {x b : Str} {v : PyData} : localOf (.tuple [.str x, .str b, v]) = if b = "local" then some x else none := rfl
def sndOf : PyData → Str
  | .tuple [_, .str x] => x
  | _ => ""
theorem rows_names (l : List PyData) : (l.filterMap rowOf).map sndOf = l.filterMap nameOf := by
  induction l with
  | nil => rfl
  | cons d l ih =>
    cases h : nameOf d with
    | none =>
      have h2 : rowOf d = none := by
        unfold rowOf
        rw [h]
        rfl
      rw [List.filterMap_cons_none h, List.filterMap_cons_none h2, ih]
    | some x =>
      have h2 : rowOf d = some (.tuple [d, .str x]) := by
        unfold rowOf
        rw [h]
        rfl
      rw [List.filterMap_cons_some h, List.filterMap_cons_some h2, List.map_cons, ih]
      rfl
theorem row_shape {l : List PyData} {r : PyData} (h : r ∈ l.filterMap rowOf) : ∃ (d : PyData) (x : Str), r = .tuple [d, .str x] := by
  obtain ⟨d, _, e⟩ := List.mem_filterMap.mp h
  unfold rowOf at e
  cases h : nameOf d with
  | none => rw [h] at e; cases e
  | some x => rw [h] at e; exact ⟨d, x, (Option.some.inj e).symm⟩
theorem name_ok {d : PyData} {x : Str} (hd : GItem d) (h : nameOf d = some x) : NmOk x := by
  obtain ⟨w, r, rfl, hp, _⟩ := hd
  cases e : npart w with
  | none => rw [name_none e] at h; cases h
  | some k =>
    obtain ⟨y, h1, h2⟩ := hp k e
    rw [name_some e h1] at h
    cases h
    exact h2
theorem names_ok {l : List PyData} (hl : AllD GItem l) {x : Str} (h : x ∈ l.filterMap nameOf) : NmOk x := by
  obtain ⟨d, h1, h2⟩ := List.mem_filterMap.mp h
  exact name_ok (hl d h1) h2
theorem few_names {l : List PyData} (hl : AllD GItem l) : ∃ N : List Str, (∀ y, y ∈ l.filterMap nameOf → y ∈ N) ∧ N.length + 1 < scanBound := ⟨NM, fun y hy => (names_ok hl hy).n, by rw [NM_len]; decide⟩
def askedOf (secs syms : List PyData) : List Str := TX.srt ((syms.filterMap localOf).foldl (fun T x => T.erase x) (TX.met ((secs.flatMap secItems).filterMap nameOf)))
def fnd (own acc : List Str) (x : Str) : List Str := if x ∈ own ∨ x ∈ acc then acc else acc ++ [x]
def foundOf (own names : List Str) : List Str := names.foldl (fnd own) []
theorem found_snoc (own names : List Str) (x : Str) : foundOf own (names ++ [x]) = fnd own (foundOf own names) x := by
  unfold foundOf
  rw [List.foldl_append]
  rfl
theorem fnd_spec {own : List Str} : ∀ (names acc : List Str), acc.Nodup → (∀ y, y ∈ acc → y ∉ own) → (names.foldl (fnd own) acc).Nodup ∧ (names.foldl (fnd own) acc).length ≤ acc.length + names.length ∧ ∀ y, y ∈ names.foldl (fnd own) acc ↔ y ∈ acc ∨ (y ∈ names ∧ y ∉ own)
  | [], acc, h, _ => ⟨h, Nat.le_refl _, fun y => ⟨.inl, fun z => z.elim id fun z => absurd z.1 List.not_mem_nil⟩⟩
  | x :: r, acc, h, k => by
    rw [List.foldl_cons]
    by_cases hx : x ∈ own ∨ x ∈ acc
    · have e : fnd own acc x = acc := if_pos hx
      rw [e]
      obtain ⟨a1, a2, a3⟩ := fnd_spec r acc h k
      refine ⟨a1, by rw [List.length_cons]; omega, fun y => ?_⟩
      rw [a3, List.mem_cons]
      constructor
      · rintro (z | ⟨z1, z2⟩)
        · exact .inl z
        · exact .inr ⟨.inr z1, z2⟩
      · rintro (z | ⟨z1 | z1, z2⟩)
        · exact .inl z
        · subst z1
          exact hx.elim (fun q => absurd q z2) .inl
        · exact .inr ⟨z1, z2⟩
    · have e : fnd own acc x = acc ++ [x] := if_neg hx
      rw [e]
      have h1 : x ∉ own := fun z => hx (.inl z)
      have h2 : x ∉ acc := fun z => hx (.inr z)
      obtain ⟨a1, a2, a3⟩ := fnd_spec r (acc ++ [x]) (by
        rw [List.nodup_append]
        refine ⟨h, List.nodup_cons.mpr ⟨List.not_mem_nil, List.nodup_nil⟩, fun u hu v hv e => ?_⟩
        rw [List.mem_singleton.mp hv] at e
        subst e
        exact h2 hu) (fun y hy => by
        rcases List.mem_append.mp hy with z | z
        · exact k y z
        · rw [List.mem_singleton.mp z]
          exact h1)
      refine ⟨a1, by rw [List.length_append, List.length_singleton] at a2; rw [List.length_cons]; omega, fun y => ?_⟩
      rw [a3, List.mem_append, List.mem_singleton, List.mem_cons]
      constructor
      · rintro ((z | rfl) | ⟨z1, z2⟩)
        · exact .inl z
        · exact .inr ⟨.inl rfl, h1⟩
        · exact .inr ⟨.inr z1, z2⟩
      · rintro (z | ⟨z1 | z1, z2⟩)
        · exact .inl (.inl z)
        · exact .inl (.inr z1)
        · exact .inr ⟨z1, z2⟩
theorem found_len (own names : List Str) : (foundOf own names).length ≤ names.length := by
  have := (fnd_spec (own := own) names [] List.nodup_nil fun y hy => absurd hy List.not_mem_nil).2.1
  rw [List.length_nil] at this
  unfold foundOf
  omega
theorem erase_spec : ∀ (own L : List Str), L.Nodup → (own.foldl (fun T x => T.erase x) L).Nodup ∧ ∀ y, y ∈ own.foldl (fun T x => T.erase x) L ↔ y ∈ L ∧ y ∉ own
  | [], L, h => ⟨h, fun y => ⟨fun z => ⟨z, List.not_mem_nil⟩, fun z => z.1⟩⟩
  | x :: r, L, h => by
    rw [List.foldl_cons]
    obtain ⟨a1, a2⟩ := erase_spec r (L.erase x) (h.erase x)
    refine ⟨a1, fun y => ?_⟩
    rw [a2, h.mem_erase_iff, List.mem_cons, not_or]
    constructor
    · rintro ⟨⟨h1, h2⟩, h3⟩
      exact ⟨h2, h1, h3⟩
    · rintro ⟨h2, h1, h3⟩
      exact ⟨⟨h1, h2⟩, h3⟩
theorem found_perm (own names : List Str) : TX.srt (foundOf own names) = TX.srt (own.foldl (fun T x => T.erase x) (TX.met names)) := by
  obtain ⟨a1, _, a2⟩ := fnd_spec (own := own) names [] List.nodup_nil fun y hy => absurd hy List.not_mem_nil
  obtain ⟨b1, b2⟩ := erase_spec own (TX.met names) (TX.nodup_met names)
  refine TX.srt_eq ((List.perm_ext_iff_of_nodup a1 b1).mpr fun y => ?_)
  rw [a2, b2, TX.mem_met]
  exact ⟨fun z => z.elim (fun q => absurd q List.not_mem_nil) id, .inr⟩
/-- texts may be compared -/
theorem shaped_strs {ns : List Str} (h : ∀ x, x ∈ ns → PyData.strOk x = true) : SeqAt.shaped (.list (ns.map .str)) = true := shaped_list (n := 1) (by decide) fun d hd => by
  obtain ⟨x, hx, rfl⟩ := List.mem_map.mp hd
  exact shD_str (h x hx)
theorem any_strs (ns : List Str) (x : Str) : ((ns.map PyData.str).any fun z => PyData.eqv z (.str x)) = decide (x ∈ ns) := by
  induction ns with
  | nil => simp
  | cons y ns ih =>
    rw [List.map_cons, List.any_cons, ih]
    have e : PyData.eqv (.str y) (.str x) = decide (x = y) := by
      by_cases h : x = y
      · subst h
        simp [PyData.eqv]
      · rw [decide_eq_false h]
        simp [PyData.eqv, Ne.symm h]
    rw [e]
    by_cases h : x = y <;> simp [h]
theorem npart_pos {w : Str} {k : Nat} (h : npart w = some k) : 0 < k := by
  unfold npart at h
  split at h
  · cases h
    decide
  · split at h
    · cases h
      decide
    · cases h
abbrev three : List PyData := [.tuple [.str "a", .str "code", .int 1, .tuple []], .tuple [.str "b", .str "data", .int 8, .tuple []], .tuple [.str "c", .str "data", .int 2, .tuple [.tuple [.str "room", .int 0]]]]
theorem three_ok {k : Nat} (h : k < 3) : ∃ (a b c : PyData) (is : List PyData), nth three k = .d (.tuple [a, b, c, .tuple is]) ∧ AllD GItem is ∧ is.length ≤ 100000 ∧ (is.map itemLen).sum = 0 := by
  rcases k with _ | _ | _ | k
  · exact ⟨_, _, _, [], rfl, .nil, by decide, rfl⟩
  · exact ⟨_, _, _, [], rfl, .nil, by decide, rfl⟩
  · exact ⟨_, _, _, [.tuple [.str "room", .int 0]], rfl, .cons gi_room .nil, by decide, by
      show itemLen _ + 0 = 0
      rw [itemLen_room]
      rfl⟩
  · omega
/-- how much longer than the number of its items a section is -/
theorem asked_ok {secs syms : List PyData} (h : AllD GSec secs) : ∀ x, x ∈ askedOf secs syms → PyData.strOk x = true := fun x hx => by
  have h1 := (TX.srt_perm _).mem_iff.mp hx
  have h2 := ((erase_spec _ _ (TX.nodup_met _)).2 x).mp h1
  exact (names_ok (items_all h) (TX.mem_met.mp h2.1)).k
theorem asked_len {secs syms : List PyData} (h : AllD GSec secs) (hl : secs.length ≤ 3000) : (askedOf secs syms).length ≤ 3000 * 3000 := by
  unfold askedOf
  rw [← found_perm, (TX.srt_perm _).length_eq]
  have := items_len h secs.length
  rw [List.take_length] at this
  exact Nat.le_trans (found_len _ _) (Nat.le_trans (List.length_filterMap_le _ _) (Nat.le_trans this (by omega)))
theorem eqv_strs {ns : List Str} (h : ∀ x, x ∈ ns → PyData.strOk x = true) : PyData.eqv (.list (ns.map .str)) (.list (ns.map .str)) = true := by
  have e : ∀ ms : List Str, (∀ x, x ∈ ms → PyData.strOk x = true) → PyData.canLayAll0 (ms.map .str) = true := fun ms => by
    induction ms with
    | nil => intro _; simp [PyData.canLayAll0]
    | cons y ms ih =>
      intro h
      rw [List.map_cons]
      simp [PyData.canLayAll0, PyData.canLay0, h y List.mem_cons_self, ih fun x hx => h x (List.mem_cons_of_mem _ hx)]
  refine PySem.SeqAt.eqv_refl _ ?_
  simpa [PyData.canLay0] using e ns h
/-- a rising table of what part an item's name is -/
def partT : List (Str × Int) := [("place", 2), ("call", 1), ("jump", 1), ("when", 2), ("at", 1)]
theorem part_look (w : Str) : partT.lookup w = (npart w).map Int.ofNat := by
  unfold partT npart
  by_cases h1 : w = "place"
  · subst h1
    decide +kernel
  by_cases h2 : w = "call"
  · subst h2
    decide +kernel
  by_cases h3 : w = "jump"
  · subst h3
    decide +kernel
  by_cases h4 : w = "when"
  · subst h4
    decide +kernel
  by_cases h5 : w = "at"
  · subst h5
    decide +kernel
  rw [if_neg (fun e => e.elim h1 h4), if_neg (fun e => e.elim h2 fun e => e.elim h3 h5)]
  simp only [List.lookup, beq_eq_false_iff_ne.mpr h1, beq_eq_false_iff_ne.mpr h2, beq_eq_false_iff_ne.mpr h3, beq_eq_false_iff_ne.mpr h4, beq_eq_false_iff_ne.mpr h5]
  rfl
def partL : List (Str × Int) := [("place", 2), ("when", 2), ("call", 1), ("jump", 1), ("at", 1)]
theorem part_last (w : Str) : (lookLast partL w none).getD 0 = ((npart w).getD 0 : Nat) := by
  unfold partL npart
  by_cases h1 : w = "place"
  · subst h1
    decide +kernel
  by_cases h2 : w = "call"
  · subst h2
    decide +kernel
  by_cases h3 : w = "jump"
  · subst h3
    decide +kernel
  by_cases h4 : w = "when"
  · subst h4
    decide +kernel
  by_cases h5 : w = "at"
  · subst h5
    decide +kernel
  rw [if_neg (fun e => e.elim h1 h4), if_neg (fun e => e.elim h2 fun e => e.elim h3 h5)]
  simp only [lookLast, if_neg h1, if_neg h2, if_neg h3, if_neg h4, if_neg h5]
  rfl
/-- the names stem c 0, stem c 1, .. -/
def nms (stem c : Str) (n : Nat) : List Str := (List.range n).map fun i => stem ++ c ++ toString ((i : Nat) : Int)
theorem nms_len (stem c : Str) (n : Nat) : (nms stem c n).length = n := by
  unfold nms
  rw [List.length_map, List.length_range]
theorem nms_succ (stem c : Str) (n : Nat) : nms stem c (n + 1) = nms stem c n ++ [stem ++ c ++ toString ((n : Nat) : Int)] := by
  unfold nms
  rw [List.range_succ, List.map_append]
  rfl
theorem nm_1 {s x : Str} (hs : s ∈ stems) (h : x ∈ NM1 s) : x ∈ NM := List.mem_append_left _ (List.mem_flatMap.mpr ⟨s, hs, h⟩)
theorem nm_2 {s x : Str} (hs : s ∈ stems) (h : x ∈ NM2 s) : x ∈ NM := List.mem_append_right _ (List.mem_append_left _ (List.mem_flatMap.mpr ⟨s, hs, h⟩))
theorem nm_3 {n : Nat} {x : Str} (hn : n ≤ 800) (h : x ∈ NM3 n) : x ∈ NM := List.mem_append_right _ (List.mem_append_right _ (List.mem_append_left _ (List.mem_flatMap.mpr ⟨n, List.mem_range.mpr (by omega), h⟩)))
theorem nm_4 {x : Str} (h : x ∈ NM4) : x ∈ NM := List.mem_append_right _ (List.mem_append_right _ (List.mem_append_right _ h))
theorem nms_txt {stem c : Str} {n m : Nat} (h : Txt m (stem ++ c)) (hn : n ≤ 4) (hm : m ≤ 38) (hs : stem ∈ stems) (hc : c ∈ (["f", "d", "m"] : List Str)) : ∀ x, x ∈ nms stem c n → NmOk x := fun x hx => by
  obtain ⟨i, hi, rfl⟩ := List.mem_map.mp hx
  have hi2 := List.mem_range.mp hi
  have t := (h.app (txt_dig i (by omega))).mono (n := 40) (by omega)
  exact ⟨t.1, t.2, nm_1 hs (List.mem_flatMap.mpr ⟨c, hc, List.mem_map.mpr ⟨i, List.mem_range.mpr (by omega), rfl⟩⟩)⟩
theorem com_txt {stem c : Str} {m : Nat} (h : Txt m (stem ++ c)) (hm : m ≤ 40) (hs : stem ∈ stems) (hc : c = "c9" ∨ c = "c10") : NmOk (stem ++ c) := by
  refine ⟨(h.mono hm).1, h.2, nm_2 hs ?_⟩
  rcases hc with rfl | rfl
  · exact List.mem_cons_self
  · exact List.mem_cons_of_mem _ List.mem_cons_self
theorem lab_txt {h k m : Nat} (hh : h ≤ 800) (hk : k < 4) (t : Txt m (lab h k)) (hm : m ≤ 40) : NmOk (lab h k) :=
  ⟨(t.mono hm).1, t.2, nm_3 hh (List.mem_map.mpr ⟨k, List.mem_range.mpr hk, rfl⟩)⟩
theorem few_txt {x : Str} (hx : x ∈ NM4) : NmOk x := by
  have all : ∀ y, y ∈ NM4 → y.length ≤ 40 ∧ PyData.strOk y = true := by decide +kernel
  exact ⟨(all x hx).1, (all x hx).2, nm_4 hx⟩
theorem _root_.PL.NmOk.txt {x : Str} (h : NmOk x) : Txt 40 x := ⟨h.1, h.2⟩
theorem str_cancel {a b c : Str} (h : a ++ b = a ++ c) : b = c := by
  have h2 : (a ++ b).cps.toList = (a ++ c).cps.toList := by rw [h]
  have e : ∀ x y : Str, (x ++ y).cps.toList = x.cps.toList ++ y.cps.toList := fun x y => by
    show (x.cps ++ y.cps).toList = _
    rw [Array.toList_append]
  rw [e, e] at h2
  have h3 := List.append_cancel_left h2
  cases b
  cases c
  congr
  exact Array.toList_inj.mp h3
theorem str_assoc (a b c : Str) : a ++ b ++ c = a ++ (b ++ c) := by
  show Str.mk (a.cps ++ b.cps ++ c.cps) = Str.mk (a.cps ++ (b.cps ++ c.cps))
  rw [Array.append_assoc]
theorem dig_inj : ∀ i, i < 10 → ∀ j, j < 10 → (toString ((i : Nat) : Int) : Str) = toString ((j : Nat) : Int) → i = j := by decide +kernel
theorem nms_nodup {stem c : Str} {n : Nat} (hn : n ≤ 10) : (nms stem c n).Nodup := by
  unfold nms
  unfold List.Nodup
  rw [List.pairwise_map]
  refine List.Pairwise.imp_of_mem (R := fun a b => a < b) (fun {a b} ha hb hab e => ?_) List.pairwise_lt_range
  have := dig_inj a (by have := List.mem_range.mp ha; omega) b (by have := List.mem_range.mp hb; omega) (str_cancel e)
  omega
theorem nms_no {stem : Str} {n : Nat} (hn : n ≤ 10) : ∀ x, x ∈ nms stem "d" n → x ≠ stem ++ "c9" ∧ x ≠ stem ++ "c10" := fun x hx => by
  obtain ⟨i, hi, rfl⟩ := List.mem_map.mp hx
  have hi2 := List.mem_range.mp hi
  have h1 : ∀ i, i < 10 → ("d" : Str) ++ toString ((i : Nat) : Int) ≠ "c9" ∧ ("d" : Str) ++ toString ((i : Nat) : Int) ≠ "c10" := by decide +kernel
  have h2 := h1 i (by omega)
  exact ⟨fun e => h2.1 (str_cancel (by rw [← str_assoc]; exact e)), fun e => h2.2 (str_cancel (by rw [← str_assoc]; exact e))⟩
end LK
set_option maxRecDepth 100000
set_option maxHeartbeats 8000000
set_option autoImplicit false
namespace LK
open PySem L2 PyProof.Rows PL
variable [TBs]
local macro_rules | `(tactic| walk_at "nm") => `(tactic| first
  | (with_reducible assumption)
  | exact few_txt (by decide +kernel))
local macro_rules | `(tactic| walk_at "cm") => `(tactic| (unfold CMul; first
  | (left; decide)
  | (right; decide)
  | (left; refine ⟨?_, ?_⟩ <;> omega)
  | (right; refine ⟨?_, ?_⟩ <;> omega)))
local macro_rules | `(tactic| walk_at "sd") => `(tactic| first
  | exact rfl
  | exact Nat.le_of_ble_eq_true rfl
  | (with_reducible assumption)
  | decide
  | omega
  | (simp only [List.length_cons, List.length_nil, List.length_append, List.length_set, List.length_replicate, List.length_map]; omega)
  | (refine ⟨?_, ?_⟩ <;> (first | decide | omega)))
local macro_rules | `(tactic| walk_at "sz") => `(tactic| first
  | decide
  | (rw [sizeLine_eq]; omega)
  | (rw [sizeLine_eq]; simp only [List.length_cons, List.length_nil, List.length_append, List.length_set, List.length_replicate, List.length_map]; omega)
  | (refine ⟨?_, ?_⟩ <;> (first | decide | omega)))
local macro_rules | `(tactic| walk_at "ai") => `(tactic| repeat' (first
  | (with_reducible assumption)
  | (with_reducible exact AllD.nil)
  | (with_reducible refine AllD.cons ?_ ?_)
  | (with_reducible refine AllD.app ?_ ?_)
  | exact gi_room
  | exact gi_none (by decide +kernel) (by decide +kernel)
  | exact gi_one (by decide +kernel) (by decide +kernel) (by walk_at "nm")
  | exact gi_two (by decide +kernel) (by decide +kernel) (by walk_at "nm")))
local macro_rules | `(tactic| walk_at "st") => `(tactic| first
  | (with_reducible refine L2.iteT ?_)
  | (with_reducible refine L2.iteF ?_)
  | (with_reducible refine sw_if ?_)
  | (with_reducible refine cell_scr ?_)
  | (with_reducible refine cell_lst ?_)
  | (with_reducible refine cell_rcd ?_)
  | (with_reducible refine cell_dic ?_)
  | (with_reducible refine sw_setR ?_)
  | (with_reducible refine sw_next ?_)
  | (with_reducible refine sw_retN ?_)
  | (with_reducible refine sw_ret ?_)
  | (with_reducible refine we_op ?_)
  | (with_reducible refine we_int ?_)
  | (with_reducible refine we_str ?_)
  | (with_reducible refine we_bl ?_)
  | (with_reducible refine we_non ?_)
  | (with_reducible refine wa_nil ?_)
  | (with_reducible refine wa_cons ?_)
  | (with_reducible refine we_tup ?_)
  | (with_reducible refine we_lst ?_)
  | (with_reducible refine we_call ?_)
  | (with_reducible refine we_cb ?_)
  | (with_reducible refine we_if ?_)
  | (with_reducible refine we_neg ?_)
  | (with_reducible refine wt_tst ?_)
  | (with_reducible refine wt_and ?_)
  | (with_reducible refine wt_or ?_)
  | (with_reducible refine wt_not ?_)
  | (with_reducible refine wt_yes ?_)
  | (with_reducible refine r2_plus_int ?_)
  | (with_reducible refine r2_sub ?_)
  | (with_reducible refine r2_lt ?_)
  | (with_reducible refine r2_le ?_)
  | (with_reducible refine r2_gt ?_)
  | (with_reducible refine r2_ge ?_)
  | (with_reducible refine r2_eq_int ?_)
  | (with_reducible refine r2_eq_str ?_)
  | (with_reducible refine r2_ne_int ?_)
  | (with_reducible refine r2_ne_str ?_)
  | (with_reducible refine rc_len_list ?_)
  | (with_reducible refine rc_len_tup ?_)
  | (with_reducible refine rc_len_scr ?_)
  | (with_reducible refine rc_min2 ?_)
  | (with_reducible refine rc_max2 ?_)
  | (with_reducible refine rc_int_bool ?_)
  | (with_reducible refine rc_abs ?_)
  | (with_reducible refine wgs_nil ?_)
  | (with_reducible refine use_number ?_)
  | (with_reducible refine we_andV ?_)
  | (with_reducible refine we_orV ?_)
  | (with_reducible refine we_notV ?_)
  | (with_reducible refine we_dget ?_)
  | (with_reducible refine r2_in_strs ?_)
  | (with_reducible refine r2_nin_strs ?_)
  | (with_reducible refine we_index ?_)
  | ((with_reducible apply wg_name); (· walk_at "sd"))
  | ((with_reducible apply wg_tup); (· exact rfl))
  | ((with_reducible apply we_vd); (· exact rfl))
  | ((with_reducible apply we_vt); (· exact rfl))
  | ((with_reducible apply we_vs); (· exact rfl))
  | ((with_reducible apply r2_ix_rcd); (· exact rfl))
  | ((with_reducible apply r2_ix_tpl); (· exact rfl))
  | ((with_reducible apply r2_ix_list); (· exact rfl))
  | ((with_reducible apply r2_ix_tup); (· exact rfl))
  | ((with_reducible refine sw_asg ?_ ?_); (· walk_at "sd"))
  | ((with_reducible refine use_next ?_ ?_); (· walk_at "sd"))
  | ((with_reducible refine sl_w_str ?_ ?_); (· walk_at "sz"))
  | ((with_reducible refine r2_times_int ?_ ?_); (· walk_at "cm"))
  | ((with_reducible refine r2_mod ?_ ?_); (· walk_at "sd"))
  | ((with_reducible refine r2_fdiv ?_ ?_); (· walk_at "sd"))
  | ((with_reducible refine r2_pow ?_ ?_); (· exact ⟨by decide, by decide, by decide⟩))
  | ((with_reducible refine r2_plus_str ?_ ?_); (· walk_at "sd"))
  | ((with_reducible refine r2_plus_list ?_ ?_); (· walk_at "sd"))
  | ((with_reducible refine r2_plus_tup ?_ ?_); (· walk_at "sd"))
  | ((with_reducible refine rc_str_int ?_ ?_); (· walk_at "sd"))
  | ((with_reducible refine rc_len_str ?_ ?_); (· walk_at "sd"))
  | (with_reducible apply sw_asgG)
  | (with_reducible apply wgs_cons)
  | (with_reducible refine we_slice ?_)
  | (with_reducible refine wo_none ?_)
  | (with_reducible refine wo_some ?_)
  | (with_reducible refine sl_w_list ?_)
  | (with_reducible refine sl_w_tup ?_)
  | (with_reducible refine rc_tuple_list ?_)
  | (with_reducible refine wi_range1 ?_)
  | (with_reducible refine wi_range2 ?_)
  | (with_reducible refine wi_list ?_)
  | (with_reducible refine wi_tup ?_)
  | ((with_reducible apply Exists.intro); (with_reducible apply And.intro); (· exact rfl); (with_reducible apply And.intro); (· walk_at "sz"))
  | ((with_reducible apply Exists.intro); (with_reducible apply Exists.intro); (with_reducible apply And.intro); (· exact rfl); (with_reducible apply And.intro); (· exact rfl); (with_reducible apply Exists.intro); (with_reducible apply Exists.intro); (with_reducible apply And.intro); (· exact rfl); (with_reducible apply And.intro); (· exact rfl); (with_reducible apply And.intro))
  | ((with_reducible apply Exists.intro); (with_reducible apply And.intro); (· exact rfl))
  | fail)
local macro_rules | `(tactic| walk_at "gs") => `(tactic| repeat' (walk_at "st"))
local macro_rules | `(tactic| walk_at "go") => `(tactic| repeat' (first | (with_reducible refine sw_seq ?_) | walk_at "st"))
local macro_rules | `(tactic| walk_at "os") => `(tactic| repeat' (first
  | ((with_reducible apply sw_append); (· exact rfl))
  | ((with_reducible apply sw_ret_own); (· exact rfl))
  | ((with_reducible apply sw_catOwn); (· exact rfl))
  | ((with_reducible apply we_len_own); (· exact rfl))
  | ((with_reducible apply we_nin_own); (· exact rfl))
  | ((with_reducible apply we_ix_own); (· exact rfl))
  | ((with_reducible apply we_ne_own); (· exact rfl); (· with_reducible assumption))
  | ((with_reducible refine sw_own ?_ ?_); (· walk_at "sd"))
  | walk_at "st"))
local macro_rules | `(tactic| walk_at "og") => `(tactic| repeat' (first
  | (with_reducible refine sw_seq ?_)
  | ((with_reducible apply sw_append); (· exact rfl))
  | ((with_reducible apply sw_ret_own); (· exact rfl))
  | ((with_reducible apply sw_catOwn); (· exact rfl))
  | ((with_reducible apply we_len_own); (· exact rfl))
  | ((with_reducible apply we_nin_own); (· exact rfl))
  | ((with_reducible apply we_ix_own); (· exact rfl))
  | ((with_reducible apply we_ne_own); (· exact rfl); (· with_reducible assumption))
  | ((with_reducible refine sw_own ?_ ?_); (· walk_at "sd"))
  | walk_at "st"))

abbrev s_law_fill : Stmt := topS 8
theorem sc_law_fill : FnScope ["_law_cell", "_law_at", "_law_x"] ["_law_cell", "_law_at"] (defScope s_law_fill) := ⟨rfl, rfl, rfl, by decide +kernel, rfl, by decide +kernel, by decide +kernel⟩

def f_law_fill : FS := fun ss g P => ∃ (c a : Int), ss = [.d (.int c), .d (.int a)] ∧ 0 ≤ a ∧ ∀ r : Int, 0 ≤ r → P (.d (.int r)) g
theorem len_law_fill : ∀ ss g P, f_law_fill ss g P → ss.length = ["_law_cell", "_law_at"].length := by
  rintro ss g P ⟨c, a, rfl, _⟩
  rfl

theorem ok_law_fill {P : Program} {w : World} {K : PySem.W.Frag} {mg : Str → Option Value} {base : Heap} (S : Std K mg "_law_fill" s_law_fill ["_law_cell", "_law_at"])  : Cal P w K mg base 1 "_law_fill" ["_law_cell", "_law_at"] f_law_fill := by
  refine cal_of S sc_law_fill (by decide) (len_law_fill) fun a cdv A outer s H vs Q E hr => ?_
  have sc := sc_law_fill
  let nm : List Str := ["_law_cell", "_law_at", "_law_x"]
  let sco := defScope s_law_fill
  refine ⟨_, (pss_cons (ps_if (pt_cmpR op_ge (pv 0) (pe_op op_pow pe_int pe_int) (nomark _))
 (pss_one (ps_ret (pv 0)))
 pss_nil)
 (pss_cons (ps_set (i := 2) sc.nd rfl (Or.inl rfl) (pe_op op_mod (pe_op (r := rPlus K) op_plus (pe_op (r := rPlus K) op_plus (pe_op op_times (pe_op op_mod (pv 0) pe_int) pe_int) (pe_op op_times (pv 1) pe_int)) pe_int) pe_int))
 (pss_cons (ps_set (i := 2) sc.nd rfl (Or.inl rfl) (pe_op op_mod (pe_op (r := rPlus K) op_plus (pe_op (r := rPlus K) op_plus (pe_op op_times (pv 2) (pv 2)) (pe_op op_times pe_int (pv 2))) (pv 1)) pe_int))
 (pss_one (ps_ret (pe_op (r := rPlus K) op_plus (pe_op op_times (pv 2) pe_int) (pe_op op_mod (pe_op (r := rPlus K) op_plus (pe_op op_times (pv 2) (pv 2)) (pe_op op_times pe_int (pv 1))) pe_int))))))), ?_⟩
  clear sc nm sco
  try dsimp only [cxOf, Cx.nox, Cx.wish]

  rintro ss g P ⟨c, a, rfl, ha, q⟩
  show SW K _ _ [.d (.int c), .d (.int a), .un] g
  walk_at "go"
  refine ifd (fun h1 => ?_) fun h1 => ?_
  · walk_at "go"
    have h2 : (1000000000000000000 : Int) ≤ c := h1
    exact q c (by omega)
  · walk_at "go"
    exact q _ (Int.add_nonneg (Int.mul_nonneg (Int.emod_nonneg _ (by decide)) (by decide)) (Int.emod_nonneg _ (by decide)))

end LK
set_option maxRecDepth 100000
set_option maxHeartbeats 8000000
set_option autoImplicit false
namespace LK
open PySem L2 PyProof.Rows PL
variable [TBs]
local macro_rules | `(tactic| walk_at "nm") => `(tactic| first
  | (with_reducible assumption)
  | exact few_txt (by decide +kernel))
local macro_rules | `(tactic| walk_at "cm") => `(tactic| (unfold CMul; first
  | (left; decide)
  | (right; decide)
  | (left; refine ⟨?_, ?_⟩ <;> omega)
  | (right; refine ⟨?_, ?_⟩ <;> omega)))
local macro_rules | `(tactic| walk_at "sd") => `(tactic| first
  | exact rfl
  | exact Nat.le_of_ble_eq_true rfl
  | (with_reducible assumption)
  | decide
  | omega
  | (simp only [List.length_cons, List.length_nil, List.length_append, List.length_set, List.length_replicate, List.length_map]; omega)
  | (refine ⟨?_, ?_⟩ <;> (first | decide | omega)))
local macro_rules | `(tactic| walk_at "sz") => `(tactic| first
  | decide
  | (rw [sizeLine_eq]; omega)
  | (rw [sizeLine_eq]; simp only [List.length_cons, List.length_nil, List.length_append, List.length_set, List.length_replicate, List.length_map]; omega)
  | (refine ⟨?_, ?_⟩ <;> (first | decide | omega)))
local macro_rules | `(tactic| walk_at "ai") => `(tactic| repeat' (first
  | (with_reducible assumption)
  | (with_reducible exact AllD.nil)
  | (with_reducible refine AllD.cons ?_ ?_)
  | (with_reducible refine AllD.app ?_ ?_)
  | exact gi_room
  | exact gi_none (by decide +kernel) (by decide +kernel)
  | exact gi_one (by decide +kernel) (by decide +kernel) (by walk_at "nm")
  | exact gi_two (by decide +kernel) (by decide +kernel) (by walk_at "nm")))
local macro_rules | `(tactic| walk_at "st") => `(tactic| first
  | (with_reducible refine L2.iteT ?_)
  | (with_reducible refine L2.iteF ?_)
  | (with_reducible refine sw_if ?_)
  | (with_reducible refine cell_scr ?_)
  | (with_reducible refine cell_lst ?_)
  | (with_reducible refine cell_rcd ?_)
  | (with_reducible refine cell_dic ?_)
  | (with_reducible refine sw_setR ?_)
  | (with_reducible refine sw_next ?_)
  | (with_reducible refine sw_retN ?_)
  | (with_reducible refine sw_ret ?_)
  | (with_reducible refine we_op ?_)
  | (with_reducible refine we_int ?_)
  | (with_reducible refine we_str ?_)
  | (with_reducible refine we_bl ?_)
  | (with_reducible refine we_non ?_)
  | (with_reducible refine wa_nil ?_)
  | (with_reducible refine wa_cons ?_)
  | (with_reducible refine we_tup ?_)
  | (with_reducible refine we_lst ?_)
  | (with_reducible refine we_call ?_)
  | (with_reducible refine we_cb ?_)
  | (with_reducible refine we_if ?_)
  | (with_reducible refine we_neg ?_)
  | (with_reducible refine wt_tst ?_)
  | (with_reducible refine wt_and ?_)
  | (with_reducible refine wt_or ?_)
  | (with_reducible refine wt_not ?_)
  | (with_reducible refine wt_yes ?_)
  | (with_reducible refine r2_plus_int ?_)
  | (with_reducible refine r2_sub ?_)
  | (with_reducible refine r2_lt ?_)
  | (with_reducible refine r2_le ?_)
  | (with_reducible refine r2_gt ?_)
  | (with_reducible refine r2_ge ?_)
  | (with_reducible refine r2_eq_int ?_)
  | (with_reducible refine r2_eq_str ?_)
  | (with_reducible refine r2_ne_int ?_)
  | (with_reducible refine r2_ne_str ?_)
  | (with_reducible refine rc_len_list ?_)
  | (with_reducible refine rc_len_tup ?_)
  | (with_reducible refine rc_len_scr ?_)
  | (with_reducible refine rc_min2 ?_)
  | (with_reducible refine rc_max2 ?_)
  | (with_reducible refine rc_int_bool ?_)
  | (with_reducible refine rc_abs ?_)
  | (with_reducible refine wgs_nil ?_)
  | (with_reducible refine use_number ?_)
  | (with_reducible refine we_andV ?_)
  | (with_reducible refine we_orV ?_)
  | (with_reducible refine we_notV ?_)
  | (with_reducible refine we_dget ?_)
  | (with_reducible refine r2_in_strs ?_)
  | (with_reducible refine r2_nin_strs ?_)
  | (with_reducible refine we_index ?_)
  | ((with_reducible apply wg_name); (· walk_at "sd"))
  | ((with_reducible apply wg_tup); (· exact rfl))
  | ((with_reducible apply we_vd); (· exact rfl))
  | ((with_reducible apply we_vt); (· exact rfl))
  | ((with_reducible apply we_vs); (· exact rfl))
  | ((with_reducible apply r2_ix_rcd); (· exact rfl))
  | ((with_reducible apply r2_ix_tpl); (· exact rfl))
  | ((with_reducible apply r2_ix_list); (· exact rfl))
  | ((with_reducible apply r2_ix_tup); (· exact rfl))
  | ((with_reducible refine sw_asg ?_ ?_); (· walk_at "sd"))
  | ((with_reducible refine use_next ?_ ?_); (· walk_at "sd"))
  | ((with_reducible refine sl_w_str ?_ ?_); (· walk_at "sz"))
  | ((with_reducible refine r2_times_int ?_ ?_); (· walk_at "cm"))
  | ((with_reducible refine r2_mod ?_ ?_); (· walk_at "sd"))
  | ((with_reducible refine r2_fdiv ?_ ?_); (· walk_at "sd"))
  | ((with_reducible refine r2_pow ?_ ?_); (· exact ⟨by decide, by decide, by decide⟩))
  | ((with_reducible refine r2_plus_str ?_ ?_); (· walk_at "sd"))
  | ((with_reducible refine r2_plus_list ?_ ?_); (· walk_at "sd"))
  | ((with_reducible refine r2_plus_tup ?_ ?_); (· walk_at "sd"))
  | ((with_reducible refine rc_str_int ?_ ?_); (· walk_at "sd"))
  | ((with_reducible refine rc_len_str ?_ ?_); (· walk_at "sd"))
  | (with_reducible apply sw_asgG)
  | (with_reducible apply wgs_cons)
  | (with_reducible refine we_slice ?_)
  | (with_reducible refine wo_none ?_)
  | (with_reducible refine wo_some ?_)
  | (with_reducible refine sl_w_list ?_)
  | (with_reducible refine sl_w_tup ?_)
  | (with_reducible refine rc_tuple_list ?_)
  | (with_reducible refine wi_range1 ?_)
  | (with_reducible refine wi_range2 ?_)
  | (with_reducible refine wi_list ?_)
  | (with_reducible refine wi_tup ?_)
  | ((with_reducible apply Exists.intro); (with_reducible apply And.intro); (· exact rfl); (with_reducible apply And.intro); (· walk_at "sz"))
  | ((with_reducible apply Exists.intro); (with_reducible apply Exists.intro); (with_reducible apply And.intro); (· exact rfl); (with_reducible apply And.intro); (· exact rfl); (with_reducible apply Exists.intro); (with_reducible apply Exists.intro); (with_reducible apply And.intro); (· exact rfl); (with_reducible apply And.intro); (· exact rfl); (with_reducible apply And.intro))
  | ((with_reducible apply Exists.intro); (with_reducible apply And.intro); (· exact rfl))
  | fail)
local macro_rules | `(tactic| walk_at "gs") => `(tactic| repeat' (walk_at "st"))
local macro_rules | `(tactic| walk_at "go") => `(tactic| repeat' (first | (with_reducible refine sw_seq ?_) | walk_at "st"))
local macro_rules | `(tactic| walk_at "os") => `(tactic| repeat' (first
  | ((with_reducible apply sw_append); (· exact rfl))
  | ((with_reducible apply sw_ret_own); (· exact rfl))
  | ((with_reducible apply sw_catOwn); (· exact rfl))
  | ((with_reducible apply we_len_own); (· exact rfl))
  | ((with_reducible apply we_nin_own); (· exact rfl))
  | ((with_reducible apply we_ix_own); (· exact rfl))
  | ((with_reducible apply we_ne_own); (· exact rfl); (· with_reducible assumption))
  | ((with_reducible refine sw_own ?_ ?_); (· walk_at "sd"))
  | walk_at "st"))
local macro_rules | `(tactic| walk_at "og") => `(tactic| repeat' (first
  | (with_reducible refine sw_seq ?_)
  | ((with_reducible apply sw_append); (· exact rfl))
  | ((with_reducible apply sw_ret_own); (· exact rfl))
  | ((with_reducible apply sw_catOwn); (· exact rfl))
  | ((with_reducible apply we_len_own); (· exact rfl))
  | ((with_reducible apply we_nin_own); (· exact rfl))
  | ((with_reducible apply we_ix_own); (· exact rfl))
  | ((with_reducible apply we_ne_own); (· exact rfl); (· with_reducible assumption))
  | ((with_reducible refine sw_own ?_ ?_); (· walk_at "sd"))
  | walk_at "st"))

abbrev s_law_next : Stmt := topS 9
theorem sc_law_next : FnScope ["_law_pen", "_law_many", "_law_at", "_law_cell", "_law_found"] ["_law_pen", "_law_many"] (defScope s_law_next) := ⟨rfl, rfl, rfl, by decide +kernel, rfl, by decide +kernel, by decide +kernel⟩

def f_law_next : FS := fun ss g P => ∃ (ns : List Int) (m : Int), ss = [.t (penT ns), .d (.int m)] ∧ (0 < m ∧ m < 1073741824) ∧ ∀ r : Int, 0 ≤ r → r < m → P (.d (.int r)) g
theorem use_next {ns : List Int} {m : Int} {g : Gh} {P : Sl → Gh → Prop} (h : 0 < m ∧ m < 1073741824) (q : ∀ r : Int, 0 ≤ r → r < m → P (.d (.int r)) g) : f_law_next [.t (penT ns), .d (.int m)] g P := ⟨ns, m, rfl, h, q⟩
theorem len_law_next : ∀ ss g P, f_law_next ss g P → ss.length = ["_law_pen", "_law_many"].length := by
  rintro ss g P ⟨c, a, rfl, _⟩
  rfl

theorem ok_law_next {P : Program} {w : World} {K : PySem.W.Frag} {mg : Str → Option Value} {base : Heap} (S : Std K mg "_law_next" s_law_next ["_law_pen", "_law_many"]) (C_law_fill : Cal P w K mg base 1 "_law_fill" ["_law_cell", "_law_at"] f_law_fill) (z_len : mg "len" = none) : Cal P w K mg base 2 "_law_next" ["_law_pen", "_law_many"] f_law_next := by
  obtain ⟨a_law_fill, fd_law_fill, G_law_fill, g_law_fill, k_law_fill, b_law_fill⟩ := C_law_fill
  refine cal_of S sc_law_next (by decide) (len_law_next) fun a cdv A outer s H vs Q E hr => ?_
  have sc := sc_law_next
  let nm : List Str := ["_law_pen", "_law_many", "_law_at", "_law_cell", "_law_found"]
  let sco := defScope s_law_next
  refine ⟨_, (pss_cons (ps_if (pt_cmpR op_lt (pe_ix (r := rIx K) ix_seq (pv 0) pe_int (fun _ _ => rfl)) (pv 1) (nomark _))
 (pss_cons (ps_set (i := 2) sc.nd rfl (Or.inl rfl) (pe_ix (r := rIx K) ix_seq (pv 0) pe_int (fun _ _ => rfl)))
 (pss_cons (ps_set (i := 3) sc.nd rfl (Or.inl rfl) pe_int)
 (pss_cons (ps_if (pt_cmpR op_lt (pv 2) (pe_callB (r := rLenK K) call_len (by rfl) z_len (by decide +kernel) (pa_cons (pe_ix (r := rIx K) ix_seq (pv 0) pe_int (fun _ _ => rfl)) pa_nil)) (nomark _))
 (pss_one (ps_set (i := 3) sc.nd rfl (Or.inl rfl) (pe_ix (r := rIx K) ix_seq (pe_ix (r := rIx K) ix_seq (pv 0) pe_int (fun _ _ => rfl)) (pv 2) (fun _ _ => rfl))))
 (pss_one (ps_if (pt_cmpR op_gt (pe_callB (r := rLenK K) call_len (by rfl) z_len (by decide +kernel) (pa_cons (pe_ix (r := rIx K) ix_seq (pv 0) pe_int (fun _ _ => rfl)) pa_nil)) pe_int (nomark _))
 (pss_one (ps_set (i := 3) sc.nd rfl (Or.inl rfl) (pe_op (r := rPlus K) op_plus (pe_op op_mod (pe_ix (r := rIx K) ix_seq (pe_ix (r := rIx K) ix_seq (pv 0) pe_int (fun _ _ => rfl)) (pe_op op_mod (pe_op op_times (pv 2) pe_int) (pe_callB (r := rLenK K) call_len (by rfl) z_len (by decide +kernel) (pa_cons (pe_ix (r := rIx K) ix_seq (pv 0) pe_int (fun _ _ => rfl)) pa_nil))) (fun _ _ => rfl)) pe_int) (pe_op op_times (pv 2) pe_int))))
 pss_nil)))
 (pss_cons (ps_asg (pe_op (r := rPlus K) op_plus (pv 2) pe_int) (pg_sub (pv 0) pe_int set_list))
 (pss_one (ps_asg (pe_call G_law_fill (hr.mono (by decide)) (by rfl) g_law_fill k_law_fill b_law_fill .nil pass0 (pa_cons (pv 3) (pa_cons (pv 2) pa_nil))) (pg_sub (pv 0) pe_int set_list)))))))
 pss_nil)
 (pss_cons (ps_set (i := 4) sc.nd rfl (Or.inl rfl) (pe_op op_mod (pe_ix (r := rIx K) ix_seq (pv 0) pe_int (fun _ _ => rfl)) (pv 1)))
 (pss_cons (ps_asg (pe_op op_fdiv (pe_ix (r := rIx K) ix_seq (pv 0) pe_int (fun _ _ => rfl)) (pv 1)) (pg_sub (pv 0) pe_int set_list))
 (pss_one (ps_ret (pv 4)))))), ?_⟩
  clear sc nm sco
  try dsimp only [cxOf, Cx.nox, Cx.wish]

  rintro ss g P ⟨ns, m, rfl, ⟨hm0, hm1⟩, q⟩
  show SW K _ _ [.t (penT ns), .d (.int m), .un, .un, .un] g
  refine sw_cut (fun ρ g' => g = g' ∧ ∃ s2 s3, ρ = [.t (penT ns), .d (.int m), s2, s3, .un]) ?_ ?_
  · walk_at "gs"
    rintro _ ⟨n0, rfl, hn0⟩
    walk_at "gs"
    refine ifd (fun h1 => ?_) fun h1 => ?_
    · refine sw_seq ?_
      walk_at "gs"
      rintro _ ⟨n1, rfl, hn1⟩
      walk_at "gs"
      refine sw_seq ?_
      walk_at "gs"
      refine sw_cut (fun ρ g' => g = g' ∧ ∃ c : Int, ρ = [.t (penT ns), .d (.int m), .d (.int n1), .d (.int c), .un]) ?_ ?_
      · walk_at "gs"
        refine ifd (fun h2 => ?_) fun h2 => ?_
        · walk_at "gs"
          refine r2_ix_scrI hn1 h2 fun n => ?_
          walk_at "gs"
          exact ⟨rfl, _, rfl⟩
        · walk_at "gs"
          refine ifd (fun h3 => ?_) fun h3 => ?_
          · walk_at "gs"
            refine r2_ix_scrI (Int.emod_nonneg _ (by omega)) (Int.emod_lt_of_pos _ h3) fun n => ?_
            walk_at "gs"
            exact ⟨rfl, _, rfl⟩
          · walk_at "gs"
            exact ⟨rfl, _, rfl⟩
      · rintro _ _ ⟨rfl, c, rfl⟩
        walk_at "go"
        · exact ⟨_, rfl, by omega⟩
        walk_at "go"
        refine ⟨_, _, rfl, hn1, fun r hr0 => ?_⟩
        walk_at "go"
        · exact ⟨_, rfl, hr0⟩
        exact ⟨rfl, _, _, rfl⟩
    · walk_at "gs"
      exact ⟨rfl, _, _, rfl⟩
  · rintro _ _ ⟨rfl, s2, s3, rfl⟩
    walk_at "go"
    rintro _ ⟨n0, rfl, hn0⟩
    walk_at "go"
    rintro _ ⟨n2, rfl, hn2⟩
    walk_at "go"
    · exact ⟨_, rfl, Int.ediv_nonneg hn2 (by omega)⟩
    walk_at "go"
    exact q _ (Int.emod_nonneg _ (by omega)) (Int.emod_lt_of_pos _ hm0)

end LK
set_option maxRecDepth 100000
set_option maxHeartbeats 8000000
set_option autoImplicit false
namespace LK
open PySem L2 PyProof.Rows PL
variable [TBs]
local macro_rules | `(tactic| walk_at "nm") => `(tactic| first
  | (with_reducible assumption)
  | exact few_txt (by decide +kernel))
local macro_rules | `(tactic| walk_at "cm") => `(tactic| (unfold CMul; first
  | (left; decide)
  | (right; decide)
  | (left; refine ⟨?_, ?_⟩ <;> omega)
  | (right; refine ⟨?_, ?_⟩ <;> omega)))
local macro_rules | `(tactic| walk_at "sd") => `(tactic| first
  | exact rfl
  | exact Nat.le_of_ble_eq_true rfl
  | (with_reducible assumption)
  | decide
  | omega
  | (simp only [List.length_cons, List.length_nil, List.length_append, List.length_set, List.length_replicate, List.length_map]; omega)
  | (refine ⟨?_, ?_⟩ <;> (first | decide | omega)))
local macro_rules | `(tactic| walk_at "sz") => `(tactic| first
  | decide
  | (rw [sizeLine_eq]; omega)
  | (rw [sizeLine_eq]; simp only [List.length_cons, List.length_nil, List.length_append, List.length_set, List.length_replicate, List.length_map]; omega)
  | (refine ⟨?_, ?_⟩ <;> (first | decide | omega)))
local macro_rules | `(tactic| walk_at "ai") => `(tactic| repeat' (first
  | (with_reducible assumption)
  | (with_reducible exact AllD.nil)
  | (with_reducible refine AllD.cons ?_ ?_)
  | (with_reducible refine AllD.app ?_ ?_)
  | exact gi_room
  | exact gi_none (by decide +kernel) (by decide +kernel)
  | exact gi_one (by decide +kernel) (by decide +kernel) (by walk_at "nm")
  | exact gi_two (by decide +kernel) (by decide +kernel) (by walk_at "nm")))
local macro_rules | `(tactic| walk_at "st") => `(tactic| first
  | (with_reducible refine L2.iteT ?_)
  | (with_reducible refine L2.iteF ?_)
  | (with_reducible refine sw_if ?_)
  | (with_reducible refine cell_scr ?_)
  | (with_reducible refine cell_lst ?_)
  | (with_reducible refine cell_rcd ?_)
  | (with_reducible refine cell_dic ?_)
  | (with_reducible refine sw_setR ?_)
  | (with_reducible refine sw_next ?_)
  | (with_reducible refine sw_retN ?_)
  | (with_reducible refine sw_ret ?_)
  | (with_reducible refine we_op ?_)
  | (with_reducible refine we_int ?_)
  | (with_reducible refine we_str ?_)
  | (with_reducible refine we_bl ?_)
  | (with_reducible refine we_non ?_)
  | (with_reducible refine wa_nil ?_)
  | (with_reducible refine wa_cons ?_)
  | (with_reducible refine we_tup ?_)
  | (with_reducible refine we_lst ?_)
  | (with_reducible refine we_call ?_)
  | (with_reducible refine we_cb ?_)
  | (with_reducible refine we_if ?_)
  | (with_reducible refine we_neg ?_)
  | (with_reducible refine wt_tst ?_)
  | (with_reducible refine wt_and ?_)
  | (with_reducible refine wt_or ?_)
  | (with_reducible refine wt_not ?_)
  | (with_reducible refine wt_yes ?_)
  | (with_reducible refine r2_plus_int ?_)
  | (with_reducible refine r2_sub ?_)
  | (with_reducible refine r2_lt ?_)
  | (with_reducible refine r2_le ?_)
  | (with_reducible refine r2_gt ?_)
  | (with_reducible refine r2_ge ?_)
  | (with_reducible refine r2_eq_int ?_)
  | (with_reducible refine r2_eq_str ?_)
  | (with_reducible refine r2_ne_int ?_)
  | (with_reducible refine r2_ne_str ?_)
  | (with_reducible refine rc_len_list ?_)
  | (with_reducible refine rc_len_tup ?_)
  | (with_reducible refine rc_len_scr ?_)
  | (with_reducible refine rc_min2 ?_)
  | (with_reducible refine rc_max2 ?_)
  | (with_reducible refine rc_int_bool ?_)
  | (with_reducible refine rc_abs ?_)
  | (with_reducible refine wgs_nil ?_)
  | (with_reducible refine use_number ?_)
  | (with_reducible refine we_andV ?_)
  | (with_reducible refine we_orV ?_)
  | (with_reducible refine we_notV ?_)
  | (with_reducible refine we_dget ?_)
  | (with_reducible refine r2_in_strs ?_)
  | (with_reducible refine r2_nin_strs ?_)
  | (with_reducible refine we_index ?_)
  | ((with_reducible apply wg_name); (· walk_at "sd"))
  | ((with_reducible apply wg_tup); (· exact rfl))
  | ((with_reducible apply we_vd); (· exact rfl))
  | ((with_reducible apply we_vt); (· exact rfl))
  | ((with_reducible apply we_vs); (· exact rfl))
  | ((with_reducible apply r2_ix_rcd); (· exact rfl))
  | ((with_reducible apply r2_ix_tpl); (· exact rfl))
  | ((with_reducible apply r2_ix_list); (· exact rfl))
  | ((with_reducible apply r2_ix_tup); (· exact rfl))
  | ((with_reducible refine sw_asg ?_ ?_); (· walk_at "sd"))
  | ((with_reducible refine use_next ?_ ?_); (· walk_at "sd"))
  | ((with_reducible refine sl_w_str ?_ ?_); (· walk_at "sz"))
  | ((with_reducible refine r2_times_int ?_ ?_); (· walk_at "cm"))
  | ((with_reducible refine r2_mod ?_ ?_); (· walk_at "sd"))
  | ((with_reducible refine r2_fdiv ?_ ?_); (· walk_at "sd"))
  | ((with_reducible refine r2_pow ?_ ?_); (· exact ⟨by decide, by decide, by decide⟩))
  | ((with_reducible refine r2_plus_str ?_ ?_); (· walk_at "sd"))
  | ((with_reducible refine r2_plus_list ?_ ?_); (· walk_at "sd"))
  | ((with_reducible refine r2_plus_tup ?_ ?_); (· walk_at "sd"))
  | ((with_reducible refine rc_str_int ?_ ?_); (· walk_at "sd"))
  | ((with_reducible refine rc_len_str ?_ ?_); (· walk_at "sd"))
  | (with_reducible apply sw_asgG)
  | (with_reducible apply wgs_cons)
  | (with_reducible refine we_slice ?_)
  | (with_reducible refine wo_none ?_)
  | (with_reducible refine wo_some ?_)
  | (with_reducible refine sl_w_list ?_)
  | (with_reducible refine sl_w_tup ?_)
  | (with_reducible refine rc_tuple_list ?_)
  | (with_reducible refine wi_range1 ?_)
  | (with_reducible refine wi_range2 ?_)
  | (with_reducible refine wi_list ?_)
  | (with_reducible refine wi_tup ?_)
  | ((with_reducible apply Exists.intro); (with_reducible apply And.intro); (· exact rfl); (with_reducible apply And.intro); (· walk_at "sz"))
  | ((with_reducible apply Exists.intro); (with_reducible apply Exists.intro); (with_reducible apply And.intro); (· exact rfl); (with_reducible apply And.intro); (· exact rfl); (with_reducible apply Exists.intro); (with_reducible apply Exists.intro); (with_reducible apply And.intro); (· exact rfl); (with_reducible apply And.intro); (· exact rfl); (with_reducible apply And.intro))
  | ((with_reducible apply Exists.intro); (with_reducible apply And.intro); (· exact rfl))
  | fail)
local macro_rules | `(tactic| walk_at "gs") => `(tactic| repeat' (walk_at "st"))
local macro_rules | `(tactic| walk_at "go") => `(tactic| repeat' (first | (with_reducible refine sw_seq ?_) | walk_at "st"))
local macro_rules | `(tactic| walk_at "os") => `(tactic| repeat' (first
  | ((with_reducible apply sw_append); (· exact rfl))
  | ((with_reducible apply sw_ret_own); (· exact rfl))
  | ((with_reducible apply sw_catOwn); (· exact rfl))
  | ((with_reducible apply we_len_own); (· exact rfl))
  | ((with_reducible apply we_nin_own); (· exact rfl))
  | ((with_reducible apply we_ix_own); (· exact rfl))
  | ((with_reducible apply we_ne_own); (· exact rfl); (· with_reducible assumption))
  | ((with_reducible refine sw_own ?_ ?_); (· walk_at "sd"))
  | walk_at "st"))
local macro_rules | `(tactic| walk_at "og") => `(tactic| repeat' (first
  | (with_reducible refine sw_seq ?_)
  | ((with_reducible apply sw_append); (· exact rfl))
  | ((with_reducible apply sw_ret_own); (· exact rfl))
  | ((with_reducible apply sw_catOwn); (· exact rfl))
  | ((with_reducible apply we_len_own); (· exact rfl))
  | ((with_reducible apply we_nin_own); (· exact rfl))
  | ((with_reducible apply we_ix_own); (· exact rfl))
  | ((with_reducible apply we_ne_own); (· exact rfl); (· with_reducible assumption))
  | ((with_reducible refine sw_own ?_ ?_); (· walk_at "sd"))
  | walk_at "st"))

abbrev s_law_number : Stmt := topS 10
theorem sc_law_number : FnScope ["_law_pen", "_law_most"] ["_law_pen"] (defScope s_law_number) := ⟨rfl, rfl, rfl, by decide +kernel, rfl, by decide +kernel, by decide +kernel⟩

def f_law_number : FS := fun ss g P => ∃ (ns : List Int), ss = [.t (penT ns)] ∧ ∀ r : Int, P (.d (.int r)) g
theorem use_number {ns : List Int} {g : Gh} {P : Sl → Gh → Prop} (q : ∀ r : Int, P (.d (.int r)) g) : f_law_number [.t (penT ns)] g P := ⟨ns, rfl, q⟩
theorem len_law_number : ∀ ss g P, f_law_number ss g P → ss.length = ["_law_pen"].length := by
  rintro ss g P ⟨c, rfl, _⟩
  rfl

theorem ok_law_number {P : Program} {w : World} {K : PySem.W.Frag} {mg : Str → Option Value} {base : Heap} (S : Std K mg "_law_number" s_law_number ["_law_pen"]) (C_law_next : Cal P w K mg base 2 "_law_next" ["_law_pen", "_law_many"] f_law_next) : Cal P w K mg base 3 "_law_number" ["_law_pen"] f_law_number := by
  obtain ⟨a_law_next, fd_law_next, G_law_next, g_law_next, k_law_next, b_law_next⟩ := C_law_next
  refine cal_of S sc_law_number (by decide) (len_law_number) fun a cdv A outer s H vs Q E hr => ?_
  have sc := sc_law_number
  let nm : List Str := ["_law_pen", "_law_most"]
  let sco := defScope s_law_number
  refine ⟨_, (pss_cons (ps_set (i := 1) sc.nd rfl (Or.inl rfl) (pe_ix (r := rIx K) ix_seq (pe_lst (pa_cons pe_int (pa_cons pe_int (pa_cons (pe_op op_pow pe_int pe_int) pa_nil)))) (pe_call G_law_next (hr.mono (by decide)) (by rfl) g_law_next k_law_next b_law_next .nil pass0 (pa_cons (pv 0) (pa_cons pe_int pa_nil))) (fun _ _ => rfl)))
 (pss_one (ps_ret (pe_op op_times (pe_call G_law_next (hr.mono (by decide)) (by rfl) g_law_next k_law_next b_law_next .nil pass0 (pa_cons (pv 0) (pa_cons (pe_op (r := rPlus K) op_plus (pv 1) pe_int) pa_nil))) (pe_op op_sub pe_int (pe_op op_times pe_int (pe_call G_law_next (hr.mono (by decide)) (by rfl) g_law_next k_law_next b_law_next .nil pass0 (pa_cons (pv 0) (pa_cons pe_int pa_nil))))))))), ?_⟩
  clear sc nm sco
  try dsimp only [cxOf, Cx.nox, Cx.wish]

  rintro ss g P ⟨ns, rfl, q⟩
  show SW K _ _ [.t (penT ns), .un] g
  walk_at "go"
  intro r h0 h1
  refine r2_ix_mem h0 h1 fun d hd => ?_
  obtain ⟨n, rfl, n0, n1⟩ : ∃ n : Int, d = .int n ∧ 0 < n ∧ n ≤ 1000000000 := by
    simp only [List.mem_cons, List.not_mem_nil, or_false] at hd
    rcases hd with rfl | rfl | rfl <;> exact ⟨_, rfl, by decide, by decide⟩
  walk_at "go"
  intro r2 a0 a1
  walk_at "go"
  intro r3 b0 b1
  walk_at "go"
  exact q _

end LK
set_option maxRecDepth 100000
set_option maxHeartbeats 8000000
set_option autoImplicit false
namespace LK
open PySem L2 PyProof.Rows PL
variable [TBs]
local macro_rules | `(tactic| walk_at "nm") => `(tactic| first
  | (with_reducible assumption)
  | exact few_txt (by decide +kernel))
local macro_rules | `(tactic| walk_at "cm") => `(tactic| (unfold CMul; first
  | (left; decide)
  | (right; decide)
  | (left; refine ⟨?_, ?_⟩ <;> omega)
  | (right; refine ⟨?_, ?_⟩ <;> omega)))
local macro_rules | `(tactic| walk_at "sd") => `(tactic| first
  | exact rfl
  | exact Nat.le_of_ble_eq_true rfl
  | (with_reducible assumption)
  | decide
  | omega
  | (simp only [List.length_cons, List.length_nil, List.length_append, List.length_set, List.length_replicate, List.length_map]; omega)
  | (refine ⟨?_, ?_⟩ <;> (first | decide | omega)))
local macro_rules | `(tactic| walk_at "sz") => `(tactic| first
  | decide
  | (rw [sizeLine_eq]; omega)
  | (rw [sizeLine_eq]; simp only [List.length_cons, List.length_nil, List.length_append, List.length_set, List.length_replicate, List.length_map]; omega)
  | (refine ⟨?_, ?_⟩ <;> (first | decide | omega)))
local macro_rules | `(tactic| walk_at "ai") => `(tactic| repeat' (first
  | (with_reducible assumption)
  | (with_reducible exact AllD.nil)
  | (with_reducible refine AllD.cons ?_ ?_)
  | (with_reducible refine AllD.app ?_ ?_)
  | exact gi_room
  | exact gi_none (by decide +kernel) (by decide +kernel)
  | exact gi_one (by decide +kernel) (by decide +kernel) (by walk_at "nm")
  | exact gi_two (by decide +kernel) (by decide +kernel) (by walk_at "nm")))
local macro_rules | `(tactic| walk_at "st") => `(tactic| first
  | (with_reducible refine L2.iteT ?_)
  | (with_reducible refine L2.iteF ?_)
  | (with_reducible refine sw_if ?_)
  | (with_reducible refine cell_scr ?_)
  | (with_reducible refine cell_lst ?_)
  | (with_reducible refine cell_rcd ?_)
  | (with_reducible refine cell_dic ?_)
  | (with_reducible refine sw_setR ?_)
  | (with_reducible refine sw_next ?_)
  | (with_reducible refine sw_retN ?_)
  | (with_reducible refine sw_ret ?_)
  | (with_reducible refine we_op ?_)
  | (with_reducible refine we_int ?_)
  | (with_reducible refine we_str ?_)
  | (with_reducible refine we_bl ?_)
  | (with_reducible refine we_non ?_)
  | (with_reducible refine wa_nil ?_)
  | (with_reducible refine wa_cons ?_)
  | (with_reducible refine we_tup ?_)
  | (with_reducible refine we_lst ?_)
  | (with_reducible refine we_call ?_)
  | (with_reducible refine we_cb ?_)
  | (with_reducible refine we_if ?_)
  | (with_reducible refine we_neg ?_)
  | (with_reducible refine wt_tst ?_)
  | (with_reducible refine wt_and ?_)
  | (with_reducible refine wt_or ?_)
  | (with_reducible refine wt_not ?_)
  | (with_reducible refine wt_yes ?_)
  | (with_reducible refine r2_plus_int ?_)
  | (with_reducible refine r2_sub ?_)
  | (with_reducible refine r2_lt ?_)
  | (with_reducible refine r2_le ?_)
  | (with_reducible refine r2_gt ?_)
  | (with_reducible refine r2_ge ?_)
  | (with_reducible refine r2_eq_int ?_)
  | (with_reducible refine r2_eq_str ?_)
  | (with_reducible refine r2_ne_int ?_)
  | (with_reducible refine r2_ne_str ?_)
  | (with_reducible refine rc_len_list ?_)
  | (with_reducible refine rc_len_tup ?_)
  | (with_reducible refine rc_len_scr ?_)
  | (with_reducible refine rc_min2 ?_)
  | (with_reducible refine rc_max2 ?_)
  | (with_reducible refine rc_int_bool ?_)
  | (with_reducible refine rc_abs ?_)
  | (with_reducible refine wgs_nil ?_)
  | (with_reducible refine use_number ?_)
  | (with_reducible refine we_andV ?_)
  | (with_reducible refine we_orV ?_)
  | (with_reducible refine we_notV ?_)
  | (with_reducible refine we_dget ?_)
  | (with_reducible refine r2_in_strs ?_)
  | (with_reducible refine r2_nin_strs ?_)
  | (with_reducible refine we_index ?_)
  | ((with_reducible apply wg_name); (· walk_at "sd"))
  | ((with_reducible apply wg_tup); (· exact rfl))
  | ((with_reducible apply we_vd); (· exact rfl))
  | ((with_reducible apply we_vt); (· exact rfl))
  | ((with_reducible apply we_vs); (· exact rfl))
  | ((with_reducible apply r2_ix_rcd); (· exact rfl))
  | ((with_reducible apply r2_ix_tpl); (· exact rfl))
  | ((with_reducible apply r2_ix_list); (· exact rfl))
  | ((with_reducible apply r2_ix_tup); (· exact rfl))
  | ((with_reducible refine sw_asg ?_ ?_); (· walk_at "sd"))
  | ((with_reducible refine use_next ?_ ?_); (· walk_at "sd"))
  | ((with_reducible refine sl_w_str ?_ ?_); (· walk_at "sz"))
  | ((with_reducible refine r2_times_int ?_ ?_); (· walk_at "cm"))
  | ((with_reducible refine r2_mod ?_ ?_); (· walk_at "sd"))
  | ((with_reducible refine r2_fdiv ?_ ?_); (· walk_at "sd"))
  | ((with_reducible refine r2_pow ?_ ?_); (· exact ⟨by decide, by decide, by decide⟩))
  | ((with_reducible refine r2_plus_str ?_ ?_); (· walk_at "sd"))
  | ((with_reducible refine r2_plus_list ?_ ?_); (· walk_at "sd"))
  | ((with_reducible refine r2_plus_tup ?_ ?_); (· walk_at "sd"))
  | ((with_reducible refine rc_str_int ?_ ?_); (· walk_at "sd"))
  | ((with_reducible refine rc_len_str ?_ ?_); (· walk_at "sd"))
  | (with_reducible apply sw_asgG)
  | (with_reducible apply wgs_cons)
  | (with_reducible refine we_slice ?_)
  | (with_reducible refine wo_none ?_)
  | (with_reducible refine wo_some ?_)
  | (with_reducible refine sl_w_list ?_)
  | (with_reducible refine sl_w_tup ?_)
  | (with_reducible refine rc_tuple_list ?_)
  | (with_reducible refine wi_range1 ?_)
  | (with_reducible refine wi_range2 ?_)
  | (with_reducible refine wi_list ?_)
  | (with_reducible refine wi_tup ?_)
  | ((with_reducible apply Exists.intro); (with_reducible apply And.intro); (· exact rfl); (with_reducible apply And.intro); (· walk_at "sz"))
  | ((with_reducible apply Exists.intro); (with_reducible apply Exists.intro); (with_reducible apply And.intro); (· exact rfl); (with_reducible apply And.intro); (· exact rfl); (with_reducible apply Exists.intro); (with_reducible apply Exists.intro); (with_reducible apply And.intro); (· exact rfl); (with_reducible apply And.intro); (· exact rfl); (with_reducible apply And.intro))
  | ((with_reducible apply Exists.intro); (with_reducible apply And.intro); (· exact rfl))
  | fail)
local macro_rules | `(tactic| walk_at "gs") => `(tactic| repeat' (walk_at "st"))
local macro_rules | `(tactic| walk_at "go") => `(tactic| repeat' (first | (with_reducible refine sw_seq ?_) | walk_at "st"))
local macro_rules | `(tactic| walk_at "os") => `(tactic| repeat' (first
  | ((with_reducible apply sw_append); (· exact rfl))
  | ((with_reducible apply sw_ret_own); (· exact rfl))
  | ((with_reducible apply sw_catOwn); (· exact rfl))
  | ((with_reducible apply we_len_own); (· exact rfl))
  | ((with_reducible apply we_nin_own); (· exact rfl))
  | ((with_reducible apply we_ix_own); (· exact rfl))
  | ((with_reducible apply we_ne_own); (· exact rfl); (· with_reducible assumption))
  | ((with_reducible refine sw_own ?_ ?_); (· walk_at "sd"))
  | walk_at "st"))
local macro_rules | `(tactic| walk_at "og") => `(tactic| repeat' (first
  | (with_reducible refine sw_seq ?_)
  | ((with_reducible apply sw_append); (· exact rfl))
  | ((with_reducible apply sw_ret_own); (· exact rfl))
  | ((with_reducible apply sw_catOwn); (· exact rfl))
  | ((with_reducible apply we_len_own); (· exact rfl))
  | ((with_reducible apply we_nin_own); (· exact rfl))
  | ((with_reducible apply we_ix_own); (· exact rfl))
  | ((with_reducible apply we_ne_own); (· exact rfl); (· with_reducible assumption))
  | ((with_reducible refine sw_own ?_ ?_); (· walk_at "sd"))
  | walk_at "st"))

abbrev s_law_data : Stmt := topS 11
theorem sc_law_data : FnScope ["_law_pen", "_law_functions", "_law_datas", "_law_items", "_law_kinds", "_law_k", "_law_way", "_law_names", "_law_name", "_law_more", "_law_many"] ["_law_pen", "_law_functions", "_law_datas"] (defScope s_law_data) := ⟨rfl, rfl, rfl, by decide +kernel, rfl, by decide +kernel, by decide +kernel⟩

def f_law_data : FS := fun ss g P => ∃ (ns : List Int) (fs ds : List PyData), ss = [.t (penT ns), .d (.list fs), .d (.list ds)] ∧ (0 < fs.length ∧ fs.length ≤ 1000) ∧ (0 < ds.length ∧ ds.length ≤ 1000) ∧ AllD IsStr fs ∧ AllD IsStr ds ∧
  ∀ is ks : List PyData, AllD GItem is → AllD IsStr ks → is.length ≤ 5 → ks.length ≤ 300 → P (.d (.tuple [.list is, .list ks])) g
theorem len_law_data : ∀ ss g P, f_law_data ss g P → ss.length = ["_law_pen", "_law_functions", "_law_datas"].length := by
  rintro ss g P ⟨_, _, _, rfl, _⟩
  rfl

theorem ok_law_data {P : Program} {w : World} {K : PySem.W.Frag} {mg : Str → Option Value} {base : Heap} (S : Std K mg "_law_data" s_law_data ["_law_pen", "_law_functions", "_law_datas"]) (C_law_next : Cal P w K mg base 2 "_law_next" ["_law_pen", "_law_many"] f_law_next) (C_law_number : Cal P w K mg base 3 "_law_number" ["_law_pen"] f_law_number) (z_range : mg "range" = none) (z_len : mg "len" = none) (z_int : mg "int" = none) (z_min : mg "min" = none) (z_max : mg "max" = none) : Cal P w K mg base 4 "_law_data" ["_law_pen", "_law_functions", "_law_datas"] f_law_data := by
  obtain ⟨a_law_next, fd_law_next, G_law_next, g_law_next, k_law_next, b_law_next⟩ := C_law_next
  obtain ⟨a_law_number, fd_law_number, G_law_number, g_law_number, k_law_number, b_law_number⟩ := C_law_number
  refine cal_of S sc_law_data (by decide) (len_law_data) fun a cdv A outer s H vs Q E hr => ?_
  have sc := sc_law_data
  let nm : List Str := ["_law_pen", "_law_functions", "_law_datas", "_law_items", "_law_kinds", "_law_k", "_law_way", "_law_names", "_law_name", "_law_more", "_law_many"]
  let sco := defScope s_law_data
  refine ⟨_, (pss_cons (ps_par (i := 3) (j := 4) (by rfl) sc.nd rfl rfl (by decide) rfl rfl (pa_cons (pe_lst pa_nil) (pa_cons (pe_lst pa_nil) pa_nil)) (by rfl))
 (pss_cons (ps_for PassesOwn.never rfl (pi_range1 (by rfl) z_range (pa_cons (pe_op (r := rPlus K) op_plus pe_int (pe_call G_law_next (hr.mono (by decide)) (by rfl) g_law_next k_law_next b_law_next .nil pass0 (pa_cons (pv 0) (pa_cons pe_int pa_nil)))) pa_nil)) (pg_name (i := 5) sc.nd rfl (Or.inl rfl))
 (pss_cons (ps_set (i := 6) sc.nd rfl (Or.inl rfl) (pe_call G_law_next (hr.mono (by decide)) (by rfl) g_law_next k_law_next b_law_next .nil pass0 (pa_cons (pv 0) (pa_cons pe_int pa_nil))))
 (pss_one (ps_if (pt_cmpR op_lt (pv 6) pe_int (nomark _))
 (pss_cons (ps_expr (pe_bm PySem.F.plainAttrs_list PySem.F.slot_list_append PySem.F.type_list_append mt_append (pv 3) (pa_cons (pe_tup (pa_cons pe_str (pa_cons (pe_call G_law_number (hr.mono (by decide)) (by rfl) g_law_number k_law_number b_law_number .nil pass0 (pa_cons (pv 0) pa_nil)) pa_nil))) pa_nil)))
 (pss_one (ps_expr (pe_bm PySem.F.plainAttrs_list PySem.F.slot_list_append PySem.F.type_list_append mt_append (pv 4) (pa_cons pe_str pa_nil)))))
 (pss_one (ps_if (pt_cmpR op_lt (pv 6) pe_int (nomark _))
 (pss_cons (ps_set (i := 7) sc.nd rfl (Or.inl rfl) (pe_ix (r := rIx K) ix_seq (pe_lst (pa_cons (pv 1) (pa_cons (pv 2) pa_nil))) (pe_op op_sub (pv 6) pe_int) (fun _ _ => rfl)))
 (pss_cons (ps_set (i := 8) sc.nd rfl (Or.inl rfl) (pe_ix (r := rIx K) ix_seq (pv 7) (pe_call G_law_next (hr.mono (by decide)) (by rfl) g_law_next k_law_next b_law_next .nil pass0 (pa_cons (pv 0) (pa_cons (pe_callB (r := rLenK K) call_len (by rfl) z_len (by decide +kernel) (pa_cons (pv 7) pa_nil)) pa_nil))) (fun _ _ => rfl)))
 (pss_cons (ps_set (i := 9) sc.nd rfl (Or.inl rfl) (pe_op op_times (pe_ix (r := rIx K) ix_seq (pe_lst (pa_cons pe_int (pa_cons pe_int (pa_cons pe_int (pa_cons pe_int pa_nil))))) (pe_call G_law_next (hr.mono (by decide)) (by rfl) g_law_next k_law_next b_law_next .nil pass0 (pa_cons (pv 0) (pa_cons pe_int pa_nil))) (fun _ _ => rfl)) (pe_op op_sub (pv 6) pe_int)))
 (pss_cons (ps_expr (pe_bm PySem.F.plainAttrs_list PySem.F.slot_list_append PySem.F.type_list_append mt_append (pv 3) (pa_cons (pe_tup (pa_cons pe_str (pa_cons (pv 8) (pa_cons (pv 9) pa_nil)))) pa_nil)))
 (pss_one (ps_expr (pe_bm PySem.F.plainAttrs_list PySem.F.slot_list_append PySem.F.type_list_append mt_append (pv 4) (pa_cons (pe_ix (r := rIx K) ix_seq (pe_lst (pa_cons pe_str (pa_cons (pv 8) pa_nil))) (pe_callTy call_int1 (by rfl) z_int (by decide +kernel) (pa_cons (pe_cmpR (r := rEqu K) (op_equ (room64 hr)) (pv 9) pe_int (nomark _)) pa_nil)) (fun _ _ => rfl)) pa_nil))))))))
 (pss_cons (ps_set (i := 10) sc.nd rfl (Or.inl rfl) (pe_callB (call_min2 rfl) (by rfl) z_min (by decide +kernel) (pa_cons (pe_ix (r := rIx K) ix_seq (pe_lst (pa_cons pe_int (pa_cons pe_int (pa_cons pe_int (pa_cons pe_int (pa_cons pe_int (pa_cons pe_int pa_nil))))))) (pe_call G_law_next (hr.mono (by decide)) (by rfl) g_law_next k_law_next b_law_next .nil pass0 (pa_cons (pv 0) (pa_cons pe_int pa_nil))) (fun _ _ => rfl)) (pa_cons (pe_callB (call_max2 rfl) (by rfl) z_max (by decide +kernel) (pa_cons pe_int (pa_cons (pe_op op_sub pe_int (pe_callB (r := rLenK K) call_len (by rfl) z_len (by decide +kernel) (pa_cons (pv 4) pa_nil))) pa_nil))) pa_nil))))
 (pss_cons (ps_expr (pe_bm PySem.F.plainAttrs_list PySem.F.slot_list_append PySem.F.type_list_append mt_append (pv 3) (pa_cons (pe_tup (pa_cons pe_str (pa_cons (pv 10) pa_nil))) pa_nil)))
 (pss_one (ps_set (i := 4) sc.nd rfl (Or.inl rfl) (pe_op (r := rPlus K) op_plus (pv 4) (pe_op op_times (pe_lst (pa_cons pe_str pa_nil)) (pv 10)))))))))))))
 (pss_one (ps_ret (pe_tup (pa_cons (pv 3) (pa_cons (pv 4) pa_nil))))))), ?_⟩
  clear sc nm sco
  try dsimp only [cxOf, Cx.nox, Cx.wish]

  rintro ss g P ⟨ns, fs, ds, rfl, ⟨hf0, hf1⟩, ⟨hd0, hd1⟩, hfs, hds, q⟩
  show SW K _ _ [.t (penT ns), .d (.list fs), .d (.list ds), .un, .un, .un, .un, .un, .un, .un, .un] g
  refine sw_seq ?_
  refine sw_parOwn (by decide) (by show 3 < 11; decide) (by show 4 < 11; decide) ?_
  refine sw_seq ?_
  refine sw_for (is := [5]) ?_
  walk_at "os"
  intro r h0 h1
  walk_at "os"
  refine ⟨fun k ρ g' => g = g' ∧ ∃ (is ks : List PyData) (s5 s6 s7 s8 s9 s10 : Sl), ρ = [.t (penT ns), .d (.list fs), .d (.list ds), .own is, .own ks, s5, s6, s7, s8, s9, s10] ∧ AllD GItem is ∧ AllD IsStr ks ∧ is.length ≤ k ∧ ks.length ≤ 260 + k, ?_, ?_, ?_⟩
  · exact ⟨rfl, [], [], _, _, _, _, _, _, rfl, .nil, .nil, Nat.zero_le _, Nat.zero_le _⟩
  · rintro k _ _ hk ⟨rfl, is, ks, s5, s6, s7, s8, s9, s10, rfl, hi, hks, li, lk⟩
    walk_at "os"
    refine sw_seq ?_
    walk_at "os"
    intro w w0 w1
    walk_at "os"
    refine ifd (fun h1 => ?_) fun h1 => ?_
    · walk_at "og"
      · exact Nat.lt_of_le_of_lt (Nat.le_trans li (Nat.le_of_lt hk)) (by rw [sizeLine_eq]; omega)
      walk_at "og"
      intro n
      walk_at "og"
      · rw [sizeLine_eq]
        omega
      walk_at "og"
      refine ⟨rfl, _, _, _, _, _, _, _, _, rfl, hi.snoc (gi_none (by decide +kernel) (by decide +kernel)), hks.snoc ⟨_, rfl, few_txt (by decide +kernel)⟩, by simp; omega, by simp; omega⟩
    · walk_at "os"
      refine ifd (fun h2 => ?_) fun h2 => ?_
      · refine sw_seq ?_
        walk_at "os"
        refine r2_ix_mem (by omega) (by simp; omega) fun d hd => ?_
        obtain ⟨es, rfl, e0, e1, he⟩ : ∃ es, d = .list es ∧ 0 < es.length ∧ es.length ≤ 1000 ∧ AllD IsStr es := by
          simp only [List.mem_cons, List.not_mem_nil, or_false] at hd
          rcases hd with rfl | rfl
          · exact ⟨_, rfl, hf0, hf1, hfs⟩
          · exact ⟨_, rfl, hd0, hd1, hds⟩
        walk_at "os"
        refine sw_seq ?_
        walk_at "os"
        intro i i0 i1
        refine r2_ix_mem i0 i1 fun d hd => ?_
        obtain ⟨x, rfl, hx⟩ := he d hd
        walk_at "os"
        refine sw_seq ?_
        walk_at "os"
        intro j j0 j1
        refine r2_ix_mem j0 (by simp; omega) fun d hd => ?_
        obtain ⟨m, rfl, m0, m1⟩ : ∃ m : Int, d = .int m ∧ 0 ≤ m ∧ m ≤ 7 := by
          simp only [List.mem_cons, List.not_mem_nil, or_false] at hd
          rcases hd with rfl | rfl | rfl | rfl <;> exact ⟨_, rfl, by decide, by decide⟩
        walk_at "og"
        · rw [sizeLine_eq]
          omega
        walk_at "og"
        · rw [sizeLine_eq]
          omega
        walk_at "og"
        refine r2_ix_b (fun _ => ?_) fun _ => ?_
        · exact ⟨_, rfl, rfl, _, _, _, _, _, _, _, _, rfl, hi.snoc (gi_one (by decide +kernel) (by decide +kernel) (by walk_at "nm")), hks.snoc ⟨_, rfl, few_txt (by decide +kernel)⟩, by simp; omega, by simp; omega⟩
        · exact ⟨_, rfl, rfl, _, _, _, _, _, _, _, _, rfl, hi.snoc (gi_one (by decide +kernel) (by decide +kernel) (by walk_at "nm")), hks.snoc ⟨_, rfl, hx⟩, by simp; omega, by simp; omega⟩
      · refine sw_seq ?_
        walk_at "os"
        intro j j0 j1
        refine r2_ix_mem j0 (by simp; omega) fun d hd => ?_
        obtain ⟨m, rfl, m0, m1⟩ : ∃ m : Int, d = .int m ∧ 0 ≤ m ∧ m ≤ 250 := by
          simp only [List.mem_cons, List.not_mem_nil, or_false] at hd
          rcases hd with rfl | rfl | rfl | rfl | rfl | rfl <;> exact ⟨_, rfl, by decide, by decide⟩
        walk_at "os"
        obtain ⟨v, hv, v0, v1, v2⟩ : ∃ v : Int, (if (if (260 : Int) - (ks.length : Int) > 0 then (260 : Int) - (ks.length : Int) else 0) < m then (if (260 : Int) - (ks.length : Int) > 0 then (260 : Int) - (ks.length : Int) else 0) else m) = v ∧ 0 ≤ v ∧ v ≤ 250 ∧ (v = 0 ∨ v + ks.length ≤ 260) := by
          refine ⟨_, rfl, ?_⟩
          split <;> split <;> omega
        rw [hv]
        walk_at "og"
        · rw [sizeLine_eq]
          omega
        walk_at "og"
        refine r2_times_list v0 (by rw [sizeLine_eq]; simp; omega) (by omega) ?_
        refine ⟨_, rfl, by rw [sizeLine_eq, rep_len]; simp; omega, rfl, _, _, _, _, _, _, _, _, rfl, hi.snoc gi_room, hks.app (AllD.rep (fun y hy => ?_) _), by simp; omega, ?_⟩
        · rw [List.mem_singleton.mp hy]
          exact ⟨_, rfl, few_txt (by decide +kernel)⟩
        · rw [List.length_append, rep_len]
          simp
          omega
  · rintro _ _ ⟨rfl, is, ks, s5, s6, s7, s8, s9, s10, rfl, hi, hks, li, lk⟩
    refine sw_freeze 3 rfl ?_
    refine sw_freeze 4 rfl ?_
    walk_at "go"
    exact q is ks hi hks (by omega) (by omega)

end LK
set_option maxRecDepth 100000
set_option maxHeartbeats 8000000
set_option autoImplicit false
namespace LK
open PySem L2 PyProof.Rows PL
variable [TBs]
local macro_rules | `(tactic| walk_at "nm") => `(tactic| first
  | (with_reducible assumption)
  | exact few_txt (by decide +kernel))
local macro_rules | `(tactic| walk_at "cm") => `(tactic| (unfold CMul; first
  | (left; decide)
  | (right; decide)
  | (left; refine ⟨?_, ?_⟩ <;> omega)
  | (right; refine ⟨?_, ?_⟩ <;> omega)))
local macro_rules | `(tactic| walk_at "sd") => `(tactic| first
  | exact rfl
  | exact Nat.le_of_ble_eq_true rfl
  | (with_reducible assumption)
  | decide
  | omega
  | (simp only [List.length_cons, List.length_nil, List.length_append, List.length_set, List.length_replicate, List.length_map]; omega)
  | (refine ⟨?_, ?_⟩ <;> (first | decide | omega)))
local macro_rules | `(tactic| walk_at "sz") => `(tactic| first
  | decide
  | (rw [sizeLine_eq]; omega)
  | (rw [sizeLine_eq]; simp only [List.length_cons, List.length_nil, List.length_append, List.length_set, List.length_replicate, List.length_map]; omega)
  | (refine ⟨?_, ?_⟩ <;> (first | decide | omega)))
local macro_rules | `(tactic| walk_at "ai") => `(tactic| repeat' (first
  | (with_reducible assumption)
  | (with_reducible exact AllD.nil)
  | (with_reducible refine AllD.cons ?_ ?_)
  | (with_reducible refine AllD.app ?_ ?_)
  | exact gi_room
  | exact gi_none (by decide +kernel) (by decide +kernel)
  | exact gi_one (by decide +kernel) (by decide +kernel) (by walk_at "nm")
  | exact gi_two (by decide +kernel) (by decide +kernel) (by walk_at "nm")))
local macro_rules | `(tactic| walk_at "st") => `(tactic| first
  | (with_reducible refine L2.iteT ?_)
  | (with_reducible refine L2.iteF ?_)
  | (with_reducible refine sw_if ?_)
  | (with_reducible refine cell_scr ?_)
  | (with_reducible refine cell_lst ?_)
  | (with_reducible refine cell_rcd ?_)
  | (with_reducible refine cell_dic ?_)
  | (with_reducible refine sw_setR ?_)
  | (with_reducible refine sw_next ?_)
  | (with_reducible refine sw_retN ?_)
  | (with_reducible refine sw_ret ?_)
  | (with_reducible refine we_op ?_)
  | (with_reducible refine we_int ?_)
  | (with_reducible refine we_str ?_)
  | (with_reducible refine we_bl ?_)
  | (with_reducible refine we_non ?_)
  | (with_reducible refine wa_nil ?_)
  | (with_reducible refine wa_cons ?_)
  | (with_reducible refine we_tup ?_)
  | (with_reducible refine we_lst ?_)
  | (with_reducible refine we_call ?_)
  | (with_reducible refine we_cb ?_)
  | (with_reducible refine we_if ?_)
  | (with_reducible refine we_neg ?_)
  | (with_reducible refine wt_tst ?_)
  | (with_reducible refine wt_and ?_)
  | (with_reducible refine wt_or ?_)
  | (with_reducible refine wt_not ?_)
  | (with_reducible refine wt_yes ?_)
  | (with_reducible refine r2_plus_int ?_)
  | (with_reducible refine r2_sub ?_)
  | (with_reducible refine r2_lt ?_)
  | (with_reducible refine r2_le ?_)
  | (with_reducible refine r2_gt ?_)
  | (with_reducible refine r2_ge ?_)
  | (with_reducible refine r2_eq_int ?_)
  | (with_reducible refine r2_eq_str ?_)
  | (with_reducible refine r2_ne_int ?_)
  | (with_reducible refine r2_ne_str ?_)
  | (with_reducible refine rc_len_list ?_)
  | (with_reducible refine rc_len_tup ?_)
  | (with_reducible refine rc_len_scr ?_)
  | (with_reducible refine rc_min2 ?_)
  | (with_reducible refine rc_max2 ?_)
  | (with_reducible refine rc_int_bool ?_)
  | (with_reducible refine rc_abs ?_)
  | (with_reducible refine wgs_nil ?_)
  | (with_reducible refine use_number ?_)
  | (with_reducible refine we_andV ?_)
  | (with_reducible refine we_orV ?_)
  | (with_reducible refine we_notV ?_)
  | (with_reducible refine we_dget ?_)
  | (with_reducible refine r2_in_strs ?_)
  | (with_reducible refine r2_nin_strs ?_)
  | (with_reducible refine we_index ?_)
  | ((with_reducible apply wg_name); (· walk_at "sd"))
  | ((with_reducible apply wg_tup); (· exact rfl))
  | ((with_reducible apply we_vd); (· exact rfl))
  | ((with_reducible apply we_vt); (· exact rfl))
  | ((with_reducible apply we_vs); (· exact rfl))
  | ((with_reducible apply r2_ix_rcd); (· exact rfl))
  | ((with_reducible apply r2_ix_tpl); (· exact rfl))
  | ((with_reducible apply r2_ix_list); (· exact rfl))
  | ((with_reducible apply r2_ix_tup); (· exact rfl))
  | ((with_reducible refine sw_asg ?_ ?_); (· walk_at "sd"))
  | ((with_reducible refine use_next ?_ ?_); (· walk_at "sd"))
  | ((with_reducible refine sl_w_str ?_ ?_); (· walk_at "sz"))
  | ((with_reducible refine r2_times_int ?_ ?_); (· walk_at "cm"))
  | ((with_reducible refine r2_mod ?_ ?_); (· walk_at "sd"))
  | ((with_reducible refine r2_fdiv ?_ ?_); (· walk_at "sd"))
  | ((with_reducible refine r2_pow ?_ ?_); (· exact ⟨by decide, by decide, by decide⟩))
  | ((with_reducible refine r2_plus_str ?_ ?_); (· walk_at "sd"))
  | ((with_reducible refine r2_plus_list ?_ ?_); (· walk_at "sd"))
  | ((with_reducible refine r2_plus_tup ?_ ?_); (· walk_at "sd"))
  | ((with_reducible refine rc_str_int ?_ ?_); (· walk_at "sd"))
  | ((with_reducible refine rc_len_str ?_ ?_); (· walk_at "sd"))
  | (with_reducible apply sw_asgG)
  | (with_reducible apply wgs_cons)
  | (with_reducible refine we_slice ?_)
  | (with_reducible refine wo_none ?_)
  | (with_reducible refine wo_some ?_)
  | (with_reducible refine sl_w_list ?_)
  | (with_reducible refine sl_w_tup ?_)
  | (with_reducible refine rc_tuple_list ?_)
  | (with_reducible refine wi_range1 ?_)
  | (with_reducible refine wi_range2 ?_)
  | (with_reducible refine wi_list ?_)
  | (with_reducible refine wi_tup ?_)
  | ((with_reducible apply Exists.intro); (with_reducible apply And.intro); (· exact rfl); (with_reducible apply And.intro); (· walk_at "sz"))
  | ((with_reducible apply Exists.intro); (with_reducible apply Exists.intro); (with_reducible apply And.intro); (· exact rfl); (with_reducible apply And.intro); (· exact rfl); (with_reducible apply Exists.intro); (with_reducible apply Exists.intro); (with_reducible apply And.intro); (· exact rfl); (with_reducible apply And.intro); (· exact rfl); (with_reducible apply And.intro))
  | ((with_reducible apply Exists.intro); (with_reducible apply And.intro); (· exact rfl))
  | fail)
local macro_rules | `(tactic| walk_at "gs") => `(tactic| repeat' (walk_at "st"))
local macro_rules | `(tactic| walk_at "go") => `(tactic| repeat' (first | (with_reducible refine sw_seq ?_) | walk_at "st"))
local macro_rules | `(tactic| walk_at "os") => `(tactic| repeat' (first
  | ((with_reducible apply sw_append); (· exact rfl))
  | ((with_reducible apply sw_ret_own); (· exact rfl))
  | ((with_reducible apply sw_catOwn); (· exact rfl))
  | ((with_reducible apply we_len_own); (· exact rfl))
  | ((with_reducible apply we_nin_own); (· exact rfl))
  | ((with_reducible apply we_ix_own); (· exact rfl))
  | ((with_reducible apply we_ne_own); (· exact rfl); (· with_reducible assumption))
  | ((with_reducible refine sw_own ?_ ?_); (· walk_at "sd"))
  | walk_at "st"))
local macro_rules | `(tactic| walk_at "og") => `(tactic| repeat' (first
  | (with_reducible refine sw_seq ?_)
  | ((with_reducible apply sw_append); (· exact rfl))
  | ((with_reducible apply sw_ret_own); (· exact rfl))
  | ((with_reducible apply sw_catOwn); (· exact rfl))
  | ((with_reducible apply we_len_own); (· exact rfl))
  | ((with_reducible apply we_nin_own); (· exact rfl))
  | ((with_reducible apply we_ix_own); (· exact rfl))
  | ((with_reducible apply we_ne_own); (· exact rfl); (· with_reducible assumption))
  | ((with_reducible refine sw_own ?_ ?_); (· walk_at "sd"))
  | walk_at "st"))

abbrev s_law_numbers_in : Stmt := topS 12
theorem sc_law_numbers_in : FnScope ["_law_kinds", "_law_at"] ["_law_kinds"] (defScope s_law_numbers_in) := ⟨rfl, rfl, rfl, by decide +kernel, rfl, by decide +kernel, by decide +kernel⟩

/-- a number from 0 to below n -/
def IsIdx (n : Nat) (d : PyData) : Prop := ∃ i : Int, d = .int i ∧ 0 ≤ i ∧ i < n
def f_law_numbers_in : FS := fun ss g P => ∃ (ks : List PyData), ss = [.d (.list ks)] ∧ AllD IsStr ks ∧ ks.length ≤ 100000 ∧ ∀ is : List PyData, AllD (IsIdx (min ks.length 90)) is → is.length ≤ 90 → P (.d (.list is)) g
theorem use_numbers_in {ks : List PyData} {g : Gh} {P : Sl → Gh → Prop} (h : AllD IsStr ks) (hl : ks.length ≤ 100000) (q : ∀ is : List PyData, AllD (IsIdx (min ks.length 90)) is → is.length ≤ 90 → P (.d (.list is)) g) : f_law_numbers_in [.d (.list ks)] g P := ⟨ks, rfl, h, hl, q⟩
theorem len_law_numbers_in : ∀ ss g P, f_law_numbers_in ss g P → ss.length = ["_law_kinds"].length := by
  rintro ss g P ⟨_, rfl, _⟩
  rfl

theorem ok_law_numbers_in {P : Program} {w : World} {K : PySem.W.Frag} {mg : Str → Option Value} {base : Heap} (S : Std K mg "_law_numbers_in" s_law_numbers_in ["_law_kinds"]) (z_range : mg "range" = none) (z_min : mg "min" = none) (z_len : mg "len" = none) : Cal P w K mg base 1 "_law_numbers_in" ["_law_kinds"] f_law_numbers_in := by
  refine cal_of S sc_law_numbers_in (by decide) (len_law_numbers_in) fun a cdv A outer s H vs Q E hr => ?_
  have sc := sc_law_numbers_in
  let nm : List Str := ["_law_kinds", "_law_at"]
  let sco := defScope s_law_numbers_in
  refine ⟨_, (pss_one (ps_ret (pe_lc (own := [("_law_at", 1)]) (g := (gName 1)) (by rfl) sc.nd (pi_range1 (by rfl) z_range (pa_cons (pe_callB (call_min2 rfl) (by rfl) z_min (by decide +kernel) (pa_cons (pe_callB (r := rLenK K) call_len (by rfl) z_len (by decide +kernel) (pa_cons (pv 0) pa_nil)) (pa_cons pe_int pa_nil))) pa_nil)) (blkOk_by (own := [("_law_at", 1)]) (N := nm) (sc := sco) (by decide +kernel)) (fun _ _ _ _ _ => pg_name (i := 1) sc.nd rfl (Or.inl rfl)) (fun _ _ _ _ _ => pts_one (pt_cmpR (r := rEqu K) (op_equ (room64 hr)) (pe_ix (r := rIx K) ix_seq (pv 0) (pv 1) (fun _ _ => rfl)) pe_str (nomark _))) (fun _ _ _ _ _ => (pv 1))))), ?_⟩
  clear sc nm sco
  try dsimp only [cxOf, Cx.nox, Cx.wish]

  rintro ss g P ⟨ks, rfl, hk, hl, q⟩
  show SW K _ _ [.d (.list ks), .un] g
  walk_at "go"
  refine we_lc (is := [1]) (by simp) (by simp) ?_
  walk_at "go"
  have hn : (if (90 : Int) < (ks.length : Int) then (90 : Int) else (ks.length : Int)).toNat = min ks.length 90 := by
    split <;> omega
  rw [hn]
  refine ⟨by rw [sizeLine_eq]; omega, fun k acc g' => g = g' ∧ AllD (IsIdx (min ks.length 90)) acc, ⟨rfl, .nil⟩, ?_, ?_⟩
  · rintro k acc _ hk2 la ⟨rfl, ha⟩ _
    walk_at "go"
    refine r2_ix_list (atI_nat (List.getElem?_eq_getElem (show k < ks.length by omega))) ?_
    obtain ⟨x, hx, _⟩ := hk _ (List.getElem_mem (show k < ks.length by omega))
    rw [hx]
    walk_at "go"
    refine ifd (fun h => ?_) fun h => ?_
    · walk_at "go"
      exact ⟨Gh.le_refl _, rfl, ha.snoc ⟨_, rfl, by omega, by omega⟩⟩
    · exact ⟨Gh.le_refl _, rfl, ha⟩
  · rintro acc _ la ⟨rfl, ha⟩
    exact q acc ha (by omega)

end LK
set_option maxRecDepth 100000
set_option maxHeartbeats 8000000
set_option autoImplicit false
namespace LK
open PySem L2 PyProof.Rows PL
variable [TBs]
local macro_rules | `(tactic| walk_at "nm") => `(tactic| first
  | (with_reducible assumption)
  | exact few_txt (by decide +kernel))
local macro_rules | `(tactic| walk_at "cm") => `(tactic| (unfold CMul; first
  | (left; decide)
  | (right; decide)
  | (left; refine ⟨?_, ?_⟩ <;> omega)
  | (right; refine ⟨?_, ?_⟩ <;> omega)))
local macro_rules | `(tactic| walk_at "sd") => `(tactic| first
  | exact rfl
  | exact Nat.le_of_ble_eq_true rfl
  | (with_reducible assumption)
  | decide
  | omega
  | (simp only [List.length_cons, List.length_nil, List.length_append, List.length_set, List.length_replicate, List.length_map]; omega)
  | (refine ⟨?_, ?_⟩ <;> (first | decide | omega)))
local macro_rules | `(tactic| walk_at "sz") => `(tactic| first
  | decide
  | (rw [sizeLine_eq]; omega)
  | (rw [sizeLine_eq]; simp only [List.length_cons, List.length_nil, List.length_append, List.length_set, List.length_replicate, List.length_map]; omega)
  | (refine ⟨?_, ?_⟩ <;> (first | decide | omega)))
local macro_rules | `(tactic| walk_at "ai") => `(tactic| repeat' (first
  | (with_reducible assumption)
  | (with_reducible exact AllD.nil)
  | (with_reducible refine AllD.cons ?_ ?_)
  | (with_reducible refine AllD.app ?_ ?_)
  | exact gi_room
  | exact gi_none (by decide +kernel) (by decide +kernel)
  | exact gi_one (by decide +kernel) (by decide +kernel) (by walk_at "nm")
  | exact gi_two (by decide +kernel) (by decide +kernel) (by walk_at "nm")))
local macro_rules | `(tactic| walk_at "st") => `(tactic| first
  | (with_reducible refine L2.iteT ?_)
  | (with_reducible refine L2.iteF ?_)
  | (with_reducible refine sw_if ?_)
  | (with_reducible refine cell_scr ?_)
  | (with_reducible refine cell_lst ?_)
  | (with_reducible refine cell_rcd ?_)
  | (with_reducible refine cell_dic ?_)
  | (with_reducible refine sw_setR ?_)
  | (with_reducible refine sw_next ?_)
  | (with_reducible refine sw_retN ?_)
  | (with_reducible refine sw_ret ?_)
  | (with_reducible refine we_op ?_)
  | (with_reducible refine we_int ?_)
  | (with_reducible refine we_str ?_)
  | (with_reducible refine we_bl ?_)
  | (with_reducible refine we_non ?_)
  | (with_reducible refine wa_nil ?_)
  | (with_reducible refine wa_cons ?_)
  | (with_reducible refine we_tup ?_)
  | (with_reducible refine we_lst ?_)
  | (with_reducible refine we_call ?_)
  | (with_reducible refine we_cb ?_)
  | (with_reducible refine we_if ?_)
  | (with_reducible refine we_neg ?_)
  | (with_reducible refine wt_tst ?_)
  | (with_reducible refine wt_and ?_)
  | (with_reducible refine wt_or ?_)
  | (with_reducible refine wt_not ?_)
  | (with_reducible refine wt_yes ?_)
  | (with_reducible refine r2_plus_int ?_)
  | (with_reducible refine r2_sub ?_)
  | (with_reducible refine r2_lt ?_)
  | (with_reducible refine r2_le ?_)
  | (with_reducible refine r2_gt ?_)
  | (with_reducible refine r2_ge ?_)
  | (with_reducible refine r2_eq_int ?_)
  | (with_reducible refine r2_eq_str ?_)
  | (with_reducible refine r2_ne_int ?_)
  | (with_reducible refine r2_ne_str ?_)
  | (with_reducible refine rc_len_list ?_)
  | (with_reducible refine rc_len_tup ?_)
  | (with_reducible refine rc_len_scr ?_)
  | (with_reducible refine rc_min2 ?_)
  | (with_reducible refine rc_max2 ?_)
  | (with_reducible refine rc_int_bool ?_)
  | (with_reducible refine rc_abs ?_)
  | (with_reducible refine wgs_nil ?_)
  | (with_reducible refine use_number ?_)
  | (with_reducible refine we_andV ?_)
  | (with_reducible refine we_orV ?_)
  | (with_reducible refine we_notV ?_)
  | (with_reducible refine we_dget ?_)
  | (with_reducible refine r2_in_strs ?_)
  | (with_reducible refine r2_nin_strs ?_)
  | (with_reducible refine we_index ?_)
  | ((with_reducible apply wg_name); (· walk_at "sd"))
  | ((with_reducible apply wg_tup); (· exact rfl))
  | ((with_reducible apply we_vd); (· exact rfl))
  | ((with_reducible apply we_vt); (· exact rfl))
  | ((with_reducible apply we_vs); (· exact rfl))
  | ((with_reducible apply r2_ix_rcd); (· exact rfl))
  | ((with_reducible apply r2_ix_tpl); (· exact rfl))
  | ((with_reducible apply r2_ix_list); (· exact rfl))
  | ((with_reducible apply r2_ix_tup); (· exact rfl))
  | ((with_reducible refine sw_asg ?_ ?_); (· walk_at "sd"))
  | ((with_reducible refine use_next ?_ ?_); (· walk_at "sd"))
  | ((with_reducible refine sl_w_str ?_ ?_); (· walk_at "sz"))
  | ((with_reducible refine r2_times_int ?_ ?_); (· walk_at "cm"))
  | ((with_reducible refine r2_mod ?_ ?_); (· walk_at "sd"))
  | ((with_reducible refine r2_fdiv ?_ ?_); (· walk_at "sd"))
  | ((with_reducible refine r2_pow ?_ ?_); (· exact ⟨by decide, by decide, by decide⟩))
  | ((with_reducible refine r2_plus_str ?_ ?_); (· walk_at "sd"))
  | ((with_reducible refine r2_plus_list ?_ ?_); (· walk_at "sd"))
  | ((with_reducible refine r2_plus_tup ?_ ?_); (· walk_at "sd"))
  | ((with_reducible refine rc_str_int ?_ ?_); (· walk_at "sd"))
  | ((with_reducible refine rc_len_str ?_ ?_); (· walk_at "sd"))
  | (with_reducible apply sw_asgG)
  | (with_reducible apply wgs_cons)
  | (with_reducible refine we_slice ?_)
  | (with_reducible refine wo_none ?_)
  | (with_reducible refine wo_some ?_)
  | (with_reducible refine sl_w_list ?_)
  | (with_reducible refine sl_w_tup ?_)
  | (with_reducible refine rc_tuple_list ?_)
  | (with_reducible refine wi_range1 ?_)
  | (with_reducible refine wi_range2 ?_)
  | (with_reducible refine wi_list ?_)
  | (with_reducible refine wi_tup ?_)
  | ((with_reducible apply Exists.intro); (with_reducible apply And.intro); (· exact rfl); (with_reducible apply And.intro); (· walk_at "sz"))
  | ((with_reducible apply Exists.intro); (with_reducible apply Exists.intro); (with_reducible apply And.intro); (· exact rfl); (with_reducible apply And.intro); (· exact rfl); (with_reducible apply Exists.intro); (with_reducible apply Exists.intro); (with_reducible apply And.intro); (· exact rfl); (with_reducible apply And.intro); (· exact rfl); (with_reducible apply And.intro))
  | ((with_reducible apply Exists.intro); (with_reducible apply And.intro); (· exact rfl))
  | fail)
local macro_rules | `(tactic| walk_at "gs") => `(tactic| repeat' (walk_at "st"))
local macro_rules | `(tactic| walk_at "go") => `(tactic| repeat' (first | (with_reducible refine sw_seq ?_) | walk_at "st"))
local macro_rules | `(tactic| walk_at "os") => `(tactic| repeat' (first
  | ((with_reducible apply sw_append); (· exact rfl))
  | ((with_reducible apply sw_ret_own); (· exact rfl))
  | ((with_reducible apply sw_catOwn); (· exact rfl))
  | ((with_reducible apply we_len_own); (· exact rfl))
  | ((with_reducible apply we_nin_own); (· exact rfl))
  | ((with_reducible apply we_ix_own); (· exact rfl))
  | ((with_reducible apply we_ne_own); (· exact rfl); (· with_reducible assumption))
  | ((with_reducible refine sw_own ?_ ?_); (· walk_at "sd"))
  | walk_at "st"))
local macro_rules | `(tactic| walk_at "og") => `(tactic| repeat' (first
  | (with_reducible refine sw_seq ?_)
  | ((with_reducible apply sw_append); (· exact rfl))
  | ((with_reducible apply sw_ret_own); (· exact rfl))
  | ((with_reducible apply sw_catOwn); (· exact rfl))
  | ((with_reducible apply we_len_own); (· exact rfl))
  | ((with_reducible apply we_nin_own); (· exact rfl))
  | ((with_reducible apply we_ix_own); (· exact rfl))
  | ((with_reducible apply we_ne_own); (· exact rfl); (· with_reducible assumption))
  | ((with_reducible refine sw_own ?_ ?_); (· walk_at "sd"))
  | walk_at "st"))

abbrev s_law_reach : Stmt := topS 13
theorem sc_law_reach : FnScope ["_law_pen", "_law_name", "_law_spot", "_law_k"] ["_law_pen", "_law_name", "_law_spot"] (defScope s_law_reach) := ⟨rfl, rfl, rfl, by decide +kernel, rfl, by decide +kernel, by decide +kernel⟩

def f_law_reach : FS := fun ss g P => ∃ (ns : List Int) (x : Str) (i : Int), ss = [.t (penT ns), .d (.str x), .d (.int i)] ∧ 0 ≤ i ∧ i ≤ 1000 ∧ ∀ r k : Int, 0 ≤ r → r < 3 → 0 ≤ k → P (.d (.tuple [.tuple [.str "place", .int r, .str x, .int k], .int (i - k)])) g
theorem use_reach {ns : List Int} {x : Str} {i : Int} {g : Gh} {P : Sl → Gh → Prop} (h0 : 0 ≤ i) (h1 : i ≤ 1000) (q : ∀ r k : Int, 0 ≤ r → r < 3 → 0 ≤ k → P (.d (.tuple [.tuple [.str "place", .int r, .str x, .int k], .int (i - k)])) g) : f_law_reach [.t (penT ns), .d (.str x), .d (.int i)] g P := ⟨ns, x, i, rfl, h0, h1, q⟩
theorem len_law_reach : ∀ ss g P, f_law_reach ss g P → ss.length = ["_law_pen", "_law_name", "_law_spot"].length := by
  rintro ss g P ⟨_, _, _, rfl, _⟩
  rfl

theorem ok_law_reach {P : Program} {w : World} {K : PySem.W.Frag} {mg : Str → Option Value} {base : Heap} (S : Std K mg "_law_reach" s_law_reach ["_law_pen", "_law_name", "_law_spot"]) (C_law_next : Cal P w K mg base 2 "_law_next" ["_law_pen", "_law_many"] f_law_next) : Cal P w K mg base 3 "_law_reach" ["_law_pen", "_law_name", "_law_spot"] f_law_reach := by
  obtain ⟨a_law_next, fd_law_next, G_law_next, g_law_next, k_law_next, b_law_next⟩ := C_law_next
  refine cal_of S sc_law_reach (by decide) (len_law_reach) fun a cdv A outer s H vs Q E hr => ?_
  have sc := sc_law_reach
  let nm : List Str := ["_law_pen", "_law_name", "_law_spot", "_law_k"]
  let sco := defScope s_law_reach
  refine ⟨_, (pss_cons (ps_set (i := 3) sc.nd rfl (Or.inl rfl) (pe_call G_law_next (hr.mono (by decide)) (by rfl) g_law_next k_law_next b_law_next .nil pass0 (pa_cons (pv 0) (pa_cons (pe_op (r := rPlus K) op_plus (pv 2) pe_int) pa_nil))))
 (pss_one (ps_ret (pe_tup (pa_cons (pe_tup (pa_cons pe_str (pa_cons (pe_call G_law_next (hr.mono (by decide)) (by rfl) g_law_next k_law_next b_law_next .nil pass0 (pa_cons (pv 0) (pa_cons pe_int pa_nil))) (pa_cons (pv 1) (pa_cons (pv 3) pa_nil))))) (pa_cons (pe_op op_sub (pv 2) (pv 3)) pa_nil)))))), ?_⟩
  clear sc nm sco
  try dsimp only [cxOf, Cx.nox, Cx.wish]

  rintro ss g P ⟨ns, x, i, rfl, h0, h1, q⟩
  show SW K _ _ [.t (penT ns), .d (.str x), .d (.int i), .un] g
  walk_at "go"
  intro k k0 k1
  walk_at "go"
  intro r r0 r1
  walk_at "go"
  exact q r k r0 r1 k0

end LK
set_option maxRecDepth 100000
set_option maxHeartbeats 8000000
set_option autoImplicit false
namespace LK
open PySem L2 PyProof.Rows PL
variable [TBs]
local macro_rules | `(tactic| walk_at "nm") => `(tactic| first
  | (with_reducible assumption)
  | exact few_txt (by decide +kernel))
local macro_rules | `(tactic| walk_at "cm") => `(tactic| (unfold CMul; first
  | (left; decide)
  | (right; decide)
  | (left; refine ⟨?_, ?_⟩ <;> omega)
  | (right; refine ⟨?_, ?_⟩ <;> omega)))
local macro_rules | `(tactic| walk_at "sd") => `(tactic| first
  | exact rfl
  | exact Nat.le_of_ble_eq_true rfl
  | (with_reducible assumption)
  | decide
  | omega
  | (simp only [List.length_cons, List.length_nil, List.length_append, List.length_set, List.length_replicate, List.length_map]; omega)
  | (refine ⟨?_, ?_⟩ <;> (first | decide | omega)))
local macro_rules | `(tactic| walk_at "sz") => `(tactic| first
  | decide
  | (rw [sizeLine_eq]; omega)
  | (rw [sizeLine_eq]; simp only [List.length_cons, List.length_nil, List.length_append, List.length_set, List.length_replicate, List.length_map]; omega)
  | (refine ⟨?_, ?_⟩ <;> (first | decide | omega)))
local macro_rules | `(tactic| walk_at "ai") => `(tactic| repeat' (first
  | (with_reducible assumption)
  | (with_reducible exact AllD.nil)
  | (with_reducible refine AllD.cons ?_ ?_)
  | (with_reducible refine AllD.app ?_ ?_)
  | exact gi_room
  | exact gi_none (by decide +kernel) (by decide +kernel)
  | exact gi_one (by decide +kernel) (by decide +kernel) (by walk_at "nm")
  | exact gi_two (by decide +kernel) (by decide +kernel) (by walk_at "nm")))
local macro_rules | `(tactic| walk_at "st") => `(tactic| first
  | (with_reducible refine L2.iteT ?_)
  | (with_reducible refine L2.iteF ?_)
  | (with_reducible refine sw_if ?_)
  | (with_reducible refine cell_scr ?_)
  | (with_reducible refine cell_lst ?_)
  | (with_reducible refine cell_rcd ?_)
  | (with_reducible refine cell_dic ?_)
  | (with_reducible refine sw_setR ?_)
  | (with_reducible refine sw_next ?_)
  | (with_reducible refine sw_retN ?_)
  | (with_reducible refine sw_ret ?_)
  | (with_reducible refine we_op ?_)
  | (with_reducible refine we_int ?_)
  | (with_reducible refine we_str ?_)
  | (with_reducible refine we_bl ?_)
  | (with_reducible refine we_non ?_)
  | (with_reducible refine wa_nil ?_)
  | (with_reducible refine wa_cons ?_)
  | (with_reducible refine we_tup ?_)
  | (with_reducible refine we_lst ?_)
  | (with_reducible refine we_call ?_)
  | (with_reducible refine we_cb ?_)
  | (with_reducible refine we_if ?_)
  | (with_reducible refine we_neg ?_)
  | (with_reducible refine wt_tst ?_)
  | (with_reducible refine wt_and ?_)
  | (with_reducible refine wt_or ?_)
  | (with_reducible refine wt_not ?_)
  | (with_reducible refine wt_yes ?_)
  | (with_reducible refine r2_plus_int ?_)
  | (with_reducible refine r2_sub ?_)
  | (with_reducible refine r2_lt ?_)
  | (with_reducible refine r2_le ?_)
  | (with_reducible refine r2_gt ?_)
  | (with_reducible refine r2_ge ?_)
  | (with_reducible refine r2_eq_int ?_)
  | (with_reducible refine r2_eq_str ?_)
  | (with_reducible refine r2_ne_int ?_)
  | (with_reducible refine r2_ne_str ?_)
  | (with_reducible refine rc_len_list ?_)
  | (with_reducible refine rc_len_tup ?_)
  | (with_reducible refine rc_len_scr ?_)
  | (with_reducible refine rc_min2 ?_)
  | (with_reducible refine rc_max2 ?_)
  | (with_reducible refine rc_int_bool ?_)
  | (with_reducible refine rc_abs ?_)
  | (with_reducible refine wgs_nil ?_)
  | (with_reducible refine use_number ?_)
  | (with_reducible refine we_andV ?_)
  | (with_reducible refine we_orV ?_)
  | (with_reducible refine we_notV ?_)
  | (with_reducible refine we_dget ?_)
  | (with_reducible refine r2_in_strs ?_)
  | (with_reducible refine r2_nin_strs ?_)
  | (with_reducible refine we_index ?_)
  | ((with_reducible apply wg_name); (· walk_at "sd"))
  | ((with_reducible apply wg_tup); (· exact rfl))
  | ((with_reducible apply we_vd); (· exact rfl))
  | ((with_reducible apply we_vt); (· exact rfl))
  | ((with_reducible apply we_vs); (· exact rfl))
  | ((with_reducible apply r2_ix_rcd); (· exact rfl))
  | ((with_reducible apply r2_ix_tpl); (· exact rfl))
  | ((with_reducible apply r2_ix_list); (· exact rfl))
  | ((with_reducible apply r2_ix_tup); (· exact rfl))
  | ((with_reducible refine sw_asg ?_ ?_); (· walk_at "sd"))
  | ((with_reducible refine use_next ?_ ?_); (· walk_at "sd"))
  | ((with_reducible refine sl_w_str ?_ ?_); (· walk_at "sz"))
  | ((with_reducible refine r2_times_int ?_ ?_); (· walk_at "cm"))
  | ((with_reducible refine r2_mod ?_ ?_); (· walk_at "sd"))
  | ((with_reducible refine r2_fdiv ?_ ?_); (· walk_at "sd"))
  | ((with_reducible refine r2_pow ?_ ?_); (· exact ⟨by decide, by decide, by decide⟩))
  | ((with_reducible refine r2_plus_str ?_ ?_); (· walk_at "sd"))
  | ((with_reducible refine r2_plus_list ?_ ?_); (· walk_at "sd"))
  | ((with_reducible refine r2_plus_tup ?_ ?_); (· walk_at "sd"))
  | ((with_reducible refine rc_str_int ?_ ?_); (· walk_at "sd"))
  | ((with_reducible refine rc_len_str ?_ ?_); (· walk_at "sd"))
  | (with_reducible apply sw_asgG)
  | (with_reducible apply wgs_cons)
  | (with_reducible refine we_slice ?_)
  | (with_reducible refine wo_none ?_)
  | (with_reducible refine wo_some ?_)
  | (with_reducible refine sl_w_list ?_)
  | (with_reducible refine sl_w_tup ?_)
  | (with_reducible refine rc_tuple_list ?_)
  | (with_reducible refine wi_range1 ?_)
  | (with_reducible refine wi_range2 ?_)
  | (with_reducible refine wi_list ?_)
  | (with_reducible refine wi_tup ?_)
  | ((with_reducible apply Exists.intro); (with_reducible apply And.intro); (· exact rfl); (with_reducible apply And.intro); (· walk_at "sz"))
  | ((with_reducible apply Exists.intro); (with_reducible apply Exists.intro); (with_reducible apply And.intro); (· exact rfl); (with_reducible apply And.intro); (· exact rfl); (with_reducible apply Exists.intro); (with_reducible apply Exists.intro); (with_reducible apply And.intro); (· exact rfl); (with_reducible apply And.intro); (· exact rfl); (with_reducible apply And.intro))
  | ((with_reducible apply Exists.intro); (with_reducible apply And.intro); (· exact rfl))
  | fail)
local macro_rules | `(tactic| walk_at "gs") => `(tactic| repeat' (walk_at "st"))
local macro_rules | `(tactic| walk_at "go") => `(tactic| repeat' (first | (with_reducible refine sw_seq ?_) | walk_at "st"))
local macro_rules | `(tactic| walk_at "os") => `(tactic| repeat' (first
  | ((with_reducible apply sw_append); (· exact rfl))
  | ((with_reducible apply sw_ret_own); (· exact rfl))
  | ((with_reducible apply sw_catOwn); (· exact rfl))
  | ((with_reducible apply we_len_own); (· exact rfl))
  | ((with_reducible apply we_nin_own); (· exact rfl))
  | ((with_reducible apply we_ix_own); (· exact rfl))
  | ((with_reducible apply we_ne_own); (· exact rfl); (· with_reducible assumption))
  | ((with_reducible refine sw_own ?_ ?_); (· walk_at "sd"))
  | walk_at "st"))
local macro_rules | `(tactic| walk_at "og") => `(tactic| repeat' (first
  | (with_reducible refine sw_seq ?_)
  | ((with_reducible apply sw_append); (· exact rfl))
  | ((with_reducible apply sw_ret_own); (· exact rfl))
  | ((with_reducible apply sw_catOwn); (· exact rfl))
  | ((with_reducible apply we_len_own); (· exact rfl))
  | ((with_reducible apply we_nin_own); (· exact rfl))
  | ((with_reducible apply we_ix_own); (· exact rfl))
  | ((with_reducible apply we_ne_own); (· exact rfl); (· with_reducible assumption))
  | ((with_reducible refine sw_own ?_ ?_); (· walk_at "sd"))
  | walk_at "st"))

abbrev s_law_on_data : Stmt := topS 14
theorem sc_law_on_data : FnScope ["_law_pen", "_law_plan", "_law_way", "_law_names", "_law_name", "_law_spots", "_law_place", "_law_more", "_law_r", "_law_found", "_law_other"] ["_law_pen", "_law_plan", "_law_way"] (defScope s_law_on_data) := ⟨rfl, rfl, rfl, by decide +kernel, rfl, by decide +kernel, by decide +kernel⟩

def f_law_on_data : FS := fun ss g P => ∃ (ns : List Int) (i : Nat) (fs ms : List Str) (way : Int), ss = [.t (penT ns), .t (planT i fs ms), .d (.int way)] ∧ (0 ≤ way ∧ way < 6) ∧ g.kn i < 64 ∧ (∃ s, s ∈ g.ks i) ∧
  ∀ (is : List PyData) g', Kno g g' → AllD GItem is → is.length ≤ 10 → P (.d (.list is)) g'
theorem len_law_on_data : ∀ ss g P, f_law_on_data ss g P → ss.length = ["_law_pen", "_law_plan", "_law_way"].length := by
  rintro ss g P ⟨_, _, _, _, _, rfl, _⟩
  rfl

theorem ok_law_on_data {P : Program} {w : World} {K : PySem.W.Frag} {mg : Str → Option Value} {base : Heap} (S : Std K mg "_law_on_data" s_law_on_data ["_law_pen", "_law_plan", "_law_way"]) (C_law_next : Cal P w K mg base 2 "_law_next" ["_law_pen", "_law_many"] f_law_next) (C_law_numbers_in : Cal P w K mg base 1 "_law_numbers_in" ["_law_kinds"] f_law_numbers_in) (C_law_reach : Cal P w K mg base 3 "_law_reach" ["_law_pen", "_law_name", "_law_spot"] f_law_reach) (C_law_number : Cal P w K mg base 3 "_law_number" ["_law_pen"] f_law_number) (z_sorted : mg "sorted" = none) (z_len : mg "len" = none) : Cal P w K mg base 4 "_law_on_data" ["_law_pen", "_law_plan", "_law_way"] f_law_on_data := by
  obtain ⟨a_law_next, fd_law_next, G_law_next, g_law_next, k_law_next, b_law_next⟩ := C_law_next
  obtain ⟨a_law_numbers_in, fd_law_numbers_in, G_law_numbers_in, g_law_numbers_in, k_law_numbers_in, b_law_numbers_in⟩ := C_law_numbers_in
  obtain ⟨a_law_reach, fd_law_reach, G_law_reach, g_law_reach, k_law_reach, b_law_reach⟩ := C_law_reach
  obtain ⟨a_law_number, fd_law_number, G_law_number, g_law_number, k_law_number, b_law_number⟩ := C_law_number
  refine cal_of S sc_law_on_data (by decide) (len_law_on_data) fun a cdv A outer s H vs Q E hr => ?_
  have sc := sc_law_on_data
  let nm : List Str := ["_law_pen", "_law_plan", "_law_way", "_law_names", "_law_name", "_law_spots", "_law_place", "_law_more", "_law_r", "_law_found", "_law_other"]
  let sco := defScope s_law_on_data
  refine ⟨_, (pss_cons (ps_set (i := 3) sc.nd rfl (Or.inl rfl) (pe_callB (r := rSrt K) (cr_srt rfl) (by rfl) z_sorted (by decide +kernel) (pa_cons (pe_ix (r := rIx K) ix_seq (pv 1) pe_int (fun _ _ => rfl)) pa_nil)))
 (pss_cons (ps_set (i := 4) sc.nd rfl (Or.inl rfl) (pe_ix (r := rIx K) ix_seq (pv 3) (pe_call G_law_next (hr.mono (by decide)) (by rfl) g_law_next k_law_next b_law_next .nil pass0 (pa_cons (pv 0) (pa_cons (pe_callB (r := rLenK K) call_len (by rfl) z_len (by decide +kernel) (pa_cons (pv 3) pa_nil)) pa_nil))) (fun _ _ => rfl)))
 (pss_cons (ps_set (i := 5) sc.nd rfl (Or.inl rfl) (pe_call G_law_numbers_in (hr.mono (by decide)) (by rfl) g_law_numbers_in k_law_numbers_in b_law_numbers_in .nil pass0 (pa_cons (pe_dget (hu_of hr) (pe_ix (r := rIx K) ix_seq (pv 1) pe_int (fun _ _ => rfl)) (pv 4) (fun _ _ => rfl)) pa_nil)))
 (pss_cons (ps_if (PW.pt (pw_or (pt_cmpR (r := rEqu K) (op_equ (room64 hr)) (pv 2) pe_int (nomark _)) (pw_or1 (pt_cmpR (r := rEqu K) (op_equ (room64 hr)) (pv 5) (pe_lst pa_nil) (nomark _)))))
 (pss_one (ps_ret (pe_lst (pa_cons (pe_tup (pa_cons pe_str (pa_cons pe_int (pa_cons (pv 4) (pa_cons (pe_call G_law_next (hr.mono (by decide)) (by rfl) g_law_next k_law_next b_law_next .nil pass0 (pa_cons (pv 0) (pa_cons pe_int pa_nil))) pa_nil))))) (pa_cons (pe_tup (pa_cons pe_str (pa_cons pe_int pa_nil))) pa_nil)))))
 pss_nil)
 (pss_cons (ps_asg (pe_call G_law_reach (hr.mono (by decide)) (by rfl) g_law_reach k_law_reach b_law_reach .nil pass0 (pa_cons (pv 0) (pa_cons (pv 4) (pa_cons (pe_ix (r := rIx K) ix_seq (pv 5) (pe_call G_law_next (hr.mono (by decide)) (by rfl) g_law_next k_law_next b_law_next .nil pass0 (pa_cons (pv 0) (pa_cons (pe_callB (r := rLenK K) call_len (by rfl) z_len (by decide +kernel) (pa_cons (pv 5) pa_nil)) pa_nil))) (fun _ _ => rfl)) pa_nil)))) (show PG _ _ (gTup K 2 _) from pg_tup (by rfl) (pgs_cons (pg_name (i := 6) sc.nd rfl (Or.inl rfl)) (pgs_cons (pg_name (i := 7) sc.nd rfl (Or.inl rfl)) pgs_nil))))
 (pss_cons (ps_set (i := 8) sc.nd rfl (Or.inl rfl) (pe_ix (r := rIx K) ix_seq (pv 6) pe_int (fun _ _ => rfl)))
 (pss_cons (ps_if (pt_cmpR (r := rEqu K) (op_equ (room64 hr)) (pv 2) pe_int (nomark _))
 (pss_one (ps_ret (pe_lst (pa_cons (pv 6) (pa_cons (pe_tup (pa_cons pe_str (pa_cons pe_int (pa_cons (pv 8) (pa_cons (pv 7) pa_nil))))) (pa_cons (pe_tup (pa_cons pe_str (pa_cons pe_int pa_nil))) pa_nil))))))
 pss_nil)
 (pss_cons (ps_if (pt_cmpR (r := rEqu K) (op_equ (room64 hr)) (pv 2) pe_int (nomark _))
 (pss_cons (ps_set (i := 9) sc.nd rfl (Or.inl rfl) (pe_lst (pa_cons (pv 6) (pa_cons (pe_tup (pa_cons pe_str (pa_cons pe_int (pa_cons (pe_call G_law_number (hr.mono (by decide)) (by rfl) g_law_number k_law_number b_law_number .nil pass0 (pa_cons (pv 0) pa_nil)) pa_nil)))) (pa_cons (pe_tup (pa_cons pe_str (pa_cons pe_int (pa_cons (pv 8) (pa_cons (pv 7) pa_nil))))) pa_nil)))))
 (pss_one (ps_ret (pe_op (r := rPlus K) op_plus (pv 9) (pe_lst (pa_cons (pe_tup (pa_cons pe_str (pa_cons pe_int (pa_cons (pv 8) (pa_cons (pv 7) pa_nil))))) (pa_cons (pe_tup (pa_cons pe_str (pa_cons pe_int pa_nil))) pa_nil)))))))
 pss_nil)
 (pss_cons (ps_set (i := 10) sc.nd rfl (Or.inl rfl) (pe_tup (pa_cons pe_str (pa_cons pe_int (pa_cons (pv 4) (pa_cons (pe_call G_law_next (hr.mono (by decide)) (by rfl) g_law_next k_law_next b_law_next .nil pass0 (pa_cons (pv 0) (pa_cons pe_int pa_nil))) pa_nil))))))
 (pss_cons (ps_if (pt_cmpR (r := rEqu K) (op_equ (room64 hr)) (pv 2) pe_int (nomark _))
 (pss_one (ps_ret (pe_lst (pa_cons (pv 6) (pa_cons (pv 10) (pa_cons (pe_tup (pa_cons pe_str (pa_cons (pv 8) (pa_cons pe_int pa_nil)))) (pa_cons (pe_tup (pa_cons pe_str (pa_cons (pv 8) pa_nil))) pa_nil)))))))
 pss_nil)
 (pss_cons (ps_set (i := 9) sc.nd rfl (Or.inl rfl) (pe_lst (pa_cons (pv 6) (pa_cons (pe_tup (pa_cons pe_str (pa_cons pe_int (pa_cons (pv 7) pa_nil)))) (pa_cons (pe_tup (pa_cons pe_str (pa_cons (pe_ix (r := rIx K) ix_seq (pe_lst (pa_cons (pv 8) (pa_cons pe_int pa_nil))) (pe_op op_mod (pv 2) pe_int) (fun _ _ => rfl)) (pa_cons (pe_ix (r := rIx K) ix_seq (pe_lst (pa_cons pe_int (pa_cons (pv 8) pa_nil))) (pe_op op_mod (pv 2) pe_int) (fun _ _ => rfl)) pa_nil)))) pa_nil)))))
 (pss_cons (ps_set (i := 8) sc.nd rfl (Or.inl rfl) (pe_ix (r := rIx K) ix_seq (pe_lst (pa_cons (pv 8) (pa_cons pe_int pa_nil))) (pe_op op_mod (pv 2) pe_int) (fun _ _ => rfl)))
 (pss_one (ps_ret (pe_op (r := rPlus K) op_plus (pv 9) (pe_lst (pa_cons (pe_tup (pa_cons pe_str (pa_cons pe_int (pa_cons (pv 8) (pa_cons pe_int pa_nil))))) (pa_cons (pe_tup (pa_cons pe_str (pa_cons pe_int pa_nil))) (pa_cons (pe_tup (pa_cons pe_str (pa_cons (pv 8) pa_nil))) pa_nil))))))))))))))))))), ?_⟩
  clear sc nm sco
  try dsimp only [cxOf, Cx.nox, Cx.wish]

  rintro ss g P ⟨ns, i, fs, ms, way, rfl, ⟨hw0, hw1⟩, hkn, ⟨s0, hs0⟩, q⟩
  show SW K _ _ [.t (penT ns), .t (planT i fs ms), .d (.int way), .un, .un, .un, .un, .un, .un, .un, .un] g
  refine sw_seq ?_
  walk_at "gs"
  refine rc_sorted_dic hkn fun keys kv hk40 hkl hkv hks hkin => ?_
  have hne : 0 < keys.length := List.length_pos_of_mem (hkin _ hs0)
  have kn1 : Kno g (g.know i kv) := kno_know hks
  walk_at "gs"
  refine sw_seq ?_
  walk_at "gs"
  intro r r0 r1
  refine r2_ix_strs r0 r1 fun x hx => ?_
  walk_at "gs"
  refine sw_seq ?_
  walk_at "gs"
  obtain ⟨_, hxk, ks, rfl, hks2, hkl2⟩ := hkv x hx
  refine ⟨_, _, _, _, rfl, rfl, know_in hxk, ?_⟩
  walk_at "gs"
  refine use_numbers_in hks2 (by omega) fun is his hil => ?_
  walk_at "gs"
  refine sw_seq ?_
  walk_at "gs"
  have hnx : NmOk x := hk40 x hx
  have pl : ∀ (a b : Int), GItem (.tuple [.str "place", .int a, .str x, .int b]) := fun a b => gi_two (by decide +kernel) (by decide +kernel) (by walk_at "nm")
  refine ifd (fun h1 => ?_) fun h1 => ?_
  · walk_at "gs"
    intro r2 r20 r21
    walk_at "gs"
    refine q _ _ kn1 ?_ ?_
    · walk_at "ai"
    · exact Nat.le_of_ble_eq_true rfl
  · walk_at "gs"
    have hsh : SeqAt.shaped (.list is) = true := shaped_list (n := 0) (by decide) fun d hd => by
      obtain ⟨j, rfl, _⟩ := his d hd
      exact shD_int 0 j
    refine r2_eq_nil hsh ?_
    walk_at "gs"
    refine ifb (fun h2 => ?_) fun h2 => ?_
    · walk_at "gs"
      intro r2 r20 r21
      walk_at "gs"
      refine q _ _ kn1 ?_ ?_
      · walk_at "ai"
      · exact Nat.le_of_ble_eq_true rfl
    · have hil0 : 0 < is.length := by
        cases is with
        | nil => cases h2
        | cons _ _ => simp
      walk_at "gs"
      refine sw_seq ?_
      walk_at "gs"
      intro r2 r20 r21
      refine r2_ix_mem r20 r21 fun d hd => ?_
      obtain ⟨j, rfl, j0, j1⟩ := his d hd
      walk_at "gs"
      refine use_reach j0 (by omega) fun a b a0 a1 b0 => ?_
      walk_at "gs"
      refine sw_seq ?_
      walk_at "gs"
      refine sw_seq ?_
      walk_at "gs"
      refine ifd (fun h3 => ?_) fun h3 => ?_
      · walk_at "gs"
        refine q _ _ kn1 ?_ ?_
        · walk_at "ai"
        · exact Nat.le_of_ble_eq_true rfl
      · walk_at "gs"
        refine sw_seq ?_
        walk_at "gs"
        refine ifd (fun h4 => ?_) fun h4 => ?_
        · walk_at "go"
          intro n
          walk_at "go"
          refine q _ _ kn1 ?_ ?_
          · walk_at "ai"
          · exact Nat.le_of_ble_eq_true rfl
        · walk_at "go"
          intro n n0 n1
          walk_at "go"
          refine ifd (fun h5 => ?_) fun h5 => ?_
          · walk_at "go"
            refine q _ _ kn1 ?_ ?_
            · walk_at "ai"
            · exact Nat.le_of_ble_eq_true rfl
          · walk_at "go"
            obtain ⟨m, hm, m2⟩ : ∃ m : Int, way % 2 = m ∧ (m = 0 ∨ m = 1) := ⟨_, rfl, by omega⟩
            rcases m2 with rfl | rfl
            all_goals
              rw [hm]
              walk_at "go"
              rw [hm]
              walk_at "go"
              rw [hm]
              walk_at "go"
              refine q _ _ kn1 ?_ ?_
              · walk_at "ai"
              · exact Nat.le_of_ble_eq_true rfl

end LK
set_option maxRecDepth 100000
set_option maxHeartbeats 8000000
set_option autoImplicit false
namespace LK
open PySem L2 PyProof.Rows PL
variable [TBs]
local macro_rules | `(tactic| walk_at "nm") => `(tactic| first
  | (with_reducible assumption)
  | exact few_txt (by decide +kernel))
local macro_rules | `(tactic| walk_at "cm") => `(tactic| (unfold CMul; first
  | (left; decide)
  | (right; decide)
  | (left; refine ⟨?_, ?_⟩ <;> omega)
  | (right; refine ⟨?_, ?_⟩ <;> omega)))
local macro_rules | `(tactic| walk_at "sd") => `(tactic| first
  | exact rfl
  | exact Nat.le_of_ble_eq_true rfl
  | (with_reducible assumption)
  | decide
  | omega
  | (simp only [List.length_cons, List.length_nil, List.length_append, List.length_set, List.length_replicate, List.length_map]; omega)
  | (refine ⟨?_, ?_⟩ <;> (first | decide | omega)))
local macro_rules | `(tactic| walk_at "sz") => `(tactic| first
  | decide
  | (rw [sizeLine_eq]; omega)
  | (rw [sizeLine_eq]; simp only [List.length_cons, List.length_nil, List.length_append, List.length_set, List.length_replicate, List.length_map]; omega)
  | (refine ⟨?_, ?_⟩ <;> (first | decide | omega)))
local macro_rules | `(tactic| walk_at "ai") => `(tactic| repeat' (first
  | (with_reducible assumption)
  | (with_reducible exact AllD.nil)
  | (with_reducible refine AllD.cons ?_ ?_)
  | (with_reducible refine AllD.app ?_ ?_)
  | exact gi_room
  | exact gi_none (by decide +kernel) (by decide +kernel)
  | exact gi_one (by decide +kernel) (by decide +kernel) (by walk_at "nm")
  | exact gi_two (by decide +kernel) (by decide +kernel) (by walk_at "nm")))
local macro_rules | `(tactic| walk_at "st") => `(tactic| first
  | (with_reducible refine L2.iteT ?_)
  | (with_reducible refine L2.iteF ?_)
  | (with_reducible refine sw_if ?_)
  | (with_reducible refine cell_scr ?_)
  | (with_reducible refine cell_lst ?_)
  | (with_reducible refine cell_rcd ?_)
  | (with_reducible refine cell_dic ?_)
  | (with_reducible refine sw_setR ?_)
  | (with_reducible refine sw_next ?_)
  | (with_reducible refine sw_retN ?_)
  | (with_reducible refine sw_ret ?_)
  | (with_reducible refine we_op ?_)
  | (with_reducible refine we_int ?_)
  | (with_reducible refine we_str ?_)
  | (with_reducible refine we_bl ?_)
  | (with_reducible refine we_non ?_)
  | (with_reducible refine wa_nil ?_)
  | (with_reducible refine wa_cons ?_)
  | (with_reducible refine we_tup ?_)
  | (with_reducible refine we_lst ?_)
  | (with_reducible refine we_call ?_)
  | (with_reducible refine we_cb ?_)
  | (with_reducible refine we_if ?_)
  | (with_reducible refine we_neg ?_)
  | (with_reducible refine wt_tst ?_)
  | (with_reducible refine wt_and ?_)
  | (with_reducible refine wt_or ?_)
  | (with_reducible refine wt_not ?_)
  | (with_reducible refine wt_yes ?_)
  | (with_reducible refine r2_plus_int ?_)
  | (with_reducible refine r2_sub ?_)
  | (with_reducible refine r2_lt ?_)
  | (with_reducible refine r2_le ?_)
  | (with_reducible refine r2_gt ?_)
  | (with_reducible refine r2_ge ?_)
  | (with_reducible refine r2_eq_int ?_)
  | (with_reducible refine r2_eq_str ?_)
  | (with_reducible refine r2_ne_int ?_)
  | (with_reducible refine r2_ne_str ?_)
  | (with_reducible refine rc_len_list ?_)
  | (with_reducible refine rc_len_tup ?_)
  | (with_reducible refine rc_len_scr ?_)
  | (with_reducible refine rc_min2 ?_)
  | (with_reducible refine rc_max2 ?_)
  | (with_reducible refine rc_int_bool ?_)
  | (with_reducible refine rc_abs ?_)
  | (with_reducible refine wgs_nil ?_)
  | (with_reducible refine use_number ?_)
  | (with_reducible refine we_andV ?_)
  | (with_reducible refine we_orV ?_)
  | (with_reducible refine we_notV ?_)
  | (with_reducible refine we_dget ?_)
  | (with_reducible refine r2_in_strs ?_)
  | (with_reducible refine r2_nin_strs ?_)
  | (with_reducible refine we_index ?_)
  | ((with_reducible apply wg_name); (· walk_at "sd"))
  | ((with_reducible apply wg_tup); (· exact rfl))
  | ((with_reducible apply we_vd); (· exact rfl))
  | ((with_reducible apply we_vt); (· exact rfl))
  | ((with_reducible apply we_vs); (· exact rfl))
  | ((with_reducible apply r2_ix_rcd); (· exact rfl))
  | ((with_reducible apply r2_ix_tpl); (· exact rfl))
  | ((with_reducible apply r2_ix_list); (· exact rfl))
  | ((with_reducible apply r2_ix_tup); (· exact rfl))
  | ((with_reducible refine sw_asg ?_ ?_); (· walk_at "sd"))
  | ((with_reducible refine use_next ?_ ?_); (· walk_at "sd"))
  | ((with_reducible refine sl_w_str ?_ ?_); (· walk_at "sz"))
  | ((with_reducible refine r2_times_int ?_ ?_); (· walk_at "cm"))
  | ((with_reducible refine r2_mod ?_ ?_); (· walk_at "sd"))
  | ((with_reducible refine r2_fdiv ?_ ?_); (· walk_at "sd"))
  | ((with_reducible refine r2_pow ?_ ?_); (· exact ⟨by decide, by decide, by decide⟩))
  | ((with_reducible refine r2_plus_str ?_ ?_); (· walk_at "sd"))
  | ((with_reducible refine r2_plus_list ?_ ?_); (· walk_at "sd"))
  | ((with_reducible refine r2_plus_tup ?_ ?_); (· walk_at "sd"))
  | ((with_reducible refine rc_str_int ?_ ?_); (· walk_at "sd"))
  | ((with_reducible refine rc_len_str ?_ ?_); (· walk_at "sd"))
  | (with_reducible apply sw_asgG)
  | (with_reducible apply wgs_cons)
  | (with_reducible refine we_slice ?_)
  | (with_reducible refine wo_none ?_)
  | (with_reducible refine wo_some ?_)
  | (with_reducible refine sl_w_list ?_)
  | (with_reducible refine sl_w_tup ?_)
  | (with_reducible refine rc_tuple_list ?_)
  | (with_reducible refine wi_range1 ?_)
  | (with_reducible refine wi_range2 ?_)
  | (with_reducible refine wi_list ?_)
  | (with_reducible refine wi_tup ?_)
  | ((with_reducible apply Exists.intro); (with_reducible apply And.intro); (· exact rfl); (with_reducible apply And.intro); (· walk_at "sz"))
  | ((with_reducible apply Exists.intro); (with_reducible apply Exists.intro); (with_reducible apply And.intro); (· exact rfl); (with_reducible apply And.intro); (· exact rfl); (with_reducible apply Exists.intro); (with_reducible apply Exists.intro); (with_reducible apply And.intro); (· exact rfl); (with_reducible apply And.intro); (· exact rfl); (with_reducible apply And.intro))
  | ((with_reducible apply Exists.intro); (with_reducible apply And.intro); (· exact rfl))
  | fail)
local macro_rules | `(tactic| walk_at "gs") => `(tactic| repeat' (walk_at "st"))
local macro_rules | `(tactic| walk_at "go") => `(tactic| repeat' (first | (with_reducible refine sw_seq ?_) | walk_at "st"))
local macro_rules | `(tactic| walk_at "os") => `(tactic| repeat' (first
  | ((with_reducible apply sw_append); (· exact rfl))
  | ((with_reducible apply sw_ret_own); (· exact rfl))
  | ((with_reducible apply sw_catOwn); (· exact rfl))
  | ((with_reducible apply we_len_own); (· exact rfl))
  | ((with_reducible apply we_nin_own); (· exact rfl))
  | ((with_reducible apply we_ix_own); (· exact rfl))
  | ((with_reducible apply we_ne_own); (· exact rfl); (· with_reducible assumption))
  | ((with_reducible refine sw_own ?_ ?_); (· walk_at "sd"))
  | walk_at "st"))
local macro_rules | `(tactic| walk_at "og") => `(tactic| repeat' (first
  | (with_reducible refine sw_seq ?_)
  | ((with_reducible apply sw_append); (· exact rfl))
  | ((with_reducible apply sw_ret_own); (· exact rfl))
  | ((with_reducible apply sw_catOwn); (· exact rfl))
  | ((with_reducible apply we_len_own); (· exact rfl))
  | ((with_reducible apply we_nin_own); (· exact rfl))
  | ((with_reducible apply we_ix_own); (· exact rfl))
  | ((with_reducible apply we_ne_own); (· exact rfl); (· with_reducible assumption))
  | ((with_reducible refine sw_own ?_ ?_); (· walk_at "sd"))
  | walk_at "st"))

abbrev s_law_by_places : Stmt := topS 15
theorem sc_law_by_places : FnScope ["_law_pen", "_law_plan", "_law_number_of", "_law_some", "_law_name", "_law_spot", "_law_held", "_law_place", "_law_more", "_law_found"] ["_law_pen", "_law_plan", "_law_number_of"] (defScope s_law_by_places) := ⟨rfl, rfl, rfl, by decide +kernel, rfl, by decide +kernel, by decide +kernel⟩

def IsSome (d : PyData) : Prop := ∃ (x : Str) (i : Int) (y : Str), d = .tuple [.str x, .int i, .str y] ∧ (0 ≤ i ∧ i ≤ 90) ∧ NmOk x ∧ PyData.strOk y = true
def f_law_by_places : FS := fun ss g P => ∃ (ns : List Int) (i : Nat) (fs ms : List Str) (num : Int), ss = [.t (penT ns), .t (planT i fs ms), .d (.int num)] ∧ g.kn i < 64 ∧
  ∀ (is : List PyData) g', Kno g g' → AllD GItem is → is.length ≤ 10 → P (.d (.list is)) g'
theorem len_law_by_places : ∀ ss g P, f_law_by_places ss g P → ss.length = ["_law_pen", "_law_plan", "_law_number_of"].length := by
  rintro ss g P ⟨_, _, _, _, _, rfl, _⟩
  rfl

theorem ok_law_by_places {P : Program} {w : World} {K : PySem.W.Frag} {mg : Str → Option Value} {base : Heap} (S : Std K mg "_law_by_places" s_law_by_places ["_law_pen", "_law_plan", "_law_number_of"]) (C_law_next : Cal P w K mg base 2 "_law_next" ["_law_pen", "_law_many"] f_law_next) (C_law_reach : Cal P w K mg base 3 "_law_reach" ["_law_pen", "_law_name", "_law_spot"] f_law_reach) (z_sorted : mg "sorted" = none) (z_range : mg "range" = none) (z_min : mg "min" = none) (z_len : mg "len" = none) : Cal P w K mg base 4 "_law_by_places" ["_law_pen", "_law_plan", "_law_number_of"] f_law_by_places := by
  obtain ⟨a_law_next, fd_law_next, G_law_next, g_law_next, k_law_next, b_law_next⟩ := C_law_next
  obtain ⟨a_law_reach, fd_law_reach, G_law_reach, g_law_reach, k_law_reach, b_law_reach⟩ := C_law_reach
  refine cal_of S sc_law_by_places (by decide) (len_law_by_places) fun a cdv A outer s H vs Q E hr => ?_
  have sc := sc_law_by_places
  let nm : List Str := ["_law_pen", "_law_plan", "_law_number_of", "_law_some", "_law_name", "_law_spot", "_law_held", "_law_place", "_law_more", "_law_found"]
  let sco := defScope s_law_by_places
  refine ⟨_, (pss_cons (ps_set (i := 3) sc.nd rfl (Or.inl rfl) (pe_lst pa_nil))
 (pss_cons (ps_for PassesOwn.never rfl (pi_list (pe_callB (r := rSrt K) (cr_srt rfl) (by rfl) z_sorted (by decide +kernel) (pa_cons (pe_ix (r := rIx K) ix_seq (pv 1) pe_int (fun _ _ => rfl)) pa_nil))) (pg_name (i := 4) sc.nd rfl (Or.inl rfl))
 (pss_one (ps_for PassesOwn.never rfl (pi_range1 (by rfl) z_range (pa_cons (pe_callB (call_min2 rfl) (by rfl) z_min (by decide +kernel) (pa_cons (pe_callB (r := rLenK K) call_len (by rfl) z_len (by decide +kernel) (pa_cons (pe_dget (hu_of hr) (pe_ix (r := rIx K) ix_seq (pv 1) pe_int (fun _ _ => rfl)) (pv 4) (fun _ _ => rfl)) pa_nil)) (pa_cons pe_int pa_nil))) pa_nil)) (pg_name (i := 5) sc.nd rfl (Or.inl rfl))
 (pss_one (ps_if (pt_cmpR (r := rNeq K) (op_neq (room64 hr)) (pe_ix (r := rIx K) ix_seq (pe_dget (hu_of hr) (pe_ix (r := rIx K) ix_seq (pv 1) pe_int (fun _ _ => rfl)) (pv 4) (fun _ _ => rfl)) (pv 5) (fun _ _ => rfl)) pe_str (nomark _))
 (pss_one (ps_expr (pe_bm PySem.F.plainAttrs_list PySem.F.slot_list_append PySem.F.type_list_append mt_append (pv 3) (pa_cons (pe_tup (pa_cons (pv 4) (pa_cons (pv 5) (pa_cons (pe_ix (r := rIx K) ix_seq (pe_dget (hu_of hr) (pe_ix (r := rIx K) ix_seq (pv 1) pe_int (fun _ _ => rfl)) (pv 4) (fun _ _ => rfl)) (pv 5) (fun _ _ => rfl)) pa_nil)))) pa_nil))))
 pss_nil)))))
 (pss_cons (ps_if (pt_cmpR (r := rEqu K) (op_equ (room64 hr)) (pv 3) (pe_lst pa_nil) (nomark _))
 (pss_one (ps_ret (pe_lst pa_nil)))
 pss_nil)
 (pss_cons (ps_asg (pe_ix (r := rIx K) ix_seq (pv 3) (pe_call G_law_next (hr.mono (by decide)) (by rfl) g_law_next k_law_next b_law_next .nil pass0 (pa_cons (pv 0) (pa_cons (pe_callB (r := rLenK K) call_len (by rfl) z_len (by decide +kernel) (pa_cons (pv 3) pa_nil)) pa_nil))) (fun _ _ => rfl)) (show PG _ _ (gTup K 3 _) from pg_tup (by rfl) (pgs_cons (pg_name (i := 4) sc.nd rfl (Or.inl rfl)) (pgs_cons (pg_name (i := 5) sc.nd rfl (Or.inl rfl)) (pgs_cons (pg_name (i := 6) sc.nd rfl (Or.inl rfl)) pgs_nil)))))
 (pss_cons (ps_asg (pe_call G_law_reach (hr.mono (by decide)) (by rfl) g_law_reach k_law_reach b_law_reach .nil pass0 (pa_cons (pv 0) (pa_cons (pv 4) (pa_cons (pv 5) pa_nil)))) (show PG _ _ (gTup K 2 _) from pg_tup (by rfl) (pgs_cons (pg_name (i := 7) sc.nd rfl (Or.inl rfl)) (pgs_cons (pg_name (i := 8) sc.nd rfl (Or.inl rfl)) pgs_nil))))
 (pss_cons (ps_set (i := 9) sc.nd rfl (Or.inl rfl) (pe_lst (pa_cons (pv 7) (pa_cons (pe_tup (pa_cons pe_str (pa_cons pe_int (pa_cons (pe_ix (r := rIx K) ix_seq (pv 7) pe_int (fun _ _ => rfl)) (pa_cons (pv 8) pa_nil))))) (pa_cons (pe_tup (pa_cons pe_str (pa_cons pe_int pa_nil))) pa_nil)))))
 (pss_cons (ps_if (PW.pt (pw_and (pt_cmpR (r := rInn K) (op_inn (room65 hr)) (pv 6) (pe_ix (r := rIx K) ix_seq (pv 1) pe_int (fun _ _ => rfl)) (by rfl)) (pw_and1 (pt_cmpR op_gt (pe_bm (r := rIndex K) PySem.F.plainAttrs_list PySem.F.slot_list_index PySem.F.type_list_index mt_index (pe_ix (r := rIx K) ix_seq (pv 1) pe_int (fun _ _ => rfl)) (pa_cons (pv 6) pa_nil)) (pv 2) (nomark _)))))
 (pss_one (ps_ret (pe_op (r := rPlus K) op_plus (pv 9) (pe_lst (pa_cons (pe_tup (pa_cons pe_str (pa_cons pe_int pa_nil))) pa_nil)))))
 pss_nil)
 (pss_cons (ps_if (PW.pt (pw_and (pt_cmp (pc_din (hu_of hr) (pv 6) (pe_ix (r := rIx K) ix_seq (pv 1) pe_int (fun _ _ => rfl)))) (pw_and1 (pt_cmpR (r := rInn K) (op_inn (room65 hr)) pe_str (pe_slice (r := rSli K) sl_any (pe_dget (hu_of hr) (pe_ix (r := rIx K) ix_seq (pv 1) pe_int (fun _ _ => rfl)) (pv 6) (fun _ _ => rfl)) po_none (po_some pe_int)) (by rfl)))))
 (pss_one (ps_ret (pe_op (r := rPlus K) op_plus (pv 9) (pe_lst (pa_cons (pe_tup (pa_cons pe_str (pa_cons pe_int (pa_cons pe_int (pa_cons pe_int pa_nil))))) (pa_cons (pe_tup (pa_cons pe_str (pa_cons pe_int pa_nil))) pa_nil))))))
 pss_nil)
 (pss_one (ps_ret (pv 9))))))))))), ?_⟩
  clear sc nm sco
  try dsimp only [cxOf, Cx.nox, Cx.wish]

  rintro ss g P ⟨ns, i, fs, ms, num, rfl, hkn, q⟩
  show SW K _ _ [.t (penT ns), .t (planT i fs ms), .d (.int num), .un, .un, .un, .un, .un, .un, .un] g
  refine sw_seq ?_
  walk_at "os"
  refine sw_seq ?_
  refine sw_for (is := [4]) ?_
  walk_at "os"
  refine rc_sorted_dic hkn fun keys kv hk40 hkl hkv hks hkin => ?_
  have kn1 : Kno g (g.know i kv) := kno_know hks
  walk_at "os"
  refine ⟨fun k ρ g' => Kno (g.know i kv) g' ∧ ∃ (ds : List PyData) (s4 s5 s6 s7 s8 s9 : Sl), ρ = [.t (penT ns), .t (planT i fs ms), .d (.int num), .own ds, s4, s5, s6, s7, s8, s9] ∧ AllD IsSome ds ∧ ds.length ≤ k * 90, ?_, ?_, ?_⟩
  · exact ⟨Kno.refl _, [], _, _, _, _, _, _, rfl, .nil, Nat.zero_le _⟩
  · rintro k _ g1 hk ⟨kg, ds, s4, s5, s6, s7, s8, s9, rfl, hds, hdl⟩
    have hkl' : (keys.map PyData.str).length = keys.length := List.length_map _
    rw [hkl'] at hk
    obtain ⟨x, hx⟩ : ∃ x, keys[k]? = some x := ⟨_, List.getElem?_eq_getElem hk⟩
    have hxm : x ∈ keys := List.mem_of_getElem? hx
    rw [nth_get (d := .str x) (by rw [List.getElem?_map, hx]; rfl)]
    obtain ⟨_, hxk, cs, rfl, hcs, hcl⟩ := hkv x hxm
    have hxk1 : (x, PyData.list cs) ∈ g1.ks i := kg.ks i _ (know_in hxk)
    walk_at "os"
    refine sw_for (is := [5]) ?_
    walk_at "os"
    refine ⟨_, _, _, _, rfl, rfl, hxk1, ?_⟩
    walk_at "os"
    have hn : (if (90 : Int) < (cs.length : Int) then (90 : Int) else (cs.length : Int)).toNat = min cs.length 90 := by
      split <;> omega
    rw [hn]
    refine ⟨fun j ρ g' => Kno (g.know i kv) g' ∧ ∃ (ds : List PyData) (s5 s6 s7 s8 s9 : Sl), ρ = [.t (penT ns), .t (planT i fs ms), .d (.int num), .own ds, .d (.str x), s5, s6, s7, s8, s9] ∧ AllD IsSome ds ∧ ds.length ≤ k * 90 + j, ?_, ?_, ?_⟩
    · exact ⟨kg, ds, _, _, _, _, _, rfl, hds, by omega⟩
    · rintro j _ g2 hj ⟨kg2, ds2, t5, t6, t7, t8, t9, rfl, hds2, hdl2⟩
      have hxk2 : (x, PyData.list cs) ∈ g2.ks i := kg2.ks i _ (know_in hxk)
      have hj2 : j < cs.length := by omega
      obtain ⟨y, hy, hyl, hyo⟩ := hcs _ (List.getElem_mem hj2)
      have hyg : cs[j]? = some (.str y) := by rw [List.getElem?_eq_getElem hj2, hy]
      walk_at "os"
      refine ⟨_, _, _, _, rfl, rfl, hxk2, ?_⟩
      walk_at "os"
      refine r2_ix_list (atI_nat hyg) ?_
      walk_at "os"
      refine ifn (fun h => ?_) fun h => ?_
      · walk_at "os"
        · rw [sizeLine_eq]
          have : k * 90 ≤ 64 * 90 := Nat.mul_le_mul_right 90 (by omega)
          omega
        walk_at "os"
        refine ⟨_, _, _, _, rfl, rfl, hxk2, ?_⟩
        walk_at "os"
        refine r2_ix_list (atI_nat hyg) ?_
        walk_at "os"
        refine ⟨kg2, _, _, _, _, _, _, rfl, hds2.snoc ⟨x, j, y, rfl, by omega, hk40 x hxm, hyo⟩, by simp; omega⟩
      · walk_at "os"
        exact ⟨kg2, _, _, _, _, _, _, rfl, hds2, by omega⟩
    · rintro _ g2 ⟨kg2, ds2, t5, t6, t7, t8, t9, rfl, hds2, hdl2⟩
      exact ⟨kg2, _, _, _, _, _, _, _, rfl, hds2, by rw [Nat.add_mul]; omega⟩
  · rintro _ g1 ⟨kg, ds, s4, s5, s6, s7, s8, s9, rfl, hds, hdl⟩
    have kg' : Kno g g1 := kn1.trans kg
    have hsh : SeqAt.shaped (.list ds) = true := shaped_list (n := 1) (by decide) fun d hd => by
      obtain ⟨x, j, y, rfl, _, ox, oy⟩ := hds d hd
      exact shD_tup (AllD.cons (shD_str ox.2) (AllD.cons (shD_int 0 j) (AllD.cons (shD_str oy) .nil)))
    refine sw_freeze 3 rfl ?_
    refine sw_seq ?_
    walk_at "gs"
    refine r2_eq_nil hsh ?_
    walk_at "gs"
    refine ifb (fun h2 => ?_) fun h2 => ?_
    · walk_at "go"
      refine q _ _ kg' ?_ ?_
      · walk_at "ai"
      · exact Nat.le_of_ble_eq_true rfl
    · have hne : 0 < ds.length := by
        cases ds with
        | nil => cases h2
        | cons _ _ => simp
      have hlim : ds.length ≤ 64 * 90 := Nat.le_trans hdl (by rw [List.length_map]; exact Nat.mul_le_mul_right 90 (by omega))
      walk_at "go"
      intro r r0 r1
      refine r2_ix_mem r0 r1 fun d hd => ?_
      obtain ⟨x, j, y, rfl, hj, ox, oy⟩ := hds d hd
      walk_at "go"
      refine use_reach hj.1 (by omega) fun a b a0 a1 b0 => ?_
      walk_at "gs"
      refine sw_seq ?_
      walk_at "gs"
      refine sw_cut (fun ρ g' => g1 = g' ∧ ρ = [.t (penT ns), .t (planT i fs ms), .d (.int num), .d (.list ds), .d (.str x), .d (.int j), .d (.str y), .d (.tuple [.str "place", .int a, .str x, .int b]), .d (.int (j - b)), .d (.list [.tuple [.str "place", .int a, .str x, .int b], .tuple [.str "load", .int 3, .int a, .int (j - b)], .tuple [.str "tell", .int 3]])]) ?_ ?_
      · walk_at "gs"
        rintro _ rfl
        walk_at "gs"
        refine ifd (fun h => ?_) fun h => ?_
        · walk_at "gs"
          rintro _ rfl
          walk_at "gs"
          refine ⟨h, fun n hn => ?_⟩
          walk_at "gs"
          refine ifd (fun h => ?_) fun h => ?_
          · walk_at "gs"
            refine q _ _ kg' ?_ ?_
            · walk_at "ai"
            · exact Nat.le_of_ble_eq_true rfl
          · walk_at "gs"
            exact ⟨rfl, rfl⟩
        · walk_at "gs"
          exact ⟨rfl, rfl⟩
      · rintro _ _ ⟨rfl, rfl⟩
        refine sw_seq ?_
        walk_at "gs"
        refine wt_din ?_
        walk_at "gs"
        refine ⟨_, _, _, rfl, rfl, fun d hd => ?_, ?_⟩
        · obtain ⟨ks, rfl, hks, hkl⟩ := hd
          have kn2 : Kno g (g1.know i ((y, .list ks) :: g1.ks i)) := kg'.trans (kno_know fun s hs => List.mem_cons_of_mem _ hs)
          have hin : (y, PyData.list ks) ∈ (g1.know i ((y, .list ks) :: g1.ks i)).ks i := know_in List.mem_cons_self
          walk_at "gs"
          refine ⟨_, _, _, _, rfl, rfl, hin, ?_⟩
          walk_at "gs"
          obtain ⟨ns2, e2⟩ := strs_of (ds := cutD ks none (some 1)) fun d hd => by
            obtain ⟨z, e, _⟩ := hks d (List.mem_of_mem_drop (List.mem_of_mem_take hd))
            exact ⟨z, e⟩
          rw [e2]
          walk_at "gs"
          refine ifd (fun h => ?_) fun h => ?_
          · walk_at "gs"
            refine q _ _ kn2 ?_ ?_
            · walk_at "ai"
            · exact Nat.le_of_ble_eq_true rfl
          · walk_at "gs"
            refine q _ _ kn2 ?_ ?_
            · walk_at "ai"
            · exact Nat.le_of_ble_eq_true rfl
        · walk_at "gs"
          refine q _ _ kg' ?_ ?_
          · walk_at "ai"
          · exact Nat.le_of_ble_eq_true rfl

end LK
set_option maxRecDepth 100000
set_option maxHeartbeats 8000000
set_option autoImplicit false
namespace LK
open PySem L2 PyProof.Rows PL
variable [TBs]
local macro_rules | `(tactic| walk_at "nm") => `(tactic| first
  | (with_reducible assumption)
  | exact few_txt (by decide +kernel))
local macro_rules | `(tactic| walk_at "cm") => `(tactic| (unfold CMul; first
  | (left; decide)
  | (right; decide)
  | (left; refine ⟨?_, ?_⟩ <;> omega)
  | (right; refine ⟨?_, ?_⟩ <;> omega)))
local macro_rules | `(tactic| walk_at "sd") => `(tactic| first
  | exact rfl
  | exact Nat.le_of_ble_eq_true rfl
  | (with_reducible assumption)
  | decide
  | omega
  | (simp only [List.length_cons, List.length_nil, List.length_append, List.length_set, List.length_replicate, List.length_map]; omega)
  | (refine ⟨?_, ?_⟩ <;> (first | decide | omega)))
local macro_rules | `(tactic| walk_at "sz") => `(tactic| first
  | decide
  | (rw [sizeLine_eq]; omega)
  | (rw [sizeLine_eq]; simp only [List.length_cons, List.length_nil, List.length_append, List.length_set, List.length_replicate, List.length_map]; omega)
  | (refine ⟨?_, ?_⟩ <;> (first | decide | omega)))
local macro_rules | `(tactic| walk_at "ai") => `(tactic| repeat' (first
  | (with_reducible assumption)
  | (with_reducible exact AllD.nil)
  | (with_reducible refine AllD.cons ?_ ?_)
  | (with_reducible refine AllD.app ?_ ?_)
  | exact gi_room
  | exact gi_none (by decide +kernel) (by decide +kernel)
  | exact gi_one (by decide +kernel) (by decide +kernel) (by walk_at "nm")
  | exact gi_two (by decide +kernel) (by decide +kernel) (by walk_at "nm")))
local macro_rules | `(tactic| walk_at "st") => `(tactic| first
  | (with_reducible refine L2.iteT ?_)
  | (with_reducible refine L2.iteF ?_)
  | (with_reducible refine sw_if ?_)
  | (with_reducible refine cell_scr ?_)
  | (with_reducible refine cell_lst ?_)
  | (with_reducible refine cell_rcd ?_)
  | (with_reducible refine cell_dic ?_)
  | (with_reducible refine sw_setR ?_)
  | (with_reducible refine sw_next ?_)
  | (with_reducible refine sw_retN ?_)
  | (with_reducible refine sw_ret ?_)
  | (with_reducible refine we_op ?_)
  | (with_reducible refine we_int ?_)
  | (with_reducible refine we_str ?_)
  | (with_reducible refine we_bl ?_)
  | (with_reducible refine we_non ?_)
  | (with_reducible refine wa_nil ?_)
  | (with_reducible refine wa_cons ?_)
  | (with_reducible refine we_tup ?_)
  | (with_reducible refine we_lst ?_)
  | (with_reducible refine we_call ?_)
  | (with_reducible refine we_cb ?_)
  | (with_reducible refine we_if ?_)
  | (with_reducible refine we_neg ?_)
  | (with_reducible refine wt_tst ?_)
  | (with_reducible refine wt_and ?_)
  | (with_reducible refine wt_or ?_)
  | (with_reducible refine wt_not ?_)
  | (with_reducible refine wt_yes ?_)
  | (with_reducible refine r2_plus_int ?_)
  | (with_reducible refine r2_sub ?_)
  | (with_reducible refine r2_lt ?_)
  | (with_reducible refine r2_le ?_)
  | (with_reducible refine r2_gt ?_)
  | (with_reducible refine r2_ge ?_)
  | (with_reducible refine r2_eq_int ?_)
  | (with_reducible refine r2_eq_str ?_)
  | (with_reducible refine r2_ne_int ?_)
  | (with_reducible refine r2_ne_str ?_)
  | (with_reducible refine rc_len_list ?_)
  | (with_reducible refine rc_len_tup ?_)
  | (with_reducible refine rc_len_scr ?_)
  | (with_reducible refine rc_min2 ?_)
  | (with_reducible refine rc_max2 ?_)
  | (with_reducible refine rc_int_bool ?_)
  | (with_reducible refine rc_abs ?_)
  | (with_reducible refine wgs_nil ?_)
  | (with_reducible refine use_number ?_)
  | (with_reducible refine we_andV ?_)
  | (with_reducible refine we_orV ?_)
  | (with_reducible refine we_notV ?_)
  | (with_reducible refine we_dget ?_)
  | (with_reducible refine r2_in_strs ?_)
  | (with_reducible refine r2_nin_strs ?_)
  | (with_reducible refine we_index ?_)
  | ((with_reducible apply wg_name); (· walk_at "sd"))
  | ((with_reducible apply wg_tup); (· exact rfl))
  | ((with_reducible apply we_vd); (· exact rfl))
  | ((with_reducible apply we_vt); (· exact rfl))
  | ((with_reducible apply we_vs); (· exact rfl))
  | ((with_reducible apply r2_ix_rcd); (· exact rfl))
  | ((with_reducible apply r2_ix_tpl); (· exact rfl))
  | ((with_reducible apply r2_ix_list); (· exact rfl))
  | ((with_reducible apply r2_ix_tup); (· exact rfl))
  | ((with_reducible refine sw_asg ?_ ?_); (· walk_at "sd"))
  | ((with_reducible refine use_next ?_ ?_); (· walk_at "sd"))
  | ((with_reducible refine sl_w_str ?_ ?_); (· walk_at "sz"))
  | ((with_reducible refine r2_times_int ?_ ?_); (· walk_at "cm"))
  | ((with_reducible refine r2_mod ?_ ?_); (· walk_at "sd"))
  | ((with_reducible refine r2_fdiv ?_ ?_); (· walk_at "sd"))
  | ((with_reducible refine r2_pow ?_ ?_); (· exact ⟨by decide, by decide, by decide⟩))
  | ((with_reducible refine r2_plus_str ?_ ?_); (· walk_at "sd"))
  | ((with_reducible refine r2_plus_list ?_ ?_); (· walk_at "sd"))
  | ((with_reducible refine r2_plus_tup ?_ ?_); (· walk_at "sd"))
  | ((with_reducible refine rc_str_int ?_ ?_); (· walk_at "sd"))
  | ((with_reducible refine rc_len_str ?_ ?_); (· walk_at "sd"))
  | (with_reducible apply sw_asgG)
  | (with_reducible apply wgs_cons)
  | (with_reducible refine we_slice ?_)
  | (with_reducible refine wo_none ?_)
  | (with_reducible refine wo_some ?_)
  | (with_reducible refine sl_w_list ?_)
  | (with_reducible refine sl_w_tup ?_)
  | (with_reducible refine rc_tuple_list ?_)
  | (with_reducible refine wi_range1 ?_)
  | (with_reducible refine wi_range2 ?_)
  | (with_reducible refine wi_list ?_)
  | (with_reducible refine wi_tup ?_)
  | ((with_reducible apply Exists.intro); (with_reducible apply And.intro); (· exact rfl); (with_reducible apply And.intro); (· walk_at "sz"))
  | ((with_reducible apply Exists.intro); (with_reducible apply Exists.intro); (with_reducible apply And.intro); (· exact rfl); (with_reducible apply And.intro); (· exact rfl); (with_reducible apply Exists.intro); (with_reducible apply Exists.intro); (with_reducible apply And.intro); (· exact rfl); (with_reducible apply And.intro); (· exact rfl); (with_reducible apply And.intro))
  | ((with_reducible apply Exists.intro); (with_reducible apply And.intro); (· exact rfl))
  | fail)
local macro_rules | `(tactic| walk_at "gs") => `(tactic| repeat' (walk_at "st"))
local macro_rules | `(tactic| walk_at "go") => `(tactic| repeat' (first | (with_reducible refine sw_seq ?_) | walk_at "st"))
local macro_rules | `(tactic| walk_at "os") => `(tactic| repeat' (first
  | ((with_reducible apply sw_append); (· exact rfl))
  | ((with_reducible apply sw_ret_own); (· exact rfl))
  | ((with_reducible apply sw_catOwn); (· exact rfl))
  | ((with_reducible apply we_len_own); (· exact rfl))
  | ((with_reducible apply we_nin_own); (· exact rfl))
  | ((with_reducible apply we_ix_own); (· exact rfl))
  | ((with_reducible apply we_ne_own); (· exact rfl); (· with_reducible assumption))
  | ((with_reducible refine sw_own ?_ ?_); (· walk_at "sd"))
  | walk_at "st"))
local macro_rules | `(tactic| walk_at "og") => `(tactic| repeat' (first
  | (with_reducible refine sw_seq ?_)
  | ((with_reducible apply sw_append); (· exact rfl))
  | ((with_reducible apply sw_ret_own); (· exact rfl))
  | ((with_reducible apply sw_catOwn); (· exact rfl))
  | ((with_reducible apply we_len_own); (· exact rfl))
  | ((with_reducible apply we_nin_own); (· exact rfl))
  | ((with_reducible apply we_ix_own); (· exact rfl))
  | ((with_reducible apply we_ne_own); (· exact rfl); (· with_reducible assumption))
  | ((with_reducible refine sw_own ?_ ?_); (· walk_at "sd"))
  | walk_at "st"))

abbrev s_law_snippet : Stmt := topS 16
theorem sc_law_snippet : FnScope ["_law_pen", "_law_plan", "_law_number_of", "_law_label", "_law_way", "_law_name", "_law_found", "_law_many", "_law_word"] ["_law_pen", "_law_plan", "_law_number_of", "_law_label"] (defScope s_law_snippet) := ⟨rfl, rfl, rfl, by decide +kernel, rfl, by decide +kernel, by decide +kernel⟩

def IsLab (x : Str) (d : PyData) : Prop := ∃ k : Int, d = .tuple [.str x, .int k] ∧ 0 ≤ k ∧ k ≤ 91
def f_law_snippet : FS := fun ss g P => ∃ (ns : List Int) (i : Nat) (fs ms : List Str) (num : Int) (x : Str), ss = [.t (penT ns), .t (planT i fs ms), .d (.int num), .d (.str x)] ∧ g.kn i < 64 ∧ (∃ s, s ∈ g.ks i) ∧ IsFs fs ∧ IsMs ms ∧ 0 ≤ num ∧ NmOk x ∧
  ∀ (is ls : List PyData) g', Kno g g' → AllD GItem is → is.length ≤ 100 → AllD (IsLab x) ls → ls.length ≤ 1 → P (.d (.tuple [.list is, .list ls])) g'
theorem len_law_snippet : ∀ ss g P, f_law_snippet ss g P → ss.length = ["_law_pen", "_law_plan", "_law_number_of", "_law_label"].length := by
  rintro ss g P ⟨_, _, _, _, _, _, rfl, _⟩
  rfl

theorem ok_law_snippet {P : Program} {w : World} {K : PySem.W.Frag} {mg : Str → Option Value} {base : Heap} (S : Std K mg "_law_snippet" s_law_snippet ["_law_pen", "_law_plan", "_law_number_of", "_law_label"]) (C_law_next : Cal P w K mg base 2 "_law_next" ["_law_pen", "_law_many"] f_law_next) (C_law_on_data : Cal P w K mg base 4 "_law_on_data" ["_law_pen", "_law_plan", "_law_way"] f_law_on_data) (C_law_by_places : Cal P w K mg base 4 "_law_by_places" ["_law_pen", "_law_plan", "_law_number_of"] f_law_by_places) (C_law_number : Cal P w K mg base 3 "_law_number" ["_law_pen"] f_law_number) (z_len : mg "len" = none) : Cal P w K mg base 5 "_law_snippet" ["_law_pen", "_law_plan", "_law_number_of", "_law_label"] f_law_snippet := by
  obtain ⟨a_law_next, fd_law_next, G_law_next, g_law_next, k_law_next, b_law_next⟩ := C_law_next
  obtain ⟨a_law_on_data, fd_law_on_data, G_law_on_data, g_law_on_data, k_law_on_data, b_law_on_data⟩ := C_law_on_data
  obtain ⟨a_law_by_places, fd_law_by_places, G_law_by_places, g_law_by_places, k_law_by_places, b_law_by_places⟩ := C_law_by_places
  obtain ⟨a_law_number, fd_law_number, G_law_number, g_law_number, k_law_number, b_law_number⟩ := C_law_number
  refine cal_of S sc_law_snippet (by decide) (len_law_snippet) fun a cdv A outer s H vs Q E hr => ?_
  have sc := sc_law_snippet
  let nm : List Str := ["_law_pen", "_law_plan", "_law_number_of", "_law_label", "_law_way", "_law_name", "_law_found", "_law_many", "_law_word"]
  let sco := defScope s_law_snippet
  refine ⟨_, (pss_cons (ps_set (i := 4) sc.nd rfl (Or.inl rfl) (pe_call G_law_next (hr.mono (by decide)) (by rfl) g_law_next k_law_next b_law_next .nil pass0 (pa_cons (pv 0) (pa_cons pe_int pa_nil))))
 (pss_cons (ps_if (pt_cmpR op_lt (pv 4) pe_int (nomark _))
 (pss_one (ps_ret (pe_tup (pa_cons (pe_call G_law_on_data (hr.mono (by decide)) (by rfl) g_law_on_data k_law_on_data b_law_on_data .nil pass0 (pa_cons (pv 0) (pa_cons (pv 1) (pa_cons (pe_call G_law_next (hr.mono (by decide)) (by rfl) g_law_next k_law_next b_law_next .nil pass0 (pa_cons (pv 0) (pa_cons pe_int pa_nil))) pa_nil)))) (pa_cons (pe_lst pa_nil) pa_nil)))))
 pss_nil)
 (pss_cons (ps_if (pt_cmpR (r := rEqu K) (op_equ (room64 hr)) (pv 4) pe_int (nomark _))
 (pss_one (ps_ret (pe_tup (pa_cons (pe_call G_law_by_places (hr.mono (by decide)) (by rfl) g_law_by_places k_law_by_places b_law_by_places .nil pass0 (pa_cons (pv 0) (pa_cons (pv 1) (pa_cons (pv 2) pa_nil)))) (pa_cons (pe_lst pa_nil) pa_nil)))))
 pss_nil)
 (pss_cons (ps_if (PW.pt (pw_and (pt_cmpR op_lt (pv 4) pe_int (nomark _)) (pw_and1 (pt_cmpR op_lt (pe_op (r := rPlus K) op_plus (pv 2) pe_int) (pe_callB (r := rLenK K) call_len (by rfl) z_len (by decide +kernel) (pa_cons (pe_ix (r := rIx K) ix_seq (pv 1) pe_int (fun _ _ => rfl)) pa_nil)) (nomark _)))))
 (pss_cons (ps_set (i := 5) sc.nd rfl (Or.inl rfl) (pe_ix (r := rIx K) ix_seq (pe_ix (r := rIx K) ix_seq (pv 1) pe_int (fun _ _ => rfl)) (pe_op (r := rPlus K) op_plus (pe_op (r := rPlus K) op_plus (pv 2) pe_int) (pe_call G_law_next (hr.mono (by decide)) (by rfl) g_law_next k_law_next b_law_next .nil pass0 (pa_cons (pv 0) (pa_cons (pe_op op_sub (pe_op op_sub (pe_callB (r := rLenK K) call_len (by rfl) z_len (by decide +kernel) (pa_cons (pe_ix (r := rIx K) ix_seq (pv 1) pe_int (fun _ _ => rfl)) pa_nil)) (pv 2)) pe_int) pa_nil)))) (fun _ _ => rfl)))
 (pss_one (ps_ret (pe_tup (pa_cons (pe_ix (r := rIx K) ix_seq (pe_lst (pa_cons (pe_lst (pa_cons (pe_tup (pa_cons pe_str (pa_cons (pv 5) pa_nil))) pa_nil)) (pa_cons (pe_lst (pa_cons (pe_tup (pa_cons pe_str (pa_cons pe_int (pa_cons (pv 5) (pa_cons pe_int pa_nil))))) (pa_cons (pe_tup (pa_cons pe_str (pa_cons pe_int pa_nil))) (pa_cons (pe_tup (pa_cons pe_str (pa_cons pe_int pa_nil))) pa_nil)))) pa_nil))) (pe_op op_sub (pv 4) pe_int) (fun _ _ => rfl)) (pa_cons (pe_lst pa_nil) pa_nil))))))
 pss_nil)
 (pss_cons (ps_if (pt_cmpR (r := rEqu K) (op_equ (room64 hr)) (pv 4) pe_int (nomark _))
 (pss_cons (ps_set (i := 6) sc.nd rfl (Or.inl rfl) (pe_lst (pa_cons (pe_tup (pa_cons pe_str (pa_cons pe_int (pa_cons (pe_op (r := rPlus K) op_plus pe_int (pe_call G_law_next (hr.mono (by decide)) (by rfl) g_law_next k_law_next b_law_next .nil pass0 (pa_cons (pv 0) (pa_cons pe_int pa_nil)))) pa_nil)))) (pa_cons (pe_tup (pa_cons pe_str (pa_cons pe_int (pa_cons (pe_call G_law_number (hr.mono (by decide)) (by rfl) g_law_number k_law_number b_law_number .nil pass0 (pa_cons (pv 0) pa_nil)) pa_nil)))) (pa_cons (pe_tup (pa_cons pe_str (pa_cons pe_int (pa_cons pe_int pa_nil)))) pa_nil)))))
 (pss_cons (ps_set (i := 6) sc.nd rfl (Or.inl rfl) (pe_op (r := rPlus K) op_plus (pv 6) (pe_lst (pa_cons (pe_tup (pa_cons pe_str (pa_cons pe_int pa_nil))) (pa_cons (pe_tup (pa_cons pe_str (pa_cons pe_int (pa_cons pe_int pa_nil)))) (pa_cons (pe_tup (pa_cons pe_str (pa_cons pe_int (pa_cons pe_int pa_nil)))) (pa_cons (pe_tup (pa_cons pe_str (pa_cons pe_int (pa_cons (pv 3) pa_nil)))) pa_nil)))))))
 (pss_one (ps_ret (pe_tup (pa_cons (pe_op (r := rPlus K) op_plus (pe_op (r := rPlus K) op_plus (pe_lst (pa_cons (pe_tup (pa_cons pe_str (pa_cons pe_int (pa_cons (pe_call G_law_number (hr.mono (by decide)) (by rfl) g_law_number k_law_number b_law_number .nil pass0 (pa_cons (pv 0) pa_nil)) pa_nil)))) pa_nil)) (pv 6)) (pe_lst (pa_cons (pe_tup (pa_cons pe_str (pa_cons pe_int pa_nil))) pa_nil))) (pa_cons (pe_lst (pa_cons (pe_tup (pa_cons (pv 3) (pa_cons pe_int pa_nil))) pa_nil)) pa_nil)))))))
 pss_nil)
 (pss_cons (ps_if (pt_cmpR (r := rEqu K) (op_equ (room64 hr)) (pv 4) pe_int (nomark _))
 (pss_cons (ps_set (i := 7) sc.nd rfl (Or.inl rfl) (pe_ix (r := rIx K) ix_seq (pe_lst (pa_cons pe_int (pa_cons pe_int (pa_cons pe_int (pa_cons pe_int (pa_cons pe_int (pa_cons pe_int (pa_cons pe_int (pa_cons pe_int (pa_cons pe_int (pa_cons pe_int (pa_cons pe_int (pa_cons pe_int pa_nil))))))))))))) (pe_call G_law_next (hr.mono (by decide)) (by rfl) g_law_next k_law_next b_law_next .nil pass0 (pa_cons (pv 0) (pa_cons pe_int pa_nil))) (fun _ _ => rfl)))
 (pss_cons (ps_set (i := 6) sc.nd rfl (Or.inl rfl) (pe_op (r := rPlus K) op_plus (pe_op (r := rPlus K) op_plus (pe_lst (pa_cons (pe_tup (pa_cons pe_str (pa_cons (pv 3) pa_nil))) pa_nil)) (pe_op op_times (pe_lst (pa_cons (pe_tup (pa_cons pe_str (pa_cons pe_int (pa_cons pe_int pa_nil)))) pa_nil)) (pv 7))) (pe_lst (pa_cons (pe_tup (pa_cons pe_str (pa_cons pe_int pa_nil))) pa_nil))))
 (pss_one (ps_ret (pe_tup (pa_cons (pv 6) (pa_cons (pe_lst (pa_cons (pe_tup (pa_cons (pv 3) (pa_cons (pe_op (r := rPlus K) op_plus (pv 7) pe_int) pa_nil))) pa_nil)) pa_nil)))))))
 pss_nil)
 (pss_cons (ps_if (PW.pt (pw_and (pt_cmpR (r := rEqu K) (op_equ (room64 hr)) (pv 4) pe_int (nomark _)) (pw_and1 (pt_cmpR (r := rNeq K) (op_neq (room64 hr)) (pe_ix (r := rIx K) ix_seq (pv 1) pe_int (fun _ _ => rfl)) (pe_lst pa_nil) (nomark _)))))
 (pss_cons (ps_set (i := 5) sc.nd rfl (Or.inl rfl) (pe_ix (r := rIx K) ix_seq (pe_ix (r := rIx K) ix_seq (pv 1) pe_int (fun _ _ => rfl)) (pe_call G_law_next (hr.mono (by decide)) (by rfl) g_law_next k_law_next b_law_next .nil pass0 (pa_cons (pv 0) (pa_cons (pe_callB (r := rLenK K) call_len (by rfl) z_len (by decide +kernel) (pa_cons (pe_ix (r := rIx K) ix_seq (pv 1) pe_int (fun _ _ => rfl)) pa_nil)) pa_nil))) (fun _ _ => rfl)))
 (pss_one (ps_ret (pe_tup (pa_cons (pe_lst (pa_cons (pe_tup (pa_cons pe_str (pa_cons pe_int (pa_cons (pv 5) (pa_cons (pe_call G_law_next (hr.mono (by decide)) (by rfl) g_law_next k_law_next b_law_next .nil pass0 (pa_cons (pv 0) (pa_cons pe_int pa_nil))) pa_nil))))) (pa_cons (pe_tup (pa_cons pe_str (pa_cons pe_int pa_nil))) pa_nil))) (pa_cons (pe_lst pa_nil) pa_nil))))))
 pss_nil)
 (pss_cons (ps_set (i := 8) sc.nd rfl (Or.inl rfl) (pe_ix (r := rIx K) ix_seq (pe_lst (pa_cons pe_str (pa_cons pe_str (pa_cons pe_str pa_nil)))) (pe_call G_law_next (hr.mono (by decide)) (by rfl) g_law_next k_law_next b_law_next .nil pass0 (pa_cons (pv 0) (pa_cons pe_int pa_nil))) (fun _ _ => rfl)))
 (pss_cons (ps_set (i := 6) sc.nd rfl (Or.inl rfl) (pe_lst (pa_cons (pe_tup (pa_cons pe_str (pa_cons pe_int (pa_cons (pe_call G_law_number (hr.mono (by decide)) (by rfl) g_law_number k_law_number b_law_number .nil pass0 (pa_cons (pv 0) pa_nil)) pa_nil)))) (pa_cons (pe_tup (pa_cons pe_str (pa_cons pe_int (pa_cons (pe_call G_law_number (hr.mono (by decide)) (by rfl) g_law_number k_law_number b_law_number .nil pass0 (pa_cons (pv 0) pa_nil)) pa_nil)))) (pa_cons (pe_tup (pa_cons (pv 8) (pa_cons pe_int (pa_cons pe_int pa_nil)))) pa_nil)))))
 (pss_one (ps_ret (pe_tup (pa_cons (pe_op (r := rPlus K) op_plus (pv 6) (pe_lst (pa_cons (pe_tup (pa_cons pe_str (pa_cons pe_int pa_nil))) (pa_cons (pe_tup (pa_cons pe_str (pa_cons pe_int (pa_cons pe_int pa_nil)))) (pa_cons (pe_tup (pa_cons pe_str (pa_cons pe_int pa_nil))) pa_nil))))) (pa_cons (pe_lst pa_nil) pa_nil)))))))))))))), ?_⟩
  clear sc nm sco
  try dsimp only [cxOf, Cx.nox, Cx.wish]

  rintro ss g P ⟨ns, i, fs, ms, num, x, rfl, hkn, hks, hfs, hms, hnum, hnmx, q⟩
  show SW K _ _ [.t (penT ns), .t (planT i fs ms), .d (.int num), .d (.str x), .un, .un, .un, .un, .un] g
  have q0 : ∀ (is : List PyData) g', Kno g g' → AllD GItem is → is.length ≤ 100 → P (.d (.tuple [.list is, .list []])) g' := fun is g' h1 h2 h3 => q is [] g' h1 h2 h3 .nil (Nat.zero_le _)
  refine sw_seq ?_
  walk_at "gs"
  intro w w0 w1
  walk_at "gs"
  refine sw_seq ?_
  walk_at "gs"
  refine ifd (fun h1 => ?_) fun h1 => ?_
  · walk_at "gs"
    intro w2 w20 w21
    walk_at "gs"
    refine ⟨_, _, _, _, _, rfl, ⟨w20, w21⟩, hkn, hks, fun is g1 kg hi hl => ?_⟩
    walk_at "gs"
    exact q0 _ _ kg hi (by omega)
  walk_at "gs"
  refine sw_seq ?_
  walk_at "gs"
  refine ifd (fun h2 => ?_) fun h2 => ?_
  · walk_at "gs"
    refine ⟨_, _, _, _, _, rfl, hkn, fun is g1 kg hi hl => ?_⟩
    walk_at "gs"
    exact q0 _ _ kg hi (by omega)
  walk_at "gs"
  refine sw_cut (fun ρ g' => g = g' ∧ ρ = [.t (penT ns), .t (planT i fs ms), .d (.int num), .d (.str x), .d (.int w), .un, .un, .un, .un]) ?_ ?_
  · walk_at "gs"
    refine ifd (fun h3 => ?_) fun h3 => ?_
    · walk_at "gs"
      rintro _ rfl
      walk_at "gs"
      rw [List.length_map]
      refine ifd (fun h4 => ?_) fun h4 => ?_
      · refine sw_seq ?_
        walk_at "gs"
        rintro _ rfl
        walk_at "gs"
        rintro _ rfl
        walk_at "gs"
        rw [List.length_map]
        refine use_next ⟨by omega, by have := hfs.1.2; omega⟩ fun r r0 r1 => ?_
        walk_at "gs"
        refine r2_ix_strs (by omega) (by rw [List.length_map]; omega) fun y hy => ?_
        have hny : NmOk y := hfs.2 y hy
        walk_at "gs"
        refine r2_ix_mem (by omega) (by show w - 5 < 2; omega) fun d hd => ?_
        obtain ⟨es, rfl, he, hl⟩ : ∃ es, d = .list es ∧ AllD GItem es ∧ es.length ≤ 100 := by
          simp only [List.mem_cons, List.not_mem_nil, or_false] at hd
          rcases hd with rfl | rfl
          · refine ⟨_, rfl, ?_, Nat.le_of_ble_eq_true rfl⟩
            walk_at "ai"
          · refine ⟨_, rfl, ?_, Nat.le_of_ble_eq_true rfl⟩
            walk_at "ai"
        walk_at "gs"
        exact q0 _ _ (Kno.refl g) he hl
      · walk_at "gs"
        exact ⟨rfl, rfl⟩
    · walk_at "gs"
      exact ⟨rfl, rfl⟩
  rintro _ _ ⟨rfl, rfl⟩
  refine sw_seq ?_
  walk_at "gs"
  refine ifd (fun h5 => ?_) fun h5 => ?_
  · walk_at "go"
    intro r r0 r1
    walk_at "go"
    intro n
    walk_at "go"
    intro n2
    walk_at "go"
    refine q _ _ _ (Kno.refl g) ?_ (Nat.le_of_ble_eq_true rfl) (AllD.cons ⟨2, rfl, by decide, by decide⟩ AllD.nil) (Nat.le_refl _)
    walk_at "ai"
  walk_at "gs"
  refine sw_seq ?_
  walk_at "gs"
  refine ifd (fun h6 => ?_) fun h6 => ?_
  · walk_at "go"
    intro r r0 r1
    refine r2_ix_mem r0 r1 fun d hd => ?_
    obtain ⟨m, rfl, m0, m1⟩ : ∃ m : Int, d = .int m ∧ 0 ≤ m ∧ m ≤ 90 := by
      simp only [List.mem_cons, List.not_mem_nil, or_false] at hd
      rcases hd with rfl | rfl | rfl | rfl | rfl | rfl | rfl | rfl | rfl | rfl | rfl | rfl <;> exact ⟨_, rfl, by decide, by decide⟩
    walk_at "go"
    refine r2_times_list m0 (by rw [sizeLine_eq]; simp; omega) (by omega) ?_
    have hrl : (List.replicate m.toNat [PyData.tuple [.str "copy", .int 0, .int 0]]).flatten.length ≤ 90 := by
      rw [rep_len]
      simp
      omega
    refine r2_plus_list (by rw [sizeLine_eq]; simp only [List.length_cons, List.length_nil]; omega) ?_
    walk_at "go"
    refine r2_plus_list (by rw [sizeLine_eq, List.length_append]; simp only [List.length_cons, List.length_nil]; omega) ?_
    walk_at "go"
    refine q _ _ _ (Kno.refl g) ?_ ?_ (AllD.cons ⟨m + 1, rfl, by omega, by omega⟩ AllD.nil) (Nat.le_refl _)
    · refine AllD.app (AllD.app ?_ (AllD.rep ?_ _)) ?_
      all_goals walk_at "ai"
    · rw [List.length_append, List.length_append]
      simp only [List.length_cons, List.length_nil]
      omega
  walk_at "gs"
  have hsh : SeqAt.shaped (.list (ms.map .str)) = true := shaped_list (n := 0) (by decide) fun d hd => by
    obtain ⟨z, hz, rfl⟩ := List.mem_map.mp hd
    exact shD_str (hms.2 z hz).2
  refine sw_cut (fun ρ g' => g = g' ∧ ρ = [.t (penT ns), .t (planT i fs ms), .d (.int num), .d (.str x), .d (.int w), .un, .un, .un, .un]) ?_ ?_
  · walk_at "gs"
    refine ifd (fun h7 => ?_) fun h7 => ?_
    · walk_at "gs"
      rintro _ rfl
      walk_at "gs"
      refine r2_ne_nil hsh ?_
      walk_at "gs"
      refine ifb (fun h8 => ?_) fun h8 => ?_
      · have hm0 : 0 < ms.length := by
          cases ms with
          | nil => cases h8
          | cons _ _ => simp
        refine sw_seq ?_
        walk_at "gs"
        rintro _ rfl
        walk_at "gs"
        rintro _ rfl
        walk_at "gs"
        refine use_next ⟨by rw [List.length_map]; omega, by rw [List.length_map]; have := hms.1; omega⟩ fun r r0 r1 => ?_
        walk_at "gs"
        refine r2_ix_strs r0 r1 fun y hy => ?_
        have hny : NmOk y := hms.2 y hy
        walk_at "gs"
        intro r2 r20 r21
        walk_at "gs"
        refine q0 _ _ (Kno.refl g) ?_ (Nat.le_of_ble_eq_true rfl)
        walk_at "ai"
      · walk_at "gs"
        exact ⟨rfl, rfl⟩
    · walk_at "gs"
      exact ⟨rfl, rfl⟩
  rintro _ _ ⟨rfl, rfl⟩
  walk_at "go"
  intro r r0 r1
  refine r2_ix_mem r0 r1 fun d hd => ?_
  obtain ⟨y, rfl, hy1, hy2⟩ : ∃ y : Str, d = .str y ∧ npart y = none ∧ y ≠ "room" := by
    simp only [List.mem_cons, List.not_mem_nil, or_false] at hd
    rcases hd with rfl | rfl | rfl <;> exact ⟨_, rfl, by decide +kernel, by decide +kernel⟩
  walk_at "go"
  intro n
  walk_at "go"
  intro n2
  walk_at "go"
  refine q0 _ _ (Kno.refl g) ?_ (Nat.le_of_ble_eq_true rfl)
  have hy : GItem (.tuple [.str y, .int 0, .int 7]) := gi_none hy1 hy2
  walk_at "ai"

end LK
set_option maxRecDepth 100000
set_option maxHeartbeats 8000000
set_option autoImplicit false
namespace LK
open PySem L2 PyProof.Rows PL
variable [TBs]
local macro_rules | `(tactic| walk_at "nm") => `(tactic| first
  | (with_reducible assumption)
  | exact few_txt (by decide +kernel))
local macro_rules | `(tactic| walk_at "cm") => `(tactic| (unfold CMul; first
  | (left; decide)
  | (right; decide)
  | (left; refine ⟨?_, ?_⟩ <;> omega)
  | (right; refine ⟨?_, ?_⟩ <;> omega)))
local macro_rules | `(tactic| walk_at "sd") => `(tactic| first
  | exact rfl
  | exact Nat.le_of_ble_eq_true rfl
  | (with_reducible assumption)
  | decide
  | omega
  | (simp only [List.length_cons, List.length_nil, List.length_append, List.length_set, List.length_replicate, List.length_map]; omega)
  | (refine ⟨?_, ?_⟩ <;> (first | decide | omega)))
local macro_rules | `(tactic| walk_at "sz") => `(tactic| first
  | decide
  | (rw [sizeLine_eq]; omega)
  | (rw [sizeLine_eq]; simp only [List.length_cons, List.length_nil, List.length_append, List.length_set, List.length_replicate, List.length_map]; omega)
  | (refine ⟨?_, ?_⟩ <;> (first | decide | omega)))
local macro_rules | `(tactic| walk_at "ai") => `(tactic| repeat' (first
  | (with_reducible assumption)
  | (with_reducible exact AllD.nil)
  | (with_reducible refine AllD.cons ?_ ?_)
  | (with_reducible refine AllD.app ?_ ?_)
  | exact gi_room
  | exact gi_none (by decide +kernel) (by decide +kernel)
  | exact gi_one (by decide +kernel) (by decide +kernel) (by walk_at "nm")
  | exact gi_two (by decide +kernel) (by decide +kernel) (by walk_at "nm")))
local macro_rules | `(tactic| walk_at "st") => `(tactic| first
  | (with_reducible refine L2.iteT ?_)
  | (with_reducible refine L2.iteF ?_)
  | (with_reducible refine sw_if ?_)
  | (with_reducible refine cell_scr ?_)
  | (with_reducible refine cell_lst ?_)
  | (with_reducible refine cell_rcd ?_)
  | (with_reducible refine cell_dic ?_)
  | (with_reducible refine sw_setR ?_)
  | (with_reducible refine sw_next ?_)
  | (with_reducible refine sw_retN ?_)
  | (with_reducible refine sw_ret ?_)
  | (with_reducible refine we_op ?_)
  | (with_reducible refine we_int ?_)
  | (with_reducible refine we_str ?_)
  | (with_reducible refine we_bl ?_)
  | (with_reducible refine we_non ?_)
  | (with_reducible refine wa_nil ?_)
  | (with_reducible refine wa_cons ?_)
  | (with_reducible refine we_tup ?_)
  | (with_reducible refine we_lst ?_)
  | (with_reducible refine we_call ?_)
  | (with_reducible refine we_cb ?_)
  | (with_reducible refine we_if ?_)
  | (with_reducible refine we_neg ?_)
  | (with_reducible refine wt_tst ?_)
  | (with_reducible refine wt_and ?_)
  | (with_reducible refine wt_or ?_)
  | (with_reducible refine wt_not ?_)
  | (with_reducible refine wt_yes ?_)
  | (with_reducible refine r2_plus_int ?_)
  | (with_reducible refine r2_sub ?_)
  | (with_reducible refine r2_lt ?_)
  | (with_reducible refine r2_le ?_)
  | (with_reducible refine r2_gt ?_)
  | (with_reducible refine r2_ge ?_)
  | (with_reducible refine r2_eq_int ?_)
  | (with_reducible refine r2_eq_str ?_)
  | (with_reducible refine r2_ne_int ?_)
  | (with_reducible refine r2_ne_str ?_)
  | (with_reducible refine rc_len_list ?_)
  | (with_reducible refine rc_len_tup ?_)
  | (with_reducible refine rc_len_scr ?_)
  | (with_reducible refine rc_min2 ?_)
  | (with_reducible refine rc_max2 ?_)
  | (with_reducible refine rc_int_bool ?_)
  | (with_reducible refine rc_abs ?_)
  | (with_reducible refine wgs_nil ?_)
  | (with_reducible refine use_number ?_)
  | (with_reducible refine we_andV ?_)
  | (with_reducible refine we_orV ?_)
  | (with_reducible refine we_notV ?_)
  | (with_reducible refine we_dget ?_)
  | (with_reducible refine r2_in_strs ?_)
  | (with_reducible refine r2_nin_strs ?_)
  | (with_reducible refine we_index ?_)
  | ((with_reducible apply wg_name); (· walk_at "sd"))
  | ((with_reducible apply wg_tup); (· exact rfl))
  | ((with_reducible apply we_vd); (· exact rfl))
  | ((with_reducible apply we_vt); (· exact rfl))
  | ((with_reducible apply we_vs); (· exact rfl))
  | ((with_reducible apply r2_ix_rcd); (· exact rfl))
  | ((with_reducible apply r2_ix_tpl); (· exact rfl))
  | ((with_reducible apply r2_ix_list); (· exact rfl))
  | ((with_reducible apply r2_ix_tup); (· exact rfl))
  | ((with_reducible refine sw_asg ?_ ?_); (· walk_at "sd"))
  | ((with_reducible refine use_next ?_ ?_); (· walk_at "sd"))
  | ((with_reducible refine sl_w_str ?_ ?_); (· walk_at "sz"))
  | ((with_reducible refine r2_times_int ?_ ?_); (· walk_at "cm"))
  | ((with_reducible refine r2_mod ?_ ?_); (· walk_at "sd"))
  | ((with_reducible refine r2_fdiv ?_ ?_); (· walk_at "sd"))
  | ((with_reducible refine r2_pow ?_ ?_); (· exact ⟨by decide, by decide, by decide⟩))
  | ((with_reducible refine r2_plus_str ?_ ?_); (· walk_at "sd"))
  | ((with_reducible refine r2_plus_list ?_ ?_); (· walk_at "sd"))
  | ((with_reducible refine r2_plus_tup ?_ ?_); (· walk_at "sd"))
  | ((with_reducible refine rc_str_int ?_ ?_); (· walk_at "sd"))
  | ((with_reducible refine rc_len_str ?_ ?_); (· walk_at "sd"))
  | (with_reducible apply sw_asgG)
  | (with_reducible apply wgs_cons)
  | (with_reducible refine we_slice ?_)
  | (with_reducible refine wo_none ?_)
  | (with_reducible refine wo_some ?_)
  | (with_reducible refine sl_w_list ?_)
  | (with_reducible refine sl_w_tup ?_)
  | (with_reducible refine rc_tuple_list ?_)
  | (with_reducible refine wi_range1 ?_)
  | (with_reducible refine wi_range2 ?_)
  | (with_reducible refine wi_list ?_)
  | (with_reducible refine wi_tup ?_)
  | ((with_reducible apply Exists.intro); (with_reducible apply And.intro); (· exact rfl); (with_reducible apply And.intro); (· walk_at "sz"))
  | ((with_reducible apply Exists.intro); (with_reducible apply Exists.intro); (with_reducible apply And.intro); (· exact rfl); (with_reducible apply And.intro); (· exact rfl); (with_reducible apply Exists.intro); (with_reducible apply Exists.intro); (with_reducible apply And.intro); (· exact rfl); (with_reducible apply And.intro); (· exact rfl); (with_reducible apply And.intro))
  | ((with_reducible apply Exists.intro); (with_reducible apply And.intro); (· exact rfl))
  | fail)
local macro_rules | `(tactic| walk_at "gs") => `(tactic| repeat' (walk_at "st"))
local macro_rules | `(tactic| walk_at "go") => `(tactic| repeat' (first | (with_reducible refine sw_seq ?_) | walk_at "st"))
local macro_rules | `(tactic| walk_at "os") => `(tactic| repeat' (first
  | ((with_reducible apply sw_append); (· exact rfl))
  | ((with_reducible apply sw_ret_own); (· exact rfl))
  | ((with_reducible apply sw_catOwn); (· exact rfl))
  | ((with_reducible apply we_len_own); (· exact rfl))
  | ((with_reducible apply we_nin_own); (· exact rfl))
  | ((with_reducible apply we_ix_own); (· exact rfl))
  | ((with_reducible apply we_ne_own); (· exact rfl); (· with_reducible assumption))
  | ((with_reducible refine sw_own ?_ ?_); (· walk_at "sd"))
  | walk_at "st"))
local macro_rules | `(tactic| walk_at "og") => `(tactic| repeat' (first
  | (with_reducible refine sw_seq ?_)
  | ((with_reducible apply sw_append); (· exact rfl))
  | ((with_reducible apply sw_ret_own); (· exact rfl))
  | ((with_reducible apply sw_catOwn); (· exact rfl))
  | ((with_reducible apply we_len_own); (· exact rfl))
  | ((with_reducible apply we_nin_own); (· exact rfl))
  | ((with_reducible apply we_ix_own); (· exact rfl))
  | ((with_reducible apply we_ne_own); (· exact rfl); (· with_reducible assumption))
  | ((with_reducible refine sw_own ?_ ?_); (· walk_at "sd"))
  | walk_at "st"))

abbrev s_law_code : Stmt := topS 17
theorem sc_law_code : FnScope ["_law_pen", "_law_plan", "_law_number_of", "_law_prefix", "_law_items", "_law_labels", "_law_k", "_law_label", "_law_more", "_law_at", "_law_name", "_law_spot", "_law_last"] ["_law_pen", "_law_plan", "_law_number_of", "_law_prefix"] (defScope s_law_code) := ⟨rfl, rfl, rfl, by decide +kernel, rfl, by decide +kernel, by decide +kernel⟩

def f_law_code : FS := fun ss g P => ∃ (ns : List Int) (i : Nat) (fs ms : List Str) (num : Int) (x : Str), ss = [.t (penT ns), .t (planT i fs ms), .d (.int num), .d (.str x)] ∧ g.kn i < 64 ∧ (∃ s, s ∈ g.ks i) ∧ IsFs fs ∧ IsMs ms ∧ 0 ≤ num ∧ Txt 30 x ∧ (∃ h : Nat, h ≤ 800 ∧ x = "l" ++ toString (h : Int)) ∧
  ∀ (is ls : List PyData) g', Kno g g' → AllD GItem is → is.length ≤ 180 → AllD IsLabs ls → ls.length ≤ 4 → P (.d (.tuple [.list is, .list ls])) g'
theorem len_law_code : ∀ ss g P, f_law_code ss g P → ss.length = ["_law_pen", "_law_plan", "_law_number_of", "_law_prefix"].length := by
  rintro ss g P ⟨_, _, _, _, _, _, rfl, _⟩
  rfl

theorem ok_law_code {P : Program} {w : World} {K : PySem.W.Frag} {mg : Str → Option Value} {base : Heap} (S : Std K mg "_law_code" s_law_code ["_law_pen", "_law_plan", "_law_number_of", "_law_prefix"]) (C_law_next : Cal P w K mg base 2 "_law_next" ["_law_pen", "_law_many"] f_law_next) (C_law_snippet : Cal P w K mg base 5 "_law_snippet" ["_law_pen", "_law_plan", "_law_number_of", "_law_label"] f_law_snippet) (z_range : mg "range" = none) (z_str : mg "str" = none) (z_len : mg "len" = none) (z_int : mg "int" = none) : Cal P w K mg base 6 "_law_code" ["_law_pen", "_law_plan", "_law_number_of", "_law_prefix"] f_law_code := by
  obtain ⟨a_law_next, fd_law_next, G_law_next, g_law_next, k_law_next, b_law_next⟩ := C_law_next
  obtain ⟨a_law_snippet, fd_law_snippet, G_law_snippet, g_law_snippet, k_law_snippet, b_law_snippet⟩ := C_law_snippet
  refine cal_of S sc_law_code (by decide) (len_law_code) fun a cdv A outer s H vs Q E hr => ?_
  have sc := sc_law_code
  let nm : List Str := ["_law_pen", "_law_plan", "_law_number_of", "_law_prefix", "_law_items", "_law_labels", "_law_k", "_law_label", "_law_more", "_law_at", "_law_name", "_law_spot", "_law_last"]
  let sco := defScope s_law_code
  refine ⟨_, (pss_cons (ps_asg (pe_tup (pa_cons (pe_lst pa_nil) (pa_cons (pe_lst pa_nil) pa_nil))) (show PG _ _ (gTup K 2 _) from pg_tup (by rfl) (pgs_cons (pg_name (i := 4) sc.nd rfl (Or.inr rfl)) (pgs_cons (pg_name (i := 5) sc.nd rfl (Or.inl rfl)) pgs_nil))))
 (pss_cons (ps_for PassesOwn.never rfl (pi_range1 (by rfl) z_range (pa_cons (pe_call G_law_next (hr.mono (by decide)) (by rfl) g_law_next k_law_next b_law_next .nil pass0 (pa_cons (pv 0) (pa_cons pe_int pa_nil))) pa_nil)) (pg_name (i := 6) sc.nd rfl (Or.inl rfl))
 (pss_cons (ps_set (i := 7) sc.nd rfl (Or.inl rfl) (pe_op (r := rPlus K) op_plus (pe_op (r := rPlus K) op_plus (pv 3) pe_str) (pe_callTy call_str_int (by rfl) z_str (by decide +kernel) (pa_cons (pv 6) pa_nil))))
 (pss_cons (ps_asg (pe_call G_law_snippet (hr.mono (by decide)) (by rfl) g_law_snippet k_law_snippet b_law_snippet .nil pass0 (pa_cons (pv 0) (pa_cons (pv 1) (pa_cons (pv 2) (pa_cons (pv 7) pa_nil))))) (show PG _ _ (gTup K 2 _) from pg_tup (by rfl) (pgs_cons (pg_name (i := 8) sc.nd rfl (Or.inl rfl)) (pgs_cons (pg_name (i := 9) sc.nd rfl (Or.inl rfl)) pgs_nil))))
 (pss_one (ps_if (pt_cmpR op_lt (pe_op (r := rPlus K) op_plus (pe_callB (r := rLenK K) call_len (by rfl) z_len (by decide +kernel) (pa_cons (pv 4) pa_nil)) (pe_callB (r := rLenK K) call_len (by rfl) z_len (by decide +kernel) (pa_cons (pv 8) pa_nil))) pe_int (nomark _))
 (pss_cons (ps_set (i := 5) sc.nd rfl (Or.inl rfl) (pe_op (r := rPlus K) op_plus (pv 5) (pe_lc (own := [("_law_name", 10), ("_law_spot", 11)]) (g := (gTup K 2 (gCons (gName 10) (gCons (gName 11) gNil)))) (by rfl) sc.nd (pi_list (pv 9)) (blkOk_by (own := [("_law_name", 10), ("_law_spot", 11)]) (N := nm) (sc := sco) (by decide +kernel)) (fun _ _ _ _ _ => (show PG _ _ (gTup K 2 _) from pg_tup (by rfl) (pgs_cons (pg_name (i := 10) sc.nd rfl (Or.inl rfl)) (pgs_cons (pg_name (i := 11) sc.nd rfl (Or.inl rfl)) pgs_nil)))) (fun _ _ _ _ _ => pts_nil) (fun _ _ _ _ _ => (pe_tup (pa_cons (pv 10) (pa_cons (pe_op (r := rPlus K) op_plus (pe_callB (r := rLenK K) call_len (by rfl) z_len (by decide +kernel) (pa_cons (pv 4) pa_nil)) (pv 11)) pa_nil)))))))
 (pss_one (ps_set (i := 4) sc.nd rfl (Or.inr rfl) (pe_op (r := rPlus K) op_plus (pv 4) (pv 8)))))
 pss_nil)))))
 (pss_cons (ps_set (i := 12) sc.nd rfl (Or.inl rfl) (pe_ix (r := rIx K) ix_seq (pe_lst (pa_cons (pe_tup (pa_cons pe_str pa_nil)) (pa_cons (pe_tup (pa_cons pe_str pa_nil)) pa_nil))) (pe_callTy call_int1 (by rfl) z_int (by decide +kernel) (pa_cons (pe_cmpR (r := rEqu K) (op_equ (room64 hr)) (pv 2) pe_int (nomark _)) pa_nil)) (fun _ _ => rfl)))
 (pss_one (ps_ret (pe_tup (pa_cons (pe_op (r := rPlus K) op_plus (pv 4) (pe_lst (pa_cons (pv 12) pa_nil))) (pa_cons (pv 5) pa_nil)))))))), ?_⟩
  clear sc nm sco
  try dsimp only [cxOf, Cx.nox, Cx.wish]

  rintro ss g P ⟨ns, i, fs, ms, num, x, rfl, hkn, hks, hfs, hms, hnum, hx, hx2, q⟩
  show SW K _ _ [.t (penT ns), .t (planT i fs ms), .d (.int num), .d (.str x), .un, .un, .un, .un, .un, .un, .un, .un, .un] g
  refine sw_seq ?_
  walk_at "gs"
  refine sw_seq ?_
  refine sw_for (is := [6]) ?_
  walk_at "gs"
  intro r r0 r1
  walk_at "gs"
  refine ⟨fun k ρ g' => Kno g g' ∧ ∃ (is ls : List PyData) (s6 s7 s8 s9 s10 s11 s12 : Sl), ρ = [.t (penT ns), .t (planT i fs ms), .d (.int num), .d (.str x), .d (.list is), .d (.list ls), s6, s7, s8, s9, s10, s11, s12] ∧ AllD GItem is ∧ is.length ≤ 179 ∧ AllD IsLabs ls ∧ ls.length ≤ k, ?_, ?_, ?_⟩
  · exact ⟨Kno.refl g, [], [], _, _, _, _, _, _, _, rfl, .nil, Nat.zero_le _, .nil, Nat.zero_le _⟩
  · rintro k _ g1 hk ⟨kg, is, ls, s6, s7, s8, s9, s10, s11, s12, rfl, hi, hil, hl, hll⟩
    have hk4 : k < 4 := by omega
    have hd := txt_dig k (by omega)
    have h1 : Txt 1 "x" := ⟨by decide +kernel, by decide +kernel⟩
    walk_at "gs"
    refine sw_seq ?_
    walk_at "gs"
    refine r2_plus_str (by rw [sizeLine_eq]; have := hx.1; have := h1.1; omega) ?_
    walk_at "gs"
    refine rc_str_int (log_small (by omega) (by omega)) ?_
    have hxx := hx.app h1
    refine r2_plus_str (by rw [sizeLine_eq]; have := hxx.1; have := hd.1; omega) ?_
    have hlab := hxx.app hd
    have hnm : NmOk (x ++ "x" ++ toString (k : Int)) := by
      obtain ⟨h, hh, rfl⟩ := hx2
      exact lab_txt hh hk4 hlab (by decide)
    generalize x ++ "x" ++ toString (k : Int) = lab at hlab hnm
    walk_at "gs"
    refine sw_seq ?_
    walk_at "gs"
    refine ⟨_, _, _, _, _, _, rfl, ?_, ?_, hfs, hms, hnum, hnm, fun more at_ g2 kg2 hm hml ha hal => ?_⟩
    · rw [kg.kn]
      exact hkn
    · obtain ⟨s, hs⟩ := hks
      exact ⟨s, kg.ks _ _ hs⟩
    walk_at "gs"
    refine ifd (fun h2 => ?_) fun h2 => ?_
    · walk_at "go"
      refine we_lc (is := [10] ++ ([11] ++ [])) (by simp) (by simp) ?_
      walk_at "go"
      refine ⟨fun j acc g' => g2 = g' ∧ AllD IsLabs acc, ⟨rfl, .nil⟩, ?_, ?_⟩
      · rintro j acc _ hj la ⟨rfl, hacc⟩ _
        obtain ⟨n, hn, n0, n1⟩ := ha _ (List.getElem_mem hj)
        rw [nth_get (d := .tuple [.str lab, .int n]) (by rw [List.getElem?_eq_getElem hj, hn])]
        walk_at "go"
        exact ⟨Gh.le_refl _, rfl, hacc.snoc ⟨lab, _, rfl, hlab.mono (by decide), by omega, by omega⟩⟩
      · rintro acc _ la ⟨rfl, hacc⟩
        refine r2_plus_list (by rw [sizeLine_eq]; omega) ?_
        walk_at "go"
        refine r2_plus_list (by rw [sizeLine_eq]; omega) ?_
        walk_at "go"
        exact ⟨kg.trans kg2, _, _, _, _, _, _, _, _, _, rfl, hi.app hm, by rw [List.length_append]; omega, hl.app hacc, by rw [List.length_append]; omega⟩
    · walk_at "go"
      exact ⟨kg.trans kg2, _, _, _, _, _, _, _, _, _, rfl, hi, hil, hl, by omega⟩
  · rintro _ g1 ⟨kg, is, ls, s6, s7, s8, s9, s10, s11, s12, rfl, hi, hil, hl, hll⟩
    walk_at "go"
    have gb : AllD GItem [.tuple [.str "back"]] := by walk_at "ai"
    have gh : AllD GItem [.tuple [.str "halt"]] := by walk_at "ai"
    refine r2_ix_b (fun _ => ?_) fun _ => ?_
    · walk_at "go"
      refine r2_plus_list (by rw [sizeLine_eq]; simp only [List.length_cons, List.length_nil]; omega) ?_
      walk_at "go"
      exact q _ _ _ kg (hi.app gb) (by rw [List.length_append]; simp only [List.length_cons, List.length_nil]; omega) hl (by omega)
    · walk_at "go"
      refine r2_plus_list (by rw [sizeLine_eq]; simp only [List.length_cons, List.length_nil]; omega) ?_
      walk_at "go"
      exact q _ _ _ kg (hi.app gh) (by rw [List.length_append]; simp only [List.length_cons, List.length_nil]; omega) hl (by omega)

end LK
set_option maxRecDepth 100000
set_option maxHeartbeats 8000000
set_option autoImplicit false
namespace LK
open PySem L2 PyProof.Rows PL
variable [TBs]
local macro_rules | `(tactic| walk_at "nm") => `(tactic| first
  | (with_reducible assumption)
  | exact few_txt (by decide +kernel))
local macro_rules | `(tactic| walk_at "cm") => `(tactic| (unfold CMul; first
  | (left; decide)
  | (right; decide)
  | (left; refine ⟨?_, ?_⟩ <;> omega)
  | (right; refine ⟨?_, ?_⟩ <;> omega)))
local macro_rules | `(tactic| walk_at "sd") => `(tactic| first
  | exact rfl
  | exact Nat.le_of_ble_eq_true rfl
  | (with_reducible assumption)
  | decide
  | omega
  | (simp only [List.length_cons, List.length_nil, List.length_append, List.length_set, List.length_replicate, List.length_map]; omega)
  | (refine ⟨?_, ?_⟩ <;> (first | decide | omega)))
local macro_rules | `(tactic| walk_at "sz") => `(tactic| first
  | decide
  | (rw [sizeLine_eq]; omega)
  | (rw [sizeLine_eq]; simp only [List.length_cons, List.length_nil, List.length_append, List.length_set, List.length_replicate, List.length_map]; omega)
  | (refine ⟨?_, ?_⟩ <;> (first | decide | omega)))
local macro_rules | `(tactic| walk_at "ai") => `(tactic| repeat' (first
  | (with_reducible assumption)
  | (with_reducible exact AllD.nil)
  | (with_reducible refine AllD.cons ?_ ?_)
  | (with_reducible refine AllD.app ?_ ?_)
  | exact gi_room
  | exact gi_none (by decide +kernel) (by decide +kernel)
  | exact gi_one (by decide +kernel) (by decide +kernel) (by walk_at "nm")
  | exact gi_two (by decide +kernel) (by decide +kernel) (by walk_at "nm")))
local macro_rules | `(tactic| walk_at "st") => `(tactic| first
  | (with_reducible refine L2.iteT ?_)
  | (with_reducible refine L2.iteF ?_)
  | (with_reducible refine sw_if ?_)
  | (with_reducible refine cell_scr ?_)
  | (with_reducible refine cell_lst ?_)
  | (with_reducible refine cell_rcd ?_)
  | (with_reducible refine cell_dic ?_)
  | (with_reducible refine sw_setR ?_)
  | (with_reducible refine sw_next ?_)
  | (with_reducible refine sw_retN ?_)
  | (with_reducible refine sw_ret ?_)
  | (with_reducible refine we_op ?_)
  | (with_reducible refine we_int ?_)
  | (with_reducible refine we_str ?_)
  | (with_reducible refine we_bl ?_)
  | (with_reducible refine we_non ?_)
  | (with_reducible refine wa_nil ?_)
  | (with_reducible refine wa_cons ?_)
  | (with_reducible refine we_tup ?_)
  | (with_reducible refine we_lst ?_)
  | (with_reducible refine we_call ?_)
  | (with_reducible refine we_cb ?_)
  | (with_reducible refine we_if ?_)
  | (with_reducible refine we_neg ?_)
  | (with_reducible refine wt_tst ?_)
  | (with_reducible refine wt_and ?_)
  | (with_reducible refine wt_or ?_)
  | (with_reducible refine wt_not ?_)
  | (with_reducible refine wt_yes ?_)
  | (with_reducible refine r2_plus_int ?_)
  | (with_reducible refine r2_sub ?_)
  | (with_reducible refine r2_lt ?_)
  | (with_reducible refine r2_le ?_)
  | (with_reducible refine r2_gt ?_)
  | (with_reducible refine r2_ge ?_)
  | (with_reducible refine r2_eq_int ?_)
  | (with_reducible refine r2_eq_str ?_)
  | (with_reducible refine r2_ne_int ?_)
  | (with_reducible refine r2_ne_str ?_)
  | (with_reducible refine rc_len_list ?_)
  | (with_reducible refine rc_len_tup ?_)
  | (with_reducible refine rc_len_scr ?_)
  | (with_reducible refine rc_min2 ?_)
  | (with_reducible refine rc_max2 ?_)
  | (with_reducible refine rc_int_bool ?_)
  | (with_reducible refine rc_abs ?_)
  | (with_reducible refine wgs_nil ?_)
  | (with_reducible refine use_number ?_)
  | (with_reducible refine we_andV ?_)
  | (with_reducible refine we_orV ?_)
  | (with_reducible refine we_notV ?_)
  | (with_reducible refine we_dget ?_)
  | (with_reducible refine r2_in_strs ?_)
  | (with_reducible refine r2_nin_strs ?_)
  | (with_reducible refine we_index ?_)
  | ((with_reducible apply wg_name); (· walk_at "sd"))
  | ((with_reducible apply wg_tup); (· exact rfl))
  | ((with_reducible apply we_vd); (· exact rfl))
  | ((with_reducible apply we_vt); (· exact rfl))
  | ((with_reducible apply we_vs); (· exact rfl))
  | ((with_reducible apply r2_ix_rcd); (· exact rfl))
  | ((with_reducible apply r2_ix_tpl); (· exact rfl))
  | ((with_reducible apply r2_ix_list); (· exact rfl))
  | ((with_reducible apply r2_ix_tup); (· exact rfl))
  | ((with_reducible refine sw_asg ?_ ?_); (· walk_at "sd"))
  | ((with_reducible refine use_next ?_ ?_); (· walk_at "sd"))
  | ((with_reducible refine sl_w_str ?_ ?_); (· walk_at "sz"))
  | ((with_reducible refine r2_times_int ?_ ?_); (· walk_at "cm"))
  | ((with_reducible refine r2_mod ?_ ?_); (· walk_at "sd"))
  | ((with_reducible refine r2_fdiv ?_ ?_); (· walk_at "sd"))
  | ((with_reducible refine r2_pow ?_ ?_); (· exact ⟨by decide, by decide, by decide⟩))
  | ((with_reducible refine r2_plus_str ?_ ?_); (· walk_at "sd"))
  | ((with_reducible refine r2_plus_list ?_ ?_); (· walk_at "sd"))
  | ((with_reducible refine r2_plus_tup ?_ ?_); (· walk_at "sd"))
  | ((with_reducible refine rc_str_int ?_ ?_); (· walk_at "sd"))
  | ((with_reducible refine rc_len_str ?_ ?_); (· walk_at "sd"))
  | (with_reducible apply sw_asgG)
  | (with_reducible apply wgs_cons)
  | (with_reducible refine we_slice ?_)
  | (with_reducible refine wo_none ?_)
  | (with_reducible refine wo_some ?_)
  | (with_reducible refine sl_w_list ?_)
  | (with_reducible refine sl_w_tup ?_)
  | (with_reducible refine rc_tuple_list ?_)
  | (with_reducible refine wi_range1 ?_)
  | (with_reducible refine wi_range2 ?_)
  | (with_reducible refine wi_list ?_)
  | (with_reducible refine wi_tup ?_)
  | ((with_reducible apply Exists.intro); (with_reducible apply And.intro); (· exact rfl); (with_reducible apply And.intro); (· walk_at "sz"))
  | ((with_reducible apply Exists.intro); (with_reducible apply Exists.intro); (with_reducible apply And.intro); (· exact rfl); (with_reducible apply And.intro); (· exact rfl); (with_reducible apply Exists.intro); (with_reducible apply Exists.intro); (with_reducible apply And.intro); (· exact rfl); (with_reducible apply And.intro); (· exact rfl); (with_reducible apply And.intro))
  | ((with_reducible apply Exists.intro); (with_reducible apply And.intro); (· exact rfl))
  | fail)
local macro_rules | `(tactic| walk_at "gs") => `(tactic| repeat' (walk_at "st"))
local macro_rules | `(tactic| walk_at "go") => `(tactic| repeat' (first | (with_reducible refine sw_seq ?_) | walk_at "st"))
local macro_rules | `(tactic| walk_at "os") => `(tactic| repeat' (first
  | ((with_reducible apply sw_append); (· exact rfl))
  | ((with_reducible apply sw_ret_own); (· exact rfl))
  | ((with_reducible apply sw_catOwn); (· exact rfl))
  | ((with_reducible apply we_len_own); (· exact rfl))
  | ((with_reducible apply we_nin_own); (· exact rfl))
  | ((with_reducible apply we_ix_own); (· exact rfl))
  | ((with_reducible apply we_ne_own); (· exact rfl); (· with_reducible assumption))
  | ((with_reducible refine sw_own ?_ ?_); (· walk_at "sd"))
  | walk_at "st"))
local macro_rules | `(tactic| walk_at "og") => `(tactic| repeat' (first
  | (with_reducible refine sw_seq ?_)
  | ((with_reducible apply sw_append); (· exact rfl))
  | ((with_reducible apply sw_ret_own); (· exact rfl))
  | ((with_reducible apply sw_catOwn); (· exact rfl))
  | ((with_reducible apply we_len_own); (· exact rfl))
  | ((with_reducible apply we_nin_own); (· exact rfl))
  | ((with_reducible apply we_ix_own); (· exact rfl))
  | ((with_reducible apply we_ne_own); (· exact rfl); (· with_reducible assumption))
  | ((with_reducible refine sw_own ?_ ?_); (· walk_at "sd"))
  | walk_at "st"))

abbrev s_law_put : Stmt := topS 18
theorem sc_law_put : FnScope ["_law_pen", "_law_part", "_law_kind", "_law_items", "_law_symbols", "_law_places", "_law_k", "_law_old", "_law_unit", "_law_at", "_law_row", "_law_ahead", "_law_one", "_law_name", "_law_binding", "_law_spot"] ["_law_pen", "_law_part", "_law_kind", "_law_items", "_law_symbols"] (defScope s_law_put) := ⟨rfl, rfl, rfl, by decide +kernel, rfl, by decide +kernel, by decide +kernel⟩

def f_law_put : FS := fun ss g P => ∃ (ns : List Int) (i j : Nat) (kind : Str) (items syms : List PyData), ss = [.t (penT ns), .t (.rcd (partF i j)), .d (.str kind), .d (.list items), .d (.list syms)] ∧ IsKind (.str kind) ∧ AllD GItem items ∧ items.length ≤ 200 ∧ AllD IsSym3 syms ∧ syms.length ≤ 20 ∧ g.ub ≤ 20000 ∧
  ∀ g', Grw (items.length + syms.length + 2) g g' → P (.d .none) g'
theorem len_law_put : ∀ ss g P, f_law_put ss g P → ss.length = ["_law_pen", "_law_part", "_law_kind", "_law_items", "_law_symbols"].length := by
  rintro ss g P ⟨_, _, _, _, _, _, rfl, _⟩
  rfl

theorem ok_law_put {P : Program} {w : World} {K : PySem.W.Frag} {mg : Str → Option Value} {base : Heap} (S : Std K mg "_law_put" s_law_put ["_law_pen", "_law_part", "_law_kind", "_law_items", "_law_symbols"]) (C_law_next : Cal P w K mg base 2 "_law_next" ["_law_pen", "_law_many"] f_law_next) (z_range : mg "range" = none) (z_len : mg "len" = none) (z_int : mg "int" = none) (z_sum : mg "sum" = none) : Cal P w K mg base 7 "_law_put" ["_law_pen", "_law_part", "_law_kind", "_law_items", "_law_symbols"] f_law_put := by
  obtain ⟨a_law_next, fd_law_next, G_law_next, g_law_next, k_law_next, b_law_next⟩ := C_law_next
  refine cal_of S sc_law_put (by decide) (len_law_put) fun a cdv A outer s H vs Q E hr => ?_
  have sc := sc_law_put
  let nm : List Str := ["_law_pen", "_law_part", "_law_kind", "_law_items", "_law_symbols", "_law_places", "_law_k", "_law_old", "_law_unit", "_law_at", "_law_row", "_law_ahead", "_law_one", "_law_name", "_law_binding", "_law_spot"]
  let sco := defScope s_law_put
  refine ⟨_, (pss_cons (ps_setLc (i := 5) (own := [("_law_k", 6)]) (g := (gName 6)) (by rfl) sc.nd rfl rfl (sw_true rfl rfl rfl (by decide +kernel)) (pi_range1 (by rfl) z_range (pa_cons (pe_callB (r := rLenK K) call_len (by rfl) z_len (by decide +kernel) (pa_cons (pe_ix (r := rIx K) ix_seq (pv 1) pe_int (fun _ _ => rfl)) pa_nil)) pa_nil)) (blkOk_by (own := [("_law_k", 6)]) (N := nm) (sc := sco) (by decide +kernel)) (fun _ _ _ _ _ => pg_name (i := 6) sc.nd rfl (Or.inl rfl)) (fun _ _ _ _ _ => pts_one (pt_cmpR (r := rEqu K) (op_equ (room64 hr)) (pe_ix (r := rIx K) ix_seq (pe_ix (r := rIx K) ix_seq (pe_ix (r := rIx K) ix_seq (pv 1) pe_int (fun _ _ => rfl)) (pv 6) (fun _ _ => rfl)) pe_int (fun _ _ => rfl)) (pv 2) (nomark _))) (fun _ _ _ _ _ => (pv 6)))
 (pss_cons (ps_set (i := 7) sc.nd rfl (Or.inl rfl) (pe_and (pe_cmpR (r := rNeq K) (op_neq (room64 hr)) (pv 5) (pe_lst pa_nil) (nomark _)) (pe_one (pe_cmpR (r := rEqu K) (op_equ (room64 hr)) (pe_call G_law_next (hr.mono (by decide)) (by rfl) g_law_next k_law_next b_law_next .nil pass0 (pa_cons (pv 0) (pa_cons pe_int pa_nil))) pe_int (nomark _)))))
 (pss_cons (ps_set (i := 7) sc.nd rfl (Or.inl rfl) (pe_and (pv 7) (pe_one (pe_cmpR op_le (pe_op (r := rPlus K) op_plus (pe_callB (r := rLenK K) call_len (by rfl) z_len (by decide +kernel) (pa_cons (pe_ix (r := rIx K) ix_seq (pe_ix (r := rIx K) ix_seq (pe_ix (r := rIx K) ix_seq (pv 1) pe_int (fun _ _ => rfl)) (pe_ix (r := rIx K) ix_seq (pv 5) (pe_un un_neg pe_int) (fun _ _ => rfl)) (fun _ _ => rfl)) pe_int (fun _ _ => rfl)) pa_nil)) (pe_callB (r := rLenK K) call_len (by rfl) z_len (by decide +kernel) (pa_cons (pv 3) pa_nil))) pe_int (nomark _)))))
 (pss_cons (ps_if (PW.pt (pw_and (pt_not (show PT _ _ (tTru K _) from pt_truth (pv 7) (by intro _; rfl))) (pw_and1 (pt_not (PW.pt (pw_and (pt_cmpR (r := rEqu K) (op_equ (room64 hr)) (pv 2) pe_str (nomark _)) (pw_and1 (pt_cmpR op_gt (pe_callB (r := rLenK K) call_len (by rfl) z_len (by decide +kernel) (pa_cons (pv 5) pa_nil)) pe_int (nomark _)))))))))
 (pss_cons (ps_set (i := 8) sc.nd rfl (Or.inl rfl) (pe_ix (r := rIx K) ix_seq (pe_lst (pa_cons pe_int (pa_cons (pe_ix (r := rIx K) ix_seq (pe_lst (pa_cons pe_int (pa_cons pe_int (pa_cons pe_int (pa_cons pe_int pa_nil))))) (pe_call G_law_next (hr.mono (by decide)) (by rfl) g_law_next k_law_next b_law_next .nil pass0 (pa_cons (pv 0) (pa_cons pe_int pa_nil))) (fun _ _ => rfl)) pa_nil))) (pe_callTy call_int1 (by rfl) z_int (by decide +kernel) (pa_cons (pe_cmpR (r := rEqu K) (op_equ (room64 hr)) (pv 2) pe_str (nomark _)) pa_nil)) (fun _ _ => rfl)))
 (pss_cons (ps_expr (pe_bm PySem.F.plainAttrs_list PySem.F.slot_list_append PySem.F.type_list_append mt_append (pe_ix (r := rIx K) ix_seq (pv 1) pe_int (fun _ _ => rfl)) (pa_cons (pe_lst (pa_cons (pv 2) (pa_cons (pv 8) (pa_cons (pe_lst pa_nil) pa_nil)))) pa_nil)))
 (pss_one (ps_expr (pe_bm PySem.F.plainAttrs_list PySem.F.slot_list_append PySem.F.type_list_append mt_append (pv 5) (pa_cons (pe_op op_sub (pe_callB (r := rLenK K) call_len (by rfl) z_len (by decide +kernel) (pa_cons (pe_ix (r := rIx K) ix_seq (pv 1) pe_int (fun _ _ => rfl)) pa_nil)) pe_int) pa_nil))))))
 pss_nil)
 (pss_cons (ps_set (i := 9) sc.nd rfl (Or.inl rfl) (pe_ix (r := rIx K) ix_seq (pv 5) (pe_un un_neg pe_int) (fun _ _ => rfl)))
 (pss_cons (ps_set (i := 10) sc.nd rfl (Or.inl rfl) (pe_ix (r := rIx K) ix_seq (pe_ix (r := rIx K) ix_seq (pv 1) pe_int (fun _ _ => rfl)) (pv 9) (fun _ _ => rfl)))
 (pss_cons (ps_set (i := 11) sc.nd rfl (Or.inl rfl) (pe_callB (r := rSum K) (cr_sum rfl) (by rfl) z_sum (by decide +kernel) (pa_cons (pe_lc (own := [("_law_one", 12)]) (g := (gName 12)) (by rfl) sc.nd (pi_list (pe_ix (r := rIx K) ix_seq (pv 10) pe_int (fun _ _ => rfl))) (blkOk_by (own := [("_law_one", 12)]) (N := nm) (sc := sco) (by decide +kernel)) (fun _ _ _ _ _ => pg_name (i := 12) sc.nd rfl (Or.inl rfl)) (fun _ _ _ _ _ => pts_nil) (fun _ _ _ _ _ => (pe_ix (r := rIx K) ix_seq (pe_lst (pa_cons pe_int (pa_cons (pe_ix (r := rIx K) ix_seq (pv 12) (pe_un un_neg pe_int) (fun _ _ => rfl)) pa_nil))) (pe_callTy call_int1 (by rfl) z_int (by decide +kernel) (pa_cons (pe_cmpR (r := rEqu K) (op_equ (room64 hr)) (pe_ix (r := rIx K) ix_seq (pv 12) pe_int (fun _ _ => rfl)) pe_str (nomark _)) pa_nil)) (fun _ _ => rfl)))) pa_nil)))
 (pss_cons (ps_for PassesOwn.never rfl (pi_list (pv 4)) (show PG _ _ (gTup K 3 _) from pg_tup (by rfl) (pgs_cons (pg_name (i := 13) sc.nd rfl (Or.inl rfl)) (pgs_cons (pg_name (i := 14) sc.nd rfl (Or.inl rfl)) (pgs_cons (pg_name (i := 15) sc.nd rfl (Or.inl rfl)) pgs_nil))))
 (pss_one (ps_expr (pe_bm PySem.F.plainAttrs_list PySem.F.slot_list_append PySem.F.type_list_append mt_append (pe_ix (r := rIx K) ix_seq (pv 1) pe_int (fun _ _ => rfl)) (pa_cons (pe_tup (pa_cons (pv 13) (pa_cons (pv 14) (pa_cons (pe_tup (pa_cons (pv 9) (pa_cons (pe_op (r := rPlus K) op_plus (pv 11) (pv 15)) pa_nil))) pa_nil)))) pa_nil)))))
 (pss_one (ps_asg (pe_op (r := rPlus K) op_plus (pe_ix (r := rIx K) ix_seq (pv 10) pe_int (fun _ _ => rfl)) (pv 3)) (pg_sub (pv 10) pe_int set_list))))))))))), ?_⟩
  clear sc nm sco
  try dsimp only [cxOf, Cx.nox, Cx.wish]

  rintro ss g P ⟨ns, i, j, kind, items, syms, rfl, hkind, hi, hil, hsy, hsl, hub, q⟩
  show SW K _ _ [.t (penT ns), .t (.rcd (partF i j)), .d (.str kind), .d (.list items), .d (.list syms), .un, .un, .un, .un, .un, .un, .un, .un, .un, .un, .un] g
  refine sw_seq ?_
  refine sw_lcOwn (is := [6]) (by show 5 < 16; decide) (by simp) (by simp) ?_
  walk_at "gs"
  refine rc_len_lst fun n n0 n1 => ?_
  walk_at "gs"
  have hnn : (n : Int).toNat = n := Int.toNat_natCast n
  rw [hnn]
  refine ⟨by rw [sizeLine_eq]; omega, fun k acc g' => g' = g.len i n ∧ AllD (IsPl n) acc, ⟨rfl, .nil⟩, ?_, ?_⟩
  · rintro k acc _ hk la ⟨rfl, ha⟩ _
    walk_at "gs"
    refine r2_ix_lst (by omega) (by rw [lb_len]; omega) ?_
    walk_at "gs"
    intro kd hkd
    obtain ⟨kx, rfl⟩ : ∃ kx : Str, kd = .str kx := by
      rcases hkd with rfl | rfl <;> exact ⟨_, rfl⟩
    walk_at "gs"
    refine ifb (fun hb => ?_) fun hb => ?_
    · walk_at "gs"
      exact ⟨Gh.le_refl _, rfl, ha.snoc ⟨_, rfl, by omega, by omega⟩⟩
    · exact ⟨Gh.le_refl _, rfl, ha⟩
  rintro acc _ la ⟨rfl, ha⟩
  have g1w : Grw 0 g (g.len i n) := grw_len n0
  have hsh : SeqAt.shaped (.list acc) = true := shaped_list (n := 0) (by decide) fun d hd => by
    obtain ⟨z, rfl, _⟩ := ha d hd
    exact shD_int 0 z
  show SW K _ _ [.t (penT ns), .t (.rcd (partF i j)), .d (.str kind), .d (.list items), .d (.list syms), .own acc, .un, .un, .un, .un, .un, .un, .un, .un, .un, .un] (g.len i n)
  refine sw_cut (fun ρ g' => g' = g.len i n ∧ ∃ b, ρ = [.t (penT ns), .t (.rcd (partF i j)), .d (.str kind), .d (.list items), .d (.list syms), .own acc, .un, .d (.bool b), .un, .un, .un, .un, .un, .un, .un, .un] ∧ (b = true → 0 < acc.length)) ?_ ?_
  · walk_at "os"
    refine ifb (fun hb => ?_) fun hb => ?_
    · have hl : 0 < acc.length := by
        cases acc with
        | nil => cases hb
        | cons _ _ => simp
      walk_at "os"
      intro r r0 r1
      walk_at "os"
      exact ⟨rfl, _, rfl, fun _ => hl⟩
    · exact ⟨rfl, _, rfl, fun z => by cases z⟩
  rintro _ _ ⟨rfl, b, rfl, hb⟩
  refine sw_cut (fun ρ g' => g' = g.len i n ∧ ∃ b, ρ = [.t (penT ns), .t (.rcd (partF i j)), .d (.str kind), .d (.list items), .d (.list syms), .own acc, .un, .d (.bool b), .un, .un, .un, .un, .un, .un, .un, .un] ∧ (b = true → 0 < acc.length)) ?_ ?_
  · walk_at "os"
    refine ifb (fun hb2 => ?_) fun hb2 => ?_
    · obtain ⟨d, hd, hat⟩ := atI_last (hb hb2)
      obtain ⟨z, rfl, z0, z1⟩ := ha d hd
      walk_at "os"
      refine ⟨_, _, rfl, hat, ?_⟩
      refine r2_ix_lst z0 (by rw [lb_len]; exact z1) ?_
      walk_at "os"
      refine cell_its fun ds h1 h2 => ?_
      walk_at "os"
      exact ⟨rfl, _, rfl, fun _ => hb hb2⟩
    · exact ⟨rfl, _, rfl, fun z => by cases z⟩
  rintro _ _ ⟨rfl, b2, rfl, hb2⟩
  refine sw_cut (fun ρ g' => Grw 1 (g.len i n) g' ∧ ∃ acc2 s6 s7 s8, ρ = [.t (penT ns), .t (.rcd (partF i j)), .d (.str kind), .d (.list items), .d (.list syms), .own acc2, s6, s7, s8, .un, .un, .un, .un, .un, .un, .un] ∧ 0 < acc2.length ∧ AllD (IsPl (g'.lb i)) acc2) ?_ ?_
  · have hold : 0 < acc.length → Grw 1 (g.len i n) (g.len i n) ∧ ∃ acc2 s6 s7 s8, [Sl.t (penT ns), .t (.rcd (partF i j)), .d (.str kind), .d (.list items), .d (.list syms), .own acc, .un, .d (.bool b2), .un, .un, .un, .un, .un, .un, .un, .un] = [.t (penT ns), .t (.rcd (partF i j)), .d (.str kind), .d (.list items), .d (.list syms), .own acc2, s6, s7, s8, .un, .un, .un, .un, .un, .un, .un] ∧ 0 < acc2.length ∧ AllD (IsPl ((g.len i n).lb i)) acc2 := fun h => ⟨(Grw.refl _).mono (by decide), _, _, _, _, rfl, h, by rw [lb_len]; exact ha⟩
    walk_at "os"
    refine wt_tru_b ?_
    walk_at "os"
    refine ifb (fun h3 => ?_) fun h3 => ?_
    · walk_at "os"
      refine ifb (fun h4 => ?_) fun h4 => ?_
      · walk_at "os"
        refine ifn (fun h5 => ?_) fun h5 => ?_
        · refine sw_seq ?_
          walk_at "os"
          intro r r0 r1
          refine r2_ix_mem r0 r1 fun d hd => ?_
          obtain ⟨u, rfl, u0, u1⟩ : ∃ u : Int, d = .int u ∧ 0 ≤ u ∧ u ≤ 8 := by
            simp only [List.mem_cons, List.not_mem_nil, or_false] at hd
            rcases hd with rfl | rfl | rfl | rfl <;> exact ⟨_, rfl, by decide, by decide⟩
          walk_at "os"
          refine r2_ix_mem (by split <;> decide) (by split <;> (show _ < ((2 : Nat) : Int); decide)) fun d hd => ?_
          obtain ⟨v, rfl, v0⟩ : ∃ v : Int, d = .int v ∧ 0 ≤ v := by
            simp only [List.mem_cons, List.not_mem_nil, or_false] at hd
            rcases hd with rfl | rfl
            · exact ⟨_, rfl, by decide⟩
            · exact ⟨_, rfl, u0⟩
          walk_at "os"
          refine sw_seq ?_
          refine sw_appendT ?_
          walk_at "os"
          refine ⟨_, _, rfl, ?_⟩
          refine we_lstT [.dat IsKind, .dat IsNat, .its GItem] ?_
          walk_at "os"
          refine ⟨by show 3 ≤ sizeLine; rw [sizeLine_eq]; decide, .cons hkind (.cons ⟨v, rfl, v0⟩ (.cons ⟨AllD.nil, Nat.zero_le _⟩ .nil)), rfl, by rw [sizeLine_eq]; show g.ub < _; omega, ?_⟩
          walk_at "os"
          · rw [sizeLine_eq]
            omega
          refine rc_len_lst fun m m0 m1 => ?_
          walk_at "os"
          have m2 : n + 1 ≤ m := by
            rw [lb_push, lb_len] at m0
            exact m0
          refine ⟨((grw_push _ i).trans (grw_len m0)).mono (by decide), _, _, _, _, rfl, by simp, ?_⟩
          rw [lb_len]
          exact AllD.snoc (fun d hd => (ha d hd).mono (by omega)) ⟨_, rfl, by omega, by omega⟩
        · walk_at "os"
          exact hold (by omega)
      · walk_at "os"
        refine sw_seq ?_
        walk_at "os"
        intro r r0 r1
        refine r2_ix_mem r0 r1 fun d hd => ?_
        obtain ⟨u, rfl, u0, u1⟩ : ∃ u : Int, d = .int u ∧ 0 ≤ u ∧ u ≤ 8 := by
          simp only [List.mem_cons, List.not_mem_nil, or_false] at hd
          rcases hd with rfl | rfl | rfl | rfl <;> exact ⟨_, rfl, by decide, by decide⟩
        walk_at "os"
        refine r2_ix_mem (by split <;> decide) (by split <;> (show _ < ((2 : Nat) : Int); decide)) fun d hd => ?_
        obtain ⟨v, rfl, v0⟩ : ∃ v : Int, d = .int v ∧ 0 ≤ v := by
          simp only [List.mem_cons, List.not_mem_nil, or_false] at hd
          rcases hd with rfl | rfl
          · exact ⟨_, rfl, by decide⟩
          · exact ⟨_, rfl, u0⟩
        walk_at "os"
        refine sw_seq ?_
        refine sw_appendT ?_
        walk_at "os"
        refine ⟨_, _, rfl, ?_⟩
        refine we_lstT [.dat IsKind, .dat IsNat, .its GItem] ?_
        walk_at "os"
        refine ⟨by show 3 ≤ sizeLine; rw [sizeLine_eq]; decide, .cons hkind (.cons ⟨v, rfl, v0⟩ (.cons ⟨AllD.nil, Nat.zero_le _⟩ .nil)), rfl, by rw [sizeLine_eq]; show g.ub < _; omega, ?_⟩
        walk_at "os"
        · rw [sizeLine_eq]
          omega
        refine rc_len_lst fun m m0 m1 => ?_
        walk_at "os"
        have m2 : n + 1 ≤ m := by
          rw [lb_push, lb_len] at m0
          exact m0
        refine ⟨((grw_push _ i).trans (grw_len m0)).mono (by decide), _, _, _, _, rfl, by simp, ?_⟩
        rw [lb_len]
        exact AllD.snoc (fun d hd => (ha d hd).mono (by omega)) ⟨_, rfl, by omega, by omega⟩
    · have : b2 = true := by cases b2 <;> simp_all
      walk_at "os"
      exact hold (hb2 this)
  rintro _ g2 ⟨kg, acc2, s6, s7, s8, rfl, hl2, ha2⟩
  obtain ⟨d, hd, hat⟩ := atI_last hl2
  obtain ⟨z, rfl, z0, z1⟩ := ha2 d hd
  have g2w : Grw 1 g g2 := g1w.trans kg
  refine sw_seq ?_
  walk_at "os"
  refine ⟨_, _, rfl, hat, ?_⟩
  walk_at "os"
  refine sw_seq ?_
  walk_at "os"
  refine r2_ix_lst z0 z1 ?_
  walk_at "os"
  refine sw_seq ?_
  walk_at "os"
  refine we_lc (is := [12]) (by simp) (by simp) ?_
  walk_at "os"
  refine cell_its fun ds h1 h2 => ?_
  walk_at "os"
  have gu := g2w.ub
  refine ⟨by rw [sizeLine_eq]; omega, fun k acc g' => g2 = g' ∧ AllD (fun d => ∃ x : Int, d = .int x) acc, ⟨rfl, .nil⟩, ?_, ?_⟩
  · rintro k bcc _ hk lb ⟨rfl, hb4⟩ _
    obtain ⟨w, r, hw, hp, hroom⟩ := h1 _ (List.getElem_mem hk)
    rw [nth_get (d := .tuple (.str w :: r)) (by rw [List.getElem?_eq_getElem hk, hw])]
    obtain ⟨y, hy, hyat⟩ := atI_last (ds := PyData.str w :: r) (by simp)
    walk_at "os"
    refine r2_ix_tup hyat ?_
    walk_at "os"
    refine r2_ix_tup atI_zero ?_
    walk_at "os"
    refine r2_ix_b (fun _ => ?_) fun he => ?_
    · exact ⟨_, rfl, Gh.le_refl _, rfl, hb4.snoc ⟨_, rfl⟩⟩
    · have hwr : w = "room" := of_decide_eq_true he
      obtain ⟨n', rfl⟩ := hroom hwr
      have e : y = .int n' := by
        have e2 : atI [PyData.str w, .int n'] (-1) = some (.int n') := rfl
        rw [e2] at hyat
        exact (Option.some.inj hyat).symm
      subst e
      exact ⟨_, rfl, Gh.le_refl _, rfl, hb4.snoc ⟨_, rfl⟩⟩
  rintro bcc _ lb ⟨rfl, hb4⟩
  obtain ⟨sums, rfl⟩ := ints_of hb4
  walk_at "os"
  refine rc_sum ?_
  walk_at "os"
  generalize sums.sum = total
  refine sw_seq ?_
  refine sw_for (is := [13] ++ ([14] ++ ([15] ++ []))) ?_
  walk_at "os"
  refine ⟨fun k ρ g' => Grw k g2 g' ∧ ∃ s12 s13 s14 s15, ρ = [.t (penT ns), .t (.rcd (partF i j)), .d (.str kind), .d (.list items), .d (.list syms), .own acc2, s6, s7, s8, .d (.int z), .t rowT, .d (.int total), s12, s13, s14, s15], ?_, ?_, ?_⟩
  · exact ⟨Grw.refl g2, _, _, _, _, rfl⟩
  · rintro k _ g3 hk ⟨kg3, s12, s13, s14, s15, rfl⟩
    obtain ⟨x, b, n', he, hx⟩ := hsy _ (List.getElem_mem hk)
    rw [nth_get (d := .tuple [.str x, .str b, .int n']) (by rw [List.getElem?_eq_getElem hk, he])]
    have gu3 := kg3.ub
    walk_at "os"
    refine sw_appendT ?_
    walk_at "os"
    refine ⟨_, _, rfl, ?_⟩
    walk_at "os"
    exact ⟨⟨x, b, _, rfl, hx⟩, by rw [sizeLine_eq]; omega, (kg3.trans (grw_push _ j)), _, _, _, _, rfl⟩
  rintro _ g3 ⟨kg3, s12, s13, s14, s15, rfl⟩
  have gu3 := kg3.ub
  walk_at "os"
  refine cell_its fun es e1 e2 => ?_
  walk_at "os"
  refine r2_plus_list (by rw [sizeLine_eq]; omega) ?_
  refine we_grow items.length ?_
  walk_at "os"
  · refine ⟨e1.app hi, ?_⟩
    rw [List.length_append]
    show _ ≤ g3.ub + items.length
    omega
  · exact q _ (((g2w.trans kg3).trans (grw_grow g3 items.length)).mono (by omega))

end LK
set_option maxRecDepth 100000
set_option maxHeartbeats 8000000
set_option autoImplicit false
namespace LK
open PySem L2 PyProof.Rows PL
variable [TBs]
local macro_rules | `(tactic| walk_at "nm") => `(tactic| first
  | (with_reducible assumption)
  | exact few_txt (by decide +kernel))
local macro_rules | `(tactic| walk_at "cm") => `(tactic| (unfold CMul; first
  | (left; decide)
  | (right; decide)
  | (left; refine ⟨?_, ?_⟩ <;> omega)
  | (right; refine ⟨?_, ?_⟩ <;> omega)))
local macro_rules | `(tactic| walk_at "sd") => `(tactic| first
  | exact rfl
  | exact Nat.le_of_ble_eq_true rfl
  | (with_reducible assumption)
  | decide
  | omega
  | (simp only [List.length_cons, List.length_nil, List.length_append, List.length_set, List.length_replicate, List.length_map]; omega)
  | (refine ⟨?_, ?_⟩ <;> (first | decide | omega)))
local macro_rules | `(tactic| walk_at "sz") => `(tactic| first
  | decide
  | (rw [sizeLine_eq]; omega)
  | (rw [sizeLine_eq]; simp only [List.length_cons, List.length_nil, List.length_append, List.length_set, List.length_replicate, List.length_map]; omega)
  | (refine ⟨?_, ?_⟩ <;> (first | decide | omega)))
local macro_rules | `(tactic| walk_at "ai") => `(tactic| repeat' (first
  | (with_reducible assumption)
  | (with_reducible exact AllD.nil)
  | (with_reducible refine AllD.cons ?_ ?_)
  | (with_reducible refine AllD.app ?_ ?_)
  | exact gi_room
  | exact gi_none (by decide +kernel) (by decide +kernel)
  | exact gi_one (by decide +kernel) (by decide +kernel) (by walk_at "nm")
  | exact gi_two (by decide +kernel) (by decide +kernel) (by walk_at "nm")))
local macro_rules | `(tactic| walk_at "st") => `(tactic| first
  | (with_reducible refine L2.iteT ?_)
  | (with_reducible refine L2.iteF ?_)
  | (with_reducible refine sw_if ?_)
  | (with_reducible refine cell_scr ?_)
  | (with_reducible refine cell_lst ?_)
  | (with_reducible refine cell_rcd ?_)
  | (with_reducible refine cell_dic ?_)
  | (with_reducible refine sw_setR ?_)
  | (with_reducible refine sw_next ?_)
  | (with_reducible refine sw_retN ?_)
  | (with_reducible refine sw_ret ?_)
  | (with_reducible refine we_op ?_)
  | (with_reducible refine we_int ?_)
  | (with_reducible refine we_str ?_)
  | (with_reducible refine we_bl ?_)
  | (with_reducible refine we_non ?_)
  | (with_reducible refine wa_nil ?_)
  | (with_reducible refine wa_cons ?_)
  | (with_reducible refine we_tup ?_)
  | (with_reducible refine we_lst ?_)
  | (with_reducible refine we_call ?_)
  | (with_reducible refine we_cb ?_)
  | (with_reducible refine we_if ?_)
  | (with_reducible refine we_neg ?_)
  | (with_reducible refine wt_tst ?_)
  | (with_reducible refine wt_and ?_)
  | (with_reducible refine wt_or ?_)
  | (with_reducible refine wt_not ?_)
  | (with_reducible refine wt_yes ?_)
  | (with_reducible refine r2_plus_int ?_)
  | (with_reducible refine r2_sub ?_)
  | (with_reducible refine r2_lt ?_)
  | (with_reducible refine r2_le ?_)
  | (with_reducible refine r2_gt ?_)
  | (with_reducible refine r2_ge ?_)
  | (with_reducible refine r2_eq_int ?_)
  | (with_reducible refine r2_eq_str ?_)
  | (with_reducible refine r2_ne_int ?_)
  | (with_reducible refine r2_ne_str ?_)
  | (with_reducible refine rc_len_list ?_)
  | (with_reducible refine rc_len_tup ?_)
  | (with_reducible refine rc_len_scr ?_)
  | (with_reducible refine rc_min2 ?_)
  | (with_reducible refine rc_max2 ?_)
  | (with_reducible refine rc_int_bool ?_)
  | (with_reducible refine rc_abs ?_)
  | (with_reducible refine wgs_nil ?_)
  | (with_reducible refine use_number ?_)
  | (with_reducible refine we_andV ?_)
  | (with_reducible refine we_orV ?_)
  | (with_reducible refine we_notV ?_)
  | (with_reducible refine we_dget ?_)
  | (with_reducible refine r2_in_strs ?_)
  | (with_reducible refine r2_nin_strs ?_)
  | (with_reducible refine we_index ?_)
  | ((with_reducible apply wg_name); (· walk_at "sd"))
  | ((with_reducible apply wg_tup); (· exact rfl))
  | ((with_reducible apply we_vd); (· exact rfl))
  | ((with_reducible apply we_vt); (· exact rfl))
  | ((with_reducible apply we_vs); (· exact rfl))
  | ((with_reducible apply r2_ix_rcd); (· exact rfl))
  | ((with_reducible apply r2_ix_tpl); (· exact rfl))
  | ((with_reducible apply r2_ix_list); (· exact rfl))
  | ((with_reducible apply r2_ix_tup); (· exact rfl))
  | ((with_reducible refine sw_asg ?_ ?_); (· walk_at "sd"))
  | ((with_reducible refine use_next ?_ ?_); (· walk_at "sd"))
  | ((with_reducible refine sl_w_str ?_ ?_); (· walk_at "sz"))
  | ((with_reducible refine r2_times_int ?_ ?_); (· walk_at "cm"))
  | ((with_reducible refine r2_mod ?_ ?_); (· walk_at "sd"))
  | ((with_reducible refine r2_fdiv ?_ ?_); (· walk_at "sd"))
  | ((with_reducible refine r2_pow ?_ ?_); (· exact ⟨by decide, by decide, by decide⟩))
  | ((with_reducible refine r2_plus_str ?_ ?_); (· walk_at "sd"))
  | ((with_reducible refine r2_plus_list ?_ ?_); (· walk_at "sd"))
  | ((with_reducible refine r2_plus_tup ?_ ?_); (· walk_at "sd"))
  | ((with_reducible refine rc_str_int ?_ ?_); (· walk_at "sd"))
  | ((with_reducible refine rc_len_str ?_ ?_); (· walk_at "sd"))
  | (with_reducible apply sw_asgG)
  | (with_reducible apply wgs_cons)
  | (with_reducible refine we_slice ?_)
  | (with_reducible refine wo_none ?_)
  | (with_reducible refine wo_some ?_)
  | (with_reducible refine sl_w_list ?_)
  | (with_reducible refine sl_w_tup ?_)
  | (with_reducible refine rc_tuple_list ?_)
  | (with_reducible refine wi_range1 ?_)
  | (with_reducible refine wi_range2 ?_)
  | (with_reducible refine wi_list ?_)
  | (with_reducible refine wi_tup ?_)
  | ((with_reducible apply Exists.intro); (with_reducible apply And.intro); (· exact rfl); (with_reducible apply And.intro); (· walk_at "sz"))
  | ((with_reducible apply Exists.intro); (with_reducible apply Exists.intro); (with_reducible apply And.intro); (· exact rfl); (with_reducible apply And.intro); (· exact rfl); (with_reducible apply Exists.intro); (with_reducible apply Exists.intro); (with_reducible apply And.intro); (· exact rfl); (with_reducible apply And.intro); (· exact rfl); (with_reducible apply And.intro))
  | ((with_reducible apply Exists.intro); (with_reducible apply And.intro); (· exact rfl))
  | fail)
local macro_rules | `(tactic| walk_at "gs") => `(tactic| repeat' (walk_at "st"))
local macro_rules | `(tactic| walk_at "go") => `(tactic| repeat' (first | (with_reducible refine sw_seq ?_) | walk_at "st"))
local macro_rules | `(tactic| walk_at "os") => `(tactic| repeat' (first
  | ((with_reducible apply sw_append); (· exact rfl))
  | ((with_reducible apply sw_ret_own); (· exact rfl))
  | ((with_reducible apply sw_catOwn); (· exact rfl))
  | ((with_reducible apply we_len_own); (· exact rfl))
  | ((with_reducible apply we_nin_own); (· exact rfl))
  | ((with_reducible apply we_ix_own); (· exact rfl))
  | ((with_reducible apply we_ne_own); (· exact rfl); (· with_reducible assumption))
  | ((with_reducible refine sw_own ?_ ?_); (· walk_at "sd"))
  | walk_at "st"))
local macro_rules | `(tactic| walk_at "og") => `(tactic| repeat' (first
  | (with_reducible refine sw_seq ?_)
  | ((with_reducible apply sw_append); (· exact rfl))
  | ((with_reducible apply sw_ret_own); (· exact rfl))
  | ((with_reducible apply sw_catOwn); (· exact rfl))
  | ((with_reducible apply we_len_own); (· exact rfl))
  | ((with_reducible apply we_nin_own); (· exact rfl))
  | ((with_reducible apply we_ix_own); (· exact rfl))
  | ((with_reducible apply we_ne_own); (· exact rfl); (· with_reducible assumption))
  | ((with_reducible refine sw_own ?_ ?_); (· walk_at "sd"))
  | walk_at "st"))

abbrev s_law_put_datas : Stmt := topS 20
theorem sc_law_put_datas : FnScope ["_law_pen", "_law_parts", "_law_functions", "_law_datas", "_law_maybes", "_law_kinds", "_law_name", "_law_items", "_law_at", "_law_binding", "_law_other", "_law_more", "_law_one"] ["_law_pen", "_law_parts", "_law_functions", "_law_datas", "_law_maybes"] (defScope s_law_put_datas) := ⟨rfl, rfl, rfl, by decide +kernel, rfl, by decide +kernel, by decide +kernel⟩

def f_law_put_datas : FS := fun ss g P => ∃ (ns : List Int) (p : Nat) (fs ds ms : List Str), ss = [.t (penT ns), .t (partsT p), .d (.list (fs.map .str)), .d (.list (ds.map .str)), .d (.list (ms.map .str))] ∧ IsFs fs ∧ IsFs ds ∧ IsMs ms ∧ ds.Nodup ∧ ds.length ≤ 4 ∧ ms.length ≤ 4 ∧ 0 < g.lb p ∧ g.ub ≤ 10000 ∧
  ∀ D g', g.le g' → g'.ub ≤ g.ub + 100 → g'.kn D ≤ ds.length → (∀ z, z ∈ g'.ks D → z.1 ∈ ds) → (∃ z, z ∈ g'.ks D) → P (.t (.dic D Kinds)) g'
theorem len_law_put_datas : ∀ ss g P, f_law_put_datas ss g P → ss.length = ["_law_pen", "_law_parts", "_law_functions", "_law_datas", "_law_maybes"].length := by
  rintro ss g P ⟨_, _, _, _, _, rfl, _⟩
  rfl

theorem ok_law_put_datas {P : Program} {w : World} {K : PySem.W.Frag} {mg : Str → Option Value} {base : Heap} (S : Std K mg "_law_put_datas" s_law_put_datas ["_law_pen", "_law_parts", "_law_functions", "_law_datas", "_law_maybes"]) (C_law_data : Cal P w K mg base 4 "_law_data" ["_law_pen", "_law_functions", "_law_datas"] f_law_data) (C_law_next : Cal P w K mg base 2 "_law_next" ["_law_pen", "_law_many"] f_law_next) (C_law_put : Cal P w K mg base 7 "_law_put" ["_law_pen", "_law_part", "_law_kind", "_law_items", "_law_symbols"] f_law_put) (C_law_number : Cal P w K mg base 3 "_law_number" ["_law_pen"] f_law_number) (z_len : mg "len" = none) (z_int : mg "int" = none) : Cal P w K mg base 8 "_law_put_datas" ["_law_pen", "_law_parts", "_law_functions", "_law_datas", "_law_maybes"] f_law_put_datas := by
  obtain ⟨a_law_data, fd_law_data, G_law_data, g_law_data, k_law_data, b_law_data⟩ := C_law_data
  obtain ⟨a_law_next, fd_law_next, G_law_next, g_law_next, k_law_next, b_law_next⟩ := C_law_next
  obtain ⟨a_law_put, fd_law_put, G_law_put, g_law_put, k_law_put, b_law_put⟩ := C_law_put
  obtain ⟨a_law_number, fd_law_number, G_law_number, g_law_number, k_law_number, b_law_number⟩ := C_law_number
  refine cal_of S sc_law_put_datas (by decide) (len_law_put_datas) fun a cdv A outer s H vs Q E hr => ?_
  have sc := sc_law_put_datas
  let nm : List Str := ["_law_pen", "_law_parts", "_law_functions", "_law_datas", "_law_maybes", "_law_kinds", "_law_name", "_law_items", "_law_at", "_law_binding", "_law_other", "_law_more", "_law_one"]
  let sco := defScope s_law_put_datas
  refine ⟨_, (pss_cons (ps_set (i := 5) sc.nd rfl (Or.inl rfl) pe_dnewK)
 (pss_cons (ps_for PassesOwn.never rfl (pi_list (pv 3)) (pg_name (i := 6) sc.nd rfl (Or.inl rfl))
 (pss_cons (ps_asg (pe_call G_law_data (hr.mono (by decide)) (by rfl) g_law_data k_law_data b_law_data .nil pass0 (pa_cons (pv 0) (pa_cons (pv 2) (pa_cons (pv 3) pa_nil)))) (show PG _ _ (gTup K 2 _) from pg_tup (by rfl) (pgs_cons (pg_name (i := 7) sc.nd rfl (Or.inl rfl)) (pgs_cons (pg_sub (pv 5) (pv 6) (set_dict (hu_of hr))) pgs_nil))))
 (pss_cons (ps_set (i := 8) sc.nd rfl (Or.inl rfl) (pe_call G_law_next (hr.mono (by decide)) (by rfl) g_law_next k_law_next b_law_next .nil pass0 (pa_cons (pv 0) (pa_cons (pe_callB (r := rLenK K) call_len (by rfl) z_len (by decide +kernel) (pa_cons (pv 1) pa_nil)) pa_nil))))
 (pss_cons (ps_set (i := 9) sc.nd rfl (Or.inl rfl) (pe_ix (r := rIx K) ix_seq (pe_lst (pa_cons pe_str (pa_cons pe_str (pa_cons pe_str pa_nil)))) (pe_call G_law_next (hr.mono (by decide)) (by rfl) g_law_next k_law_next b_law_next .nil pass0 (pa_cons (pv 0) (pa_cons pe_int pa_nil))) (fun _ _ => rfl)))
 (pss_cons (ps_expr (pe_call G_law_put (hr.mono (by decide)) (by rfl) g_law_put k_law_put b_law_put .nil pass0 (pa_cons (pv 0) (pa_cons (pe_ix (r := rIx K) ix_seq (pv 1) (pv 8) (fun _ _ => rfl)) (pa_cons pe_str (pa_cons (pv 7) (pa_cons (pe_lst (pa_cons (pe_tup (pa_cons (pv 6) (pa_cons (pv 9) (pa_cons pe_int pa_nil)))) pa_nil)) pa_nil)))))))
 (pss_cons (ps_set (i := 10) sc.nd rfl (Or.inl rfl) (pe_call G_law_next (hr.mono (by decide)) (by rfl) g_law_next k_law_next b_law_next .nil pass0 (pa_cons (pv 0) (pa_cons (pe_callB (r := rLenK K) call_len (by rfl) z_len (by decide +kernel) (pa_cons (pv 1) pa_nil)) pa_nil))))
 (pss_one (ps_if (PW.pt (pw_and (pt_cmpR (r := rNeq K) (op_neq (room64 hr)) (pv 10) (pv 8) (nomark _)) (pw_and1 (pt_cmpR (r := rEqu K) (op_equ (room64 hr)) (pe_call G_law_next (hr.mono (by decide)) (by rfl) g_law_next k_law_next b_law_next .nil pass0 (pa_cons (pv 0) (pa_cons pe_int pa_nil))) pe_int (nomark _)))))
 (pss_cons (ps_set (i := 11) sc.nd rfl (Or.inl rfl) (pe_lst pa_nil))
 (pss_cons (ps_for PassesOwn.never rfl (pi_list (pv 7)) (pg_name (i := 12) sc.nd rfl (Or.inl rfl))
 (pss_one (ps_expr (pe_bm PySem.F.plainAttrs_list PySem.F.slot_list_append PySem.F.type_list_append mt_append (pv 11) (pa_cons (pe_ix (r := rIx K) ix_seq (pe_lst (pa_cons (pv 12) (pa_cons (pe_tup (pa_cons pe_str (pa_cons (pe_call G_law_number (hr.mono (by decide)) (by rfl) g_law_number k_law_number b_law_number .nil pass0 (pa_cons (pv 0) pa_nil)) pa_nil))) pa_nil))) (pe_callTy call_int1 (by rfl) z_int (by decide +kernel) (pa_cons (pe_cmpR (r := rEqu K) (op_equ (room64 hr)) (pe_ix (r := rIx K) ix_seq (pv 12) pe_int (fun _ _ => rfl)) pe_str (nomark _)) pa_nil)) (fun _ _ => rfl)) pa_nil)))))
 (pss_one (ps_expr (pe_call G_law_put (hr.mono (by decide)) (by rfl) g_law_put k_law_put b_law_put .nil pass0 (pa_cons (pv 0) (pa_cons (pe_ix (r := rIx K) ix_seq (pv 1) (pv 10) (fun _ _ => rfl)) (pa_cons pe_str (pa_cons (pv 11) (pa_cons (pe_lst (pa_cons (pe_tup (pa_cons (pv 6) (pa_cons pe_str (pa_cons pe_int pa_nil)))) pa_nil)) pa_nil))))))))))
 pss_nil))))))))
 (pss_cons (ps_for PassesOwn.never rfl (pi_list (pv 4)) (pg_name (i := 6) sc.nd rfl (Or.inl rfl))
 (pss_one (ps_if (pt_cmpR (r := rEqu K) (op_equ (room64 hr)) (pe_call G_law_next (hr.mono (by decide)) (by rfl) g_law_next k_law_next b_law_next .nil pass0 (pa_cons (pv 0) (pa_cons pe_int pa_nil))) pe_int (nomark _))
 (pss_cons (ps_set (i := 8) sc.nd rfl (Or.inl rfl) (pe_ix (r := rIx K) ix_seq (pv 1) (pe_call G_law_next (hr.mono (by decide)) (by rfl) g_law_next k_law_next b_law_next .nil pass0 (pa_cons (pv 0) (pa_cons (pe_callB (r := rLenK K) call_len (by rfl) z_len (by decide +kernel) (pa_cons (pv 1) pa_nil)) pa_nil))) (fun _ _ => rfl)))
 (pss_one (ps_expr (pe_call G_law_put (hr.mono (by decide)) (by rfl) g_law_put k_law_put b_law_put .nil pass0 (pa_cons (pv 0) (pa_cons (pv 8) (pa_cons pe_str (pa_cons (pe_lst (pa_cons (pe_tup (pa_cons pe_str (pa_cons pe_int pa_nil))) pa_nil)) (pa_cons (pe_lst (pa_cons (pe_tup (pa_cons (pv 6) (pa_cons pe_str (pa_cons pe_int pa_nil)))) pa_nil)) pa_nil)))))))))
 pss_nil)))
 (pss_one (ps_ret (pv 5)))))), ?_⟩
  clear sc nm sco
  try dsimp only [cxOf, Cx.nox, Cx.wish]

  rintro ss g P ⟨ns, p, fs, ds, ms, rfl, hfs, hds, hms, hnd, hdl, hml, hlb, hub, q⟩
  show SW K _ _ [.t (penT ns), .t (partsT p), .d (.list (fs.map .str)), .d (.list (ds.map .str)), .d (.list (ms.map .str)), .un, .un, .un, .un, .un, .un, .un, .un] g
  have hds' : AllD IsStr (ds.map .str) := isStr_map hds.2
  have hfs' : AllD IsStr (fs.map .str) := isStr_map hfs.2
  refine sw_seq ?_
  walk_at "gs"
  refine we_dnew Kinds fun D hks hkn => ?_
  walk_at "gs"
  refine sw_seq ?_
  refine sw_for (is := [6]) ?_
  walk_at "gs"
  refine ⟨fun k ρ g' => g.le g' ∧ g'.ub ≤ g.ub + 16 * k ∧ g'.kn D ≤ k ∧ (∀ z, z ∈ g'.ks D → z.1 ∈ ds.take k) ∧ (0 < k → ∃ z, z ∈ g'.ks D) ∧ ∃ (s6 s7 s8 s9 s10 s11 s12 : Sl), ρ = [.t (penT ns), .t (partsT p), .d (.list (fs.map .str)), .d (.list (ds.map .str)), .d (.list (ms.map .str)), .t (.dic D Kinds), s6, s7, s8, s9, s10, s11, s12], ?_, ?_, ?_⟩
  · refine ⟨Gh.le_refl g, Nat.le_refl _, by omega, fun z hz => ?_, fun h => absurd h (Nat.lt_irrefl 0), _, _, _, _, _, _, _, rfl⟩
    rw [hks] at hz
    cases hz
  · rintro k _ g1 hk ⟨le1, ub1, kn1, ks1, _, s6, s7, s8, s9, s10, s11, s12, rfl⟩
    have hkd : k < ds.length := by
      rw [List.length_map] at hk
      exact hk
    obtain ⟨x, hx⟩ : ∃ x, ds[k]? = some x := ⟨_, List.getElem?_eq_getElem hkd⟩
    have hxm : x ∈ ds := List.mem_of_getElem? hx
    rw [nth_get (d := .str x) (by rw [List.getElem?_map, hx]; rfl)]
    walk_at "gs"
    refine sw_seq ?_
    refine sw_asgG (is := [7] ++ ([] ++ [])) ?_
    walk_at "gs"
    refine ⟨_, _, _, rfl, by rw [List.length_map]; have := hfs.1; omega, by rw [List.length_map]; have := hds.1; omega, hfs', hds', fun is kk hi hk2 il kl => ?_⟩
    walk_at "gs"
    refine wg_dput ?_
    walk_at "gs"
    refine ⟨_, _, _, _, rfl, rfl, rfl, ⟨kk, rfl, hk2, by omega⟩, hds.2 x hxm, fun z hz => ?_, by rw [sizeLine_eq]; omega, ?_⟩
    · exact take_fresh hnd hx _ (ks1 z hz)
    walk_at "gs"
    have lb1 : 0 < (g1.dput D x (.list kk)).lb p := Nat.lt_of_lt_of_le hlb (le1.lb p)
    have le2 : g.le (g1.dput D x (.list kk)) := Gh.le_trans le1 (Gh.le_dput g1 D x _)
    have ub2 : (g1.dput D x (.list kk)).ub ≤ g.ub + 16 * k := ub1
    have kn2 : (g1.dput D x (.list kk)).kn D ≤ k + 1 := by rw [kn_dput]; omega
    have ks2 : ∀ z, z ∈ (g1.dput D x (.list kk)).ks D → z.1 ∈ ds.take (k + 1) := fun z hz => by
      rw [ks_dput] at hz
      rcases List.mem_cons.mp hz with rfl | hz
      · exact take_more hx (.inl rfl)
      · exact take_more hx (.inr (ks1 z hz))
    have ex2 : ∃ z, z ∈ (g1.dput D x (.list kk)).ks D := ⟨(x, .list kk), by rw [ks_dput]; exact List.mem_cons_self⟩
    generalize g1.dput D x (.list kk) = g2 at lb1 le2 ub2 kn2 ks2 ex2 ⊢
    refine sw_seq ?_
    walk_at "gs"
    refine rc_len_lst fun n n0 n1 => ?_
    walk_at "gs"
    intro r r0 r1
    walk_at "gs"
    refine sw_seq ?_
    walk_at "gs"
    intro r2 r20 r21
    refine r2_ix_mem r20 r21 fun d hd => ?_
    obtain ⟨b, rfl⟩ : ∃ b : Str, d = .str b := by
      simp only [List.mem_cons, List.not_mem_nil, or_false] at hd
      rcases hd with rfl | rfl | rfl <;> exact ⟨_, rfl⟩
    walk_at "gs"
    refine sw_seq ?_
    refine sw_drop ?_
    walk_at "gs"
    refine r2_ix_lst r0 (by rw [lb_len]; exact r1) ?_
    refine cell_pr fun i j => ?_
    walk_at "gs"
    refine ⟨_, _, _, _, _, _, rfl, .inr rfl, hi, by omega, AllD.cons ⟨x, b, 0, rfl, (hds.2 x hxm).txt⟩ AllD.nil, Nat.le_of_ble_eq_true rfl, by show g2.ub ≤ 20000; omega, fun g4 kg4 => ?_⟩
    have kg24 : Grw 8 g2 g4 := ((grw_len n0).trans kg4).mono (by simp only [List.length_cons, List.length_nil]; omega)
    have lb4 : 0 < g4.lb p := Nat.lt_of_lt_of_le lb1 (kg24.le.lb p)
    have ub4 := kg24.ub
    walk_at "gs"
    refine sw_seq ?_
    walk_at "gs"
    refine rc_len_lst fun n' n'0 n'1 => ?_
    walk_at "gs"
    intro r' r'0 r'1
    walk_at "gs"
    have kg25 : Grw 8 g2 (g4.len p n') := (kg24.trans (grw_len n'0)).mono (by decide)
    have done : ∀ g6, Grw 16 g2 g6 → g.le g6 ∧ g6.ub ≤ g.ub + 16 * (k + 1) ∧ g6.kn D ≤ k + 1 ∧ (∀ z, z ∈ g6.ks D → z.1 ∈ ds.take (k + 1)) ∧ (0 < k + 1 → ∃ z, z ∈ g6.ks D) := fun g6 h6 =>
      ⟨Gh.le_trans le2 h6.le, by have := h6.ub; omega, by rw [h6.kn]; exact kn2, by rw [h6.ks]; exact ks2, fun _ => by rw [h6.ks]; exact ex2⟩
    refine ifb (fun hne => ?_) fun hne => ?_
    · walk_at "gs"
      intro r3 r30 r31
      walk_at "gs"
      refine ifb (fun hne2 => ?_) fun hne2 => ?_
      · refine sw_seq ?_
        refine sw_own (by show 11 < 13; decide) ?_
        walk_at "gs"
        have hG : Grw 8 g2 (g4.len p n') := kg25
        have lbG : (g4.len p n').lb p = n' := lb_len _ _ _
        generalize g4.len p n' = G at hG lbG ⊢
        refine sw_seq ?_
        refine sw_for (is := [12]) ?_
        walk_at "os"
        refine ⟨fun k ρ g' => g' = G ∧ ∃ es s12, ρ = [.t (penT ns), .t (partsT p), .d (.list (fs.map .str)), .d (.list (ds.map .str)), .d (.list (ms.map .str)), .t (.dic D Kinds), .d (.str x), .d (.list is), .d (.int r), .d (.str b), .d (.int r'), .own es, s12] ∧ AllD GItem es ∧ es.length ≤ k, ?_, ?_, ?_⟩
        · exact ⟨rfl, _, _, rfl, .nil, Nat.zero_le _⟩
        · rintro k2 _ _ hk3 ⟨rfl, es, s12, rfl, hes, hel⟩
          have hgi := hi _ (List.getElem_mem hk3)
          obtain ⟨w, rr, hw, _, _⟩ := hgi
          have hgi := hi _ (List.getElem_mem hk3)
          rw [hw] at hgi
          rw [nth_get (d := .tuple (.str w :: rr)) (by rw [List.getElem?_eq_getElem hk3, hw])]
          walk_at "os"
          · rw [sizeLine_eq]
            omega
          walk_at "os"
          intro num
          walk_at "os"
          refine r2_ix_tup atI_zero ?_
          walk_at "os"
          refine r2_ix_mem (by split <;> decide) (by split <;> (show _ < ((2 : Nat) : Int); decide)) fun d hd => ?_
          have hgd : GItem d := by
            simp only [List.mem_cons, List.not_mem_nil, or_false] at hd
            rcases hd with rfl | rfl
            · exact hgi
            · exact gi_none (by decide +kernel) (by decide +kernel)
          exact ⟨_, rfl, rfl, _, _, rfl, hes.snoc hgd, by simp; omega⟩
        · rintro _ _ ⟨rfl, es, s12, rfl, hes, hel⟩
          refine sw_freeze 11 rfl ?_
          refine sw_drop ?_
          walk_at "gs"
          refine r2_ix_lst r'0 (by rw [lbG]; exact r'1) ?_
          refine cell_pr fun i j => ?_
          walk_at "gs"
          refine ⟨_, _, _, _, _, _, rfl, .inr rfl, hes, by omega, AllD.cons ⟨x, "weak", 0, rfl, (hds.2 x hxm).txt⟩ AllD.nil, Nat.le_of_ble_eq_true rfl, by have := hG.ub; omega, fun g6 kg6 => ?_⟩
          obtain ⟨a1, a2, a3, a4, a5⟩ := done _ ((hG.trans kg6).mono (by simp only [List.length_cons, List.length_nil]; omega))
          exact ⟨a1, a2, a3, a4, a5, _, _, _, _, _, _, _, rfl⟩
      · walk_at "gs"
        obtain ⟨a1, a2, a3, a4, a5⟩ := done _ (kg25.mono (by decide))
        exact ⟨a1, a2, a3, a4, a5, _, _, _, _, _, _, _, rfl⟩
    · walk_at "gs"
      obtain ⟨a1, a2, a3, a4, a5⟩ := done _ (kg25.mono (by decide))
      exact ⟨a1, a2, a3, a4, a5, _, _, _, _, _, _, _, rfl⟩
  · rintro _ g1 ⟨le1, ub1, kn1, ks1, kz, s6, s7, s8, s9, s10, s11, s12, rfl⟩
    rw [List.length_map] at ub1 kn1 ks1 kz
    have ks0 : ∀ z, z ∈ g1.ks D → z.1 ∈ ds := fun z hz => List.mem_of_mem_take (ks1 z hz)
    have kz0 := kz hds.1.1
    have fin : ∀ g6, Grw 32 g1 g6 → P (.t (.dic D Kinds)) g6 := fun g6 h6 => by
      refine q D g6 (Gh.le_trans le1 h6.le) ?_ (by rw [h6.kn]; exact kn1) (by rw [h6.ks]; exact ks0) (by rw [h6.ks]; exact kz0)
      have := h6.ub
      omega
    walk_at "gs"
    refine sw_seq ?_
    refine sw_for (is := [6]) ?_
    walk_at "gs"
    refine ⟨fun k ρ g' => Grw (8 * k) g1 g' ∧ ∃ (s6 s7 s8 s9 s10 s11 s12 : Sl), ρ = [.t (penT ns), .t (partsT p), .d (.list (fs.map .str)), .d (.list (ds.map .str)), .d (.list (ms.map .str)), .t (.dic D Kinds), s6, s7, s8, s9, s10, s11, s12], ?_, ?_, ?_⟩
    · exact ⟨Grw.refl g1, _, _, _, _, _, _, _, rfl⟩
    · rintro k _ g3 hk ⟨kg, s6, s7, s8, s9, s10, s11, s12, rfl⟩
      rw [List.length_map] at hk
      obtain ⟨x, hx⟩ : ∃ x, ms[k]? = some x := ⟨_, List.getElem?_eq_getElem hk⟩
      have hxm : x ∈ ms := List.mem_of_getElem? hx
      have lb3 : 0 < g3.lb p := Nat.lt_of_lt_of_le hlb (Nat.le_trans (le1.lb p) (kg.le.lb p))
      have ub3 := kg.ub
      rw [nth_get (d := .str x) (by rw [List.getElem?_map, hx]; rfl)]
      walk_at "gs"
      intro r r0 r1
      walk_at "gs"
      refine ifd (fun h0 => ?_) fun h0 => ?_
      · refine sw_seq ?_
        walk_at "gs"
        refine rc_len_lst fun n n0 n1 => ?_
        walk_at "gs"
        intro r' r'0 r'1
        walk_at "gs"
        refine r2_ix_lst r'0 (by rw [lb_len]; exact r'1) ?_
        refine cell_pr fun i j => ?_
        walk_at "gs"
        refine sw_drop ?_
        walk_at "gs"
        refine ⟨_, _, _, _, _, _, rfl, .inr rfl, AllD.cons (gi_none (by decide +kernel) (by decide +kernel)) AllD.nil, Nat.le_of_ble_eq_true rfl, AllD.cons ⟨x, "strong", 0, rfl, (hms.2 x hxm).txt⟩ AllD.nil, Nat.le_of_ble_eq_true rfl, by show g3.ub ≤ 20000; omega, fun g6 kg6 => ?_⟩
        exact ⟨((kg.trans (grw_len n0)).trans kg6).mono (by simp only [List.length_cons, List.length_nil]; omega), _, _, _, _, _, _, _, rfl⟩
      · walk_at "gs"
        exact ⟨kg.mono (by omega), _, _, _, _, _, _, _, rfl⟩
    · rintro _ g3 ⟨kg, s6, s7, s8, s9, s10, s11, s12, rfl⟩
      rw [List.length_map] at kg
      walk_at "gs"
      exact fin _ (kg.mono (by omega))

end LK
set_option maxRecDepth 100000
set_option maxHeartbeats 8000000
set_option autoImplicit false
namespace LK
open PySem L2 PyProof.Rows PL
variable [TBs]
local macro_rules | `(tactic| walk_at "nm") => `(tactic| first
  | (with_reducible assumption)
  | exact few_txt (by decide +kernel))
local macro_rules | `(tactic| walk_at "cm") => `(tactic| (unfold CMul; first
  | (left; decide)
  | (right; decide)
  | (left; refine ⟨?_, ?_⟩ <;> omega)
  | (right; refine ⟨?_, ?_⟩ <;> omega)))
local macro_rules | `(tactic| walk_at "sd") => `(tactic| first
  | exact rfl
  | exact Nat.le_of_ble_eq_true rfl
  | (with_reducible assumption)
  | decide
  | omega
  | (simp only [List.length_cons, List.length_nil, List.length_append, List.length_set, List.length_replicate, List.length_map]; omega)
  | (refine ⟨?_, ?_⟩ <;> (first | decide | omega)))
local macro_rules | `(tactic| walk_at "sz") => `(tactic| first
  | decide
  | (rw [sizeLine_eq]; omega)
  | (rw [sizeLine_eq]; simp only [List.length_cons, List.length_nil, List.length_append, List.length_set, List.length_replicate, List.length_map]; omega)
  | (refine ⟨?_, ?_⟩ <;> (first | decide | omega)))
local macro_rules | `(tactic| walk_at "ai") => `(tactic| repeat' (first
  | (with_reducible assumption)
  | (with_reducible exact AllD.nil)
  | (with_reducible refine AllD.cons ?_ ?_)
  | (with_reducible refine AllD.app ?_ ?_)
  | exact gi_room
  | exact gi_none (by decide +kernel) (by decide +kernel)
  | exact gi_one (by decide +kernel) (by decide +kernel) (by walk_at "nm")
  | exact gi_two (by decide +kernel) (by decide +kernel) (by walk_at "nm")))
local macro_rules | `(tactic| walk_at "st") => `(tactic| first
  | (with_reducible refine L2.iteT ?_)
  | (with_reducible refine L2.iteF ?_)
  | (with_reducible refine sw_if ?_)
  | (with_reducible refine cell_scr ?_)
  | (with_reducible refine cell_lst ?_)
  | (with_reducible refine cell_rcd ?_)
  | (with_reducible refine cell_dic ?_)
  | (with_reducible refine sw_setR ?_)
  | (with_reducible refine sw_next ?_)
  | (with_reducible refine sw_retN ?_)
  | (with_reducible refine sw_ret ?_)
  | (with_reducible refine we_op ?_)
  | (with_reducible refine we_int ?_)
  | (with_reducible refine we_str ?_)
  | (with_reducible refine we_bl ?_)
  | (with_reducible refine we_non ?_)
  | (with_reducible refine wa_nil ?_)
  | (with_reducible refine wa_cons ?_)
  | (with_reducible refine we_tup ?_)
  | (with_reducible refine we_lst ?_)
  | (with_reducible refine we_call ?_)
  | (with_reducible refine we_cb ?_)
  | (with_reducible refine we_if ?_)
  | (with_reducible refine we_neg ?_)
  | (with_reducible refine wt_tst ?_)
  | (with_reducible refine wt_and ?_)
  | (with_reducible refine wt_or ?_)
  | (with_reducible refine wt_not ?_)
  | (with_reducible refine wt_yes ?_)
  | (with_reducible refine r2_plus_int ?_)
  | (with_reducible refine r2_sub ?_)
  | (with_reducible refine r2_lt ?_)
  | (with_reducible refine r2_le ?_)
  | (with_reducible refine r2_gt ?_)
  | (with_reducible refine r2_ge ?_)
  | (with_reducible refine r2_eq_int ?_)
  | (with_reducible refine r2_eq_str ?_)
  | (with_reducible refine r2_ne_int ?_)
  | (with_reducible refine r2_ne_str ?_)
  | (with_reducible refine rc_len_list ?_)
  | (with_reducible refine rc_len_tup ?_)
  | (with_reducible refine rc_len_scr ?_)
  | (with_reducible refine rc_min2 ?_)
  | (with_reducible refine rc_max2 ?_)
  | (with_reducible refine rc_int_bool ?_)
  | (with_reducible refine rc_abs ?_)
  | (with_reducible refine wgs_nil ?_)
  | (with_reducible refine use_number ?_)
  | (with_reducible refine we_andV ?_)
  | (with_reducible refine we_orV ?_)
  | (with_reducible refine we_notV ?_)
  | (with_reducible refine we_dget ?_)
  | (with_reducible refine r2_in_strs ?_)
  | (with_reducible refine r2_nin_strs ?_)
  | (with_reducible refine we_index ?_)
  | ((with_reducible apply wg_name); (· walk_at "sd"))
  | ((with_reducible apply wg_tup); (· exact rfl))
  | ((with_reducible apply we_vd); (· exact rfl))
  | ((with_reducible apply we_vt); (· exact rfl))
  | ((with_reducible apply we_vs); (· exact rfl))
  | ((with_reducible apply r2_ix_rcd); (· exact rfl))
  | ((with_reducible apply r2_ix_tpl); (· exact rfl))
  | ((with_reducible apply r2_ix_list); (· exact rfl))
  | ((with_reducible apply r2_ix_tup); (· exact rfl))
  | ((with_reducible refine sw_asg ?_ ?_); (· walk_at "sd"))
  | ((with_reducible refine use_next ?_ ?_); (· walk_at "sd"))
  | ((with_reducible refine sl_w_str ?_ ?_); (· walk_at "sz"))
  | ((with_reducible refine r2_times_int ?_ ?_); (· walk_at "cm"))
  | ((with_reducible refine r2_mod ?_ ?_); (· walk_at "sd"))
  | ((with_reducible refine r2_fdiv ?_ ?_); (· walk_at "sd"))
  | ((with_reducible refine r2_pow ?_ ?_); (· exact ⟨by decide, by decide, by decide⟩))
  | ((with_reducible refine r2_plus_str ?_ ?_); (· walk_at "sd"))
  | ((with_reducible refine r2_plus_list ?_ ?_); (· walk_at "sd"))
  | ((with_reducible refine r2_plus_tup ?_ ?_); (· walk_at "sd"))
  | ((with_reducible refine rc_str_int ?_ ?_); (· walk_at "sd"))
  | ((with_reducible refine rc_len_str ?_ ?_); (· walk_at "sd"))
  | (with_reducible apply sw_asgG)
  | (with_reducible apply wgs_cons)
  | (with_reducible refine we_slice ?_)
  | (with_reducible refine wo_none ?_)
  | (with_reducible refine wo_some ?_)
  | (with_reducible refine sl_w_list ?_)
  | (with_reducible refine sl_w_tup ?_)
  | (with_reducible refine rc_tuple_list ?_)
  | (with_reducible refine wi_range1 ?_)
  | (with_reducible refine wi_range2 ?_)
  | (with_reducible refine wi_list ?_)
  | (with_reducible refine wi_tup ?_)
  | ((with_reducible apply Exists.intro); (with_reducible apply And.intro); (· exact rfl); (with_reducible apply And.intro); (· walk_at "sz"))
  | ((with_reducible apply Exists.intro); (with_reducible apply Exists.intro); (with_reducible apply And.intro); (· exact rfl); (with_reducible apply And.intro); (· exact rfl); (with_reducible apply Exists.intro); (with_reducible apply Exists.intro); (with_reducible apply And.intro); (· exact rfl); (with_reducible apply And.intro); (· exact rfl); (with_reducible apply And.intro))
  | ((with_reducible apply Exists.intro); (with_reducible apply And.intro); (· exact rfl))
  | fail)
local macro_rules | `(tactic| walk_at "gs") => `(tactic| repeat' (walk_at "st"))
local macro_rules | `(tactic| walk_at "go") => `(tactic| repeat' (first | (with_reducible refine sw_seq ?_) | walk_at "st"))
local macro_rules | `(tactic| walk_at "os") => `(tactic| repeat' (first
  | ((with_reducible apply sw_append); (· exact rfl))
  | ((with_reducible apply sw_ret_own); (· exact rfl))
  | ((with_reducible apply sw_catOwn); (· exact rfl))
  | ((with_reducible apply we_len_own); (· exact rfl))
  | ((with_reducible apply we_nin_own); (· exact rfl))
  | ((with_reducible apply we_ix_own); (· exact rfl))
  | ((with_reducible apply we_ne_own); (· exact rfl); (· with_reducible assumption))
  | ((with_reducible refine sw_own ?_ ?_); (· walk_at "sd"))
  | walk_at "st"))
local macro_rules | `(tactic| walk_at "og") => `(tactic| repeat' (first
  | (with_reducible refine sw_seq ?_)
  | ((with_reducible apply sw_append); (· exact rfl))
  | ((with_reducible apply sw_ret_own); (· exact rfl))
  | ((with_reducible apply sw_catOwn); (· exact rfl))
  | ((with_reducible apply we_len_own); (· exact rfl))
  | ((with_reducible apply we_nin_own); (· exact rfl))
  | ((with_reducible apply we_ix_own); (· exact rfl))
  | ((with_reducible apply we_ne_own); (· exact rfl); (· with_reducible assumption))
  | ((with_reducible refine sw_own ?_ ?_); (· walk_at "sd"))
  | walk_at "st"))

abbrev s_law_put_commons : Stmt := topS 21
theorem sc_law_put_commons : FnScope ["_law_pen", "_law_parts", "_law_stem", "_law_kinds", "_law_k", "_law_name", "_law_sizes", "_law_two", "_law_many", "_law_j"] ["_law_pen", "_law_parts", "_law_stem", "_law_kinds"] (defScope s_law_put_commons) := ⟨rfl, rfl, rfl, by decide +kernel, rfl, by decide +kernel, by decide +kernel⟩

def f_law_put_commons : FS := fun ss g P => ∃ (ns : List Int) (p D : Nat) (stem : Str), ss = [.t (penT ns), .t (partsT p), .d (.str stem), .t (.dic D Kinds)] ∧ Txt 30 stem ∧ stem ∈ stems ∧ 0 < g.lb p ∧ g.ub ≤ 18000 ∧ g.kn D ≤ 40 ∧ (∀ z, z ∈ g.ks D → z.1 ≠ stem ++ "c9" ∧ z.1 ≠ stem ++ "c10") ∧
  ∀ g', g.le g' → g'.ub ≤ g.ub + 10 → g'.kn D ≤ g.kn D + 2 → P (.d .none) g'
theorem len_law_put_commons : ∀ ss g P, f_law_put_commons ss g P → ss.length = ["_law_pen", "_law_parts", "_law_stem", "_law_kinds"].length := by
  rintro ss g P ⟨_, _, _, _, rfl, _⟩
  rfl

theorem ok_law_put_commons {P : Program} {w : World} {K : PySem.W.Frag} {mg : Str → Option Value} {base : Heap} (S : Std K mg "_law_put_commons" s_law_put_commons ["_law_pen", "_law_parts", "_law_stem", "_law_kinds"]) (C_law_next : Cal P w K mg base 2 "_law_next" ["_law_pen", "_law_many"] f_law_next) (z_range : mg "range" = none) (z_len : mg "len" = none) (z_int : mg "int" = none) (z_max : mg "max" = none) : Cal P w K mg base 3 "_law_put_commons" ["_law_pen", "_law_parts", "_law_stem", "_law_kinds"] f_law_put_commons := by
  obtain ⟨a_law_next, fd_law_next, G_law_next, g_law_next, k_law_next, b_law_next⟩ := C_law_next
  refine cal_of S sc_law_put_commons (by decide) (len_law_put_commons) fun a cdv A outer s H vs Q E hr => ?_
  have sc := sc_law_put_commons
  let nm : List Str := ["_law_pen", "_law_parts", "_law_stem", "_law_kinds", "_law_k", "_law_name", "_law_sizes", "_law_two", "_law_many", "_law_j"]
  let sco := defScope s_law_put_commons
  refine ⟨_, (pss_one (ps_for PassesOwn.never rfl (pi_range1 (by rfl) z_range (pa_cons (pe_call G_law_next (hr.mono (by decide)) (by rfl) g_law_next k_law_next b_law_next .nil pass0 (pa_cons (pv 0) (pa_cons pe_int pa_nil))) pa_nil)) (pg_name (i := 4) sc.nd rfl (Or.inl rfl))
 (pss_cons (ps_set (i := 5) sc.nd rfl (Or.inl rfl) (pe_op (r := rPlus K) op_plus (pv 2) (pe_ix (r := rIx K) ix_seq (pe_lst (pa_cons pe_str (pa_cons pe_str pa_nil))) (pv 4) (fun _ _ => rfl))))
 (pss_cons (ps_set (i := 6) sc.nd rfl (Or.inl rfl) (pe_lst (pa_cons (pe_op (r := rPlus K) op_plus pe_int (pe_call G_law_next (hr.mono (by decide)) (by rfl) g_law_next k_law_next b_law_next .nil pass0 (pa_cons (pv 0) (pa_cons pe_int pa_nil)))) (pa_cons (pe_op (r := rPlus K) op_plus pe_int (pe_call G_law_next (hr.mono (by decide)) (by rfl) g_law_next k_law_next b_law_next .nil pass0 (pa_cons (pv 0) (pa_cons pe_int pa_nil)))) pa_nil))))
 (pss_cons (ps_set (i := 7) sc.nd rfl (Or.inl rfl) (pe_lst (pa_cons (pe_call G_law_next (hr.mono (by decide)) (by rfl) g_law_next k_law_next b_law_next .nil pass0 (pa_cons (pv 0) (pa_cons (pe_callB (r := rLenK K) call_len (by rfl) z_len (by decide +kernel) (pa_cons (pv 1) pa_nil)) pa_nil))) (pa_cons (pe_call G_law_next (hr.mono (by decide)) (by rfl) g_law_next k_law_next b_law_next .nil pass0 (pa_cons (pv 0) (pa_cons (pe_callB (r := rLenK K) call_len (by rfl) z_len (by decide +kernel) (pa_cons (pv 1) pa_nil)) pa_nil))) pa_nil))))
 (pss_cons (ps_set (i := 8) sc.nd rfl (Or.inl rfl) (pe_op (r := rPlus K) op_plus pe_int (pe_callTy call_int1 (by rfl) z_int (by decide +kernel) (pa_cons (pe_cmpR (r := rNeq K) (op_neq (room64 hr)) (pe_ix (r := rIx K) ix_seq (pv 7) pe_int (fun _ _ => rfl)) (pe_ix (r := rIx K) ix_seq (pv 7) pe_int (fun _ _ => rfl)) (nomark _)) pa_nil))))
 (pss_cons (ps_for PassesOwn.never rfl (pi_range1 (by rfl) z_range (pa_cons (pv 8) pa_nil)) (pg_name (i := 9) sc.nd rfl (Or.inl rfl))
 (pss_one (ps_expr (pe_bm PySem.F.plainAttrs_list PySem.F.slot_list_append PySem.F.type_list_append mt_append (pe_ix (r := rIx K) ix_seq (pe_ix (r := rIx K) ix_seq (pv 1) (pe_ix (r := rIx K) ix_seq (pv 7) (pv 9) (fun _ _ => rfl)) (fun _ _ => rfl)) pe_int (fun _ _ => rfl)) (pa_cons (pe_tup (pa_cons (pv 5) (pa_cons pe_str (pa_cons (pe_ix (r := rIx K) ix_seq (pv 6) (pv 9) (fun _ _ => rfl)) pa_nil)))) pa_nil)))))
 (pss_one (ps_asg (pe_op op_times (pe_lst (pa_cons pe_str pa_nil)) (pe_callB (r := rMax K) (cr_max rfl) (by rfl) z_max (by decide +kernel) (pa_cons (pe_slice (r := rSli K) sl_any (pv 6) po_none (po_some (pv 8))) pa_nil))) (pg_sub (pv 3) (pv 5) (set_dict (hu_of hr)))))))))))), ?_⟩
  clear sc nm sco
  try dsimp only [cxOf, Cx.nox, Cx.wish]

  rintro ss g P ⟨ns, p, D, stem, rfl, hst, hstm, hlb, hub, hkn, hks, q⟩
  show SW K _ _ [.t (penT ns), .t (partsT p), .d (.str stem), .t (.dic D Kinds), .un, .un, .un, .un, .un, .un] g
  refine sw_for (is := [4]) ?_
  walk_at "gs"
  intro r r0 r1
  walk_at "gs"
  refine ⟨fun k ρ g' => g.le g' ∧ g'.ub ≤ g.ub + 2 * k ∧ g'.kn D ≤ g.kn D + k ∧ (∀ z, z ∈ g'.ks D → (k = 0 → z.1 ≠ stem ++ "c9") ∧ (k ≤ 1 → z.1 ≠ stem ++ "c10")) ∧ ∃ s4 s5 s6 s7 s8 s9, ρ = [.t (penT ns), .t (partsT p), .d (.str stem), .t (.dic D Kinds), s4, s5, s6, s7, s8, s9], ?_, ?_, ?_⟩
  · exact ⟨Gh.le_refl g, Nat.le_refl _, Nat.le_refl _, fun z hz => ⟨fun _ => (hks z hz).1, fun _ => (hks z hz).2⟩, _, _, _, _, _, _, rfl⟩
  · rintro k _ g1 hk ⟨le1, ub1, kn1, ks1, s4, s5, s6, s7, s8, s9, rfl⟩
    have lb1 : 0 < g1.lb p := Nat.lt_of_lt_of_le hlb (le1.lb p)
    obtain ⟨c, hc, hc2, hcne⟩ : ∃ c : Str, atI [PyData.str "c9", .str "c10"] (k : Int) = some (.str c) ∧ Txt 3 c ∧ ((k = 0 ∧ c = "c9") ∨ (k = 1 ∧ c = "c10")) := by
      have h2 : k = 0 ∨ k = 1 := by omega
      rcases h2 with rfl | rfl
      · exact ⟨"c9", rfl, ⟨by decide +kernel, by decide +kernel⟩, .inl ⟨rfl, rfl⟩⟩
      · exact ⟨"c10", rfl, ⟨by decide +kernel, by decide +kernel⟩, .inr ⟨rfl, rfl⟩⟩
    have hname := hst.app hc2
    walk_at "gs"
    refine sw_seq ?_
    walk_at "gs"
    refine r2_ix_list hc ?_
    refine r2_plus_str (by rw [sizeLine_eq]; have := hst.1; have := hc2.1; omega) ?_
    walk_at "gs"
    refine sw_seq ?_
    walk_at "gs"
    intro a a0 a1
    walk_at "gs"
    intro b b0 b1
    walk_at "gs"
    refine sw_seq ?_
    walk_at "gs"
    refine rc_len_lst fun n n0 n1 => ?_
    walk_at "gs"
    intro t1 t10 t11
    walk_at "gs"
    refine rc_len_lst fun n' n'0 n'1 => ?_
    rw [lb_len] at n'0
    have n'2 : n' ≤ g1.ub := n'1
    walk_at "gs"
    intro t2 t20 t21
    walk_at "gs"
    have kG : Grw 0 g1 ((g1.len p n).len p n') := (grw_len n0).trans (grw_len (by rw [lb_len]; exact n'0))
    have lbG : ((g1.len p n).len p n').lb p = n' := lb_len _ _ _
    generalize (g1.len p n).len p n' = G at kG lbG ⊢
    refine sw_cut (fun ρ g' => G = g' ∧ ∃ m : Nat, (m = 1 ∨ m = 2) ∧ ρ = [.t (penT ns), .t (partsT p), .d (.str stem), .t (.dic D Kinds), .d (.int k), .d (.str (stem ++ c)), .d (.list [.int (1 + a), .int (1 + b)]), .d (.list [.int t1, .int t2]), .d (.int m), s9]) ?_ ?_
    · walk_at "gs"
      by_cases h12 : t1 = t2
      · refine ⟨rfl, 1, .inl rfl, ?_⟩
        simp [h12]
      · refine ⟨rfl, 2, .inr rfl, ?_⟩
        simp [h12]
    rintro _ _ ⟨rfl, m, hm, rfl⟩
    refine sw_seq ?_
    refine sw_for (is := [9]) ?_
    walk_at "gs"
    refine ⟨fun j ρ g' => Grw j G g' ∧ ∃ s9, ρ = [.t (penT ns), .t (partsT p), .d (.str stem), .t (.dic D Kinds), .d (.int k), .d (.str (stem ++ c)), .d (.list [.int (1 + a), .int (1 + b)]), .d (.list [.int t1, .int t2]), .d (.int m), s9], ?_, ?_, ?_⟩
    · exact ⟨Grw.refl G, _, rfl⟩
    · rintro j _ g2 hj ⟨kg2, s9, rfl⟩
      have hj2 : j < 2 := by omega
      have lb2 := kg2.le.lb p
      have ub2 := kg2.ub
      have ubG := kG.ub
      walk_at "gs"
      refine sw_appendT ?_
      walk_at "gs"
      refine r2_ix_mem (by omega) (by show (j : Int) < ((2 : Nat) : Int); omega) fun d hd => ?_
      obtain ⟨tt, rfl, tt0, tt1⟩ : ∃ tt : Int, d = .int tt ∧ 0 ≤ tt ∧ tt < n' := by
        simp only [List.mem_cons, List.not_mem_nil, or_false] at hd
        rcases hd with rfl | rfl
        · exact ⟨_, rfl, t10, by omega⟩
        · exact ⟨_, rfl, t20, t21⟩
      refine r2_ix_lst tt0 (by omega) ?_
      refine cell_pr fun i i2 => ?_
      walk_at "gs"
      refine ⟨_, _, rfl, ?_⟩
      walk_at "gs"
      refine r2_ix_mem (by omega) (by show (j : Int) < ((2 : Nat) : Int); omega) fun d hd => ?_
      walk_at "gs"
      exact ⟨⟨_, _, _, rfl, hname.mono (by decide)⟩, by rw [sizeLine_eq]; omega, kg2.trans (grw_push _ i2), _, rfl⟩
    rintro _ g2 ⟨kg2, s9, rfl⟩
    have ub2 := kg2.ub
    have ubG := kG.ub
    have le2 : g.le g2 := Gh.le_trans le1 (Gh.le_trans kG.le kg2.le)
    have kn2 : g2.kn D = g1.kn D := by rw [kg2.kn, kG.kn]
    have ks2 : g2.ks D = g1.ks D := by rw [kg2.ks, kG.ks]
    have hne : ∀ z, z ∈ g2.ks D → z.1 ≠ stem ++ c := fun z hz => by
      rw [ks2] at hz
      rcases hcne with ⟨h1, h2⟩ | ⟨h1, h2⟩
      · rw [h2]
        exact (ks1 z hz).1 h1
      · rw [h2]
        exact (ks1 z hz).2 (by omega)
    have fin : ∀ (ws : List PyData), g.le (g2.dput D (stem ++ c) (.list ws)) ∧ (g2.dput D (stem ++ c) (.list ws)).ub ≤ g.ub + 2 * (k + 1) ∧ (g2.dput D (stem ++ c) (.list ws)).kn D ≤ g.kn D + (k + 1) ∧ (∀ z, z ∈ (g2.dput D (stem ++ c) (.list ws)).ks D → (k + 1 = 0 → z.1 ≠ stem ++ "c9") ∧ (k + 1 ≤ 1 → z.1 ≠ stem ++ "c10")) := fun ws => by
      refine ⟨Gh.le_trans le2 (Gh.le_dput _ _ _ _), by show g2.ub ≤ _; omega, by rw [kn_dput]; omega, fun z hz => ⟨fun h => absurd h (Nat.succ_ne_zero k), fun h => ?_⟩⟩
      rw [ks_dput, ks2] at hz
      have hk0 : k = 0 := by omega
      rcases List.mem_cons.mp hz with rfl | hz
      · rcases hcne with ⟨_, h2⟩ | ⟨h2, _⟩
        · rw [h2]
          intro e
          have e2 := congrArg Str.length e
          rw [len_app, len_app] at e2
          have e3 : (("c9" : Str)).length = 2 := by decide +kernel
          have e4 : (("c10" : Str)).length = 3 := by decide +kernel
          omega
        · omega
      · exact (ks1 z hz).2 (by omega)
    refine sw_asgG (is := []) ?_
    walk_at "gs"
    obtain ⟨nn, hn1, hn2, hn3⟩ : ∃ nn : List Int, PL.cutD [PyData.int (1 + a), .int (1 + b)] none (some (m : Int)) = nn.map .int ∧ 0 < nn.length ∧ ∀ y, y ∈ nn → 0 ≤ y ∧ y ≤ 60 := by
      rcases hm with rfl | rfl
      · refine ⟨[1 + a], rfl, by simp, fun y hy => ?_⟩
        rw [List.mem_singleton.mp hy]
        omega
      · refine ⟨[1 + a, 1 + b], rfl, by simp, fun y hy => ?_⟩
        simp only [List.mem_cons, List.not_mem_nil, or_false] at hy
        rcases hy with rfl | rfl <;> omega
    rw [hn1]
    refine rc_max hn2 fun mm hmm _ => ?_
    obtain ⟨m0, m1⟩ := hn3 mm hmm
    refine r2_times_list m0 (by rw [sizeLine_eq]; simp; omega) (by omega) ?_
    refine wg_dput ?_
    walk_at "gs"
    refine ⟨_, _, _, _, rfl, rfl, rfl, ⟨_, rfl, AllD.rep (fun y hy => ?_) _, ?_⟩, com_txt hname (by decide) hstm (hcne.imp And.right And.right), hne, by rw [sizeLine_eq]; omega, ?_⟩
    · rw [List.mem_singleton.mp hy]
      exact ⟨_, rfl, few_txt (by decide +kernel)⟩
    · rw [rep_len]
      simp
      omega
    · obtain ⟨a1, a2, a3, a4⟩ := fin (List.replicate mm.toNat [PyData.str ""]).flatten
      exact ⟨a1, a2, a3, a4, _, _, _, _, _, _, rfl⟩
  · rintro _ g1 ⟨le1, ub1, kn1, ks1, s4, s5, s6, s7, s8, s9, rfl⟩
    walk_at "gs"
    exact q g1 le1 (by omega) (by omega)

end LK
set_option maxRecDepth 100000
set_option maxHeartbeats 8000000
set_option autoImplicit false
namespace LK
open PySem L2 PyProof.Rows PL
variable [TBs]
local macro_rules | `(tactic| walk_at "nm") => `(tactic| first
  | (with_reducible assumption)
  | exact few_txt (by decide +kernel))
local macro_rules | `(tactic| walk_at "cm") => `(tactic| (unfold CMul; first
  | (left; decide)
  | (right; decide)
  | (left; refine ⟨?_, ?_⟩ <;> omega)
  | (right; refine ⟨?_, ?_⟩ <;> omega)))
local macro_rules | `(tactic| walk_at "sd") => `(tactic| first
  | exact rfl
  | exact Nat.le_of_ble_eq_true rfl
  | (with_reducible assumption)
  | decide
  | omega
  | (simp only [List.length_cons, List.length_nil, List.length_append, List.length_set, List.length_replicate, List.length_map]; omega)
  | (refine ⟨?_, ?_⟩ <;> (first | decide | omega)))
local macro_rules | `(tactic| walk_at "sz") => `(tactic| first
  | decide
  | (rw [sizeLine_eq]; omega)
  | (rw [sizeLine_eq]; simp only [List.length_cons, List.length_nil, List.length_append, List.length_set, List.length_replicate, List.length_map]; omega)
  | (refine ⟨?_, ?_⟩ <;> (first | decide | omega)))
local macro_rules | `(tactic| walk_at "ai") => `(tactic| repeat' (first
  | (with_reducible assumption)
  | (with_reducible exact AllD.nil)
  | (with_reducible refine AllD.cons ?_ ?_)
  | (with_reducible refine AllD.app ?_ ?_)
  | exact gi_room
  | exact gi_none (by decide +kernel) (by decide +kernel)
  | exact gi_one (by decide +kernel) (by decide +kernel) (by walk_at "nm")
  | exact gi_two (by decide +kernel) (by decide +kernel) (by walk_at "nm")))
local macro_rules | `(tactic| walk_at "st") => `(tactic| first
  | (with_reducible refine L2.iteT ?_)
  | (with_reducible refine L2.iteF ?_)
  | (with_reducible refine sw_if ?_)
  | (with_reducible refine cell_scr ?_)
  | (with_reducible refine cell_lst ?_)
  | (with_reducible refine cell_rcd ?_)
  | (with_reducible refine cell_dic ?_)
  | (with_reducible refine sw_setR ?_)
  | (with_reducible refine sw_next ?_)
  | (with_reducible refine sw_retN ?_)
  | (with_reducible refine sw_ret ?_)
  | (with_reducible refine we_op ?_)
  | (with_reducible refine we_int ?_)
  | (with_reducible refine we_str ?_)
  | (with_reducible refine we_bl ?_)
  | (with_reducible refine we_non ?_)
  | (with_reducible refine wa_nil ?_)
  | (with_reducible refine wa_cons ?_)
  | (with_reducible refine we_tup ?_)
  | (with_reducible refine we_lst ?_)
  | (with_reducible refine we_call ?_)
  | (with_reducible refine we_cb ?_)
  | (with_reducible refine we_if ?_)
  | (with_reducible refine we_neg ?_)
  | (with_reducible refine wt_tst ?_)
  | (with_reducible refine wt_and ?_)
  | (with_reducible refine wt_or ?_)
  | (with_reducible refine wt_not ?_)
  | (with_reducible refine wt_yes ?_)
  | (with_reducible refine r2_plus_int ?_)
  | (with_reducible refine r2_sub ?_)
  | (with_reducible refine r2_lt ?_)
  | (with_reducible refine r2_le ?_)
  | (with_reducible refine r2_gt ?_)
  | (with_reducible refine r2_ge ?_)
  | (with_reducible refine r2_eq_int ?_)
  | (with_reducible refine r2_eq_str ?_)
  | (with_reducible refine r2_ne_int ?_)
  | (with_reducible refine r2_ne_str ?_)
  | (with_reducible refine rc_len_list ?_)
  | (with_reducible refine rc_len_tup ?_)
  | (with_reducible refine rc_len_scr ?_)
  | (with_reducible refine rc_min2 ?_)
  | (with_reducible refine rc_max2 ?_)
  | (with_reducible refine rc_int_bool ?_)
  | (with_reducible refine rc_abs ?_)
  | (with_reducible refine wgs_nil ?_)
  | (with_reducible refine use_number ?_)
  | (with_reducible refine we_andV ?_)
  | (with_reducible refine we_orV ?_)
  | (with_reducible refine we_notV ?_)
  | (with_reducible refine we_dget ?_)
  | (with_reducible refine r2_in_strs ?_)
  | (with_reducible refine r2_nin_strs ?_)
  | (with_reducible refine we_index ?_)
  | ((with_reducible apply wg_name); (· walk_at "sd"))
  | ((with_reducible apply wg_tup); (· exact rfl))
  | ((with_reducible apply we_vd); (· exact rfl))
  | ((with_reducible apply we_vt); (· exact rfl))
  | ((with_reducible apply we_vs); (· exact rfl))
  | ((with_reducible apply r2_ix_rcd); (· exact rfl))
  | ((with_reducible apply r2_ix_tpl); (· exact rfl))
  | ((with_reducible apply r2_ix_list); (· exact rfl))
  | ((with_reducible apply r2_ix_tup); (· exact rfl))
  | ((with_reducible refine sw_asg ?_ ?_); (· walk_at "sd"))
  | ((with_reducible refine use_next ?_ ?_); (· walk_at "sd"))
  | ((with_reducible refine sl_w_str ?_ ?_); (· walk_at "sz"))
  | ((with_reducible refine r2_times_int ?_ ?_); (· walk_at "cm"))
  | ((with_reducible refine r2_mod ?_ ?_); (· walk_at "sd"))
  | ((with_reducible refine r2_fdiv ?_ ?_); (· walk_at "sd"))
  | ((with_reducible refine r2_pow ?_ ?_); (· exact ⟨by decide, by decide, by decide⟩))
  | ((with_reducible refine r2_plus_str ?_ ?_); (· walk_at "sd"))
  | ((with_reducible refine r2_plus_list ?_ ?_); (· walk_at "sd"))
  | ((with_reducible refine r2_plus_tup ?_ ?_); (· walk_at "sd"))
  | ((with_reducible refine rc_str_int ?_ ?_); (· walk_at "sd"))
  | ((with_reducible refine rc_len_str ?_ ?_); (· walk_at "sd"))
  | (with_reducible apply sw_asgG)
  | (with_reducible apply wgs_cons)
  | (with_reducible refine we_slice ?_)
  | (with_reducible refine wo_none ?_)
  | (with_reducible refine wo_some ?_)
  | (with_reducible refine sl_w_list ?_)
  | (with_reducible refine sl_w_tup ?_)
  | (with_reducible refine rc_tuple_list ?_)
  | (with_reducible refine wi_range1 ?_)
  | (with_reducible refine wi_range2 ?_)
  | (with_reducible refine wi_list ?_)
  | (with_reducible refine wi_tup ?_)
  | ((with_reducible apply Exists.intro); (with_reducible apply And.intro); (· exact rfl); (with_reducible apply And.intro); (· walk_at "sz"))
  | ((with_reducible apply Exists.intro); (with_reducible apply Exists.intro); (with_reducible apply And.intro); (· exact rfl); (with_reducible apply And.intro); (· exact rfl); (with_reducible apply Exists.intro); (with_reducible apply Exists.intro); (with_reducible apply And.intro); (· exact rfl); (with_reducible apply And.intro); (· exact rfl); (with_reducible apply And.intro))
  | ((with_reducible apply Exists.intro); (with_reducible apply And.intro); (· exact rfl))
  | fail)
local macro_rules | `(tactic| walk_at "gs") => `(tactic| repeat' (walk_at "st"))
local macro_rules | `(tactic| walk_at "go") => `(tactic| repeat' (first | (with_reducible refine sw_seq ?_) | walk_at "st"))
local macro_rules | `(tactic| walk_at "os") => `(tactic| repeat' (first
  | ((with_reducible apply sw_append); (· exact rfl))
  | ((with_reducible apply sw_ret_own); (· exact rfl))
  | ((with_reducible apply sw_catOwn); (· exact rfl))
  | ((with_reducible apply we_len_own); (· exact rfl))
  | ((with_reducible apply we_nin_own); (· exact rfl))
  | ((with_reducible apply we_ix_own); (· exact rfl))
  | ((with_reducible apply we_ne_own); (· exact rfl); (· with_reducible assumption))
  | ((with_reducible refine sw_own ?_ ?_); (· walk_at "sd"))
  | walk_at "st"))
local macro_rules | `(tactic| walk_at "og") => `(tactic| repeat' (first
  | (with_reducible refine sw_seq ?_)
  | ((with_reducible apply sw_append); (· exact rfl))
  | ((with_reducible apply sw_ret_own); (· exact rfl))
  | ((with_reducible apply sw_catOwn); (· exact rfl))
  | ((with_reducible apply we_len_own); (· exact rfl))
  | ((with_reducible apply we_nin_own); (· exact rfl))
  | ((with_reducible apply we_ix_own); (· exact rfl))
  | ((with_reducible apply we_ne_own); (· exact rfl); (· with_reducible assumption))
  | ((with_reducible refine sw_own ?_ ?_); (· walk_at "sd"))
  | walk_at "st"))

abbrev sitem_length : Stmt := topS 2
theorem scitem_length : FnScope ["item"] ["item"] (defScope sitem_length) := ⟨rfl, rfl, rfl, by decide +kernel, rfl, by decide +kernel, by decide +kernel⟩

def fitem_length : FS := fun ss g P => ∃ (d : PyData), ss = [.d d] ∧ GItem d ∧ P (.d (.int (itemLen d))) g
theorem lenitem_length : ∀ ss g P, fitem_length ss g P → ss.length = ["item"].length := by
  rintro ss g P ⟨_, rfl, _⟩
  rfl

theorem okitem_length {P : Program} {w : World} {K : PySem.W.Frag} {mg : Str → Option Value} {base : Heap} (S : Std K mg "item_length" sitem_length ["item"])  : Cal P w K mg base 1 "item_length" ["item"] fitem_length := by
  refine cal_of S scitem_length (by decide) (lenitem_length) fun a cdv A outer s H vs Q E hr => ?_
  have sc := scitem_length
  let nm : List Str := ["item"]
  let sco := defScope sitem_length
  refine ⟨_, (pss_one (ps_ret (pe_ifExp (pt_cmpR (r := rEqu K) (op_equ (room64 hr)) (pe_ix (r := rIx K) ix_seq (pv 0) pe_int (fun _ _ => rfl)) pe_str (nomark _)) (pe_ix (r := rIx K) ix_seq (pv 0) pe_int (fun _ _ => rfl)) pe_int))), ?_⟩
  clear sc nm sco
  try dsimp only [cxOf, Cx.nox, Cx.wish]

  rintro ss g P ⟨d, rfl, hd, q⟩
  obtain ⟨w, r, rfl, _, hroom⟩ := hd
  show SW K _ _ [.d (.tuple (.str w :: r))] g
  walk_at "go"
  refine r2_ix_tup atI_zero ?_
  walk_at "go"
  refine ifd (fun h => ?_) fun h => ?_
  · have hw : w = "room" := h
    obtain ⟨n, rfl⟩ := hroom hw
    subst hw
    rw [itemLen_room] at q
    walk_at "go"
    exact q
  · rw [itemLen_else (w := w) h] at q
    walk_at "go"
    exact q

end LK
set_option maxRecDepth 100000
set_option maxHeartbeats 8000000
set_option autoImplicit false
namespace LK
open PySem L2 PyProof.Rows PL
variable [TBs]
local macro_rules | `(tactic| walk_at "nm") => `(tactic| first
  | (with_reducible assumption)
  | exact few_txt (by decide +kernel))
local macro_rules | `(tactic| walk_at "cm") => `(tactic| (unfold CMul; first
  | (left; decide)
  | (right; decide)
  | (left; refine ⟨?_, ?_⟩ <;> omega)
  | (right; refine ⟨?_, ?_⟩ <;> omega)))
local macro_rules | `(tactic| walk_at "sd") => `(tactic| first
  | exact rfl
  | exact Nat.le_of_ble_eq_true rfl
  | (with_reducible assumption)
  | decide
  | omega
  | (simp only [List.length_cons, List.length_nil, List.length_append, List.length_set, List.length_replicate, List.length_map]; omega)
  | (refine ⟨?_, ?_⟩ <;> (first | decide | omega)))
local macro_rules | `(tactic| walk_at "sz") => `(tactic| first
  | decide
  | (rw [sizeLine_eq]; omega)
  | (rw [sizeLine_eq]; simp only [List.length_cons, List.length_nil, List.length_append, List.length_set, List.length_replicate, List.length_map]; omega)
  | (refine ⟨?_, ?_⟩ <;> (first | decide | omega)))
local macro_rules | `(tactic| walk_at "ai") => `(tactic| repeat' (first
  | (with_reducible assumption)
  | (with_reducible exact AllD.nil)
  | (with_reducible refine AllD.cons ?_ ?_)
  | (with_reducible refine AllD.app ?_ ?_)
  | exact gi_room
  | exact gi_none (by decide +kernel) (by decide +kernel)
  | exact gi_one (by decide +kernel) (by decide +kernel) (by walk_at "nm")
  | exact gi_two (by decide +kernel) (by decide +kernel) (by walk_at "nm")))
local macro_rules | `(tactic| walk_at "st") => `(tactic| first
  | (with_reducible refine L2.iteT ?_)
  | (with_reducible refine L2.iteF ?_)
  | (with_reducible refine sw_if ?_)
  | (with_reducible refine cell_scr ?_)
  | (with_reducible refine cell_lst ?_)
  | (with_reducible refine cell_rcd ?_)
  | (with_reducible refine cell_dic ?_)
  | (with_reducible refine sw_setR ?_)
  | (with_reducible refine sw_next ?_)
  | (with_reducible refine sw_retN ?_)
  | (with_reducible refine sw_ret ?_)
  | (with_reducible refine we_op ?_)
  | (with_reducible refine we_int ?_)
  | (with_reducible refine we_str ?_)
  | (with_reducible refine we_bl ?_)
  | (with_reducible refine we_non ?_)
  | (with_reducible refine wa_nil ?_)
  | (with_reducible refine wa_cons ?_)
  | (with_reducible refine we_tup ?_)
  | (with_reducible refine we_lst ?_)
  | (with_reducible refine we_call ?_)
  | (with_reducible refine we_cb ?_)
  | (with_reducible refine we_if ?_)
  | (with_reducible refine we_neg ?_)
  | (with_reducible refine wt_tst ?_)
  | (with_reducible refine wt_and ?_)
  | (with_reducible refine wt_or ?_)
  | (with_reducible refine wt_not ?_)
  | (with_reducible refine wt_yes ?_)
  | (with_reducible refine r2_plus_int ?_)
  | (with_reducible refine r2_sub ?_)
  | (with_reducible refine r2_lt ?_)
  | (with_reducible refine r2_le ?_)
  | (with_reducible refine r2_gt ?_)
  | (with_reducible refine r2_ge ?_)
  | (with_reducible refine r2_eq_int ?_)
  | (with_reducible refine r2_eq_str ?_)
  | (with_reducible refine r2_ne_int ?_)
  | (with_reducible refine r2_ne_str ?_)
  | (with_reducible refine rc_len_list ?_)
  | (with_reducible refine rc_len_tup ?_)
  | (with_reducible refine rc_len_scr ?_)
  | (with_reducible refine rc_min2 ?_)
  | (with_reducible refine rc_max2 ?_)
  | (with_reducible refine rc_int_bool ?_)
  | (with_reducible refine rc_abs ?_)
  | (with_reducible refine wgs_nil ?_)
  | (with_reducible refine use_number ?_)
  | (with_reducible refine we_andV ?_)
  | (with_reducible refine we_orV ?_)
  | (with_reducible refine we_notV ?_)
  | (with_reducible refine we_dget ?_)
  | (with_reducible refine r2_in_strs ?_)
  | (with_reducible refine r2_nin_strs ?_)
  | (with_reducible refine we_index ?_)
  | ((with_reducible apply wg_name); (· walk_at "sd"))
  | ((with_reducible apply wg_tup); (· exact rfl))
  | ((with_reducible apply we_vd); (· exact rfl))
  | ((with_reducible apply we_vt); (· exact rfl))
  | ((with_reducible apply we_vs); (· exact rfl))
  | ((with_reducible apply r2_ix_rcd); (· exact rfl))
  | ((with_reducible apply r2_ix_tpl); (· exact rfl))
  | ((with_reducible apply r2_ix_list); (· exact rfl))
  | ((with_reducible apply r2_ix_tup); (· exact rfl))
  | ((with_reducible refine sw_asg ?_ ?_); (· walk_at "sd"))
  | ((with_reducible refine use_next ?_ ?_); (· walk_at "sd"))
  | ((with_reducible refine sl_w_str ?_ ?_); (· walk_at "sz"))
  | ((with_reducible refine r2_times_int ?_ ?_); (· walk_at "cm"))
  | ((with_reducible refine r2_mod ?_ ?_); (· walk_at "sd"))
  | ((with_reducible refine r2_fdiv ?_ ?_); (· walk_at "sd"))
  | ((with_reducible refine r2_pow ?_ ?_); (· exact ⟨by decide, by decide, by decide⟩))
  | ((with_reducible refine r2_plus_str ?_ ?_); (· walk_at "sd"))
  | ((with_reducible refine r2_plus_list ?_ ?_); (· walk_at "sd"))
  | ((with_reducible refine r2_plus_tup ?_ ?_); (· walk_at "sd"))
  | ((with_reducible refine rc_str_int ?_ ?_); (· walk_at "sd"))
  | ((with_reducible refine rc_len_str ?_ ?_); (· walk_at "sd"))
  | (with_reducible apply sw_asgG)
  | (with_reducible apply wgs_cons)
  | (with_reducible refine we_slice ?_)
  | (with_reducible refine wo_none ?_)
  | (with_reducible refine wo_some ?_)
  | (with_reducible refine sl_w_list ?_)
  | (with_reducible refine sl_w_tup ?_)
  | (with_reducible refine rc_tuple_list ?_)
  | (with_reducible refine wi_range1 ?_)
  | (with_reducible refine wi_range2 ?_)
  | (with_reducible refine wi_list ?_)
  | (with_reducible refine wi_tup ?_)
  | ((with_reducible apply Exists.intro); (with_reducible apply And.intro); (· exact rfl); (with_reducible apply And.intro); (· walk_at "sz"))
  | ((with_reducible apply Exists.intro); (with_reducible apply Exists.intro); (with_reducible apply And.intro); (· exact rfl); (with_reducible apply And.intro); (· exact rfl); (with_reducible apply Exists.intro); (with_reducible apply Exists.intro); (with_reducible apply And.intro); (· exact rfl); (with_reducible apply And.intro); (· exact rfl); (with_reducible apply And.intro))
  | ((with_reducible apply Exists.intro); (with_reducible apply And.intro); (· exact rfl))
  | fail)
local macro_rules | `(tactic| walk_at "gs") => `(tactic| repeat' (walk_at "st"))
local macro_rules | `(tactic| walk_at "go") => `(tactic| repeat' (first | (with_reducible refine sw_seq ?_) | walk_at "st"))
local macro_rules | `(tactic| walk_at "os") => `(tactic| repeat' (first
  | ((with_reducible apply sw_append); (· exact rfl))
  | ((with_reducible apply sw_ret_own); (· exact rfl))
  | ((with_reducible apply sw_catOwn); (· exact rfl))
  | ((with_reducible apply we_len_own); (· exact rfl))
  | ((with_reducible apply we_nin_own); (· exact rfl))
  | ((with_reducible apply we_ix_own); (· exact rfl))
  | ((with_reducible apply we_ne_own); (· exact rfl); (· with_reducible assumption))
  | ((with_reducible refine sw_own ?_ ?_); (· walk_at "sd"))
  | walk_at "st"))
local macro_rules | `(tactic| walk_at "og") => `(tactic| repeat' (first
  | (with_reducible refine sw_seq ?_)
  | ((with_reducible apply sw_append); (· exact rfl))
  | ((with_reducible apply sw_ret_own); (· exact rfl))
  | ((with_reducible apply sw_catOwn); (· exact rfl))
  | ((with_reducible apply we_len_own); (· exact rfl))
  | ((with_reducible apply we_nin_own); (· exact rfl))
  | ((with_reducible apply we_ix_own); (· exact rfl))
  | ((with_reducible apply we_ne_own); (· exact rfl); (· with_reducible assumption))
  | ((with_reducible refine sw_own ?_ ?_); (· walk_at "sd"))
  | walk_at "st"))

abbrev slength : Stmt := topS 3
theorem sclength : FnScope ["section", "item"] ["section"] (defScope slength) := ⟨rfl, rfl, rfl, by decide +kernel, rfl, by decide +kernel, by decide +kernel⟩

def flength : FS := fun ss g P => ∃ (a b c : PyData) (is : List PyData), ss = [.d (.tuple [a, b, c, .tuple is])] ∧ AllD GItem is ∧ is.length ≤ 100000 ∧ P (.d (.int (is.map itemLen).sum)) g
theorem lenlength : ∀ ss g P, flength ss g P → ss.length = ["section"].length := by
  rintro ss g P ⟨_, _, _, _, rfl, _⟩
  rfl

theorem oklength {P : Program} {w : World} {K : PySem.W.Frag} {mg : Str → Option Value} {base : Heap} (S : Std K mg "length" slength ["section"]) (Citem_length : Cal P w K mg base 1 "item_length" ["item"] fitem_length) (z_sum : mg "sum" = none) : Cal P w K mg base 2 "length" ["section"] flength := by
  obtain ⟨aitem_length, fditem_length, Gitem_length, gitem_length, kitem_length, bitem_length⟩ := Citem_length
  refine cal_of S sclength (by decide) (lenlength) fun a cdv A outer s H vs Q E hr => ?_
  have sc := sclength
  let nm : List Str := ["section", "item"]
  let sco := defScope slength
  refine ⟨_, (pss_one (ps_ret (pe_callB (r := rSum K) (cr_sum rfl) (by rfl) z_sum (by decide +kernel) (pa_cons (pe_lc (own := [("item", 1)]) (g := (gName 1)) (by rfl) sc.nd (pi_tup (pe_ix (r := rIx K) ix_seq (pv 0) pe_int (fun _ _ => rfl))) (blkOk_by (own := [("item", 1)]) (N := nm) (sc := sco) (by decide +kernel)) (fun _ _ _ _ _ => pg_name (i := 1) sc.nd rfl (Or.inl rfl)) (fun _ _ _ _ _ => pts_nil) (fun _ _ _ _ _ => (pe_call Gitem_length (hr.mono (by decide)) (by rfl) gitem_length kitem_length bitem_length .nil pass0 (pa_cons (pv 1) pa_nil)))) pa_nil)))), ?_⟩
  clear sc nm sco
  try dsimp only [cxOf, Cx.nox, Cx.wish]

  rintro ss g P ⟨a, b, c, is, rfl, hi, hl, q⟩
  show SW K _ _ [.d (.tuple [a, b, c, .tuple is]), .un] g
  have hl' : id (is.length ≤ 100000) := hl
  clear hl
  walk_at "go"
  refine we_lc (is := [1]) (by simp) (by simp) ?_
  walk_at "go"
  have hl : is.length ≤ 100000 := hl'
  refine ⟨by rw [sizeLine_eq]; omega, fun k acc g' => g = g' ∧ acc = (is.take k).map fun d => PyData.int (itemLen d), ⟨rfl, rfl⟩, ?_, ?_⟩
  · rintro k acc _ hk la ⟨rfl, rfl⟩ _
    rw [nth_get (List.getElem?_eq_getElem hk)]
    walk_at "go"
    refine ⟨_, rfl, hi _ (List.getElem_mem hk), ?_⟩
    refine ⟨_, rfl, Gh.le_refl _, rfl, ?_⟩
    rw [List.take_add_one, List.getElem?_eq_getElem hk, List.map_append]
    rfl
  · rintro acc _ la ⟨rfl, rfl⟩
    rw [List.take_length, map_ints]
    walk_at "go"
    refine rc_sum ?_
    exact q

end LK
set_option maxRecDepth 100000
set_option maxHeartbeats 8000000
set_option autoImplicit false
namespace LK
open PySem L2 PyProof.Rows PL
variable [TBs]
local macro_rules | `(tactic| walk_at "nm") => `(tactic| first
  | (with_reducible assumption)
  | exact few_txt (by decide +kernel))
local macro_rules | `(tactic| walk_at "cm") => `(tactic| (unfold CMul; first
  | (left; decide)
  | (right; decide)
  | (left; refine ⟨?_, ?_⟩ <;> omega)
  | (right; refine ⟨?_, ?_⟩ <;> omega)))
local macro_rules | `(tactic| walk_at "sd") => `(tactic| first
  | exact rfl
  | exact Nat.le_of_ble_eq_true rfl
  | (with_reducible assumption)
  | decide
  | omega
  | (simp only [List.length_cons, List.length_nil, List.length_append, List.length_set, List.length_replicate, List.length_map]; omega)
  | (refine ⟨?_, ?_⟩ <;> (first | decide | omega)))
local macro_rules | `(tactic| walk_at "sz") => `(tactic| first
  | decide
  | (rw [sizeLine_eq]; omega)
  | (rw [sizeLine_eq]; simp only [List.length_cons, List.length_nil, List.length_append, List.length_set, List.length_replicate, List.length_map]; omega)
  | (refine ⟨?_, ?_⟩ <;> (first | decide | omega)))
local macro_rules | `(tactic| walk_at "ai") => `(tactic| repeat' (first
  | (with_reducible assumption)
  | (with_reducible exact AllD.nil)
  | (with_reducible refine AllD.cons ?_ ?_)
  | (with_reducible refine AllD.app ?_ ?_)
  | exact gi_room
  | exact gi_none (by decide +kernel) (by decide +kernel)
  | exact gi_one (by decide +kernel) (by decide +kernel) (by walk_at "nm")
  | exact gi_two (by decide +kernel) (by decide +kernel) (by walk_at "nm")))
local macro_rules | `(tactic| walk_at "st") => `(tactic| first
  | (with_reducible refine L2.iteT ?_)
  | (with_reducible refine L2.iteF ?_)
  | (with_reducible refine sw_if ?_)
  | (with_reducible refine cell_scr ?_)
  | (with_reducible refine cell_lst ?_)
  | (with_reducible refine cell_rcd ?_)
  | (with_reducible refine cell_dic ?_)
  | (with_reducible refine sw_setR ?_)
  | (with_reducible refine sw_next ?_)
  | (with_reducible refine sw_retN ?_)
  | (with_reducible refine sw_ret ?_)
  | (with_reducible refine we_op ?_)
  | (with_reducible refine we_int ?_)
  | (with_reducible refine we_str ?_)
  | (with_reducible refine we_bl ?_)
  | (with_reducible refine we_non ?_)
  | (with_reducible refine wa_nil ?_)
  | (with_reducible refine wa_cons ?_)
  | (with_reducible refine we_tup ?_)
  | (with_reducible refine we_lst ?_)
  | (with_reducible refine we_call ?_)
  | (with_reducible refine we_cb ?_)
  | (with_reducible refine we_if ?_)
  | (with_reducible refine we_neg ?_)
  | (with_reducible refine wt_tst ?_)
  | (with_reducible refine wt_and ?_)
  | (with_reducible refine wt_or ?_)
  | (with_reducible refine wt_not ?_)
  | (with_reducible refine wt_yes ?_)
  | (with_reducible refine r2_plus_int ?_)
  | (with_reducible refine r2_sub ?_)
  | (with_reducible refine r2_lt ?_)
  | (with_reducible refine r2_le ?_)
  | (with_reducible refine r2_gt ?_)
  | (with_reducible refine r2_ge ?_)
  | (with_reducible refine r2_eq_int ?_)
  | (with_reducible refine r2_eq_str ?_)
  | (with_reducible refine r2_ne_int ?_)
  | (with_reducible refine r2_ne_str ?_)
  | (with_reducible refine rc_len_list ?_)
  | (with_reducible refine rc_len_tup ?_)
  | (with_reducible refine rc_len_scr ?_)
  | (with_reducible refine rc_min2 ?_)
  | (with_reducible refine rc_max2 ?_)
  | (with_reducible refine rc_int_bool ?_)
  | (with_reducible refine rc_abs ?_)
  | (with_reducible refine wgs_nil ?_)
  | (with_reducible refine use_number ?_)
  | (with_reducible refine we_andV ?_)
  | (with_reducible refine we_orV ?_)
  | (with_reducible refine we_notV ?_)
  | (with_reducible refine we_dget ?_)
  | (with_reducible refine r2_in_strs ?_)
  | (with_reducible refine r2_nin_strs ?_)
  | (with_reducible refine we_index ?_)
  | ((with_reducible apply wg_name); (· walk_at "sd"))
  | ((with_reducible apply wg_tup); (· exact rfl))
  | ((with_reducible apply we_vd); (· exact rfl))
  | ((with_reducible apply we_vt); (· exact rfl))
  | ((with_reducible apply we_vs); (· exact rfl))
  | ((with_reducible apply r2_ix_rcd); (· exact rfl))
  | ((with_reducible apply r2_ix_tpl); (· exact rfl))
  | ((with_reducible apply r2_ix_list); (· exact rfl))
  | ((with_reducible apply r2_ix_tup); (· exact rfl))
  | ((with_reducible refine sw_asg ?_ ?_); (· walk_at "sd"))
  | ((with_reducible refine use_next ?_ ?_); (· walk_at "sd"))
  | ((with_reducible refine sl_w_str ?_ ?_); (· walk_at "sz"))
  | ((with_reducible refine r2_times_int ?_ ?_); (· walk_at "cm"))
  | ((with_reducible refine r2_mod ?_ ?_); (· walk_at "sd"))
  | ((with_reducible refine r2_fdiv ?_ ?_); (· walk_at "sd"))
  | ((with_reducible refine r2_pow ?_ ?_); (· exact ⟨by decide, by decide, by decide⟩))
  | ((with_reducible refine r2_plus_str ?_ ?_); (· walk_at "sd"))
  | ((with_reducible refine r2_plus_list ?_ ?_); (· walk_at "sd"))
  | ((with_reducible refine r2_plus_tup ?_ ?_); (· walk_at "sd"))
  | ((with_reducible refine rc_str_int ?_ ?_); (· walk_at "sd"))
  | ((with_reducible refine rc_len_str ?_ ?_); (· walk_at "sd"))
  | (with_reducible apply sw_asgG)
  | (with_reducible apply wgs_cons)
  | (with_reducible refine we_slice ?_)
  | (with_reducible refine wo_none ?_)
  | (with_reducible refine wo_some ?_)
  | (with_reducible refine sl_w_list ?_)
  | (with_reducible refine sl_w_tup ?_)
  | (with_reducible refine rc_tuple_list ?_)
  | (with_reducible refine wi_range1 ?_)
  | (with_reducible refine wi_range2 ?_)
  | (with_reducible refine wi_list ?_)
  | (with_reducible refine wi_tup ?_)
  | ((with_reducible apply Exists.intro); (with_reducible apply And.intro); (· exact rfl); (with_reducible apply And.intro); (· walk_at "sz"))
  | ((with_reducible apply Exists.intro); (with_reducible apply Exists.intro); (with_reducible apply And.intro); (· exact rfl); (with_reducible apply And.intro); (· exact rfl); (with_reducible apply Exists.intro); (with_reducible apply Exists.intro); (with_reducible apply And.intro); (· exact rfl); (with_reducible apply And.intro); (· exact rfl); (with_reducible apply And.intro))
  | ((with_reducible apply Exists.intro); (with_reducible apply And.intro); (· exact rfl))
  | fail)
local macro_rules | `(tactic| walk_at "gs") => `(tactic| repeat' (walk_at "st"))
local macro_rules | `(tactic| walk_at "go") => `(tactic| repeat' (first | (with_reducible refine sw_seq ?_) | walk_at "st"))
local macro_rules | `(tactic| walk_at "os") => `(tactic| repeat' (first
  | ((with_reducible apply sw_append); (· exact rfl))
  | ((with_reducible apply sw_ret_own); (· exact rfl))
  | ((with_reducible apply sw_catOwn); (· exact rfl))
  | ((with_reducible apply we_len_own); (· exact rfl))
  | ((with_reducible apply we_nin_own); (· exact rfl))
  | ((with_reducible apply we_ix_own); (· exact rfl))
  | ((with_reducible apply we_ne_own); (· exact rfl); (· with_reducible assumption))
  | ((with_reducible refine sw_own ?_ ?_); (· walk_at "sd"))
  | walk_at "st"))
local macro_rules | `(tactic| walk_at "og") => `(tactic| repeat' (first
  | (with_reducible refine sw_seq ?_)
  | ((with_reducible apply sw_append); (· exact rfl))
  | ((with_reducible apply sw_ret_own); (· exact rfl))
  | ((with_reducible apply sw_catOwn); (· exact rfl))
  | ((with_reducible apply we_len_own); (· exact rfl))
  | ((with_reducible apply we_nin_own); (· exact rfl))
  | ((with_reducible apply we_ix_own); (· exact rfl))
  | ((with_reducible apply we_ne_own); (· exact rfl); (· with_reducible assumption))
  | ((with_reducible refine sw_own ?_ ?_); (· walk_at "sd"))
  | walk_at "st"))

abbrev s_law_random_piece : Stmt := topS 23
theorem sc_law_random_piece : FnScope ["_law_pen", "_law_names", "_law_items", "_law_k", "_law_r", "_law_s", "_law_k_here", "_law_n", "_law_some", "_law_word", "_law_turn", "_law_name", "_law_at", "_law_data", "_law_more", "_law_sections", "_law_symbols"] ["_law_pen"] (defScope s_law_random_piece) := ⟨rfl, rfl, rfl, by decide +kernel, rfl, by decide +kernel, by decide +kernel⟩

def f_law_random_piece : FS := fun ss g P => ∃ (ns : List Int), ss = [.t (penT ns)] ∧ ∀ d, GPiece d → P (.d d) g
theorem len_law_random_piece : ∀ ss g P, f_law_random_piece ss g P → ss.length = ["_law_pen"].length := by
  rintro ss g P ⟨_, rfl, _⟩
  rfl

theorem ok_law_random_piece {P : Program} {w : World} {K : PySem.W.Frag} {mg : Str → Option Value} {base : Heap} (S : Std K mg "_law_random_piece" s_law_random_piece ["_law_pen"]) (C_law_next : Cal P w K mg base 2 "_law_next" ["_law_pen", "_law_many"] f_law_next) (z_range : mg "range" = none) (z_int : mg "int" = none) (z_len : mg "len" = none) (z_tuple : mg "tuple" = none) : Cal P w K mg base 3 "_law_random_piece" ["_law_pen"] f_law_random_piece := by
  obtain ⟨a_law_next, fd_law_next, G_law_next, g_law_next, k_law_next, b_law_next⟩ := C_law_next
  refine cal_of S sc_law_random_piece (by decide) (len_law_random_piece) fun a cdv A outer s H vs Q E hr => ?_
  have sc := sc_law_random_piece
  let nm : List Str := ["_law_pen", "_law_names", "_law_items", "_law_k", "_law_r", "_law_s", "_law_k_here", "_law_n", "_law_some", "_law_word", "_law_turn", "_law_name", "_law_at", "_law_data", "_law_more", "_law_sections", "_law_symbols"]
  let sco := defScope s_law_random_piece
  refine ⟨_, (pss_cons (ps_set (i := 1) sc.nd rfl (Or.inl rfl) (pe_lst (pa_cons pe_str (pa_cons pe_str (pa_cons pe_str (pa_cons pe_str (pa_cons pe_str (pa_cons pe_str pa_nil))))))))
 (pss_cons (ps_set (i := 2) sc.nd rfl (Or.inl rfl) (pe_lst pa_nil))
 (pss_cons (ps_for PassesOwn.never rfl (pi_range1 (by rfl) z_range (pa_cons (pe_op (r := rPlus K) op_plus pe_int (pe_call G_law_next (hr.mono (by decide)) (by rfl) g_law_next k_law_next b_law_next .nil pass0 (pa_cons (pv 0) (pa_cons pe_int pa_nil)))) pa_nil)) (pg_name (i := 3) sc.nd rfl (Or.inl rfl))
 (pss_cons (ps_par (i := 4) (j := 5) (by rfl) sc.nd rfl rfl (by decide) rfl rfl (pa_cons (pe_call G_law_next (hr.mono (by decide)) (by rfl) g_law_next k_law_next b_law_next .nil pass0 (pa_cons (pv 0) (pa_cons pe_int pa_nil))) (pa_cons (pe_call G_law_next (hr.mono (by decide)) (by rfl) g_law_next k_law_next b_law_next .nil pass0 (pa_cons (pv 0) (pa_cons pe_int pa_nil))) pa_nil)) (by rfl))
 (pss_cons (ps_set (i := 6) sc.nd rfl (Or.inl rfl) (pe_ix (r := rIx K) ix_seq (pe_lst (pa_cons pe_int (pa_cons pe_int (pa_cons pe_int (pa_cons (pe_un un_neg pe_int) (pa_cons (pe_un un_neg pe_int) (pa_cons pe_int (pa_cons pe_int (pa_cons (pe_un un_neg pe_int) pa_nil))))))))) (pe_call G_law_next (hr.mono (by decide)) (by rfl) g_law_next k_law_next b_law_next .nil pass0 (pa_cons (pv 0) (pa_cons pe_int pa_nil))) (fun _ _ => rfl)))
 (pss_cons (ps_set (i := 7) sc.nd rfl (Or.inl rfl) (pe_ix (r := rIx K) ix_seq (pe_lst (pa_cons pe_int (pa_cons pe_int (pa_cons pe_int (pa_cons (pe_un un_neg pe_int) (pa_cons pe_int (pa_cons (pe_op op_pow pe_int pe_int) (pa_cons (pe_un un_neg (pe_op op_pow pe_int pe_int)) (pa_cons (pe_op op_sub (pe_op op_pow pe_int pe_int) pe_int) pa_nil))))))))) (pe_call G_law_next (hr.mono (by decide)) (by rfl) g_law_next k_law_next b_law_next .nil pass0 (pa_cons (pv 0) (pa_cons pe_int pa_nil))) (fun _ _ => rfl)))
 (pss_cons (ps_set (i := 8) sc.nd rfl (Or.inl rfl) (pe_lst (pa_cons (pe_tup (pa_cons pe_str (pa_cons (pv 4) (pa_cons (pv 7) pa_nil)))) (pa_cons (pe_tup (pa_cons pe_str (pa_cons (pv 4) (pa_cons (pv 5) (pa_cons (pv 6) pa_nil))))) pa_nil))))
 (pss_cons (ps_expr (pe_bm PySem.F.plainAttrs_list PySem.F.slot_list_append PySem.F.type_list_append mt_append (pv 8) (pa_cons (pe_tup (pa_cons pe_str (pa_cons (pv 4) (pa_cons (pv 5) (pa_cons (pv 6) pa_nil))))) pa_nil)))
 (pss_cons (ps_for PassesOwn.never rfl (pi_list (pe_lst (pa_cons pe_str (pa_cons pe_str (pa_cons pe_str (pa_cons pe_str pa_nil)))))) (pg_name (i := 9) sc.nd rfl (Or.inl rfl))
 (pss_one (ps_expr (pe_bm PySem.F.plainAttrs_list PySem.F.slot_list_append PySem.F.type_list_append mt_append (pv 8) (pa_cons (pe_tup (pa_cons (pv 9) (pa_cons (pv 4) (pa_cons (pv 5) pa_nil)))) pa_nil)))))
 (pss_cons (ps_set (i := 8) sc.nd rfl (Or.inl rfl) (pe_op (r := rPlus K) op_plus (pv 8) (pe_lst (pa_cons (pe_tup (pa_cons pe_str (pa_cons (pv 4) pa_nil))) (pa_cons (pe_tup (pa_cons pe_str (pa_cons (pv 4) pa_nil))) (pa_cons (pe_tup (pa_cons pe_str pa_nil)) (pa_cons (pe_tup (pa_cons pe_str pa_nil)) pa_nil)))))))
 (pss_cons (ps_expr (pe_bm PySem.F.plainAttrs_list PySem.F.slot_list_append PySem.F.type_list_append mt_append (pv 8) (pa_cons (pe_tup (pa_cons pe_str (pa_cons (pe_ix (r := rIx K) ix_seq pe_str (pe_call G_law_next (hr.mono (by decide)) (by rfl) g_law_next k_law_next b_law_next .nil pass0 (pa_cons (pv 0) (pa_cons pe_int pa_nil))) (fun _ _ => rfl)) pa_nil))) pa_nil)))
 (pss_cons (ps_expr (pe_bm PySem.F.plainAttrs_list PySem.F.slot_list_append PySem.F.type_list_append mt_append (pv 8) (pa_cons (pe_tup (pa_cons pe_str (pa_cons (pe_ix (r := rIx K) ix_seq pe_str (pe_call G_law_next (hr.mono (by decide)) (by rfl) g_law_next k_law_next b_law_next .nil pass0 (pa_cons (pv 0) (pa_cons pe_int pa_nil))) (fun _ _ => rfl)) pa_nil))) pa_nil)))
 (pss_cons (ps_expr (pe_bm PySem.F.plainAttrs_list PySem.F.slot_list_append PySem.F.type_list_append mt_append (pv 8) (pa_cons (pe_tup (pa_cons pe_str (pa_cons (pv 4) (pa_cons (pe_ix (r := rIx K) ix_seq pe_str (pe_call G_law_next (hr.mono (by decide)) (by rfl) g_law_next k_law_next b_law_next .nil pass0 (pa_cons (pv 0) (pa_cons pe_int pa_nil))) (fun _ _ => rfl)) pa_nil)))) pa_nil)))
 (pss_cons (ps_for PassesOwn.never rfl (pi_range1 (by rfl) z_range (pa_cons pe_int pa_nil)) (pg_name (i := 10) sc.nd rfl (Or.inl rfl))
 (pss_cons (ps_set (i := 11) sc.nd rfl (Or.inl rfl) (pe_ix (r := rIx K) ix_seq (pv 1) (pe_call G_law_next (hr.mono (by decide)) (by rfl) g_law_next k_law_next b_law_next .nil pass0 (pa_cons (pv 0) (pa_cons pe_int pa_nil))) (fun _ _ => rfl)))
 (pss_one (ps_expr (pe_bm PySem.F.plainAttrs_list PySem.F.slot_list_append PySem.F.type_list_append mt_append (pv 8) (pa_cons (pe_tup (pa_cons pe_str (pa_cons (pv 4) (pa_cons (pv 11) (pa_cons (pe_ix (r := rIx K) ix_seq (pe_lst (pa_cons (pe_call G_law_next (hr.mono (by decide)) (by rfl) g_law_next k_law_next b_law_next .nil pass0 (pa_cons (pv 0) (pa_cons pe_int pa_nil))) (pa_cons pe_int pa_nil))) (pe_callTy call_int1 (by rfl) z_int (by decide +kernel) (pa_cons (pe_cmpR (r := rInn K) (op_inn (room65 hr)) (pv 11) pe_str (by rfl)) pa_nil)) (fun _ _ => rfl)) pa_nil))))) pa_nil))))))
 (pss_one (ps_expr (pe_bm PySem.F.plainAttrs_list PySem.F.slot_list_append PySem.F.type_list_append mt_append (pv 2) (pa_cons (pe_ix (r := rIx K) ix_seq (pv 8) (pe_call G_law_next (hr.mono (by decide)) (by rfl) g_law_next k_law_next b_law_next .nil pass0 (pa_cons (pv 0) (pa_cons pe_int pa_nil))) (fun _ _ => rfl)) pa_nil))))))))))))))))
 (pss_cons (ps_set (i := 12) sc.nd rfl (Or.inl rfl) (pe_call G_law_next (hr.mono (by decide)) (by rfl) g_law_next k_law_next b_law_next .nil pass0 (pa_cons (pv 0) (pa_cons (pe_op (r := rPlus K) op_plus (pe_callB (r := rLenK K) call_len (by rfl) z_len (by decide +kernel) (pa_cons (pv 2) pa_nil)) pe_int) pa_nil))))
 (pss_cons (ps_set (i := 13) sc.nd rfl (Or.inl rfl) (pe_tup (pa_cons (pe_tup (pa_cons pe_str (pa_cons (pe_op op_sub (pe_call G_law_next (hr.mono (by decide)) (by rfl) g_law_next k_law_next b_law_next .nil pass0 (pa_cons (pv 0) (pa_cons pe_int pa_nil))) pe_int) pa_nil))) (pa_cons (pe_tup (pa_cons pe_str (pa_cons pe_str (pa_cons pe_int pa_nil)))) (pa_cons (pe_tup (pa_cons pe_str (pa_cons pe_str (pa_cons pe_int pa_nil)))) (pa_cons (pe_tup (pa_cons pe_str (pa_cons pe_str (pa_cons pe_int pa_nil)))) pa_nil))))))
 (pss_cons (ps_set (i := 14) sc.nd rfl (Or.inl rfl) (pe_tup (pa_cons (pe_tup (pa_cons pe_str (pa_cons (pe_call G_law_next (hr.mono (by decide)) (by rfl) g_law_next k_law_next b_law_next .nil pass0 (pa_cons (pv 0) (pa_cons pe_int pa_nil))) pa_nil))) (pa_cons (pe_tup (pa_cons pe_str (pa_cons pe_int pa_nil))) (pa_cons (pe_tup (pa_cons pe_str (pa_cons pe_str (pa_cons (pe_call G_law_next (hr.mono (by decide)) (by rfl) g_law_next k_law_next b_law_next .nil pass0 (pa_cons (pv 0) (pa_cons pe_int pa_nil))) pa_nil)))) pa_nil)))))
 (pss_cons (ps_set (i := 14) sc.nd rfl (Or.inl rfl) (pe_op (r := rPlus K) op_plus (pv 14) (pe_tup (pa_cons (pe_tup (pa_cons pe_str (pa_cons pe_str (pa_cons (pe_call G_law_next (hr.mono (by decide)) (by rfl) g_law_next k_law_next b_law_next .nil pass0 (pa_cons (pv 0) (pa_cons pe_int pa_nil))) pa_nil)))) pa_nil))))
 (pss_cons (ps_set (i := 15) sc.nd rfl (Or.inl rfl) (pe_tup (pa_cons (pe_tup (pa_cons pe_str (pa_cons pe_str (pa_cons pe_int (pa_cons (pe_callTy call_tuple_of (by rfl) z_tuple (by decide +kernel) (pa_cons (pv 2) pa_nil)) pa_nil))))) (pa_cons (pe_tup (pa_cons pe_str (pa_cons pe_str (pa_cons pe_int (pa_cons (pv 13) pa_nil))))) (pa_cons (pe_tup (pa_cons pe_str (pa_cons pe_str (pa_cons pe_int (pa_cons (pv 14) pa_nil))))) pa_nil)))))
 (pss_cons (ps_set (i := 16) sc.nd rfl (Or.inl rfl) (pe_tup (pa_cons (pe_tup (pa_cons pe_str (pa_cons pe_str (pa_cons (pe_op (r := rPlus K) op_plus pe_int (pe_call G_law_next (hr.mono (by decide)) (by rfl) g_law_next k_law_next b_law_next .nil pass0 (pa_cons (pv 0) (pa_cons pe_int pa_nil)))) pa_nil)))) (pa_cons (pe_tup (pa_cons pe_str (pa_cons pe_str (pa_cons (pe_tup (pa_cons pe_int (pa_cons pe_int pa_nil))) pa_nil)))) (pa_cons (pe_tup (pa_cons pe_str (pa_cons pe_str (pa_cons (pe_tup (pa_cons pe_int (pa_cons pe_int pa_nil))) pa_nil)))) pa_nil)))))
 (pss_cons (ps_set (i := 16) sc.nd rfl (Or.inl rfl) (pe_op (r := rPlus K) op_plus (pv 16) (pe_tup (pa_cons (pe_tup (pa_cons pe_str (pa_cons pe_str (pa_cons (pe_tup (pa_cons pe_int (pa_cons pe_int pa_nil))) pa_nil)))) (pa_cons (pe_tup (pa_cons pe_str (pa_cons pe_str (pa_cons (pe_tup (pa_cons pe_int (pa_cons (pv 12) pa_nil))) pa_nil)))) (pa_cons (pe_tup (pa_cons pe_str (pa_cons pe_str (pa_cons pe_non pa_nil)))) pa_nil))))))
 (pss_one (ps_ret (pe_tup (pa_cons pe_str (pa_cons (pv 15) (pa_cons (pv 16) pa_nil)))))))))))))))), ?_⟩
  clear sc nm sco
  try dsimp only [cxOf, Cx.nox, Cx.wish]

  rintro ss g P ⟨ns, rfl, q⟩
  show SW K _ _ [.t (penT ns), .un, .un, .un, .un, .un, .un, .un, .un, .un, .un, .un, .un, .un, .un, .un, .un] g
  refine sw_seq ?_
  walk_at "gs"
  refine sw_seq ?_
  refine sw_own (by show 2 < 17; decide) ?_
  walk_at "gs"
  refine sw_seq ?_
  refine sw_for (is := [3]) ?_
  walk_at "gs"
  intro r r0 r1
  walk_at "gs"
  refine ⟨fun k ρ g' => g = g' ∧ ∃ its s3 s4 s5 s6 s7 s8 s9 s10 s11, ρ = [.t (penT ns), .d (.list [.str "f", .str "g", .str "d", .str "e", .str "c", .str "m"]), .own its, s3, s4, s5, s6, s7, s8, s9, s10, s11, .un, .un, .un, .un, .un] ∧ AllD GItem its ∧ its.length ≤ k, ?_, ?_, ?_⟩
  · exact ⟨rfl, _, _, _, _, _, _, _, _, _, _, rfl, .nil, Nat.zero_le _⟩
  · rintro k _ _ hk ⟨rfl, its, s3, s4, s5, s6, s7, s8, s9, s10, s11, rfl, hi, hil⟩
    walk_at "gs"
    refine sw_seq ?_
    refine sw_par (by show 4 < 17; decide) (by show 5 < 17; decide) ?_
    walk_at "gs"
    intro x x0 x1
    walk_at "gs"
    intro y y0 y1
    walk_at "gs"
    refine ⟨_, _, rfl, ?_⟩
    refine sw_seq ?_
    walk_at "gs"
    intro a a0 a1
    refine r2_ix_mem a0 a1 fun d hd => ?_
    obtain ⟨kh, rfl⟩ : ∃ z : Int, d = .int z := by
      simp only [List.mem_cons, List.not_mem_nil, or_false] at hd
      rcases hd with rfl | rfl | rfl | rfl | rfl | rfl | rfl | rfl <;> exact ⟨_, rfl⟩
    walk_at "gs"
    refine sw_seq ?_
    walk_at "gs"
    intro b b0 b1
    refine r2_ix_mem b0 b1 fun d hd => ?_
    obtain ⟨n, rfl⟩ : ∃ z : Int, d = .int z := by
      simp only [List.mem_cons, List.not_mem_nil, or_false] at hd
      rcases hd with rfl | rfl | rfl | rfl | rfl | rfl | rfl | rfl <;> exact ⟨_, rfl⟩
    walk_at "gs"
    refine sw_seq ?_
    refine sw_own (by show 8 < 17; decide) ?_
    walk_at "gs"
    have fgm : ∀ i : Int, 0 ≤ i → i < 3 → ∃ c, atI ("fgm" : Str).cps.toList i = some c ∧ NmOk ⟨#[c]⟩ := fun i i0 i1 => by
      have : i = 0 ∨ i = 1 ∨ i = 2 := by omega
      rcases this with rfl | rfl | rfl <;> exact ⟨_, rfl, few_txt (by decide +kernel)⟩
    have hfl : ("fgm" : Str).length ≤ sizeLine := by
      have : ("fgm" : Str).length = 3 := by decide +kernel
      rw [this, sizeLine_eq]
      decide
    have hs0 : AllD GItem [.tuple [.str "set", .int x, .int n], .tuple [.str "load", .int x, .int y, .int kh], .tuple [.str "store", .int x, .int y, .int kh]] := by walk_at "ai"
    refine sw_seq ?_
    walk_at "os"
    · rw [sizeLine_eq]
      simp only [List.length_cons, List.length_nil]
      omega
    walk_at "os"
    refine sw_seq ?_
    refine sw_for (is := [9]) ?_
    walk_at "os"
    refine ⟨fun j ρ g' => g = g' ∧ ∃ sm s9 s10 s11, ρ = [.t (penT ns), .d (.list [.str "f", .str "g", .str "d", .str "e", .str "c", .str "m"]), .own its, .d (.int k), .d (.int x), .d (.int y), .d (.int kh), .d (.int n), .own sm, s9, s10, s11, .un, .un, .un, .un, .un] ∧ AllD GItem sm ∧ sm.length = 3 + j, ?_, ?_, ?_⟩
    · exact ⟨rfl, _, _, _, _, rfl, hs0, rfl⟩
    · rintro j _ _ hj ⟨rfl, sm, s9, s10, s11, rfl, hsm, hsl⟩
      have hj4 : j < 4 := hj
      obtain ⟨wd, hwd, hw1, hw2⟩ : ∃ wd : Str, [PyData.str "copy", .str "add", .str "less", .str "times"][j]? = some (.str wd) ∧ npart wd = none ∧ wd ≠ "room" := by
        have : j = 0 ∨ j = 1 ∨ j = 2 ∨ j = 3 := by omega
        rcases this with rfl | rfl | rfl | rfl <;> exact ⟨_, rfl, by decide +kernel, by decide +kernel⟩
      rw [nth_get hwd]
      walk_at "os"
      · rw [sizeLine_eq]
        omega
      walk_at "os"
      exact ⟨rfl, _, _, _, _, rfl, hsm.snoc (gi_none hw1 hw2), by simp; omega⟩
    rintro _ _ ⟨rfl, sm, s9, s10, s11, rfl, hsm, hsl⟩
    have hsl7 : sm.length = 7 := hsl
    have h4 : AllD GItem [.tuple [.str "tell", .int x], .tuple [.str "enter", .int x], .tuple [.str "back"], .tuple [.str "halt"]] := by walk_at "ai"
    refine sw_seq ?_
    walk_at "os"
    have hsm := hsm.app h4
    have hsl : (sm ++ [PyData.tuple [PyData.str "tell", PyData.int x], PyData.tuple [PyData.str "enter", PyData.int x], PyData.tuple [PyData.str "back"], PyData.tuple [PyData.str "halt"]]).length = 11 := by rw [List.length_append]; simp only [List.length_cons, List.length_nil]; omega
    walk_at "os"
    generalize sm ++ [PyData.tuple [PyData.str "tell", PyData.int x], PyData.tuple [PyData.str "enter", PyData.int x], PyData.tuple [PyData.str "back"], PyData.tuple [PyData.str "halt"]] = sm at hsm hsl ⊢
    refine sw_seq ?_
    walk_at "os"
    · rw [sizeLine_eq]
      omega
    walk_at "os"
    intro i1 i10 i11
    obtain ⟨c1, hc1, hnm1⟩ := fgm i1 i10 i11
    refine r2_ix_str hfl hc1 ?_
    walk_at "os"
    have hsm := hsm.snoc (d := .tuple [.str "call", .str ⟨#[c1]⟩]) (gi_one (by decide +kernel) (by decide +kernel) (by walk_at "nm"))
    have hsl : (sm ++ [PyData.tuple [PyData.str "call", PyData.str ⟨#[c1]⟩]]).length = 12 := by rw [List.length_append]; simp only [List.length_cons, List.length_nil]; omega
    generalize sm ++ [PyData.tuple [PyData.str "call", PyData.str ⟨#[c1]⟩]] = sm at hsm hsl ⊢
    refine sw_seq ?_
    walk_at "os"
    · rw [sizeLine_eq]
      omega
    walk_at "os"
    intro i2 i20 i21
    obtain ⟨c2, hc2, hnm2⟩ := fgm i2 i20 i21
    refine r2_ix_str hfl hc2 ?_
    walk_at "os"
    have hsm := hsm.snoc (d := .tuple [.str "jump", .str ⟨#[c2]⟩]) (gi_one (by decide +kernel) (by decide +kernel) (by walk_at "nm"))
    have hsl : (sm ++ [PyData.tuple [PyData.str "jump", PyData.str ⟨#[c2]⟩]]).length = 13 := by rw [List.length_append]; simp only [List.length_cons, List.length_nil]; omega
    generalize sm ++ [PyData.tuple [PyData.str "jump", PyData.str ⟨#[c2]⟩]] = sm at hsm hsl ⊢
    refine sw_seq ?_
    walk_at "os"
    · rw [sizeLine_eq]
      omega
    walk_at "os"
    intro i3 i30 i31
    obtain ⟨c3, hc3, hnm3⟩ := fgm i3 i30 i31
    refine r2_ix_str hfl hc3 ?_
    walk_at "os"
    have hsm := hsm.snoc (d := .tuple [.str "when", .int x, .str ⟨#[c3]⟩]) (gi_two (by decide +kernel) (by decide +kernel) (by walk_at "nm"))
    have hsl : (sm ++ [PyData.tuple [PyData.str "when", PyData.int x, PyData.str ⟨#[c3]⟩]]).length = 14 := by rw [List.length_append]; simp only [List.length_cons, List.length_nil]; omega
    generalize sm ++ [PyData.tuple [PyData.str "when", PyData.int x, PyData.str ⟨#[c3]⟩]] = sm at hsm hsl ⊢
    refine sw_seq ?_
    refine sw_for (is := [10]) ?_
    walk_at "os"
    refine ⟨fun j ρ g' => g = g' ∧ ∃ sm s9 s10 s11, ρ = [.t (penT ns), .d (.list [.str "f", .str "g", .str "d", .str "e", .str "c", .str "m"]), .own its, .d (.int k), .d (.int x), .d (.int y), .d (.int kh), .d (.int n), .own sm, s9, s10, s11, .un, .un, .un, .un, .un] ∧ AllD GItem sm ∧ sm.length = 14 + j, ?_, ?_, ?_⟩
    · exact ⟨rfl, _, _, _, _, rfl, hsm, hsl⟩
    · rintro j _ _ hj ⟨rfl, sm, s9, s10, s11, rfl, hsm, hsl⟩
      have hj4 : j < 4 := hj
      walk_at "os"
      refine sw_seq ?_
      walk_at "os"
      intro i4 i40 i41
      refine r2_ix_mem i40 i41 fun d hd => ?_
      obtain ⟨nm, rfl, hnm⟩ : ∃ nm : Str, d = .str nm ∧ NmOk nm := by
        simp only [List.mem_cons, List.not_mem_nil, or_false] at hd
        rcases hd with rfl | rfl | rfl | rfl | rfl | rfl <;> exact ⟨_, rfl, few_txt (by decide +kernel)⟩
      walk_at "os"
      · rw [sizeLine_eq]
        omega
      walk_at "os"
      intro i5 i50 i51
      walk_at "os"
      refine r2_in_str ?_
      walk_at "os"
      refine r2_ix_mem (by split <;> decide) (by split <;> (show _ < ((2 : Nat) : Int); decide)) fun d hd => ?_
      walk_at "os"
      exact ⟨rfl, _, _, _, _, rfl, hsm.snoc (gi_two (by decide +kernel) (by decide +kernel) (by walk_at "nm")), by simp; omega⟩
    rintro _ _ ⟨rfl, sm, s9, s10, s11, rfl, hsm, hsl⟩
    have hsl18 : sm.length = 18 := hsl
    walk_at "os"
    · rw [sizeLine_eq]
      omega
    walk_at "os"
    intro i6 i60 i61
    obtain ⟨i6, rfl⟩ := Int.eq_ofNat_of_zero_le i60
    have hi6 : i6 < sm.length := by omega
    walk_at "os"
    refine ⟨_, _, rfl, atI_nat (List.getElem?_eq_getElem hi6), ?_⟩
    exact ⟨_, rfl, rfl, _, _, _, _, _, _, _, _, _, _, rfl, hi.snoc (hsm _ (List.getElem_mem hi6)), by simp; omega⟩
  · rintro _ _ ⟨rfl, its, s3, s4, s5, s6, s7, s8, s9, s10, s11, rfl, hi, hil⟩
    refine sw_freeze 2 rfl ?_
    have hlen : its.length ≤ 30 := by omega
    refine sw_seq ?_
    walk_at "gs"
    intro j1 j10 j11
    walk_at "gs"
    refine sw_seq ?_
    walk_at "gs"
    intro j2 j20 j21
    walk_at "go"
    intro j3 j30 j31
    walk_at "go"
    intro j4 j40 j41
    walk_at "go"
    intro j5 j50 j51
    walk_at "go"
    intro j6 j60 j61
    walk_at "go"
    have sy : ∀ (x b : Str) (w : PyData), Txt 40 x → IsSym (.tuple [.str x, .str b, w]) := fun x b w hx => ⟨x, b, w, rfl, hx⟩
    refine q _ ⟨_, _, _, rfl, ?_, Nat.le_of_ble_eq_true rfl, ?_, Nat.le_of_ble_eq_true rfl⟩
    · refine AllD.cons ⟨_, _, _, _, rfl, hi, by omega⟩ (AllD.cons ⟨_, _, _, _, rfl, ?_, Nat.le_of_ble_eq_true rfl⟩ (AllD.cons ⟨_, _, _, _, rfl, ?_, Nat.le_of_ble_eq_true rfl⟩ AllD.nil))
      · walk_at "ai"
      · walk_at "ai"
    · refine AllD.app (AllD.cons (sy _ _ _ ⟨by decide +kernel, by decide +kernel⟩) (AllD.cons (sy _ _ _ ⟨by decide +kernel, by decide +kernel⟩) (AllD.cons (sy _ _ _ ⟨by decide +kernel, by decide +kernel⟩) AllD.nil))) (AllD.cons (sy _ _ _ ⟨by decide +kernel, by decide +kernel⟩) (AllD.cons (sy _ _ _ ⟨by decide +kernel, by decide +kernel⟩) (AllD.cons (sy _ _ _ ⟨by decide +kernel, by decide +kernel⟩) AllD.nil)))

end LK
set_option maxRecDepth 100000
set_option maxHeartbeats 8000000
set_option autoImplicit false
namespace LK
open PySem L2 PyProof.Rows PL
variable [TBs]
local macro_rules | `(tactic| walk_at "nm") => `(tactic| first
  | (with_reducible assumption)
  | exact few_txt (by decide +kernel))
local macro_rules | `(tactic| walk_at "cm") => `(tactic| (unfold CMul; first
  | (left; decide)
  | (right; decide)
  | (left; refine ⟨?_, ?_⟩ <;> omega)
  | (right; refine ⟨?_, ?_⟩ <;> omega)))
local macro_rules | `(tactic| walk_at "sd") => `(tactic| first
  | exact rfl
  | exact Nat.le_of_ble_eq_true rfl
  | (with_reducible assumption)
  | decide
  | omega
  | (simp only [List.length_cons, List.length_nil, List.length_append, List.length_set, List.length_replicate, List.length_map]; omega)
  | (refine ⟨?_, ?_⟩ <;> (first | decide | omega)))
local macro_rules | `(tactic| walk_at "sz") => `(tactic| first
  | decide
  | (rw [sizeLine_eq]; omega)
  | (rw [sizeLine_eq]; simp only [List.length_cons, List.length_nil, List.length_append, List.length_set, List.length_replicate, List.length_map]; omega)
  | (refine ⟨?_, ?_⟩ <;> (first | decide | omega)))
local macro_rules | `(tactic| walk_at "ai") => `(tactic| repeat' (first
  | (with_reducible assumption)
  | (with_reducible exact AllD.nil)
  | (with_reducible refine AllD.cons ?_ ?_)
  | (with_reducible refine AllD.app ?_ ?_)
  | exact gi_room
  | exact gi_none (by decide +kernel) (by decide +kernel)
  | exact gi_one (by decide +kernel) (by decide +kernel) (by walk_at "nm")
  | exact gi_two (by decide +kernel) (by decide +kernel) (by walk_at "nm")))
local macro_rules | `(tactic| walk_at "st") => `(tactic| first
  | (with_reducible refine L2.iteT ?_)
  | (with_reducible refine L2.iteF ?_)
  | (with_reducible refine sw_if ?_)
  | (with_reducible refine cell_scr ?_)
  | (with_reducible refine cell_lst ?_)
  | (with_reducible refine cell_rcd ?_)
  | (with_reducible refine cell_dic ?_)
  | (with_reducible refine sw_setR ?_)
  | (with_reducible refine sw_next ?_)
  | (with_reducible refine sw_retN ?_)
  | (with_reducible refine sw_ret ?_)
  | (with_reducible refine we_op ?_)
  | (with_reducible refine we_int ?_)
  | (with_reducible refine we_str ?_)
  | (with_reducible refine we_bl ?_)
  | (with_reducible refine we_non ?_)
  | (with_reducible refine wa_nil ?_)
  | (with_reducible refine wa_cons ?_)
  | (with_reducible refine we_tup ?_)
  | (with_reducible refine we_lst ?_)
  | (with_reducible refine we_call ?_)
  | (with_reducible refine we_cb ?_)
  | (with_reducible refine we_if ?_)
  | (with_reducible refine we_neg ?_)
  | (with_reducible refine wt_tst ?_)
  | (with_reducible refine wt_and ?_)
  | (with_reducible refine wt_or ?_)
  | (with_reducible refine wt_not ?_)
  | (with_reducible refine wt_yes ?_)
  | (with_reducible refine r2_plus_int ?_)
  | (with_reducible refine r2_sub ?_)
  | (with_reducible refine r2_lt ?_)
  | (with_reducible refine r2_le ?_)
  | (with_reducible refine r2_gt ?_)
  | (with_reducible refine r2_ge ?_)
  | (with_reducible refine r2_eq_int ?_)
  | (with_reducible refine r2_eq_str ?_)
  | (with_reducible refine r2_ne_int ?_)
  | (with_reducible refine r2_ne_str ?_)
  | (with_reducible refine rc_len_list ?_)
  | (with_reducible refine rc_len_tup ?_)
  | (with_reducible refine rc_len_scr ?_)
  | (with_reducible refine rc_min2 ?_)
  | (with_reducible refine rc_max2 ?_)
  | (with_reducible refine rc_int_bool ?_)
  | (with_reducible refine rc_abs ?_)
  | (with_reducible refine wgs_nil ?_)
  | (with_reducible refine use_number ?_)
  | (with_reducible refine we_andV ?_)
  | (with_reducible refine we_orV ?_)
  | (with_reducible refine we_notV ?_)
  | (with_reducible refine we_dget ?_)
  | (with_reducible refine r2_in_strs ?_)
  | (with_reducible refine r2_nin_strs ?_)
  | (with_reducible refine we_index ?_)
  | ((with_reducible apply wg_name); (· walk_at "sd"))
  | ((with_reducible apply wg_tup); (· exact rfl))
  | ((with_reducible apply we_vd); (· exact rfl))
  | ((with_reducible apply we_vt); (· exact rfl))
  | ((with_reducible apply we_vs); (· exact rfl))
  | ((with_reducible apply r2_ix_rcd); (· exact rfl))
  | ((with_reducible apply r2_ix_tpl); (· exact rfl))
  | ((with_reducible apply r2_ix_list); (· exact rfl))
  | ((with_reducible apply r2_ix_tup); (· exact rfl))
  | ((with_reducible refine sw_asg ?_ ?_); (· walk_at "sd"))
  | ((with_reducible refine use_next ?_ ?_); (· walk_at "sd"))
  | ((with_reducible refine sl_w_str ?_ ?_); (· walk_at "sz"))
  | ((with_reducible refine r2_times_int ?_ ?_); (· walk_at "cm"))
  | ((with_reducible refine r2_mod ?_ ?_); (· walk_at "sd"))
  | ((with_reducible refine r2_fdiv ?_ ?_); (· walk_at "sd"))
  | ((with_reducible refine r2_pow ?_ ?_); (· exact ⟨by decide, by decide, by decide⟩))
  | ((with_reducible refine r2_plus_str ?_ ?_); (· walk_at "sd"))
  | ((with_reducible refine r2_plus_list ?_ ?_); (· walk_at "sd"))
  | ((with_reducible refine r2_plus_tup ?_ ?_); (· walk_at "sd"))
  | ((with_reducible refine rc_str_int ?_ ?_); (· walk_at "sd"))
  | ((with_reducible refine rc_len_str ?_ ?_); (· walk_at "sd"))
  | (with_reducible apply sw_asgG)
  | (with_reducible apply wgs_cons)
  | (with_reducible refine we_slice ?_)
  | (with_reducible refine wo_none ?_)
  | (with_reducible refine wo_some ?_)
  | (with_reducible refine sl_w_list ?_)
  | (with_reducible refine sl_w_tup ?_)
  | (with_reducible refine rc_tuple_list ?_)
  | (with_reducible refine wi_range1 ?_)
  | (with_reducible refine wi_range2 ?_)
  | (with_reducible refine wi_list ?_)
  | (with_reducible refine wi_tup ?_)
  | ((with_reducible apply Exists.intro); (with_reducible apply And.intro); (· exact rfl); (with_reducible apply And.intro); (· walk_at "sz"))
  | ((with_reducible apply Exists.intro); (with_reducible apply Exists.intro); (with_reducible apply And.intro); (· exact rfl); (with_reducible apply And.intro); (· exact rfl); (with_reducible apply Exists.intro); (with_reducible apply Exists.intro); (with_reducible apply And.intro); (· exact rfl); (with_reducible apply And.intro); (· exact rfl); (with_reducible apply And.intro))
  | ((with_reducible apply Exists.intro); (with_reducible apply And.intro); (· exact rfl))
  | fail)
local macro_rules | `(tactic| walk_at "gs") => `(tactic| repeat' (walk_at "st"))
local macro_rules | `(tactic| walk_at "go") => `(tactic| repeat' (first | (with_reducible refine sw_seq ?_) | walk_at "st"))
local macro_rules | `(tactic| walk_at "os") => `(tactic| repeat' (first
  | ((with_reducible apply sw_append); (· exact rfl))
  | ((with_reducible apply sw_ret_own); (· exact rfl))
  | ((with_reducible apply sw_catOwn); (· exact rfl))
  | ((with_reducible apply we_len_own); (· exact rfl))
  | ((with_reducible apply we_nin_own); (· exact rfl))
  | ((with_reducible apply we_ix_own); (· exact rfl))
  | ((with_reducible apply we_ne_own); (· exact rfl); (· with_reducible assumption))
  | ((with_reducible refine sw_own ?_ ?_); (· walk_at "sd"))
  | walk_at "st"))
local macro_rules | `(tactic| walk_at "og") => `(tactic| repeat' (first
  | (with_reducible refine sw_seq ?_)
  | ((with_reducible apply sw_append); (· exact rfl))
  | ((with_reducible apply sw_ret_own); (· exact rfl))
  | ((with_reducible apply sw_catOwn); (· exact rfl))
  | ((with_reducible apply we_len_own); (· exact rfl))
  | ((with_reducible apply we_nin_own); (· exact rfl))
  | ((with_reducible apply we_ix_own); (· exact rfl))
  | ((with_reducible apply we_ne_own); (· exact rfl); (· with_reducible assumption))
  | ((with_reducible refine sw_own ?_ ?_); (· walk_at "sd"))
  | walk_at "st"))

abbrev s_law_closed : Stmt := topS 19
theorem sc_law_closed : FnScope ["_law_parts", "_law_stem", "_law_maybes", "_law_by", "_law_found", "_law_k", "_law_rows", "_law_j", "_law_kind", "_law_unit", "_law_items", "_law_had", "_law_one", "_law_lax", "_law_name", "_law_symbols"] ["_law_parts", "_law_stem", "_law_maybes", "_law_by"] (defScope s_law_closed) := ⟨rfl, rfl, rfl, by decide +kernel, rfl, by decide +kernel, by decide +kernel⟩

def f_law_closed : FS := fun ss g P => ∃ (p : Nat) (stem : Str) (ms : List Str) (by_ : Int), ss = [.t (partsT p), .d (.str stem), .d (.list (ms.map .str)), .d (.int by_)] ∧ Txt 12 stem ∧ IsMs ms ∧ ms.length ≤ 4 ∧ 0 ≤ by_ ∧ 0 < g.lb p ∧ g.ub ≤ 3000 ∧
  ∀ (ps : List PyData) g', AllD GPiece ps → ps.length ≤ g.ub → g.le g' → g'.kn = g.kn → P (.d (.list ps)) g'
theorem len_law_closed : ∀ ss g P, f_law_closed ss g P → ss.length = ["_law_parts", "_law_stem", "_law_maybes", "_law_by"].length := by
  rintro ss g P ⟨_, _, _, _, rfl, _⟩
  rfl

theorem ok_law_closed {P : Program} {w : World} {K : PySem.W.Frag} {mg : Str → Option Value} {base : Heap} {cc P0 : Addr} (S : StdC K mg "_law_closed" s_law_closed ["_law_parts", "_law_stem", "_law_maybes", "_law_by"] cc) (TBl : LamX.TabB base mg cc P0) (inT : (P0, (("_law_closed" : Str) ++ ".<locals>." ++ "<lambda>")) ∈ TBs.tb) (z_range : mg "range" = none) (z_len : mg "len" = none) (z_tuple : mg "tuple" = none) (z_str : mg "str" = none) (z_sorted : mg "sorted" = none) : Cal P w K mg base 2 "_law_closed" ["_law_parts", "_law_stem", "_law_maybes", "_law_by"] f_law_closed := by
  refine cal_ofC S sc_law_closed (by decide) (len_law_closed) fun a A outer s H vs Q E hr => ?_
  have sc := sc_law_closed
  let nm : List Str := ["_law_parts", "_law_stem", "_law_maybes", "_law_by", "_law_found", "_law_k", "_law_rows", "_law_j", "_law_kind", "_law_unit", "_law_items", "_law_had", "_law_one", "_law_lax", "_law_name", "_law_symbols"]
  let sco := defScope s_law_closed
  refine ⟨_, (pss_cons (ps_set (i := 4) sc.nd rfl (Or.inl rfl) (pe_lst pa_nil))
 (pss_cons (ps_for PassesOwn.never rfl (pi_range1 (by rfl) z_range (pa_cons (pe_callB (r := rLenK K) call_len (by rfl) z_len (by decide +kernel) (pa_cons (pv 0) pa_nil)) pa_nil)) (pg_name (i := 5) sc.nd rfl (Or.inl rfl))
 (pss_cons (ps_set (i := 6) sc.nd rfl (Or.inl rfl) (pe_lst pa_nil))
 (pss_cons (ps_for PassesOwn.never rfl (pi_range1 (by rfl) z_range (pa_cons (pe_callB (r := rLenK K) call_len (by rfl) z_len (by decide +kernel) (pa_cons (pe_ix (r := rIx K) ix_seq (pe_ix (r := rIx K) ix_seq (pv 0) (pv 5) (fun _ _ => rfl)) pe_int (fun _ _ => rfl)) pa_nil)) pa_nil)) (pg_name (i := 7) sc.nd rfl (Or.inl rfl))
 (pss_cons (ps_asg (pe_ix (r := rIx K) ix_seq (pe_ix (r := rIx K) ix_seq (pe_ix (r := rIx K) ix_seq (pv 0) (pv 5) (fun _ _ => rfl)) pe_int (fun _ _ => rfl)) (pv 7) (fun _ _ => rfl)) (show PG _ _ (gLst K 3 _) from pg_lst (by rfl) (pgs_cons (pg_name (i := 8) sc.nd rfl (Or.inl rfl)) (pgs_cons (pg_name (i := 9) sc.nd rfl (Or.inl rfl)) (pgs_cons (pg_name (i := 10) sc.nd rfl (Or.inl rfl)) pgs_nil)))))
 (pss_one (ps_expr (pe_bm PySem.F.plainAttrs_list PySem.F.slot_list_append PySem.F.type_list_append mt_append (pv 6) (pa_cons (pe_tup (pa_cons (pe_op (r := rPlus K) op_plus (pe_op (r := rPlus K) op_plus (pv 1) pe_str) (pe_callTy call_str_int (by rfl) z_str (by decide +kernel) (pa_cons (pv 7) pa_nil))) (pa_cons (pv 8) (pa_cons (pv 9) (pa_cons (pe_callTy call_tuple_of (by rfl) z_tuple (by decide +kernel) (pa_cons (pv 10) pa_nil)) pa_nil))))) pa_nil))))))
 (pss_cons (ps_set (i := 11) sc.nd rfl (Or.inr rfl) (pe_lc (own := [("_law_one", 12)]) (g := (gName 12)) (by rfl) sc.nd (pi_list (pe_ix (r := rIx K) ix_seq (pe_ix (r := rIx K) ix_seq (pv 0) (pv 5) (fun _ _ => rfl)) pe_int (fun _ _ => rfl))) (blkOk_by (own := [("_law_one", 12)]) (N := nm) (sc := sco) (by decide +kernel)) (fun _ _ _ _ _ => pg_name (i := 12) sc.nd rfl (Or.inl rfl)) (fun _ _ _ _ _ => pts_nil) (fun _ _ _ _ _ => (pe_ix (r := rIx K) ix_seq (pv 12) pe_int (fun _ _ => rfl)))))
 (pss_cons (ps_setLc (i := 13) (own := [("_law_name", 14)]) (g := (gName 14)) (by rfl) sc.nd rfl rfl (sw_true rfl rfl rfl (by decide +kernel)) (pi_list (pv 2)) (blkOk_by (own := [("_law_name", 14)]) (N := nm) (sc := sco) (by decide +kernel)) (fun _ _ _ _ _ => pg_name (i := 14) sc.nd rfl (Or.inl rfl)) (fun _ _ _ _ _ => pts_one (pt_cmpR (r := rNin K) (op_nin (room65 hr)) (pv 14) (pv 11) (by rfl))) (fun _ _ _ _ _ => (pe_tup (pa_cons (pv 14) (pa_cons pe_str (pa_cons pe_non pa_nil))))))
 (pss_cons (ps_set (i := 15) sc.nd rfl (Or.inl rfl) (pe_callTy call_tuple_of (by rfl) z_tuple (by decide +kernel) (pa_cons (TX.pe_srtF hr TBl rfl (by first | rfl | decide +kernel) ⟨rfl, rfl, rfl, rfl, fun _ _ _ _ _ _ => rfl⟩ (by decide) (by rfl) z_sorted (by decide +kernel) (pe_op (r := rPlus K) op_plus (pe_ix (r := rIx K) ix_seq (pe_ix (r := rIx K) ix_seq (pv 0) (pv 5) (fun _ _ => rfl)) pe_int (fun _ _ => rfl)) (pv 13))) pa_nil)))
 (pss_cons (ps_set (i := 14) sc.nd rfl (Or.inl rfl) (pe_op (r := rPlus K) op_plus (pe_op (r := rPlus K) op_plus (pv 1) pe_str) (pe_callTy call_str_int (by rfl) z_str (by decide +kernel) (pa_cons (pe_op op_mod (pe_op (r := rPlus K) op_plus (pv 5) (pv 3)) (pe_callB (r := rLenK K) call_len (by rfl) z_len (by decide +kernel) (pa_cons (pv 0) pa_nil))) pa_nil))))
 (pss_one (ps_expr (pe_bm PySem.F.plainAttrs_list PySem.F.slot_list_append PySem.F.type_list_append mt_append (pv 4) (pa_cons (pe_tup (pa_cons (pv 14) (pa_cons (pe_callTy call_tuple_of (by rfl) z_tuple (by decide +kernel) (pa_cons (pv 6) pa_nil)) (pa_cons (pv 15) pa_nil)))) pa_nil)))))))))))
 (pss_one (ps_ret (pv 4))))), ?_⟩
  clear sc nm sco
  try dsimp only [cxOf, Cx.nox, Cx.wish]

  rintro ss g P ⟨p, stem, ms, by_, rfl, hst, hms, hml, hby, hlb, hub, q⟩
  show SW K _ _ [.t (partsT p), .d (.str stem), .d (.list (ms.map .str)), .d (.int by_), .un, .un, .un, .un, .un, .un, .un, .un, .un, .un, .un, .un] g
  refine sw_seq ?_
  refine sw_own (by show 4 < 16; decide) ?_
  walk_at "os"
  refine sw_seq ?_
  refine sw_for (is := [5]) ?_
  walk_at "os"
  refine rc_len_lst fun n n0 n1 => ?_
  walk_at "os"
  have ts : Txt 1 "s" := ⟨by decide +kernel, by decide +kernel⟩
  have tp : Txt 1 "p" := ⟨by decide +kernel, by decide +kernel⟩
  have hs1 := hst.1
  refine ⟨fun k ρ g' => g.le g' ∧ g'.kn = g.kn ∧ g'.ub = g.ub ∧ n ≤ g'.lb p ∧ ∃ ps s5 s6 s7 s8 s9 s10 s11 s12 s13 s14 s15, ρ = [.t (partsT p), .d (.str stem), .d (.list (ms.map .str)), .d (.int by_), .own ps, s5, s6, s7, s8, s9, s10, s11, s12, s13, s14, s15] ∧ AllD GPiece ps ∧ ps.length ≤ k, ?_, ?_, ?_⟩
  · exact ⟨Gh.le_len n0, rfl, rfl, by rw [lb_len]; exact Nat.le_refl _, _, _, _, _, _, _, _, _, _, _, _, _, rfl, .nil, Nat.zero_le _⟩
  · rintro k _ g1 hk ⟨le1, kn1, ub1, lb1, ps, s5, s6, s7, s8, s9, s10, s11, s12, s13, s14, s15, rfl, hps, hpl⟩
    have hkn : k < n := by omega
    walk_at "os"
    refine sw_seq ?_
    refine sw_own (by show 6 < 16; decide) ?_
    walk_at "os"
    refine sw_seq ?_
    refine sw_for (is := [7]) ?_
    walk_at "os"
    refine r2_ix_mk (by omega) fun i j => ?_
    walk_at "os"
    refine rc_len_lst fun m m0 m1 => ?_
    walk_at "os"
    have hm20 : m ≤ 3000 := by
      have e : g1.ub = g.ub := ub1
      have : m ≤ g1.ub := m1
      omega
    refine ⟨⟨by omega, by omega⟩, ?_⟩
    refine ⟨fun k2 ρ g' => g1.le g' ∧ g'.kn = g.kn ∧ g'.ub = g.ub ∧ (k, partF i j) ∈ g'.pt p ∧ m ≤ g'.lb i ∧ ∃ rows s7 s8 s9 s10 s11 s12 s13 s14 s15, ρ = [.t (partsT p), .d (.str stem), .d (.list (ms.map .str)), .d (.int by_), .own ps, .d (.int k), .own rows, s7, s8, s9, s10, s11, s12, s13, s14, s15] ∧ AllD GSec rows ∧ rows.length ≤ k2, ?_, ?_, ?_⟩
    · refine ⟨Gh.le_trans (Gh.le_mark g1 p k _) (Gh.le_len m0), kn1, ub1, ?_, by rw [lb_len]; exact Nat.le_refl _, _, _, _, _, _, _, _, _, _, _, rfl, .nil, Nat.zero_le _⟩
      show (k, partF i j) ∈ (g1.mark p k (partF i j)).pt p
      show (k, partF i j) ∈ if p = p then (k, partF i j) :: g1.pt p else g1.pt p
      rw [if_pos rfl]
      exact List.mem_cons_self
    · rintro k2 _ g2 hk2 ⟨le2, kn2, ub2, pt2, lb2, rows, t7, t8, t9, t10, t11, t12, t13, t14, t15, rfl, hrows, hrl⟩
      have hk2m : k2 < m := by omega
      walk_at "os"
      refine sw_seq ?_
      refine sw_asgG (is := [8, 9, 10]) ?_
      walk_at "os"
      refine r2_ix_pt pt2 ?_
      walk_at "os"
      refine r2_ix_lst (by omega) (by omega) ?_
      refine cell_rcd ?_
      refine wg_lst3 (by show 8 < 16; decide) (by show 9 < 16; decide) (by show 10 < 16; decide) fun d1 d2 is h1 h2 h3 h4 => ?_
      walk_at "os"
      · rw [sizeLine_eq]; omega
      refine r2_plus_str (by rw [sizeLine_eq]; have := ts.1; omega) ?_
      walk_at "os"
      refine rc_str_int (log_mid (by omega)) ?_
      have htn := txt_num (n := k2) (by omega)
      have hss := (hst.app ts).1
      walk_at "os"
      refine r2_plus_str (by have := htn.1; rw [sizeLine_eq]; omega) ?_
      walk_at "os"
      have ub2' : g2.ub = g.ub := ub2
      exact ⟨le2, kn2, ub2, pt2, lb2, _, _, _, _, _, _, _, _, _, _, rfl, hrows.snoc ⟨_, _, _, _, rfl, h3, by omega⟩, by rw [List.length_append, List.length_singleton]; omega⟩
    · rintro _ g2 ⟨le2, kn2, ub2, pt2, lb2, rows, t7, t8, t9, t10, t11, t12, t13, t14, t15, rfl, hrows, hrl⟩
      have ub2' : g2.ub = g.ub := ub2
      have le12 : g.le g2 := Gh.le_trans le1 le2
      have lbp2 : n ≤ g2.lb p := Nat.le_trans lb1 (le2.lb p)
      walk_at "os"
      refine sw_freeze 6 rfl ?_
      refine sw_seq ?_
      walk_at "os"
      refine we_lcP (F := IsSym) (T := fun _ _ => True) (G := fun _ e => ∃ x : Str, e = .str x) (by simp) ?_
      walk_at "os"
      refine r2_ix_pt pt2 ?_
      walk_at "os"
      refine ⟨fun E Γ σ H I x d H' hx hd hs => ⟨fun Q q => q true trivial, fun _ Q q => ?_⟩, fun es hes hel => ?_⟩
      · obtain ⟨s, b, w, rfl, _⟩ := hd
        have hlen : 12 < (wipe σ [12]).length := by rw [wipe_length, I.len]; show 12 < 16; decide
        exact pure_fst hx hs hlen fun y hy => q y _ hy ⟨s, rfl⟩
      obtain ⟨had, rfl⟩ := strs_of (ds := es) fun d hd => let ⟨_, _, _, x, e⟩ := hes d hd; ⟨x, e⟩
      walk_at "os"
      refine sw_seq ?_
      walk_at "os"
      refine we_lc (is := [14]) (by simp) (by simp) ?_
      walk_at "os"
      refine ⟨fun u acc g' => g2 = g' ∧ AllD IsSym acc, ⟨rfl, .nil⟩, ?_, ?_⟩
      · rintro u acc _ hu la ⟨rfl, hacc⟩ _
        rw [List.length_map] at hu
        rw [nth_get (d := .str ms[u]) (by rw [List.getElem?_map, List.getElem?_eq_getElem hu]; rfl)]
        have hx : NmOk ms[u] := hms.2 _ (List.getElem_mem hu)
        walk_at "os"
        split
        · walk_at "os"
          exact ⟨Gh.le_refl _, rfl, hacc.snoc ⟨_, "maybe", .none, rfl, hx.txt⟩⟩
        · exact ⟨Gh.le_refl _, rfl, hacc⟩
      rintro lax _ la ⟨rfl, hlax⟩
      rw [List.length_map] at la
      walk_at "os"
      refine sw_seq ?_
      walk_at "os"
      refine we_srtF inT ?_
      walk_at "os"
      refine r2_ix_pt pt2 ?_
      walk_at "os"
      refine r2_plus_lst (by rw [sizeLine_eq]; omega) fun syms hsy hsl => ?_
      have hall : AllD IsSym (syms ++ lax) := hsy.app hlax
      refine ⟨_, rfl, fun d hd => let ⟨x, b, w, e, _⟩ := hall d hd; ⟨x, _, e⟩, ?_⟩
      walk_at "os"
      refine sw_seq ?_
      walk_at "os"
      refine r2_plus_str (by rw [sizeLine_eq]; have := tp.1; omega) ?_
      walk_at "os"
      refine rc_len_lst fun n' l0 l1 => ?_
      have l1' : n' ≤ g2.ub := l1
      have l0' : n ≤ n' := Nat.le_trans lbp2 l0
      obtain ⟨r, hr, hr2⟩ : ∃ r : Nat, ((k : Int) + by_) % (n' : Int) = (r : Int) ∧ r < n' := by
        have e1 := Int.emod_nonneg ((k : Int) + by_) (b := (n' : Int)) (by omega)
        have e2 := Int.emod_lt_of_pos ((k : Int) + by_) (b := (n' : Int)) (by omega)
        exact ⟨(((k : Int) + by_) % (n' : Int)).toNat, by omega, by omega⟩
      refine r2_mod (by omega) ?_
      rw [hr]
      walk_at "os"
      refine rc_str_int (log_mid (by omega)) ?_
      have htn := txt_num (n := r) (by omega)
      have hsp := (hst.app tp).1
      refine r2_plus_str (by rw [sizeLine_eq]; have := htn.1; omega) ?_
      walk_at "os"
      · rw [sizeLine_eq]; omega
      have hlp := (srtD_perm (syms ++ lax)).length_eq
      rw [List.length_append] at hlp
      exact ⟨Gh.le_trans le12 (Gh.le_len l0), kn2, ub2, by rw [lb_len]; exact l0', _, _, _, _, _, _, _, _, _, _, _, _, rfl, hps.snoc ⟨_, rows, _, rfl, hrows, by omega, fun d hd => hall d ((srtD_perm _).mem_iff.mp hd), by omega⟩, by rw [List.length_append, List.length_singleton]; omega⟩
  · rintro _ g1 ⟨le1, kn1, ub1, lb1, ps, s5, s6, s7, s8, s9, s10, s11, s12, s13, s14, s15, rfl, hps, hpl⟩
    walk_at "os"
    exact q ps g1 hps (by omega) le1 kn1

end LK
set_option maxRecDepth 100000
set_option maxHeartbeats 8000000
set_option autoImplicit false
namespace LK
open PySem L2 PyProof.Rows PL
variable [TBs]
local macro_rules | `(tactic| walk_at "nm") => `(tactic| first
  | (with_reducible assumption)
  | exact few_txt (by decide +kernel))
local macro_rules | `(tactic| walk_at "cm") => `(tactic| (unfold CMul; first
  | (left; decide)
  | (right; decide)
  | (left; refine ⟨?_, ?_⟩ <;> omega)
  | (right; refine ⟨?_, ?_⟩ <;> omega)))
local macro_rules | `(tactic| walk_at "sd") => `(tactic| first
  | exact rfl
  | exact Nat.le_of_ble_eq_true rfl
  | (with_reducible assumption)
  | decide
  | omega
  | (simp only [List.length_cons, List.length_nil, List.length_append, List.length_set, List.length_replicate, List.length_map]; omega)
  | (refine ⟨?_, ?_⟩ <;> (first | decide | omega)))
local macro_rules | `(tactic| walk_at "sz") => `(tactic| first
  | decide
  | (rw [sizeLine_eq]; omega)
  | (rw [sizeLine_eq]; simp only [List.length_cons, List.length_nil, List.length_append, List.length_set, List.length_replicate, List.length_map]; omega)
  | (refine ⟨?_, ?_⟩ <;> (first | decide | omega)))
local macro_rules | `(tactic| walk_at "ai") => `(tactic| repeat' (first
  | (with_reducible assumption)
  | (with_reducible exact AllD.nil)
  | (with_reducible refine AllD.cons ?_ ?_)
  | (with_reducible refine AllD.app ?_ ?_)
  | exact gi_room
  | exact gi_none (by decide +kernel) (by decide +kernel)
  | exact gi_one (by decide +kernel) (by decide +kernel) (by walk_at "nm")
  | exact gi_two (by decide +kernel) (by decide +kernel) (by walk_at "nm")))
local macro_rules | `(tactic| walk_at "st") => `(tactic| first
  | (with_reducible refine L2.iteT ?_)
  | (with_reducible refine L2.iteF ?_)
  | (with_reducible refine sw_if ?_)
  | (with_reducible refine cell_scr ?_)
  | (with_reducible refine cell_lst ?_)
  | (with_reducible refine cell_rcd ?_)
  | (with_reducible refine cell_dic ?_)
  | (with_reducible refine sw_setR ?_)
  | (with_reducible refine sw_next ?_)
  | (with_reducible refine sw_retN ?_)
  | (with_reducible refine sw_ret ?_)
  | (with_reducible refine we_op ?_)
  | (with_reducible refine we_int ?_)
  | (with_reducible refine we_str ?_)
  | (with_reducible refine we_bl ?_)
  | (with_reducible refine we_non ?_)
  | (with_reducible refine wa_nil ?_)
  | (with_reducible refine wa_cons ?_)
  | (with_reducible refine we_tup ?_)
  | (with_reducible refine we_lst ?_)
  | (with_reducible refine we_call ?_)
  | (with_reducible refine we_cb ?_)
  | (with_reducible refine we_if ?_)
  | (with_reducible refine we_neg ?_)
  | (with_reducible refine wt_tst ?_)
  | (with_reducible refine wt_and ?_)
  | (with_reducible refine wt_or ?_)
  | (with_reducible refine wt_not ?_)
  | (with_reducible refine wt_yes ?_)
  | (with_reducible refine r2_plus_int ?_)
  | (with_reducible refine r2_sub ?_)
  | (with_reducible refine r2_lt ?_)
  | (with_reducible refine r2_le ?_)
  | (with_reducible refine r2_gt ?_)
  | (with_reducible refine r2_ge ?_)
  | (with_reducible refine r2_eq_int ?_)
  | (with_reducible refine r2_eq_str ?_)
  | (with_reducible refine r2_ne_int ?_)
  | (with_reducible refine r2_ne_str ?_)
  | (with_reducible refine rc_len_list ?_)
  | (with_reducible refine rc_len_tup ?_)
  | (with_reducible refine rc_len_scr ?_)
  | (with_reducible refine rc_min2 ?_)
  | (with_reducible refine rc_max2 ?_)
  | (with_reducible refine rc_int_bool ?_)
  | (with_reducible refine rc_abs ?_)
  | (with_reducible refine wgs_nil ?_)
  | (with_reducible refine use_number ?_)
  | (with_reducible refine we_andV ?_)
  | (with_reducible refine we_orV ?_)
  | (with_reducible refine we_notV ?_)
  | (with_reducible refine we_dget ?_)
  | (with_reducible refine r2_in_strs ?_)
  | (with_reducible refine r2_nin_strs ?_)
  | (with_reducible refine we_index ?_)
  | ((with_reducible apply wg_name); (· walk_at "sd"))
  | ((with_reducible apply wg_tup); (· exact rfl))
  | ((with_reducible apply we_vd); (· exact rfl))
  | ((with_reducible apply we_vt); (· exact rfl))
  | ((with_reducible apply we_vs); (· exact rfl))
  | ((with_reducible apply r2_ix_rcd); (· exact rfl))
  | ((with_reducible apply r2_ix_tpl); (· exact rfl))
  | ((with_reducible apply r2_ix_list); (· exact rfl))
  | ((with_reducible apply r2_ix_tup); (· exact rfl))
  | ((with_reducible refine sw_asg ?_ ?_); (· walk_at "sd"))
  | ((with_reducible refine use_next ?_ ?_); (· walk_at "sd"))
  | ((with_reducible refine sl_w_str ?_ ?_); (· walk_at "sz"))
  | ((with_reducible refine r2_times_int ?_ ?_); (· walk_at "cm"))
  | ((with_reducible refine r2_mod ?_ ?_); (· walk_at "sd"))
  | ((with_reducible refine r2_fdiv ?_ ?_); (· walk_at "sd"))
  | ((with_reducible refine r2_pow ?_ ?_); (· exact ⟨by decide, by decide, by decide⟩))
  | ((with_reducible refine r2_plus_str ?_ ?_); (· walk_at "sd"))
  | ((with_reducible refine r2_plus_list ?_ ?_); (· walk_at "sd"))
  | ((with_reducible refine r2_plus_tup ?_ ?_); (· walk_at "sd"))
  | ((with_reducible refine rc_str_int ?_ ?_); (· walk_at "sd"))
  | ((with_reducible refine rc_len_str ?_ ?_); (· walk_at "sd"))
  | (with_reducible apply sw_asgG)
  | (with_reducible apply wgs_cons)
  | (with_reducible refine we_slice ?_)
  | (with_reducible refine wo_none ?_)
  | (with_reducible refine wo_some ?_)
  | (with_reducible refine sl_w_list ?_)
  | (with_reducible refine sl_w_tup ?_)
  | (with_reducible refine rc_tuple_list ?_)
  | (with_reducible refine wi_range1 ?_)
  | (with_reducible refine wi_range2 ?_)
  | (with_reducible refine wi_list ?_)
  | (with_reducible refine wi_tup ?_)
  | ((with_reducible apply Exists.intro); (with_reducible apply And.intro); (· exact rfl); (with_reducible apply And.intro); (· walk_at "sz"))
  | ((with_reducible apply Exists.intro); (with_reducible apply Exists.intro); (with_reducible apply And.intro); (· exact rfl); (with_reducible apply And.intro); (· exact rfl); (with_reducible apply Exists.intro); (with_reducible apply Exists.intro); (with_reducible apply And.intro); (· exact rfl); (with_reducible apply And.intro); (· exact rfl); (with_reducible apply And.intro))
  | ((with_reducible apply Exists.intro); (with_reducible apply And.intro); (· exact rfl))
  | fail)
local macro_rules | `(tactic| walk_at "gs") => `(tactic| repeat' (walk_at "st"))
local macro_rules | `(tactic| walk_at "go") => `(tactic| repeat' (first | (with_reducible refine sw_seq ?_) | walk_at "st"))
local macro_rules | `(tactic| walk_at "os") => `(tactic| repeat' (first
  | ((with_reducible apply sw_append); (· exact rfl))
  | ((with_reducible apply sw_ret_own); (· exact rfl))
  | ((with_reducible apply sw_catOwn); (· exact rfl))
  | ((with_reducible apply we_len_own); (· exact rfl))
  | ((with_reducible apply we_nin_own); (· exact rfl))
  | ((with_reducible apply we_ix_own); (· exact rfl))
  | ((with_reducible apply we_ne_own); (· exact rfl); (· with_reducible assumption))
  | ((with_reducible refine sw_own ?_ ?_); (· walk_at "sd"))
  | walk_at "st"))
local macro_rules | `(tactic| walk_at "og") => `(tactic| repeat' (first
  | (with_reducible refine sw_seq ?_)
  | ((with_reducible apply sw_append); (· exact rfl))
  | ((with_reducible apply sw_ret_own); (· exact rfl))
  | ((with_reducible apply sw_catOwn); (· exact rfl))
  | ((with_reducible apply we_len_own); (· exact rfl))
  | ((with_reducible apply we_nin_own); (· exact rfl))
  | ((with_reducible apply we_ix_own); (· exact rfl))
  | ((with_reducible apply we_ne_own); (· exact rfl); (· with_reducible assumption))
  | ((with_reducible refine sw_own ?_ ?_); (· walk_at "sd"))
  | walk_at "st"))

abbrev s_law_pieces : Stmt := topS 22
theorem sc_law_pieces : FnScope ["_law_pen", "_law_stem", "_law_parts", "_law_k", "_law_functions", "_law_datas", "_law_maybes", "_law_kinds", "_law_plan", "_law_at", "_law_had", "_law_one", "_law_items", "_law_labels", "_law_symbols", "_law_label", "_law_spot", "_law_binding", "_law_found"] ["_law_pen"] (defScope s_law_pieces) := ⟨rfl, rfl, rfl, by decide +kernel, rfl, by decide +kernel, by decide +kernel⟩

def stemOk (x : Str) : Bool := decide (x.length ≤ 12) && PyData.strOk x
theorem stem_all : ∀ n, n < 25 → stemOk (Txt.mul ⟨#[alph.cps.toList.getD n 0]⟩ 1) = true ∧ stemOk (Txt.mul ⟨#[alph.cps.toList.getD n 0]⟩ 12) = true := by decide +kernel
theorem alph_at : ∀ n, n < 25 → alph.cps.toList[n]? = some (alph.cps.toList.getD n 0) := by decide +kernel
theorem we_lstE {K : PySem.W.Frag} {ρ : List Sl} {g : Gh} {P : Sl → Gh → Prop} {ts : TA} (h : WA K ts ρ g fun ss g1 => ∃ tys : List Ty, ss.length ≤ sizeLine ∧ Paired (fits g1) tys ss ∧ P (.t (.rcd tys)) g1) : PL.WE K (tLst ts) ρ g P := fun E Γ σ H Q I k => h E Γ σ H _ I fun Γ1 g1 H1 vs ss e1 I1 r1 ⟨tys, hl, hf, q⟩ => by
  have a := fits_allG hf r1
  refine ⟨by rw [← Paired.length r1]; exact hl, fun p np => ?_⟩
  have hg := I1.hp.free np
  have en : Ext Γ1 H1 (Γ1.put p (some (.ty (.rcd tys)))) (upd H1 p (.lst vs)) := ext_newT np hg
  exact k _ g1 _ _ (.t (.rcd tys)) (e1.trans en) (I1.ext en (I1.hp.newT np a) (Gh.le_refl g1)) ⟨p, rfl, put_same⟩ q
theorem had_pure {K : PySem.W.Frag} {E : Ent} {Γ : Gam} {g : Gh} {ρ : List Sl} {σ : L2.St} {H : Hp} {fs : List Str} (I : EnvOk K E Γ g ρ σ H) (h4 : ρ[4]? = some (.d (.list (fs.map .str)))) (hl : 11 < ρ.length) (x : V) (d : PyData) (H' : Hp) (hx : Da K (hid Γ H) x d) (hd : IsSym d) (hs : Sub (hid Γ H) H') :
    (∀ Q : Bool → Hp → Prop, (∀ b, True → Q b H') → tTest (tOp (rInn K) (tOp (rIx K) (tVar 11) (tC (V.int 0))) (tVar 4)) ((wipe σ [11]).set 11 (some x)) H' Q) ∧ (True → ∀ Q : VK, (∀ y e, Da K (hid Γ H) y e → True → Q y H') → tVar 11 ((wipe σ [11]).set 11 (some x)) H' Q) := by
  obtain ⟨s, b, w, rfl, _⟩ := hd
  have hlen : 11 < (wipe σ [11]).length := by rw [wipe_length, I.len]; exact hl
  refine ⟨fun Q q => ?_, fun _ Q q => ?_⟩
  · refine pure_fst hx hs hlen fun y hy => ?_
    cases da_str hy
    obtain ⟨v, e, r⟩ := (I.sl 4 _ h4).plain (fun z => by cases z) (fun _ z => by cases z)
    obtain ⟨a, xs, rfl, h1, h2⟩ := da_list r
    have e2 := h2.strs
    subst e2
    refine ⟨.ref a, ?_, ?_⟩
    · have e3 := slot_some e
      show (((wipe σ []).set 11 none).set 11 (some x))[4]? = _
      rw [List.getElem?_set, if_neg (by decide), List.getElem?_set, if_neg (by decide)]
      exact e3
    · refine .inl ⟨a, _, rfl, .inl (.inl (hs.rd h1)), rfl, flat_map_str fs, ?_⟩
      exact ⟨_, rfl, q _ trivial⟩
  · exact ⟨x, by rw [List.getElem?_set, if_pos rfl, if_pos hlen], q x _ hx trivial⟩
def f_law_pieces : FS := fun ss g P => ∃ (ns : List Int), ss = [.t (penT ns)] ∧ g.ub ≤ 10 ∧ ∀ (ps : List PyData) a b c g', AllD GPiece ps → ps.length ≤ 20000 → g.le g' → P (.d (.tuple [.list ps, a, b, c])) g'
theorem len_law_pieces : ∀ ss g P, f_law_pieces ss g P → ss.length = ["_law_pen"].length := by
  rintro ss g P ⟨_, rfl, _⟩
  rfl

theorem ok_law_pieces {P : Program} {w : World} {K : PySem.W.Frag} {mg : Str → Option Value} {base : Heap} (S : Std K mg "_law_pieces" s_law_pieces ["_law_pen"]) (C_law_next : Cal P w K mg base 2 "_law_next" ["_law_pen", "_law_many"] f_law_next) (C_law_put_datas : Cal P w K mg base 8 "_law_put_datas" ["_law_pen", "_law_parts", "_law_functions", "_law_datas", "_law_maybes"] f_law_put_datas) (C_law_put_commons : Cal P w K mg base 3 "_law_put_commons" ["_law_pen", "_law_parts", "_law_stem", "_law_kinds"] f_law_put_commons) (C_law_code : Cal P w K mg base 6 "_law_code" ["_law_pen", "_law_plan", "_law_number_of", "_law_prefix"] f_law_code) (C_law_put : Cal P w K mg base 7 "_law_put" ["_law_pen", "_law_part", "_law_kind", "_law_items", "_law_symbols"] f_law_put) (C_law_closed : Cal P w K mg base 2 "_law_closed" ["_law_parts", "_law_stem", "_law_maybes", "_law_by"] f_law_closed) (z_range : mg "range" = none) (z_str : mg "str" = none) (z_len : mg "len" = none) (z_sorted : mg "sorted" = none) : Cal P w K mg base 10 "_law_pieces" ["_law_pen"] f_law_pieces := by
  obtain ⟨a_law_next, fd_law_next, G_law_next, g_law_next, k_law_next, b_law_next⟩ := C_law_next
  obtain ⟨a_law_put_datas, fd_law_put_datas, G_law_put_datas, g_law_put_datas, k_law_put_datas, b_law_put_datas⟩ := C_law_put_datas
  obtain ⟨a_law_put_commons, fd_law_put_commons, G_law_put_commons, g_law_put_commons, k_law_put_commons, b_law_put_commons⟩ := C_law_put_commons
  obtain ⟨a_law_code, fd_law_code, G_law_code, g_law_code, k_law_code, b_law_code⟩ := C_law_code
  obtain ⟨a_law_put, fd_law_put, G_law_put, g_law_put, k_law_put, b_law_put⟩ := C_law_put
  obtain ⟨a_law_closed, fd_law_closed, G_law_closed, g_law_closed, k_law_closed, b_law_closed⟩ := C_law_closed
  refine cal_of S sc_law_pieces (by decide) (len_law_pieces) fun a cdv A outer s H vs Q E hr => ?_
  have sc := sc_law_pieces
  let nm : List Str := ["_law_pen", "_law_stem", "_law_parts", "_law_k", "_law_functions", "_law_datas", "_law_maybes", "_law_kinds", "_law_plan", "_law_at", "_law_had", "_law_one", "_law_items", "_law_labels", "_law_symbols", "_law_label", "_law_spot", "_law_binding", "_law_found"]
  let sco := defScope s_law_pieces
  refine ⟨_, (pss_cons (ps_set (i := 1) sc.nd rfl (Or.inr rfl) (pe_op op_times (pe_ix (r := rIx K) ix_seq pe_str (pe_call G_law_next (hr.mono (by decide)) (by rfl) g_law_next k_law_next b_law_next .nil pass0 (pa_cons (pv 0) (pa_cons pe_int pa_nil))) (fun _ _ => rfl)) (pe_ix (r := rIx K) ix_seq (pe_lst (pa_cons pe_int (pa_cons pe_int (pa_cons pe_int (pa_cons pe_int pa_nil))))) (pe_call G_law_next (hr.mono (by decide)) (by rfl) g_law_next k_law_next b_law_next .nil pass0 (pa_cons (pv 0) (pa_cons pe_int pa_nil))) (fun _ _ => rfl))))
 (pss_cons (ps_setLc (i := 2) (own := [("_law_k", 3)]) (g := (gName 3)) (by rfl) sc.nd rfl rfl (sw_true rfl rfl rfl (by decide +kernel)) (pi_range1 (by rfl) z_range (pa_cons (pe_op (r := rPlus K) op_plus pe_int (pe_call G_law_next (hr.mono (by decide)) (by rfl) g_law_next k_law_next b_law_next .nil pass0 (pa_cons (pv 0) (pa_cons pe_int pa_nil)))) pa_nil)) (blkOk_by (own := [("_law_k", 3)]) (N := nm) (sc := sco) (by decide +kernel)) (fun _ _ _ _ _ => pg_name (i := 3) sc.nd rfl (Or.inl rfl)) (fun _ _ _ _ _ => pts_nil) (fun _ _ _ _ _ => (pe_lst (pa_cons (pe_lst pa_nil) (pa_cons (pe_lst pa_nil) pa_nil)))))
 (pss_cons (ps_set (i := 4) sc.nd rfl (Or.inr rfl) (pe_lc (own := [("_law_k", 3)]) (g := (gName 3)) (by rfl) sc.nd (pi_range1 (by rfl) z_range (pa_cons (pe_op (r := rPlus K) op_plus pe_int (pe_call G_law_next (hr.mono (by decide)) (by rfl) g_law_next k_law_next b_law_next .nil pass0 (pa_cons (pv 0) (pa_cons pe_int pa_nil)))) pa_nil)) (blkOk_by (own := [("_law_k", 3)]) (N := nm) (sc := sco) (by decide +kernel)) (fun _ _ _ _ _ => pg_name (i := 3) sc.nd rfl (Or.inl rfl)) (fun _ _ _ _ _ => pts_nil) (fun _ _ _ _ _ => (pe_op (r := rPlus K) op_plus (pe_op (r := rPlus K) op_plus (pv 1) pe_str) (pe_callTy call_str_int (by rfl) z_str (by decide +kernel) (pa_cons (pv 3) pa_nil))))))
 (pss_cons (ps_setLc (i := 5) (own := [("_law_k", 3)]) (g := (gName 3)) (by rfl) sc.nd rfl rfl (sw_true rfl rfl rfl (by decide +kernel)) (pi_range1 (by rfl) z_range (pa_cons (pe_op (r := rPlus K) op_plus pe_int (pe_call G_law_next (hr.mono (by decide)) (by rfl) g_law_next k_law_next b_law_next .nil pass0 (pa_cons (pv 0) (pa_cons pe_int pa_nil)))) pa_nil)) (blkOk_by (own := [("_law_k", 3)]) (N := nm) (sc := sco) (by decide +kernel)) (fun _ _ _ _ _ => pg_name (i := 3) sc.nd rfl (Or.inl rfl)) (fun _ _ _ _ _ => pts_nil) (fun _ _ _ _ _ => (pe_op (r := rPlus K) op_plus (pe_op (r := rPlus K) op_plus (pv 1) pe_str) (pe_callTy call_str_int (by rfl) z_str (by decide +kernel) (pa_cons (pv 3) pa_nil)))))
 (pss_cons (ps_setLc (i := 6) (own := [("_law_k", 3)]) (g := (gName 3)) (by rfl) sc.nd rfl rfl (sw_true rfl rfl rfl (by decide +kernel)) (pi_range1 (by rfl) z_range (pa_cons (pe_call G_law_next (hr.mono (by decide)) (by rfl) g_law_next k_law_next b_law_next .nil pass0 (pa_cons (pv 0) (pa_cons pe_int pa_nil))) pa_nil)) (blkOk_by (own := [("_law_k", 3)]) (N := nm) (sc := sco) (by decide +kernel)) (fun _ _ _ _ _ => pg_name (i := 3) sc.nd rfl (Or.inl rfl)) (fun _ _ _ _ _ => pts_nil) (fun _ _ _ _ _ => (pe_op (r := rPlus K) op_plus (pe_op (r := rPlus K) op_plus (pv 1) pe_str) (pe_callTy call_str_int (by rfl) z_str (by decide +kernel) (pa_cons (pv 3) pa_nil)))))
 (pss_cons (ps_set (i := 7) sc.nd rfl (Or.inl rfl) (pe_call G_law_put_datas (hr.mono (by decide)) (by rfl) g_law_put_datas k_law_put_datas b_law_put_datas .nil pass0 (pa_cons (pv 0) (pa_cons (pv 2) (pa_cons (pv 4) (pa_cons (pv 5) (pa_cons (pv 6) pa_nil)))))))
 (pss_cons (ps_expr (pe_call G_law_put_commons (hr.mono (by decide)) (by rfl) g_law_put_commons k_law_put_commons b_law_put_commons .nil pass0 (pa_cons (pv 0) (pa_cons (pv 2) (pa_cons (pv 1) (pa_cons (pv 7) pa_nil))))))
 (pss_cons (ps_set (i := 8) sc.nd rfl (Or.inl rfl) (pe_tup (pa_cons (pv 4) (pa_cons (pv 7) (pa_cons (pv 6) pa_nil)))))
 (pss_cons (ps_for PassesOwn.never rfl (pi_range1 (by rfl) z_range (pa_cons (pe_callB (r := rLenK K) call_len (by rfl) z_len (by decide +kernel) (pa_cons (pv 4) pa_nil)) pa_nil)) (pg_name (i := 3) sc.nd rfl (Or.inl rfl))
 (pss_cons (ps_set (i := 9) sc.nd rfl (Or.inl rfl) (pe_ix (r := rIx K) ix_seq (pv 2) (pe_call G_law_next (hr.mono (by decide)) (by rfl) g_law_next k_law_next b_law_next .nil pass0 (pa_cons (pv 0) (pa_cons (pe_callB (r := rLenK K) call_len (by rfl) z_len (by decide +kernel) (pa_cons (pv 2) pa_nil)) pa_nil))) (fun _ _ => rfl)))
 (pss_cons (ps_set (i := 10) sc.nd rfl (Or.inl rfl) (pe_callB (r := rLenK K) call_len (by rfl) z_len (by decide +kernel) (pa_cons (pe_lc (own := [("_law_one", 11)]) (g := (gName 11)) (by rfl) sc.nd (pi_list (pe_ix (r := rIx K) ix_seq (pv 9) pe_int (fun _ _ => rfl))) (blkOk_by (own := [("_law_one", 11)]) (N := nm) (sc := sco) (by decide +kernel)) (fun _ _ _ _ _ => pg_name (i := 11) sc.nd rfl (Or.inl rfl)) (fun _ _ _ _ _ => pts_one (pt_cmpR (r := rInn K) (op_inn (room65 hr)) (pe_ix (r := rIx K) ix_seq (pv 11) pe_int (fun _ _ => rfl)) (pv 4) (by rfl))) (fun _ _ _ _ _ => (pv 11))) pa_nil)))
 (pss_cons (ps_asg (pe_call G_law_code (hr.mono (by decide)) (by rfl) g_law_code k_law_code b_law_code .nil pass0 (pa_cons (pv 0) (pa_cons (pv 8) (pa_cons (pv 3) (pa_cons (pe_op (r := rPlus K) op_plus pe_str (pe_callTy call_str_int (by rfl) z_str (by decide +kernel) (pa_cons (pv 10) pa_nil))) pa_nil))))) (show PG _ _ (gTup K 2 _) from pg_tup (by rfl) (pgs_cons (pg_name (i := 12) sc.nd rfl (Or.inl rfl)) (pgs_cons (pg_name (i := 13) sc.nd rfl (Or.inl rfl)) pgs_nil))))
 (pss_cons (ps_setLc (i := 14) (own := [("_law_label", 15), ("_law_spot", 16)]) (g := (gTup K 2 (gCons (gName 15) (gCons (gName 16) gNil)))) (by rfl) sc.nd rfl rfl (sw_true rfl rfl rfl (by decide +kernel)) (pi_list (pv 13)) (blkOk_by (own := [("_law_label", 15), ("_law_spot", 16)]) (N := nm) (sc := sco) (by decide +kernel)) (fun _ _ _ _ _ => (show PG _ _ (gTup K 2 _) from pg_tup (by rfl) (pgs_cons (pg_name (i := 15) sc.nd rfl (Or.inl rfl)) (pgs_cons (pg_name (i := 16) sc.nd rfl (Or.inl rfl)) pgs_nil)))) (fun _ _ _ _ _ => pts_nil) (fun _ _ _ _ _ => (pe_tup (pa_cons (pv 15) (pa_cons pe_str (pa_cons (pv 16) pa_nil))))))
 (pss_cons (ps_set (i := 17) sc.nd rfl (Or.inl rfl) (pe_ix (r := rIx K) ix_seq (pe_lst (pa_cons pe_str (pa_cons pe_str (pa_cons pe_str pa_nil)))) (pe_call G_law_next (hr.mono (by decide)) (by rfl) g_law_next k_law_next b_law_next .nil pass0 (pa_cons (pv 0) (pa_cons pe_int pa_nil))) (fun _ _ => rfl)))
 (pss_one (ps_expr (pe_call G_law_put (hr.mono (by decide)) (by rfl) g_law_put k_law_put b_law_put .nil pass0 (pa_cons (pv 0) (pa_cons (pv 9) (pa_cons pe_str (pa_cons (pv 12) (pa_cons (pe_op (r := rPlus K) op_plus (pe_lst (pa_cons (pe_tup (pa_cons (pe_ix (r := rIx K) ix_seq (pv 4) (pv 3) (fun _ _ => rfl)) (pa_cons (pv 17) (pa_cons pe_int pa_nil)))) pa_nil)) (pv 14)) pa_nil))))))))))))))
 (pss_cons (ps_set (i := 18) sc.nd rfl (Or.inl rfl) (pe_call G_law_closed (hr.mono (by decide)) (by rfl) g_law_closed k_law_closed b_law_closed .nil pass0 (pa_cons (pv 2) (pa_cons (pv 1) (pa_cons (pv 6) (pa_cons (pe_call G_law_next (hr.mono (by decide)) (by rfl) g_law_next k_law_next b_law_next .nil pass0 (pa_cons (pv 0) (pa_cons pe_int pa_nil))) pa_nil))))))
 (pss_one (ps_ret (pe_tup (pa_cons (pv 18) (pa_cons (pv 4) (pa_cons (pe_callB (r := rSrt K) (cr_srt rfl) (by rfl) z_sorted (by decide +kernel) (pa_cons (pv 7) pa_nil)) (pa_cons (pv 6) pa_nil))))))))))))))))), ?_⟩
  clear sc nm sco
  try dsimp only [cxOf, Cx.nox, Cx.wish]

  rintro ss g P ⟨ns, rfl, hub, q⟩
  show SW K _ _ [.t (penT ns), .un, .un, .un, .un, .un, .un, .un, .un, .un, .un, .un, .un, .un, .un, .un, .un, .un, .un] g
  refine sw_seq ?_
  walk_at "gs"
  intro i1 i10 i11
  obtain ⟨n1, rfl⟩ := Int.eq_ofNat_of_zero_le i10
  refine r2_ix_str (by rw [sizeLine_eq]; show (25 : Nat) ≤ _; decide) (atI_nat (alph_at n1 (by omega))) ?_
  walk_at "gs"
  intro i2 i20 i21
  refine r2_ix_mem i20 i21 fun d hd => ?_
  obtain ⟨m1, rfl, hm0, hm1, hst, hmm⟩ : ∃ m1 : Int, d = .int m1 ∧ 0 ≤ m1 ∧ m1 ≤ 1000 ∧ stemOk (Txt.mul ⟨#[alph.cps.toList.getD n1 0]⟩ m1) = true ∧ Txt.mul ⟨#[alph.cps.toList.getD n1 0]⟩ m1 ∈ [Txt.mul ⟨#[alph.cps.toList.getD n1 0]⟩ 1, Txt.mul ⟨#[alph.cps.toList.getD n1 0]⟩ 12] := by
    simp only [List.mem_cons, List.not_mem_nil, or_false] at hd
    rcases hd with rfl | rfl | rfl | rfl
    · exact ⟨_, rfl, by decide, by decide, (stem_all n1 (by omega)).1, List.mem_cons_self⟩
    · exact ⟨_, rfl, by decide, by decide, (stem_all n1 (by omega)).1, List.mem_cons_self⟩
    · exact ⟨_, rfl, by decide, by decide, (stem_all n1 (by omega)).1, List.mem_cons_self⟩
    · exact ⟨_, rfl, by decide, by decide, (stem_all n1 (by omega)).2, List.mem_cons_of_mem _ List.mem_cons_self⟩
  refine r2_times_str hm0 hm1 (by show (1 : Nat) ≤ 1000; decide) ?_
  walk_at "gs"
  have hstem : Txt 12 (Txt.mul ⟨#[alph.cps.toList.getD n1 0]⟩ m1) := by
    unfold stemOk at hst
    rw [Bool.and_eq_true, decide_eq_true_eq] at hst
    exact hst
  have hstm : Txt.mul ⟨#[alph.cps.toList.getD n1 0]⟩ m1 ∈ stems := List.mem_flatMap.mpr ⟨n1, List.mem_range.mpr (by omega), hmm⟩
  generalize Txt.mul ⟨#[alph.cps.toList.getD n1 0]⟩ m1 = stem at hstem hstm ⊢
  have tf : Txt 1 "f" := ⟨by decide +kernel, by decide +kernel⟩
  have td : Txt 1 "d" := ⟨by decide +kernel, by decide +kernel⟩
  have tm : Txt 1 "m" := ⟨by decide +kernel, by decide +kernel⟩
  refine sw_seq ?_
  walk_at "gs"
  refine we_lcT (.pr partF) (is := [3]) (by simp) (by simp) ?_
  walk_at "gs"
  intro np np0 np1
  walk_at "gs"
  refine ⟨by rw [sizeLine_eq]; omega, fun p hp0 => ⟨fun k g' => g.le g' ∧ g'.ub ≤ g.ub + k ∧ g'.lb p = k, ⟨Gh.le_refl g, Nat.le_refl _, hp0⟩, ?_, ?_⟩⟩
  · rintro k g1 hk ⟨le1, ub1, lb1⟩ _
    walk_at "gs"
    refine ⟨rfl, ?_⟩
    refine we_lstE ?_
    refine wa_cons ?_
    refine we_emptyT rowT fun i _ => ?_
    refine wa_cons ?_
    refine we_emptyT (.dat IsSym) fun j _ => ?_
    walk_at "gs"
    refine ⟨partF i j, by show (2 : Nat) ≤ sizeLine; rw [sizeLine_eq]; decide, .cons ⟨rfl, rfl⟩ (.cons ⟨rfl, rfl⟩ .nil), le1, ⟨i, j, rfl⟩, by rw [sizeLine_eq]; omega, Gh.le_trans le1 (Gh.le_push g1 p), by show g1.ub + 1 ≤ _; omega, by rw [lb_push]; omega⟩
  rintro G ⟨leG, ubG, lbG⟩
  have lbG0 : 0 < G.lb p := by omega
  have ubG2 : G.ub ≤ 14 := by omega
  refine sw_seq ?_
  walk_at "gs"
  refine we_lc (is := [3]) (by simp) (by simp) ?_
  walk_at "gs"
  intro nf rf0 rf1
  walk_at "gs"
  refine ⟨by rw [sizeLine_eq]; omega, fun k acc g' => G = g' ∧ acc = (nms stem "f" k).map .str, ⟨rfl, rfl⟩, ?_, ?_⟩
  · rintro k acc _ hk la ⟨rfl, rfl⟩ _
    have hd := txt_dig k (by omega)
    walk_at "gs"
    refine r2_plus_str (by rw [sizeLine_eq]; have := hstem.1; have := tf.1; omega) ?_
    walk_at "gs"
    refine rc_str_int (log_small (by omega) (by omega)) ?_
    refine r2_plus_str (by rw [sizeLine_eq]; have := (hstem.app tf).1; have := hd.1; omega) ?_
    refine ⟨_, rfl, Gh.le_refl _, rfl, ?_⟩
    rw [nms_succ, List.map_append]
    rfl
  rintro acc _ la ⟨rfl, rfl⟩
  refine sw_seq ?_
  walk_at "gs"
  refine we_lc (is := [3]) (by simp) (by simp) ?_
  walk_at "gs"
  intro nd rd0 rd1
  walk_at "gs"
  refine ⟨by rw [sizeLine_eq]; omega, fun k acc g' => G = g' ∧ acc = (nms stem "d" k).map .str, ⟨rfl, rfl⟩, ?_, ?_⟩
  · rintro k acc _ hk la ⟨rfl, rfl⟩ _
    have hd := txt_dig k (by omega)
    walk_at "gs"
    refine r2_plus_str (by rw [sizeLine_eq]; have := hstem.1; have := td.1; omega) ?_
    walk_at "gs"
    refine rc_str_int (log_small (by omega) (by omega)) ?_
    refine r2_plus_str (by rw [sizeLine_eq]; have := (hstem.app td).1; have := hd.1; omega) ?_
    refine ⟨_, rfl, Gh.le_refl _, rfl, ?_⟩
    rw [nms_succ, List.map_append]
    rfl
  rintro acc _ la ⟨rfl, rfl⟩
  refine sw_seq ?_
  walk_at "gs"
  refine we_lc (is := [3]) (by simp) (by simp) ?_
  walk_at "gs"
  intro nm rm0 rm1
  walk_at "gs"
  refine ⟨by rw [sizeLine_eq]; omega, fun k acc g' => G = g' ∧ acc = (nms stem "m" k).map .str, ⟨rfl, rfl⟩, ?_, ?_⟩
  · rintro k acc _ hk la ⟨rfl, rfl⟩ _
    have hd := txt_dig k (by omega)
    walk_at "gs"
    refine r2_plus_str (by rw [sizeLine_eq]; have := hstem.1; have := tm.1; omega) ?_
    walk_at "gs"
    refine rc_str_int (log_small (by omega) (by omega)) ?_
    refine r2_plus_str (by rw [sizeLine_eq]; have := (hstem.app tm).1; have := hd.1; omega) ?_
    refine ⟨_, rfl, Gh.le_refl _, rfl, ?_⟩
    rw [nms_succ, List.map_append]
    rfl
  rintro acc _ la ⟨rfl, rfl⟩
  have hF : IsFs (nms stem "f" (1 + nf).toNat) := ⟨by rw [nms_len]; omega, nms_txt (hstem.app tf) (by omega) (by decide) hstm (by simp)⟩
  have hFl : (nms stem "f" (1 + nf).toNat).length ≤ 4 := by rw [nms_len]; omega
  have hD : IsFs (nms stem "d" (1 + nd).toNat) := ⟨by rw [nms_len]; omega, nms_txt (hstem.app td) (by omega) (by decide) hstm (by simp)⟩
  have hDn : (nms stem "d" (1 + nd).toNat).Nodup := nms_nodup (by omega)
  have hDl : (nms stem "d" (1 + nd).toNat).length ≤ 4 := by rw [nms_len]; omega
  have hDo := nms_no (stem := stem) (n := (1 + nd).toNat) (by omega)
  have hM : IsMs (nms stem "m" nm.toNat) := ⟨by rw [nms_len]; omega, nms_txt (hstem.app tm) (by omega) (by decide) hstm (by simp)⟩
  have hMl : (nms stem "m" nm.toNat).length ≤ 4 := by rw [nms_len]; omega
  walk_at "gs"
  generalize nms stem "f" (1 + nf).toNat = fs at hF hFl ⊢
  generalize nms stem "d" (1 + nd).toNat = ds at hD hDn hDl hDo ⊢
  generalize nms stem "m" nm.toNat = ms at hM hMl ⊢
  refine sw_seq ?_
  walk_at "gs"
  refine ⟨_, _, _, _, _, rfl, hF, hD, hM, hDn, hDl, hMl, lbG0, by omega, fun D g2 le2 ub2 kn2 ks2 kz2 => ?_⟩
  walk_at "gs"
  refine sw_seq ?_
  refine sw_drop ?_
  walk_at "gs"
  refine ⟨_, _, _, _, rfl, hstem.mono (by decide), hstm, Nat.lt_of_lt_of_le lbG0 (le2.lb p), by omega, by omega, fun z hz => hDo _ (ks2 z hz), fun g3 le3 ub3 kn3 => ?_⟩
  walk_at "gs"
  have le03 : G.le g3 := Gh.le_trans le2 le3
  have kz3 : ∃ z, z ∈ g3.ks D := let ⟨z, hz⟩ := kz2; ⟨z, le3.ks D z hz⟩
  have kn3' : g3.kn D ≤ 6 := by omega
  have ub3' : g3.ub ≤ 124 := by omega
  have lb3 : 0 < g3.lb p := Nat.lt_of_lt_of_le lbG0 (le03.lb p)
  refine sw_seq ?_
  refine sw_asg (by show 8 < 19; decide) ?_
  refine we_tupT [.dat (fun d => d = .list (fs.map .str)), .dic D Kinds, .dat (fun d => d = .list (ms.map .str))] ?_
  walk_at "gs"
  refine ⟨by show (3 : Nat) ≤ sizeLine; rw [sizeLine_eq]; decide, .cons rfl (.cons ⟨rfl, rfl⟩ (.cons rfl .nil)), ?_⟩
  refine sw_seq ?_
  refine sw_for (is := [3]) ?_
  walk_at "gs"
  rw [List.length_map]
  refine ⟨⟨by omega, by omega⟩, ?_⟩
  refine ⟨fun k ρ g' => g3.le g' ∧ g'.ub ≤ g3.ub + 216 * k ∧ g'.kn D ≤ 6 ∧ ∃ s3 s9 s10 s11 s12 s13 s14 s15 s16 s17 s18, ρ = [.t (penT ns), .d (.str stem), .t (partsT p), s3, .d (.list (fs.map .str)), .d (.list (ds.map .str)), .d (.list (ms.map .str)), .t (.dic D Kinds), .t (planT D fs ms), s9, s10, s11, s12, s13, s14, s15, s16, s17, s18], ?_, ?_, ?_⟩
  · exact ⟨Gh.le_refl _, Nat.le_refl _, kn3', _, _, _, _, _, _, _, _, _, _, _, rfl⟩
  · rintro k _ g4 hk ⟨le4, ub4, kn4, s3, s9, s10, s11, s12, s13, s14, s15, s16, s17, s18, rfl⟩
    have hk4 : k < fs.length := by omega
    have lb4 : 0 < g4.lb p := Nat.lt_of_lt_of_le lb3 (le4.lb p)
    walk_at "gs"
    refine sw_seq ?_
    walk_at "gs"
    refine rc_len_lst fun n n0 n1 => ?_
    walk_at "gs"
    intro r r0 r1
    walk_at "gs"
    refine r2_ix_lst r0 (by rw [lb_len]; exact r1) ?_
    refine cell_pr fun i j => ?_
    walk_at "gs"
    refine sw_seq ?_
    walk_at "gs"
    refine we_lcP (F := IsSym) (T := fun _ _ => True) (G := fun _ _ => True) (by simp) ?_
    walk_at "gs"
    refine ⟨by rw [sizeLine_eq]; show g4.ub ≤ _; omega, fun E Γ σ H I x d H' hx hd hs => had_pure I rfl (by show 11 < 19; decide) x d H' hx hd hs, fun es hes hel => ?_⟩
    have hel2 : es.length ≤ 800 := Nat.le_trans hel (by show g4.ub ≤ _; omega)
    walk_at "gs"
    refine sw_seq ?_
    refine sw_asgG (is := [12] ++ ([13] ++ [])) ?_
    walk_at "gs"
    refine rc_str_int (log_mid (by omega)) ?_
    have htn := txt_num (n := es.length) (by omega)
    have tl : Txt 1 "l" := ⟨by decide +kernel, by decide +kernel⟩
    refine r2_plus_str (by rw [sizeLine_eq]; have := tl.1; have := htn.1; omega) ?_
    walk_at "gs"
    have hkz : ∃ z, z ∈ (g4.len p n).ks D := let ⟨z, hz⟩ := kz3; ⟨z, le4.ks D z hz⟩
    refine ⟨_, _, _, _, _, _, rfl, by show g4.kn D < 64; omega, hkz, hF, hM, by omega, (tl.app htn).mono (by decide), ⟨es.length, hel2, rfl⟩, fun is ls g6 kg6 hi hil hl hll => ?_⟩
    have ub6 : g6.ub = g4.ub := kg6.ub
    have le6 : (g4.len p n).le g6 := ⟨fun x => by rw [kg6.lb]; exact Nat.le_refl _, by rw [kg6.ub]; exact Nat.le_refl _, kg6.ks, fun i s h => by rw [kg6.pt]; exact h⟩
    have kn6 : g6.kn D = g4.kn D := by rw [kg6.kn]; rfl
    walk_at "gs"
    refine sw_seq ?_
    walk_at "gs"
    refine we_lc (is := [15] ++ ([16] ++ [])) (by simp) (by simp) ?_
    walk_at "gs"
    refine ⟨fun m acc g' => g6 = g' ∧ AllD IsSym3 acc, ⟨rfl, .nil⟩, ?_, ?_⟩
    · rintro m acc _ hm la ⟨rfl, hacc⟩ _
      obtain ⟨y, w, he, hy, _, _⟩ := hl _ (List.getElem_mem hm)
      rw [nth_get (d := .tuple [.str y, .int w]) (by rw [List.getElem?_eq_getElem hm, he])]
      walk_at "gs"
      exact ⟨Gh.le_refl _, rfl, hacc.snoc ⟨y, "local", w, rfl, hy⟩⟩
    rintro syms _ la ⟨rfl, hsy⟩
    walk_at "gs"
    refine sw_seq ?_
    walk_at "gs"
    intro rb rb0 rb1
    refine r2_ix_mem rb0 rb1 fun d hd => ?_
    obtain ⟨b, rfl⟩ : ∃ b : Str, d = .str b := by
      simp only [List.mem_cons, List.not_mem_nil, or_false] at hd
      rcases hd with rfl | rfl | rfl <;> exact ⟨_, rfl⟩
    walk_at "gs"
    refine sw_drop ?_
    walk_at "gs"
    refine r2_ix_strs (by omega) (by rw [List.length_map]; omega) fun fx hfx => ?_
    walk_at "gs"
    refine r2_plus_list (by rw [sizeLine_eq]; simp only [List.length_cons, List.length_nil]; omega) ?_
    walk_at "gs"
    refine ⟨_, _, _, _, _, _, rfl, .inl rfl, hi, by omega, AllD.cons ⟨fx, b, 0, rfl, (hF.2 fx hfx).txt⟩ hsy, by rw [List.length_append]; simp only [List.length_cons, List.length_nil]; omega, by omega, fun g7 kg7 => ?_⟩
    have ub7 := kg7.ub
    rw [List.length_append] at ub7
    simp only [List.length_cons, List.length_nil] at ub7
    refine ⟨Gh.le_trans (Gh.le_trans (Gh.le_trans le4 (Gh.le_len n0)) le6) kg7.le, by omega, by rw [kg7.kn, kn6]; exact kn4, _, _, _, _, _, _, _, _, _, _, _, rfl⟩
  · rintro _ g4 ⟨le4, ub4, kn4, s3, s9, s10, s11, s12, s13, s14, s15, s16, s17, s18, rfl⟩
    have lb4 : 0 < g4.lb p := Nat.lt_of_lt_of_le lb3 (le4.lb p)
    refine sw_seq ?_
    walk_at "gs"
    intro r r0 r1
    walk_at "gs"
    refine ⟨_, _, _, _, rfl, hstem, hM, hMl, r0, lb4, by omega, fun ps g5 hps hpl le5 kn5 => ?_⟩
    walk_at "gs"
    refine rc_sorted_dic (by rw [kn5]; omega) fun keys kv hk40 hkl hkv hks hkin => ?_
    walk_at "gs"
    exact q ps _ _ _ _ hps (by omega) (Gh.le_trans (Gh.le_trans (Gh.le_trans (Gh.le_trans leG le03) le4) le5) (Gh.le_know hks))

end LK
set_option maxRecDepth 100000
set_option maxHeartbeats 8000000
set_option autoImplicit false
namespace LK
open PySem L2 PyProof.Rows PL
variable [TBs]
local macro_rules | `(tactic| walk_at "nm") => `(tactic| first
  | (with_reducible assumption)
  | exact few_txt (by decide +kernel))
local macro_rules | `(tactic| walk_at "cm") => `(tactic| (unfold CMul; first
  | (left; decide)
  | (right; decide)
  | (left; refine ⟨?_, ?_⟩ <;> omega)
  | (right; refine ⟨?_, ?_⟩ <;> omega)))
local macro_rules | `(tactic| walk_at "sd") => `(tactic| first
  | exact rfl
  | exact Nat.le_of_ble_eq_true rfl
  | (with_reducible assumption)
  | decide
  | omega
  | (simp only [List.length_cons, List.length_nil, List.length_append, List.length_set, List.length_replicate, List.length_map]; omega)
  | (refine ⟨?_, ?_⟩ <;> (first | decide | omega)))
local macro_rules | `(tactic| walk_at "sz") => `(tactic| first
  | decide
  | (rw [sizeLine_eq]; omega)
  | (rw [sizeLine_eq]; simp only [List.length_cons, List.length_nil, List.length_append, List.length_set, List.length_replicate, List.length_map]; omega)
  | (refine ⟨?_, ?_⟩ <;> (first | decide | omega)))
local macro_rules | `(tactic| walk_at "ai") => `(tactic| repeat' (first
  | (with_reducible assumption)
  | (with_reducible exact AllD.nil)
  | (with_reducible refine AllD.cons ?_ ?_)
  | (with_reducible refine AllD.app ?_ ?_)
  | exact gi_room
  | exact gi_none (by decide +kernel) (by decide +kernel)
  | exact gi_one (by decide +kernel) (by decide +kernel) (by walk_at "nm")
  | exact gi_two (by decide +kernel) (by decide +kernel) (by walk_at "nm")))
local macro_rules | `(tactic| walk_at "st") => `(tactic| first
  | (with_reducible refine L2.iteT ?_)
  | (with_reducible refine L2.iteF ?_)
  | (with_reducible refine sw_if ?_)
  | (with_reducible refine cell_scr ?_)
  | (with_reducible refine cell_lst ?_)
  | (with_reducible refine cell_rcd ?_)
  | (with_reducible refine cell_dic ?_)
  | (with_reducible refine sw_setR ?_)
  | (with_reducible refine sw_next ?_)
  | (with_reducible refine sw_retN ?_)
  | (with_reducible refine sw_ret ?_)
  | (with_reducible refine we_op ?_)
  | (with_reducible refine we_int ?_)
  | (with_reducible refine we_str ?_)
  | (with_reducible refine we_bl ?_)
  | (with_reducible refine we_non ?_)
  | (with_reducible refine wa_nil ?_)
  | (with_reducible refine wa_cons ?_)
  | (with_reducible refine we_tup ?_)
  | (with_reducible refine we_lst ?_)
  | (with_reducible refine we_call ?_)
  | (with_reducible refine we_cb ?_)
  | (with_reducible refine we_if ?_)
  | (with_reducible refine we_neg ?_)
  | (with_reducible refine wt_tst ?_)
  | (with_reducible refine wt_and ?_)
  | (with_reducible refine wt_or ?_)
  | (with_reducible refine wt_not ?_)
  | (with_reducible refine wt_yes ?_)
  | (with_reducible refine r2_plus_int ?_)
  | (with_reducible refine r2_sub ?_)
  | (with_reducible refine r2_lt ?_)
  | (with_reducible refine r2_le ?_)
  | (with_reducible refine r2_gt ?_)
  | (with_reducible refine r2_ge ?_)
  | (with_reducible refine r2_eq_int ?_)
  | (with_reducible refine r2_eq_str ?_)
  | (with_reducible refine r2_ne_int ?_)
  | (with_reducible refine r2_ne_str ?_)
  | (with_reducible refine rc_len_list ?_)
  | (with_reducible refine rc_len_tup ?_)
  | (with_reducible refine rc_len_scr ?_)
  | (with_reducible refine rc_min2 ?_)
  | (with_reducible refine rc_max2 ?_)
  | (with_reducible refine rc_int_bool ?_)
  | (with_reducible refine rc_abs ?_)
  | (with_reducible refine wgs_nil ?_)
  | (with_reducible refine use_number ?_)
  | (with_reducible refine we_andV ?_)
  | (with_reducible refine we_orV ?_)
  | (with_reducible refine we_notV ?_)
  | (with_reducible refine we_dget ?_)
  | (with_reducible refine r2_in_strs ?_)
  | (with_reducible refine r2_nin_strs ?_)
  | (with_reducible refine we_index ?_)
  | ((with_reducible apply wg_name); (· walk_at "sd"))
  | ((with_reducible apply wg_tup); (· exact rfl))
  | ((with_reducible apply we_vd); (· exact rfl))
  | ((with_reducible apply we_vt); (· exact rfl))
  | ((with_reducible apply we_vs); (· exact rfl))
  | ((with_reducible apply r2_ix_rcd); (· exact rfl))
  | ((with_reducible apply r2_ix_tpl); (· exact rfl))
  | ((with_reducible apply r2_ix_list); (· exact rfl))
  | ((with_reducible apply r2_ix_tup); (· exact rfl))
  | ((with_reducible refine sw_asg ?_ ?_); (· walk_at "sd"))
  | ((with_reducible refine use_next ?_ ?_); (· walk_at "sd"))
  | ((with_reducible refine sl_w_str ?_ ?_); (· walk_at "sz"))
  | ((with_reducible refine r2_times_int ?_ ?_); (· walk_at "cm"))
  | ((with_reducible refine r2_mod ?_ ?_); (· walk_at "sd"))
  | ((with_reducible refine r2_fdiv ?_ ?_); (· walk_at "sd"))
  | ((with_reducible refine r2_pow ?_ ?_); (· exact ⟨by decide, by decide, by decide⟩))
  | ((with_reducible refine r2_plus_str ?_ ?_); (· walk_at "sd"))
  | ((with_reducible refine r2_plus_list ?_ ?_); (· walk_at "sd"))
  | ((with_reducible refine r2_plus_tup ?_ ?_); (· walk_at "sd"))
  | ((with_reducible refine rc_str_int ?_ ?_); (· walk_at "sd"))
  | ((with_reducible refine rc_len_str ?_ ?_); (· walk_at "sd"))
  | (with_reducible apply sw_asgG)
  | (with_reducible apply wgs_cons)
  | (with_reducible refine we_slice ?_)
  | (with_reducible refine wo_none ?_)
  | (with_reducible refine wo_some ?_)
  | (with_reducible refine sl_w_list ?_)
  | (with_reducible refine sl_w_tup ?_)
  | (with_reducible refine rc_tuple_list ?_)
  | (with_reducible refine wi_range1 ?_)
  | (with_reducible refine wi_range2 ?_)
  | (with_reducible refine wi_list ?_)
  | (with_reducible refine wi_tup ?_)
  | ((with_reducible apply Exists.intro); (with_reducible apply And.intro); (· exact rfl); (with_reducible apply And.intro); (· walk_at "sz"))
  | ((with_reducible apply Exists.intro); (with_reducible apply Exists.intro); (with_reducible apply And.intro); (· exact rfl); (with_reducible apply And.intro); (· exact rfl); (with_reducible apply Exists.intro); (with_reducible apply Exists.intro); (with_reducible apply And.intro); (· exact rfl); (with_reducible apply And.intro); (· exact rfl); (with_reducible apply And.intro))
  | ((with_reducible apply Exists.intro); (with_reducible apply And.intro); (· exact rfl))
  | fail)
local macro_rules | `(tactic| walk_at "gs") => `(tactic| repeat' (walk_at "st"))
local macro_rules | `(tactic| walk_at "go") => `(tactic| repeat' (first | (with_reducible refine sw_seq ?_) | walk_at "st"))
local macro_rules | `(tactic| walk_at "os") => `(tactic| repeat' (first
  | ((with_reducible apply sw_append); (· exact rfl))
  | ((with_reducible apply sw_ret_own); (· exact rfl))
  | ((with_reducible apply sw_catOwn); (· exact rfl))
  | ((with_reducible apply we_len_own); (· exact rfl))
  | ((with_reducible apply we_nin_own); (· exact rfl))
  | ((with_reducible apply we_ix_own); (· exact rfl))
  | ((with_reducible apply we_ne_own); (· exact rfl); (· with_reducible assumption))
  | ((with_reducible refine sw_own ?_ ?_); (· walk_at "sd"))
  | walk_at "st"))
local macro_rules | `(tactic| walk_at "og") => `(tactic| repeat' (first
  | (with_reducible refine sw_seq ?_)
  | ((with_reducible apply sw_append); (· exact rfl))
  | ((with_reducible apply sw_ret_own); (· exact rfl))
  | ((with_reducible apply sw_catOwn); (· exact rfl))
  | ((with_reducible apply we_len_own); (· exact rfl))
  | ((with_reducible apply we_nin_own); (· exact rfl))
  | ((with_reducible apply we_ix_own); (· exact rfl))
  | ((with_reducible apply we_ne_own); (· exact rfl); (· with_reducible assumption))
  | ((with_reducible refine sw_own ?_ ?_); (· walk_at "sd"))
  | walk_at "st"))

abbrev snamed_by : Stmt := topS 4
theorem scnamed_by : FnScope ["section", "rows", "item", "part"] ["section"] (defScope snamed_by) := ⟨rfl, rfl, rfl, by decide +kernel, rfl, by decide +kernel, by decide +kernel⟩

def fnamed_by : FS := fun ss g P => ∃ (a b c : PyData) (is : List PyData), ss = [.d (.tuple [a, b, c, .tuple is])] ∧ AllD GItem is ∧ is.length ≤ 3000 ∧ P (.d (.list (is.filterMap rowOf))) g
theorem lennamed_by : ∀ ss g P, fnamed_by ss g P → ss.length = ["section"].length := by
  rintro ss g P ⟨_, _, _, _, rfl, _⟩
  rfl

theorem oknamed_by {P : Program} {w : World} {K : PySem.W.Frag} {mg : Str → Option Value} {base : Heap} (S : Std K mg "named_by" snamed_by ["section"]) {a_NAMED_PART : Addr} (m_NAMED_PART : mg "NAMED_PART" = some (.ref a_NAMED_PART)) (T_NAMED_PART : KTab K w a_NAMED_PART [("place", 2), ("call", 1), ("jump", 1), ("when", 2), ("at", 1)]) : Cal P w K mg base 1 "named_by" ["section"] fnamed_by := by
  have r_NAMED_PART : RelV (.ref a_NAMED_PART) (.ref a_NAMED_PART) := rfl
  refine cal_of S scnamed_by (by decide) (lennamed_by) fun a cdv A outer s H vs Q E hr => ?_
  have sc := scnamed_by
  let nm : List Str := ["section", "rows", "item", "part"]
  let sco := defScope snamed_by
  refine ⟨_, (pss_cons (ps_set (i := 1) sc.nd rfl (Or.inl rfl) (pe_lst pa_nil))
 (pss_cons (ps_for PassesOwn.never rfl (pi_tup (pe_ix (r := rIx K) ix_seq (pv 0) pe_int (fun _ _ => rfl))) (pg_name (i := 2) sc.nd rfl (Or.inl rfl))
 (pss_cons (ps_set (i := 3) sc.nd rfl (Or.inl rfl) (pe_kget (hu_of hr) (pe_glob (by rfl) m_NAMED_PART r_NAMED_PART) (pe_ix (r := rIx K) ix_seq (pv 2) pe_int (fun _ _ => rfl)) ⟨by rfl, by rfl, by rfl, by rfl⟩))
 (pss_one (ps_if (pt_cmpR op_notN (pv 3) pe_non (nomark _))
 (pss_one (ps_expr (pe_bm PySem.F.plainAttrs_list PySem.F.slot_list_append PySem.F.type_list_append mt_append (pv 1) (pa_cons (pe_tup (pa_cons (pv 2) (pa_cons (pe_ix (r := rIx K) ix_seq (pv 2) (pv 3) (fun _ _ => rfl)) pa_nil))) pa_nil))))
 pss_nil))))
 (pss_one (ps_ret (pv 1))))), ?_⟩
  clear sc nm sco
  try dsimp only [cxOf, Cx.nox, Cx.wish]

  rintro ss g P ⟨a1, b1, c1, is, rfl, hi, hil, q⟩
  show SW K _ _ [.d (.tuple [a1, b1, c1, .tuple is]), .un, .un, .un] g
  refine sw_seq ?_
  refine sw_own (by show 1 < 4; decide) ?_
  walk_at "os"
  refine sw_seq ?_
  refine sw_for (is := [2]) ?_
  walk_at "os"
  refine ⟨fun m ρ g' => g = g' ∧ ∃ s3 s4, ρ = [.d (.tuple [a1, b1, c1, .tuple is]), .own ((is.take m).filterMap rowOf), s3, s4], ?_, ?_, ?_⟩
  · exact ⟨rfl, _, _, rfl⟩
  · rintro m _ _ hm ⟨rfl, s3, s4, rfl⟩
    obtain ⟨w1, r, e2, hp, _⟩ := hi _ (List.getElem_mem hm)
    rw [nth_get (d := .tuple (.str w1 :: r)) (by rw [List.getElem?_eq_getElem hm, e2])]
    have hl2 : ((is.take m).filterMap rowOf).length ≤ m := by
      refine Nat.le_trans (List.length_filterMap_le _ _) ?_
      rw [List.length_take]
      omega
    have hstep : ((is.take (m + 1)).filterMap rowOf) = ((is.take m).filterMap rowOf) ++ (rowOf (.tuple (.str w1 :: r))).toList := by
      rw [List.take_add_one, List.getElem?_eq_getElem hm, e2, List.filterMap_append]
      congr 1
    walk_at "os"
    refine sw_seq ?_
    walk_at "os"
    refine we_kget T_NAMED_PART ?_
    walk_at "os"
    refine r2_ix_tup atI_zero ?_
    have hlook : ([(("place" : Str), (2 : Int)), ("call", 1), ("jump", 1), ("when", 2), ("at", 1)] : List (Str × Int)).lookup w1 = (npart w1).map Int.ofNat := part_look w1
    refine ⟨w1, rfl, fun i hi2 => ?_, fun hn => ?_⟩
    · rw [hlook] at hi2
      obtain ⟨j, hj, rfl⟩ : ∃ j : Nat, npart w1 = some j ∧ i = (j : Int) := by
        cases h : npart w1 with
        | none => rw [h] at hi2; cases hi2
        | some j => rw [h] at hi2; exact ⟨j, rfl, (Option.some.inj hi2).symm⟩
      obtain ⟨x, hx, _⟩ := hp j hj
      have hrow : rowOf (.tuple (.str w1 :: r)) = some (.tuple [.tuple (.str w1 :: r), .str x]) := by
        unfold rowOf
        rw [name_some hj hx]
        rfl
      rw [hrow] at hstep
      walk_at "os"
      refine r2_notN (fun e => by cases e) ?_
      walk_at "os"
      · rw [sizeLine_eq]; omega
      refine r2_ix_tup (atI_nat hx) ?_
      walk_at "os"
      refine ⟨rfl, .d (.tuple (.str w1 :: r)), .d (.int j), ?_⟩
      rw [hstep]
      rfl
    · rw [hlook] at hn
      have hn2 : npart w1 = none := by
        cases h : npart w1 with
        | none => rfl
        | some j => rw [h] at hn; cases hn
      have hrow : rowOf (.tuple (.str w1 :: r)) = none := by
        unfold rowOf
        rw [name_none hn2]
        rfl
      rw [hrow] at hstep
      walk_at "os"
      refine r2_notNN ?_
      walk_at "os"
      refine ⟨rfl, .d (.tuple (.str w1 :: r)), .d .none, ?_⟩
      rw [hstep]
      show _ = [_, Sl.own (_ ++ []), _, _]
      rw [List.append_nil]
      rfl
  · rintro _ _ ⟨rfl, s3, s4, rfl⟩
    rw [List.take_length]
    walk_at "os"
    exact q

end LK
set_option maxRecDepth 100000
set_option maxHeartbeats 4000000
set_option autoImplicit false
/-! PL22: a comprehension of two clauses. -/
namespace PL
open PySem PySem.Spec L2 PyProof.Rows
section
variable [TBs] [Nms] {K : PySem.W.Frag} {ρ : List Sl} {g : Gh} {wi wi1 : TI} {tg tg1 : TG} {tt tt1 : TT} {te : TE} {P : Sl → Gh → Prop}
def NoOwnS (ρ : List Sl) : Prop := ∀ (j : Nat) (es : List PyData), ρ[j]? ≠ some (.own es)
theorem wipeS_un {es : List PyData} {j : Nat} : ∀ {ρ : List Sl} {vs : List Nat}, NoOwnS ρ → (wipeS ρ vs)[j]? ≠ some (.own es)
  | ρ, [], h => h j es
  | ρ, v :: vs, h => by
    unfold wipeS
    rw [List.getElem?_set]
    split
    · split
      · intro z; cases z
      · intro z; cases z
    · exact wipeS_un h
theorem we_lc2 {is vs is1 vs1 : List Nat} (hv : ∀ v, v ∈ vs → v < ρ.length) (hs : ∀ j, j ∈ is → j ∈ vs) (hv1 : ∀ v, v ∈ vs1 → v < ρ.length) (hs1 : ∀ j, j ∈ is1 → j ∈ vs1)
    (h : WI K wi ρ g fun n y g1 => ∃ J : Nat → List PyData → Gh → Prop, J 0 [] g1 ∧
      (∀ k acc g', k < n → J k acc g' → g1.le g' → WG K tg is (y k) (wipeS ρ vs) g' fun ρ2 g2 => WT K tt ρ2 g2 fun b g3 => if b = true then
        NoOwnS ρ2 ∧ WI K wi1 ρ2 g3 fun n1 y1 g4 => g1.le g4 ∧ ∃ J1 : Nat → List PyData → Gh → Prop, J1 0 acc g4 ∧
          (∀ j acc1 g', j < n1 → J1 j acc1 g' → g1.le g' → acc1.length < sizeLine ∧ WG K tg1 is1 (y1 j) (wipeS ρ2 vs1) g' fun ρ3 g5 => WT K tt1 ρ3 g5 fun b g6 => if b = true then WE K te ρ3 g6 fun s g7 => ∃ d, s = .d d ∧ g1.le g7 ∧ J1 (j + 1) (acc1 ++ [d]) g7 else g1.le g6 ∧ J1 (j + 1) acc1 g6) ∧
          ∀ acc1 g', J1 n1 acc1 g' → J (k + 1) acc1 g'
      else g1.le g3 ∧ J (k + 1) acc g3) ∧
      ∀ acc g', J n acc g' → P (.d (.list acc)) g') : WE K (tLc2 wi tg tt wi1 tg1 tt1 te vs vs1) ρ g P := fun E Γ σ H Q Iv kk => by
  refine h E Γ σ H _ Iv fun Γ1 g1 H1 E1 J n y e1 q1 I1 it ⟨Jv, j0, step, fin⟩ D nD => ?_
  have Iw := I1.wipe vs hv
  obtain ⟨f1, f2, f3⟩ := I1.fresh nD
  have eN : Ext Γ1 H1 (Γ1.put D (some (.own []))) (upd H1 D (.lst [])) := ext_newown nD f1
  have ofput : ∀ {Γ' : Gam} {H' : Hp}, Ext Γ1 H1 (Γ'.put D none) H' → Ext Γ1 H1 Γ' H' := fun {Γ' H'} ex => .of (fun a x ha hx => by
      have e : a ≠ D := ne_of_none hx nD
      obtain ⟨z1, z2⟩ := ex.un a x ha hx
      rw [put_ne e] at z1
      exact ⟨z1, z2⟩) fun a t ha => by
      have e : a ≠ D := fun z => by
        subst z
        rw [f1] at ha
        cases ha
      have z := ex.all a t ha
      rw [put_ne e] at z
      exact z
  have go1 : ∀ {Γ2 Γ4 : Gam} {H2 H4 : Hp}, Ext Γ1 H1 (Γ2.put D none) H2 → Ext Γ2 H2 Γ4 H4 → Ext Γ1 H1 (Γ4.put D none) H4 := fun {Γ2 Γ4 H2 H4} ex e4 => .of (fun a x ha hx => by
      have e : a ≠ D := ne_of_none hx nD
      obtain ⟨z1, z2⟩ := ex.un a x ha hx
      rw [put_ne e] at z1 ⊢
      exact e4.un a x z1 z2) fun a t ha => by
      have e : a ≠ D := fun z => by
        subst z
        rw [f1] at ha
        cases ha
      have z := ex.all a t ha
      rw [put_ne e] at z ⊢
      exact e4.all a t z
  have put2 : ∀ {Γ6 : Gam} {H6 : Hp} {t : GT} {u : HO}, Ext Γ1 H1 (Γ6.put D none) H6 → Ext Γ1 H1 ((Γ6.put D (some t)).put D none) (upd H6 D u) := fun {Γ6 H6 t u} a6 => .of (fun a x ha hx => by
      have e : a ≠ D := ne_of_none hx nD
      obtain ⟨z1, z2⟩ := a6.un a x ha hx
      rw [put_ne e] at z1
      rw [put_ne e, put_ne e, upd_ne e]
      exact ⟨z1, z2⟩) fun a t ha => by
      have e : a ≠ D := fun z => by
        subst z
        rw [f1] at ha
        cases ha
      have z := a6.all a t ha
      rw [put_ne e] at z
      rw [put_ne e, put_ne e]
      exact z
  have hE1 : E1.Γ D = none := by rw [q1.Γ]; exact ((I1.unpin q1).fresh nD).2.1
  have hE2 : E1.H D = none := by rw [q1.H]; exact ((I1.unpin q1).fresh nD).2.2
  refine ⟨fun i m H => m = n - i ∧ i ≤ n ∧ ∃ Γ g acc, EnvOk K E1 Γ g (wipeS ρ vs) (wipe σ vs) H ∧ Γ D = some (.own acc) ∧ g1.le g ∧ Ext Γ1 H1 (Γ.put D none) H ∧ Jv i acc g,
    ⟨n, by simp, Nat.zero_le _, _, g1, [], Iw.newown nD .nil, put_same, Gh.le_refl g1, ?_, j0⟩, ?_⟩
  · refine .of (fun a x ha hx => ?_) fun a t ha => ?_
    · have e : a ≠ D := ne_of_none hx nD
      rw [put_ne e, put_ne e, upd_ne e]
      exact ⟨ha, hx⟩
    · have e : a ≠ D := fun z => by
        subst z
        rw [f1] at ha
        cases ha
      rw [put_ne e, put_ne e]
      exact ha
  rintro i m H2 ⟨rfl, hi, Γ2, g2, acc, I2, hD, lg, ex, jv⟩
  by_cases hlt : i < n
  · refine .inr ⟨it.go Γ2 g2 _ _ H2 i I2 hlt, _, fun H' hN => ⟨n - (i + 1), by omega, rfl, hlt, hN⟩, fun x H3 yl => ?_⟩
    obtain ⟨e3, I3, r3⟩ := it.yld Γ2 g2 _ _ H2 i x H3 I2 hlt yl
    refine step i acc g2 hlt jv lg E1 Γ2 _ H3 x _ I3 r3 fun Γ4 g4 ρ4 σ4 H4 e4 I4 s4 q4 => ?_
    refine ⟨wipe_same hs s4, ?_⟩
    refine q4 E1 Γ4 σ4 H4 _ I4 fun Γ5 g5 H5 b e5 I5 q5 => ?_
    have e25 : Ext Γ2 H2 Γ5 H5 := (e3.trans e4).trans e5
    have hD5 := e25.own D acc hD
    have a5 := go1 ex e25
    cases b with
    | false =>
      rw [if_neg Bool.false_ne_true] at q5 ⊢
      exact ⟨Γ5, g5, acc, Iw.ext (ofput a5) I5.hp q5.1, hD5, q5.1, a5, q5.2⟩
    | true =>
      rw [if_pos rfl] at q5 ⊢
      obtain ⟨no, q5⟩ := q5
      refine q5 E1 Γ5 σ4 H5 _ I5 fun Γ6 g6 H6 E2 J1 n1 y1 e6 q2 I6 it1 ⟨l6, Jv1, jj0, step1, fin1⟩ => ?_
      have hl4 : ρ4.length = ρ.length := by rw [← I4.len, s4.1, wipe_length, I1.len]
      have I6w := I6.wipe vs1 fun v hv => by rw [hl4]; exact hv1 v hv
      have hD6 := e6.own D acc hD5
      have a6 := go1 a5 e6
      have hF1 : E2.Γ D = none := by rw [q2.Γ]; exact hE1
      have hF2 : E2.H D = none := by rw [q2.H]; exact hE2
      refine ⟨fun j m H => m = n1 - j ∧ j ≤ n1 ∧ ∃ Γ g acc, EnvOk K E2 Γ g (wipeS ρ4 vs1) (wipe σ4 vs1) H ∧ Γ D = some (.own acc) ∧ g1.le g ∧ Ext Γ1 H1 (Γ.put D none) H ∧ Jv1 j acc g,
        ⟨n1, by simp, Nat.zero_le _, _, g6, acc, I6w, hD6, l6, a6, jj0⟩, ?_⟩
      rintro j m H7 ⟨rfl, hj, Γ7, g7, acc1, I7, hD7, l7, a7, jv1⟩
      by_cases hlt1 : j < n1
      · refine .inr ⟨it1.go Γ7 g7 _ _ H7 j I7 hlt1, _, fun H' hN => ⟨n1 - (j + 1), by omega, rfl, hlt1, hN⟩, fun x1 H8 yl1 => ?_⟩
        obtain ⟨e8, I8, r8⟩ := it1.yld Γ7 g7 _ _ H7 j x1 H8 I7 hlt1 yl1
        obtain ⟨hsz, st1⟩ := step1 j acc1 g7 hlt1 jv1 l7
        refine st1 E2 Γ7 _ H8 x1 _ I8 r8 fun Γ9 g9 ρ9 σ9 H9 e9 I9 s9 q9 => ?_
        refine ⟨wipe_same hs1 s9, ?_⟩
        refine q9 E2 Γ9 σ9 H9 _ I9 fun Γa ga Ha b ea Ia qa => ?_
        have e7a : Ext Γ7 H7 Γa Ha := (e8.trans e9).trans ea
        have aa := go1 a7 e7a
        have hDa := e7a.own D acc1 hD7
        have back : ∀ {Γ' : Gam} {g' : Gh} {H' : Hp}, EnvOk K E2 Γ' g' ρ9 σ9 H' → Ext Γ7 H7 Γ' H' → EnvOk K E2 Γ' g' (wipeS ρ4 vs1) (wipe σ4 vs1) H' := fun {Γ' g' H'} I' e' =>
          ⟨I7.len, fun i s h => (I7.sl i s h).ext e', I7.dis, I'.hp, I'.fr, I'.gle, I'.pv⟩
        cases b with
        | false =>
          rw [if_neg Bool.false_ne_true] at qa ⊢
          exact ⟨Γa, ga, acc1, back Ia e7a, hDa, qa.1, aa, qa.2⟩
        | true =>
          rw [if_pos rfl] at qa ⊢
          refine qa E2 Γa σ9 Ha _ Ia fun Γb gb Hb v s eb Ib rb ⟨d, es, lb, qb⟩ => ?_
          subst es
          have e7b := e7a.trans eb
          have hDb := e7b.own D acc1 hD7
          obtain ⟨o, ho, xs, rfl, hx⟩ := Ib.hp.ob D _ hDb
          have hx2 : DaAll K (hid Γb Hb) (xs ++ [v]) (acc1 ++ [d]) := hx.append (.cons rb .nil)
          have hxl := hx.length
          have noD : NoOwn (wipeS ρ4 vs1) (wipe σ4 vs1) D := fun i es hh => (wipeS_un no hh).elim
          exact ⟨xs, ho, by omega, Γb.put D (some (.own (acc1 ++ [d]))), gb, acc1 ++ [d], (back Ib e7b).own hDb hF1 hF2 noD hx2, put_same, lb, put2 (go1 a7 e7b), qb⟩
      · have e : j = n1 := by omega
        subst e
        exact .inl ⟨it1.stop Γ7 g7 _ _ H7 I7, Γ7, g7, acc1, Iw.ext (ofput a7) I7.hp l7, hD7, l7, a7, fin1 acc1 g7 jv1⟩
  · have e : i = n := by omega
    subst e
    refine .inl ⟨it.stop Γ2 g2 _ _ H2 I2, ?_⟩
    obtain ⟨o, ho, xs, rfl, hx⟩ := I2.hp.ob D _ hD
    have I1u := I1.unpin q1
    have ex2 : Ext Γ1 H1 Γ2 H2 := ofput ex
    have hH : H D = none := by
      cases e : H D with
      | none => rfl
      | some o =>
        cases e2 : Γ D with
        | none =>
          have z := (e1.un D o e2 e).2
          rw [nD] at z
          cases z
        | some t =>
          have z := e1.all D t e2
          rw [f1] at z
          cases z
    have hΓ : Γ D = none := Iv.hp.free hH
    have Ie := I1u.ext ex2 I2.hp lg
    have hA : E.Γ D = none := by rw [← q1.Γ]; exact hE1
    have hB : E.H D = none := by rw [← q1.H]; exact hE2
    refine kk (Γ2.put D none) g2 H2 (.ref D) (.d (.list acc)) (ext_less (ds := acc) (e1.trans ex2) hH hΓ) (Ie.data hD hA hB (I1u.noOwn f1)) ?_ (fin acc g2 jv)
    refine Da.lst (.inl ?_) (hx.mono (ext0_data hD).sub)
    rw [hid_none put_same]
    exact ho
end
end PL
set_option maxRecDepth 100000
set_option maxHeartbeats 8000000
set_option autoImplicit false
namespace LK
open PySem L2 PyProof.Rows PL
variable [TBs]
local macro_rules | `(tactic| walk_at "nm") => `(tactic| first
  | (with_reducible assumption)
  | exact few_txt (by decide +kernel))
local macro_rules | `(tactic| walk_at "cm") => `(tactic| (unfold CMul; first
  | (left; decide)
  | (right; decide)
  | (left; refine ⟨?_, ?_⟩ <;> omega)
  | (right; refine ⟨?_, ?_⟩ <;> omega)))
local macro_rules | `(tactic| walk_at "sd") => `(tactic| first
  | exact rfl
  | exact Nat.le_of_ble_eq_true rfl
  | (with_reducible assumption)
  | decide
  | omega
  | (simp only [List.length_cons, List.length_nil, List.length_append, List.length_set, List.length_replicate, List.length_map]; omega)
  | (refine ⟨?_, ?_⟩ <;> (first | decide | omega)))
local macro_rules | `(tactic| walk_at "sz") => `(tactic| first
  | decide
  | (rw [sizeLine_eq]; omega)
  | (rw [sizeLine_eq]; simp only [List.length_cons, List.length_nil, List.length_append, List.length_set, List.length_replicate, List.length_map]; omega)
  | (refine ⟨?_, ?_⟩ <;> (first | decide | omega)))
local macro_rules | `(tactic| walk_at "ai") => `(tactic| repeat' (first
  | (with_reducible assumption)
  | (with_reducible exact AllD.nil)
  | (with_reducible refine AllD.cons ?_ ?_)
  | (with_reducible refine AllD.app ?_ ?_)
  | exact gi_room
  | exact gi_none (by decide +kernel) (by decide +kernel)
  | exact gi_one (by decide +kernel) (by decide +kernel) (by walk_at "nm")
  | exact gi_two (by decide +kernel) (by decide +kernel) (by walk_at "nm")))
local macro_rules | `(tactic| walk_at "st") => `(tactic| first
  | (with_reducible refine L2.iteT ?_)
  | (with_reducible refine L2.iteF ?_)
  | (with_reducible refine sw_if ?_)
  | (with_reducible refine cell_scr ?_)
  | (with_reducible refine cell_lst ?_)
  | (with_reducible refine cell_rcd ?_)
  | (with_reducible refine cell_dic ?_)
  | (with_reducible refine sw_setR ?_)
  | (with_reducible refine sw_next ?_)
  | (with_reducible refine sw_retN ?_)
  | (with_reducible refine sw_ret ?_)
  | (with_reducible refine we_op ?_)
  | (with_reducible refine we_int ?_)
  | (with_reducible refine we_str ?_)
  | (with_reducible refine we_bl ?_)
  | (with_reducible refine we_non ?_)
  | (with_reducible refine wa_nil ?_)
  | (with_reducible refine wa_cons ?_)
  | (with_reducible refine we_tup ?_)
  | (with_reducible refine we_lst ?_)
  | (with_reducible refine we_call ?_)
  | (with_reducible refine we_cb ?_)
  | (with_reducible refine we_if ?_)
  | (with_reducible refine we_neg ?_)
  | (with_reducible refine wt_tst ?_)
  | (with_reducible refine wt_and ?_)
  | (with_reducible refine wt_or ?_)
  | (with_reducible refine wt_not ?_)
  | (with_reducible refine wt_yes ?_)
  | (with_reducible refine r2_plus_int ?_)
  | (with_reducible refine r2_sub ?_)
  | (with_reducible refine r2_lt ?_)
  | (with_reducible refine r2_le ?_)
  | (with_reducible refine r2_gt ?_)
  | (with_reducible refine r2_ge ?_)
  | (with_reducible refine r2_eq_int ?_)
  | (with_reducible refine r2_eq_str ?_)
  | (with_reducible refine r2_ne_int ?_)
  | (with_reducible refine r2_ne_str ?_)
  | (with_reducible refine rc_len_list ?_)
  | (with_reducible refine rc_len_tup ?_)
  | (with_reducible refine rc_len_scr ?_)
  | (with_reducible refine rc_min2 ?_)
  | (with_reducible refine rc_max2 ?_)
  | (with_reducible refine rc_int_bool ?_)
  | (with_reducible refine rc_abs ?_)
  | (with_reducible refine wgs_nil ?_)
  | (with_reducible refine use_number ?_)
  | (with_reducible refine we_andV ?_)
  | (with_reducible refine we_orV ?_)
  | (with_reducible refine we_notV ?_)
  | (with_reducible refine we_dget ?_)
  | (with_reducible refine r2_in_strs ?_)
  | (with_reducible refine r2_nin_strs ?_)
  | (with_reducible refine we_index ?_)
  | ((with_reducible apply wg_name); (· walk_at "sd"))
  | ((with_reducible apply wg_tup); (· exact rfl))
  | ((with_reducible apply we_vd); (· exact rfl))
  | ((with_reducible apply we_vt); (· exact rfl))
  | ((with_reducible apply we_vs); (· exact rfl))
  | ((with_reducible apply r2_ix_rcd); (· exact rfl))
  | ((with_reducible apply r2_ix_tpl); (· exact rfl))
  | ((with_reducible apply r2_ix_list); (· exact rfl))
  | ((with_reducible apply r2_ix_tup); (· exact rfl))
  | ((with_reducible refine sw_asg ?_ ?_); (· walk_at "sd"))
  | ((with_reducible refine use_next ?_ ?_); (· walk_at "sd"))
  | ((with_reducible refine sl_w_str ?_ ?_); (· walk_at "sz"))
  | ((with_reducible refine r2_times_int ?_ ?_); (· walk_at "cm"))
  | ((with_reducible refine r2_mod ?_ ?_); (· walk_at "sd"))
  | ((with_reducible refine r2_fdiv ?_ ?_); (· walk_at "sd"))
  | ((with_reducible refine r2_pow ?_ ?_); (· exact ⟨by decide, by decide, by decide⟩))
  | ((with_reducible refine r2_plus_str ?_ ?_); (· walk_at "sd"))
  | ((with_reducible refine r2_plus_list ?_ ?_); (· walk_at "sd"))
  | ((with_reducible refine r2_plus_tup ?_ ?_); (· walk_at "sd"))
  | ((with_reducible refine rc_str_int ?_ ?_); (· walk_at "sd"))
  | ((with_reducible refine rc_len_str ?_ ?_); (· walk_at "sd"))
  | (with_reducible apply sw_asgG)
  | (with_reducible apply wgs_cons)
  | (with_reducible refine we_slice ?_)
  | (with_reducible refine wo_none ?_)
  | (with_reducible refine wo_some ?_)
  | (with_reducible refine sl_w_list ?_)
  | (with_reducible refine sl_w_tup ?_)
  | (with_reducible refine rc_tuple_list ?_)
  | (with_reducible refine wi_range1 ?_)
  | (with_reducible refine wi_range2 ?_)
  | (with_reducible refine wi_list ?_)
  | (with_reducible refine wi_tup ?_)
  | ((with_reducible apply Exists.intro); (with_reducible apply And.intro); (· exact rfl); (with_reducible apply And.intro); (· walk_at "sz"))
  | ((with_reducible apply Exists.intro); (with_reducible apply Exists.intro); (with_reducible apply And.intro); (· exact rfl); (with_reducible apply And.intro); (· exact rfl); (with_reducible apply Exists.intro); (with_reducible apply Exists.intro); (with_reducible apply And.intro); (· exact rfl); (with_reducible apply And.intro); (· exact rfl); (with_reducible apply And.intro))
  | ((with_reducible apply Exists.intro); (with_reducible apply And.intro); (· exact rfl))
  | fail)
local macro_rules | `(tactic| walk_at "gs") => `(tactic| repeat' (walk_at "st"))
local macro_rules | `(tactic| walk_at "go") => `(tactic| repeat' (first | (with_reducible refine sw_seq ?_) | walk_at "st"))
local macro_rules | `(tactic| walk_at "os") => `(tactic| repeat' (first
  | ((with_reducible apply sw_append); (· exact rfl))
  | ((with_reducible apply sw_ret_own); (· exact rfl))
  | ((with_reducible apply sw_catOwn); (· exact rfl))
  | ((with_reducible apply we_len_own); (· exact rfl))
  | ((with_reducible apply we_nin_own); (· exact rfl))
  | ((with_reducible apply we_ix_own); (· exact rfl))
  | ((with_reducible apply we_ne_own); (· exact rfl); (· with_reducible assumption))
  | ((with_reducible refine sw_own ?_ ?_); (· walk_at "sd"))
  | walk_at "st"))
local macro_rules | `(tactic| walk_at "og") => `(tactic| repeat' (first
  | (with_reducible refine sw_seq ?_)
  | ((with_reducible apply sw_append); (· exact rfl))
  | ((with_reducible apply sw_ret_own); (· exact rfl))
  | ((with_reducible apply sw_catOwn); (· exact rfl))
  | ((with_reducible apply we_len_own); (· exact rfl))
  | ((with_reducible apply we_nin_own); (· exact rfl))
  | ((with_reducible apply we_ix_own); (· exact rfl))
  | ((with_reducible apply we_ne_own); (· exact rfl); (· with_reducible assumption))
  | ((with_reducible refine sw_own ?_ ?_); (· walk_at "sd"))
  | walk_at "st"))

abbrev snamings : Stmt := topS 5
theorem scnamings : FnScope ["piece", "section", "row"] ["piece"] (defScope snamings) := ⟨rfl, rfl, rfl, by decide +kernel, rfl, by decide +kernel, by decide +kernel⟩

def fnamings : FS := fun ss g P => ∃ (a : PyData) (secs syms : List PyData), ss = [.d (.tuple [a, .tuple secs, .tuple syms])] ∧ AllD GSec secs ∧ secs.length ≤ 3000 ∧ P (.d (.list ((secs.flatMap secItems).filterMap rowOf))) g
theorem lennamings : ∀ ss g P, fnamings ss g P → ss.length = ["piece"].length := by
  rintro ss g P ⟨_, _, _, rfl, _⟩
  rfl

theorem oknamings {P : Program} {w : World} {K : PySem.W.Frag} {mg : Str → Option Value} {base : Heap} (S : Std K mg "namings" snamings ["piece"]) (Cnamed_by : Cal P w K mg base 1 "named_by" ["section"] fnamed_by) : Cal P w K mg base 2 "namings" ["piece"] fnamings := by
  obtain ⟨anamed_by, fdnamed_by, Gnamed_by, gnamed_by, knamed_by, bnamed_by⟩ := Cnamed_by
  refine cal_of S scnamings (by decide) (lennamings) fun a cdv A outer s H vs Q E hr => ?_
  have sc := scnamings
  let nm : List Str := ["piece", "section", "row"]
  let sco := defScope snamings
  refine ⟨_, (pss_one (ps_ret (pe_lc2 (own := [("section", 1), ("row", 2)]) (vs1 := [2]) (g := gName 1) (g1 := gName 2) (by rfl) sc.nd (pi_tup (pe_ix (r := rIx K) ix_seq (pv 0) pe_int (fun _ _ => rfl))) (blkOk_by (own := [("section", 1), ("row", 2)]) (N := nm) (sc := sco) (by decide +kernel)) (by decide) (fun _ _ _ _ _ => pg_name (i := 1) sc.nd rfl (Or.inl rfl)) (fun _ _ _ _ _ => pts_nil) (fun _ _ _ _ _ => (show PI _ _ _ (iList K _) from pi_list (pe_call Gnamed_by (hr.mono (by decide)) (by rfl) gnamed_by knamed_by bnamed_by .nil pass0 (pa_cons (pv 1) pa_nil)))) (fun _ _ _ _ _ => pg_name (i := 2) sc.nd rfl (Or.inl rfl)) (fun _ _ _ _ _ => pts_nil) (fun _ _ _ _ _ => (pv 2))))), ?_⟩
  clear sc nm sco
  try dsimp only [cxOf, Cx.nox, Cx.wish]

  rintro ss g P ⟨a, secs, syms, rfl, hsecs, hsl, q⟩
  show SW K _ _ [.d (.tuple [a, .tuple secs, .tuple syms]), .un, .un] g
  refine sw_ret (we_lc2 (is := [1]) (is1 := [2]) (by simp) (by simp) (by simp) (by simp) ?_)
  walk_at "os"
  refine ⟨fun k acc g' => g = g' ∧ acc = ((secs.take k).flatMap secItems).filterMap rowOf, ⟨rfl, rfl⟩, ?_, ?_⟩
  · rintro k acc _ hk ⟨rfl, rfl⟩ lg
    obtain ⟨a1, b1, c1, is, e1, hi, hil⟩ := hsecs _ (List.getElem_mem hk)
    rw [nth_get (d := .tuple [a1, b1, c1, .tuple is]) (by rw [List.getElem?_eq_getElem hk, e1])]
    have hk1 := items_len hsecs k
    have hk2 : (((secs.take k).flatMap secItems).filterMap rowOf).length ≤ 3000 * k := Nat.le_trans (List.length_filterMap_le _ _) hk1
    have hk3 : (is.filterMap rowOf).length ≤ 3000 := Nat.le_trans (List.length_filterMap_le _ _) hil
    walk_at "os"
    refine ⟨fun j es h => ?_, ?_⟩
    · rcases j with _ | _ | _ | j <;> cases h
    walk_at "os"
    refine ⟨a1, b1, c1, is, rfl, hi, hil, ?_⟩
    walk_at "os"
    refine ⟨lg, fun j acc1 g' => g = g' ∧ acc1 = ((secs.take k).flatMap secItems).filterMap rowOf ++ (is.filterMap rowOf).take j, ⟨rfl, (List.append_nil _).symm⟩, ?_, ?_⟩
    · rintro j acc1 _ hj ⟨rfl, rfl⟩ _
      refine ⟨?_, ?_⟩
      · rw [sizeLine_eq, List.length_append, List.length_take]
        omega
      walk_at "os"
      refine ⟨lg, rfl, ?_⟩
      rw [List.take_add_one, List.getElem?_eq_getElem hj, ← List.append_assoc]
      rw [List.getD_eq_getElem?_getD, List.getElem?_eq_getElem hj]
      rfl
    · rintro acc1 _ ⟨rfl, rfl⟩
      refine ⟨rfl, ?_⟩
      rw [List.take_length, items_step hk e1, List.filterMap_append]
  · rintro acc _ ⟨rfl, rfl⟩
    rw [List.take_length]
    exact q

end LK
set_option maxRecDepth 100000
set_option maxHeartbeats 8000000
set_option autoImplicit false
namespace LK
open PySem L2 PyProof.Rows PL
variable [TBs]
local macro_rules | `(tactic| walk_at "nm") => `(tactic| first
  | (with_reducible assumption)
  | exact few_txt (by decide +kernel))
local macro_rules | `(tactic| walk_at "cm") => `(tactic| (unfold CMul; first
  | (left; decide)
  | (right; decide)
  | (left; refine ⟨?_, ?_⟩ <;> omega)
  | (right; refine ⟨?_, ?_⟩ <;> omega)))
local macro_rules | `(tactic| walk_at "sd") => `(tactic| first
  | exact rfl
  | exact Nat.le_of_ble_eq_true rfl
  | (with_reducible assumption)
  | decide
  | omega
  | (simp only [List.length_cons, List.length_nil, List.length_append, List.length_set, List.length_replicate, List.length_map]; omega)
  | (refine ⟨?_, ?_⟩ <;> (first | decide | omega)))
local macro_rules | `(tactic| walk_at "sz") => `(tactic| first
  | decide
  | (rw [sizeLine_eq]; omega)
  | (rw [sizeLine_eq]; simp only [List.length_cons, List.length_nil, List.length_append, List.length_set, List.length_replicate, List.length_map]; omega)
  | (refine ⟨?_, ?_⟩ <;> (first | decide | omega)))
local macro_rules | `(tactic| walk_at "ai") => `(tactic| repeat' (first
  | (with_reducible assumption)
  | (with_reducible exact AllD.nil)
  | (with_reducible refine AllD.cons ?_ ?_)
  | (with_reducible refine AllD.app ?_ ?_)
  | exact gi_room
  | exact gi_none (by decide +kernel) (by decide +kernel)
  | exact gi_one (by decide +kernel) (by decide +kernel) (by walk_at "nm")
  | exact gi_two (by decide +kernel) (by decide +kernel) (by walk_at "nm")))
local macro_rules | `(tactic| walk_at "st") => `(tactic| first
  | (with_reducible refine L2.iteT ?_)
  | (with_reducible refine L2.iteF ?_)
  | (with_reducible refine sw_if ?_)
  | (with_reducible refine cell_scr ?_)
  | (with_reducible refine cell_lst ?_)
  | (with_reducible refine cell_rcd ?_)
  | (with_reducible refine cell_dic ?_)
  | (with_reducible refine sw_setR ?_)
  | (with_reducible refine sw_next ?_)
  | (with_reducible refine sw_retN ?_)
  | (with_reducible refine sw_ret ?_)
  | (with_reducible refine we_op ?_)
  | (with_reducible refine we_int ?_)
  | (with_reducible refine we_str ?_)
  | (with_reducible refine we_bl ?_)
  | (with_reducible refine we_non ?_)
  | (with_reducible refine wa_nil ?_)
  | (with_reducible refine wa_cons ?_)
  | (with_reducible refine we_tup ?_)
  | (with_reducible refine we_lst ?_)
  | (with_reducible refine we_call ?_)
  | (with_reducible refine we_cb ?_)
  | (with_reducible refine we_if ?_)
  | (with_reducible refine we_neg ?_)
  | (with_reducible refine wt_tst ?_)
  | (with_reducible refine wt_and ?_)
  | (with_reducible refine wt_or ?_)
  | (with_reducible refine wt_not ?_)
  | (with_reducible refine wt_yes ?_)
  | (with_reducible refine r2_plus_int ?_)
  | (with_reducible refine r2_sub ?_)
  | (with_reducible refine r2_lt ?_)
  | (with_reducible refine r2_le ?_)
  | (with_reducible refine r2_gt ?_)
  | (with_reducible refine r2_ge ?_)
  | (with_reducible refine r2_eq_int ?_)
  | (with_reducible refine r2_eq_str ?_)
  | (with_reducible refine r2_ne_int ?_)
  | (with_reducible refine r2_ne_str ?_)
  | (with_reducible refine rc_len_list ?_)
  | (with_reducible refine rc_len_tup ?_)
  | (with_reducible refine rc_len_scr ?_)
  | (with_reducible refine rc_min2 ?_)
  | (with_reducible refine rc_max2 ?_)
  | (with_reducible refine rc_int_bool ?_)
  | (with_reducible refine rc_abs ?_)
  | (with_reducible refine wgs_nil ?_)
  | (with_reducible refine use_number ?_)
  | (with_reducible refine we_andV ?_)
  | (with_reducible refine we_orV ?_)
  | (with_reducible refine we_notV ?_)
  | (with_reducible refine we_dget ?_)
  | (with_reducible refine r2_in_strs ?_)
  | (with_reducible refine r2_nin_strs ?_)
  | (with_reducible refine we_index ?_)
  | ((with_reducible apply wg_name); (· walk_at "sd"))
  | ((with_reducible apply wg_tup); (· exact rfl))
  | ((with_reducible apply we_vd); (· exact rfl))
  | ((with_reducible apply we_vt); (· exact rfl))
  | ((with_reducible apply we_vs); (· exact rfl))
  | ((with_reducible apply r2_ix_rcd); (· exact rfl))
  | ((with_reducible apply r2_ix_tpl); (· exact rfl))
  | ((with_reducible apply r2_ix_list); (· exact rfl))
  | ((with_reducible apply r2_ix_tup); (· exact rfl))
  | ((with_reducible refine sw_asg ?_ ?_); (· walk_at "sd"))
  | ((with_reducible refine use_next ?_ ?_); (· walk_at "sd"))
  | ((with_reducible refine sl_w_str ?_ ?_); (· walk_at "sz"))
  | ((with_reducible refine r2_times_int ?_ ?_); (· walk_at "cm"))
  | ((with_reducible refine r2_mod ?_ ?_); (· walk_at "sd"))
  | ((with_reducible refine r2_fdiv ?_ ?_); (· walk_at "sd"))
  | ((with_reducible refine r2_pow ?_ ?_); (· exact ⟨by decide, by decide, by decide⟩))
  | ((with_reducible refine r2_plus_str ?_ ?_); (· walk_at "sd"))
  | ((with_reducible refine r2_plus_list ?_ ?_); (· walk_at "sd"))
  | ((with_reducible refine r2_plus_tup ?_ ?_); (· walk_at "sd"))
  | ((with_reducible refine rc_str_int ?_ ?_); (· walk_at "sd"))
  | ((with_reducible refine rc_len_str ?_ ?_); (· walk_at "sd"))
  | (with_reducible apply sw_asgG)
  | (with_reducible apply wgs_cons)
  | (with_reducible refine we_slice ?_)
  | (with_reducible refine wo_none ?_)
  | (with_reducible refine wo_some ?_)
  | (with_reducible refine sl_w_list ?_)
  | (with_reducible refine sl_w_tup ?_)
  | (with_reducible refine rc_tuple_list ?_)
  | (with_reducible refine wi_range1 ?_)
  | (with_reducible refine wi_range2 ?_)
  | (with_reducible refine wi_list ?_)
  | (with_reducible refine wi_tup ?_)
  | ((with_reducible apply Exists.intro); (with_reducible apply And.intro); (· exact rfl); (with_reducible apply And.intro); (· walk_at "sz"))
  | ((with_reducible apply Exists.intro); (with_reducible apply Exists.intro); (with_reducible apply And.intro); (· exact rfl); (with_reducible apply And.intro); (· exact rfl); (with_reducible apply Exists.intro); (with_reducible apply Exists.intro); (with_reducible apply And.intro); (· exact rfl); (with_reducible apply And.intro); (· exact rfl); (with_reducible apply And.intro))
  | ((with_reducible apply Exists.intro); (with_reducible apply And.intro); (· exact rfl))
  | fail)
local macro_rules | `(tactic| walk_at "gs") => `(tactic| repeat' (walk_at "st"))
local macro_rules | `(tactic| walk_at "go") => `(tactic| repeat' (first | (with_reducible refine sw_seq ?_) | walk_at "st"))
local macro_rules | `(tactic| walk_at "os") => `(tactic| repeat' (first
  | ((with_reducible apply sw_append); (· exact rfl))
  | ((with_reducible apply sw_ret_own); (· exact rfl))
  | ((with_reducible apply sw_catOwn); (· exact rfl))
  | ((with_reducible apply we_len_own); (· exact rfl))
  | ((with_reducible apply we_nin_own); (· exact rfl))
  | ((with_reducible apply we_ix_own); (· exact rfl))
  | ((with_reducible apply we_ne_own); (· exact rfl); (· with_reducible assumption))
  | ((with_reducible refine sw_own ?_ ?_); (· walk_at "sd"))
  | walk_at "st"))
local macro_rules | `(tactic| walk_at "og") => `(tactic| repeat' (first
  | (with_reducible refine sw_seq ?_)
  | ((with_reducible apply sw_append); (· exact rfl))
  | ((with_reducible apply sw_ret_own); (· exact rfl))
  | ((with_reducible apply sw_catOwn); (· exact rfl))
  | ((with_reducible apply we_len_own); (· exact rfl))
  | ((with_reducible apply we_nin_own); (· exact rfl))
  | ((with_reducible apply we_ix_own); (· exact rfl))
  | ((with_reducible apply we_ne_own); (· exact rfl); (· with_reducible assumption))
  | ((with_reducible refine sw_own ?_ ?_); (· walk_at "sd"))
  | walk_at "st"))

abbrev sasked : Stmt := topS 6
theorem scasked : FnScope ["piece", "names", "_", "name", "binding"] ["piece"] (defScope sasked) := ⟨rfl, rfl, rfl, by decide +kernel, rfl, by decide +kernel, by decide +kernel⟩

def fasked : FSO := fun ss g PO => ∃ (a : PyData) (secs syms : List PyData), ss = [.d (.tuple [a, .tuple secs, .tuple syms])] ∧ AllD GSec secs ∧ secs.length ≤ 3000 ∧ AllD IsSym syms ∧ syms.length ≤ 30000 ∧ PO ((askedOf secs syms).map .str) g
theorem lenasked : ∀ ss g PO, fasked ss g PO → ss.length = ["piece"].length := by
  rintro ss g PO ⟨_, _, _, rfl, _⟩
  rfl

theorem okasked {P : Program} {w : World} {K : PySem.W.Frag} {mg : Str → Option Value} {base : Heap} (S : Std K mg "asked" sasked ["piece"]) (Cnamings : Cal P w K mg base 2 "namings" ["piece"] fnamings) (z_set : mg "set" = none) (z_sorted : mg "sorted" = none) : CalO P w K mg base 3 "asked" ["piece"] fasked := by
  obtain ⟨anamings, fdnamings, Gnamings, gnamings, knamings, bnamings⟩ := Cnamings
  refine calO_of S scasked (by decide) (lenasked) fun a cdv A outer s H vs Q E hr => ?_
  have sc := scasked
  let nm : List Str := ["piece", "names", "_", "name", "binding"]
  let sco := defScope sasked
  refine ⟨_, (pss_cons (ps_set (i := 1) sc.nd rfl (Or.inl rfl) (pe_callTy (TX.cr_setT rfl) (by rfl) z_set (by decide +kernel) (pa_cons (pe_lc (own := [("_", 2), ("name", 3)]) (g := (gTup K 2 (gCons (gName 2) (gCons (gName 3) gNil)))) (by rfl) sc.nd (pi_list (pe_call Gnamings (hr.mono (by decide)) (by rfl) gnamings knamings bnamings .nil pass0 (pa_cons (pv 0) pa_nil))) (blkOk_by (own := [("_", 2), ("name", 3)]) (N := nm) (sc := sco) (by decide +kernel)) (fun _ _ _ _ _ => (show PG _ _ (gTup K 2 _) from pg_tup (by rfl) (pgs_cons (pg_name (i := 2) sc.nd rfl (Or.inl rfl)) (pgs_cons (pg_name (i := 3) sc.nd rfl (Or.inl rfl)) pgs_nil)))) (fun _ _ _ _ _ => pts_nil) (fun _ _ _ _ _ => (pv 3))) pa_nil)))
 (pss_cons (ps_for PassesOwn.never rfl (pi_tup (pe_ix (r := rIx K) ix_seq (pv 0) pe_int (fun _ _ => rfl))) (show PG _ _ (gTup K 3 _) from pg_tup (by rfl) (pgs_cons (pg_name (i := 3) sc.nd rfl (Or.inl rfl)) (pgs_cons (pg_name (i := 4) sc.nd rfl (Or.inl rfl)) (pgs_cons (pg_name (i := 2) sc.nd rfl (Or.inl rfl)) pgs_nil))))
 (pss_one (ps_if (pt_cmpR (r := rEqu K) (op_equ (room64 hr)) (pv 4) pe_str (nomark _))
 (pss_one (ps_expr (TX.pe_discard (pv 1) (pa_cons (pv 3) pa_nil))))
 pss_nil)))
 (pss_one (ps_ret (pe_callB (r := rSrtA K w) (cr_srtA rfl (hu4 hr)) (by rfl) z_sorted (by decide +kernel) (pa_cons (pv 1) pa_nil)))))), ?_⟩
  clear sc nm sco
  try dsimp only [cxOf, Cx.nox, Cx.wish]

  rintro ss g PO ⟨a, secs, syms, rfl, hsecs, hsl, hsy, hsyl, q⟩
  show SWO K _ _ [.d (.tuple [a, .tuple secs, .tuple syms]), .un, .un, .un, .un] g
  have hall := items_all hsecs
  have hlen : (secs.flatMap secItems).length ≤ 3000 * 3000 := by
    have := items_len hsecs secs.length
    rw [List.take_length] at this
    exact Nat.le_trans this (by omega)
  have hrl : ((secs.flatMap secItems).filterMap rowOf).length ≤ 3000 * 3000 := Nat.le_trans (List.length_filterMap_le _ _) hlen
  refine swo_seq ?_
  refine sw_setOf (by show 1 < 5; decide) ?_
  walk_at "os"
  refine we_lc (is := [2] ++ ([3] ++ [])) (by simp) (by simp) ?_
  walk_at "os"
  refine ⟨a, secs, syms, rfl, hsecs, hsl, ?_⟩
  walk_at "os"
  refine ⟨fun k acc g' => g = g' ∧ acc = (((secs.flatMap secItems).filterMap rowOf).take k).map fun r => PyData.str (sndOf r), ⟨rfl, rfl⟩, ?_, ?_⟩
  · rintro k acc _ hk la ⟨rfl, rfl⟩ _
    obtain ⟨d, x, e⟩ := row_shape (List.getElem_mem hk)
    rw [nth_get (d := .tuple [d, .str x]) (by rw [List.getElem?_eq_getElem hk, e])]
    walk_at "os"
    refine ⟨Gh.le_refl _, rfl, ?_⟩
    rw [List.take_add_one, List.getElem?_eq_getElem hk, List.map_append, e]
    rfl
  rintro acc _ la ⟨rfl, rfl⟩
  rw [List.take_length]
  refine ⟨(secs.flatMap secItems).filterMap nameOf, ?_, few_names hall, ?_⟩
  · rw [← rows_names, List.map_map]
    rfl
  show SWO K _ _ [.d (.tuple [a, .tuple secs, .tuple syms]), .ob _, .un, .un, .un] g
  refine swo_seq ?_
  refine sw_for (is := [3] ++ ([4] ++ ([2] ++ []))) ?_
  walk_at "os"
  refine ⟨fun k ρ g' => g = g' ∧ ∃ s2 s3 s4, ρ = [.d (.tuple [a, .tuple secs, .tuple syms]), .ob fun a => TX.TO w a (((syms.take k).filterMap localOf).foldl (fun T x => T.erase x) (TX.met ((secs.flatMap secItems).filterMap nameOf))), s2, s3, s4], ?_, ?_, ?_⟩
  · exact ⟨rfl, _, _, _, rfl⟩
  · rintro k _ _ hk ⟨rfl, s2, s3, s4, rfl⟩
    obtain ⟨x, b, v, e, hx⟩ := hsy _ (List.getElem_mem hk)
    rw [nth_get (d := .tuple [.str x, .str b, v]) (by rw [List.getElem?_eq_getElem hk, e])]
    have hstep : (syms.take (k + 1)).filterMap localOf = (syms.take k).filterMap localOf ++ (if b = "local" then [x] else []) := by
      rw [List.take_add_one, List.getElem?_eq_getElem hk, List.filterMap_append, e]
      congr 1
      show List.filterMap localOf [.tuple [.str x, .str b, v]] = _
      rw [List.filterMap_cons, local_eq]
      by_cases hb : b = "local"
      · rw [if_pos hb, if_pos hb]
        rfl
      · rw [if_neg hb, if_neg hb]
        rfl
    walk_at "os"
    refine ifd (fun h => ?_) fun h => ?_
    · rw [if_pos h] at hstep
      refine sw_discard rfl ?_ ?_
      · intro j q hj e
        rcases j with _ | _ | _ | _ | _ | j
        · cases e
        · exact hj rfl
        · cases e
        · cases e
        · cases e
        · cases e
      walk_at "os"
      refine ⟨rfl, .d v, .d (.str x), .d (.str b), ?_⟩
      rw [hstep, List.foldl_append]
      rfl
    · rw [if_neg h, List.append_nil] at hstep
      walk_at "os"
      refine ⟨rfl, .d v, .d (.str x), .d (.str b), ?_⟩
      rw [hstep]
      rfl
  · rintro _ _ ⟨rfl, s2, s3, s4, rfl⟩
    rw [List.take_length]
    refine swo_ret_srtO rfl ?_
    exact q

end LK
set_option maxRecDepth 100000
set_option maxHeartbeats 8000000
set_option autoImplicit false
namespace LK
open PySem L2 PyProof.Rows PL
variable [TBs]
local macro_rules | `(tactic| walk_at "nm") => `(tactic| first
  | (with_reducible assumption)
  | exact few_txt (by decide +kernel))
local macro_rules | `(tactic| walk_at "cm") => `(tactic| (unfold CMul; first
  | (left; decide)
  | (right; decide)
  | (left; refine ⟨?_, ?_⟩ <;> omega)
  | (right; refine ⟨?_, ?_⟩ <;> omega)))
local macro_rules | `(tactic| walk_at "sd") => `(tactic| first
  | exact rfl
  | exact Nat.le_of_ble_eq_true rfl
  | (with_reducible assumption)
  | decide
  | omega
  | (simp only [List.length_cons, List.length_nil, List.length_append, List.length_set, List.length_replicate, List.length_map]; omega)
  | (refine ⟨?_, ?_⟩ <;> (first | decide | omega)))
local macro_rules | `(tactic| walk_at "sz") => `(tactic| first
  | decide
  | (rw [sizeLine_eq]; omega)
  | (rw [sizeLine_eq]; simp only [List.length_cons, List.length_nil, List.length_append, List.length_set, List.length_replicate, List.length_map]; omega)
  | (refine ⟨?_, ?_⟩ <;> (first | decide | omega)))
local macro_rules | `(tactic| walk_at "ai") => `(tactic| repeat' (first
  | (with_reducible assumption)
  | (with_reducible exact AllD.nil)
  | (with_reducible refine AllD.cons ?_ ?_)
  | (with_reducible refine AllD.app ?_ ?_)
  | exact gi_room
  | exact gi_none (by decide +kernel) (by decide +kernel)
  | exact gi_one (by decide +kernel) (by decide +kernel) (by walk_at "nm")
  | exact gi_two (by decide +kernel) (by decide +kernel) (by walk_at "nm")))
local macro_rules | `(tactic| walk_at "st") => `(tactic| first
  | (with_reducible refine L2.iteT ?_)
  | (with_reducible refine L2.iteF ?_)
  | (with_reducible refine sw_if ?_)
  | (with_reducible refine cell_scr ?_)
  | (with_reducible refine cell_lst ?_)
  | (with_reducible refine cell_rcd ?_)
  | (with_reducible refine cell_dic ?_)
  | (with_reducible refine sw_setR ?_)
  | (with_reducible refine sw_next ?_)
  | (with_reducible refine sw_retN ?_)
  | (with_reducible refine sw_ret ?_)
  | (with_reducible refine we_op ?_)
  | (with_reducible refine we_int ?_)
  | (with_reducible refine we_str ?_)
  | (with_reducible refine we_bl ?_)
  | (with_reducible refine we_non ?_)
  | (with_reducible refine wa_nil ?_)
  | (with_reducible refine wa_cons ?_)
  | (with_reducible refine we_tup ?_)
  | (with_reducible refine we_lst ?_)
  | (with_reducible refine we_call ?_)
  | (with_reducible refine we_cb ?_)
  | (with_reducible refine we_if ?_)
  | (with_reducible refine we_neg ?_)
  | (with_reducible refine wt_tst ?_)
  | (with_reducible refine wt_and ?_)
  | (with_reducible refine wt_or ?_)
  | (with_reducible refine wt_not ?_)
  | (with_reducible refine wt_yes ?_)
  | (with_reducible refine r2_plus_int ?_)
  | (with_reducible refine r2_sub ?_)
  | (with_reducible refine r2_lt ?_)
  | (with_reducible refine r2_le ?_)
  | (with_reducible refine r2_gt ?_)
  | (with_reducible refine r2_ge ?_)
  | (with_reducible refine r2_eq_int ?_)
  | (with_reducible refine r2_eq_str ?_)
  | (with_reducible refine r2_ne_int ?_)
  | (with_reducible refine r2_ne_str ?_)
  | (with_reducible refine rc_len_list ?_)
  | (with_reducible refine rc_len_tup ?_)
  | (with_reducible refine rc_len_scr ?_)
  | (with_reducible refine rc_min2 ?_)
  | (with_reducible refine rc_max2 ?_)
  | (with_reducible refine rc_int_bool ?_)
  | (with_reducible refine rc_abs ?_)
  | (with_reducible refine wgs_nil ?_)
  | (with_reducible refine use_number ?_)
  | (with_reducible refine we_andV ?_)
  | (with_reducible refine we_orV ?_)
  | (with_reducible refine we_notV ?_)
  | (with_reducible refine we_dget ?_)
  | (with_reducible refine r2_in_strs ?_)
  | (with_reducible refine r2_nin_strs ?_)
  | (with_reducible refine we_index ?_)
  | ((with_reducible apply wg_name); (· walk_at "sd"))
  | ((with_reducible apply wg_tup); (· exact rfl))
  | ((with_reducible apply we_vd); (· exact rfl))
  | ((with_reducible apply we_vt); (· exact rfl))
  | ((with_reducible apply we_vs); (· exact rfl))
  | ((with_reducible apply r2_ix_rcd); (· exact rfl))
  | ((with_reducible apply r2_ix_tpl); (· exact rfl))
  | ((with_reducible apply r2_ix_list); (· exact rfl))
  | ((with_reducible apply r2_ix_tup); (· exact rfl))
  | ((with_reducible refine sw_asg ?_ ?_); (· walk_at "sd"))
  | ((with_reducible refine use_next ?_ ?_); (· walk_at "sd"))
  | ((with_reducible refine sl_w_str ?_ ?_); (· walk_at "sz"))
  | ((with_reducible refine r2_times_int ?_ ?_); (· walk_at "cm"))
  | ((with_reducible refine r2_mod ?_ ?_); (· walk_at "sd"))
  | ((with_reducible refine r2_fdiv ?_ ?_); (· walk_at "sd"))
  | ((with_reducible refine r2_pow ?_ ?_); (· exact ⟨by decide, by decide, by decide⟩))
  | ((with_reducible refine r2_plus_str ?_ ?_); (· walk_at "sd"))
  | ((with_reducible refine r2_plus_list ?_ ?_); (· walk_at "sd"))
  | ((with_reducible refine r2_plus_tup ?_ ?_); (· walk_at "sd"))
  | ((with_reducible refine rc_str_int ?_ ?_); (· walk_at "sd"))
  | ((with_reducible refine rc_len_str ?_ ?_); (· walk_at "sd"))
  | (with_reducible apply sw_asgG)
  | (with_reducible apply wgs_cons)
  | (with_reducible refine we_slice ?_)
  | (with_reducible refine wo_none ?_)
  | (with_reducible refine wo_some ?_)
  | (with_reducible refine sl_w_list ?_)
  | (with_reducible refine sl_w_tup ?_)
  | (with_reducible refine rc_tuple_list ?_)
  | (with_reducible refine wi_range1 ?_)
  | (with_reducible refine wi_range2 ?_)
  | (with_reducible refine wi_list ?_)
  | (with_reducible refine wi_tup ?_)
  | ((with_reducible apply Exists.intro); (with_reducible apply And.intro); (· exact rfl); (with_reducible apply And.intro); (· walk_at "sz"))
  | ((with_reducible apply Exists.intro); (with_reducible apply Exists.intro); (with_reducible apply And.intro); (· exact rfl); (with_reducible apply And.intro); (· exact rfl); (with_reducible apply Exists.intro); (with_reducible apply Exists.intro); (with_reducible apply And.intro); (· exact rfl); (with_reducible apply And.intro); (· exact rfl); (with_reducible apply And.intro))
  | ((with_reducible apply Exists.intro); (with_reducible apply And.intro); (· exact rfl))
  | fail)
local macro_rules | `(tactic| walk_at "gs") => `(tactic| repeat' (walk_at "st"))
local macro_rules | `(tactic| walk_at "go") => `(tactic| repeat' (first | (with_reducible refine sw_seq ?_) | walk_at "st"))
local macro_rules | `(tactic| walk_at "os") => `(tactic| repeat' (first
  | ((with_reducible apply sw_append); (· exact rfl))
  | ((with_reducible apply sw_ret_own); (· exact rfl))
  | ((with_reducible apply sw_catOwn); (· exact rfl))
  | ((with_reducible apply we_len_own); (· exact rfl))
  | ((with_reducible apply we_nin_own); (· exact rfl))
  | ((with_reducible apply we_ix_own); (· exact rfl))
  | ((with_reducible apply we_ne_own); (· exact rfl); (· with_reducible assumption))
  | ((with_reducible refine sw_own ?_ ?_); (· walk_at "sd"))
  | walk_at "st"))
local macro_rules | `(tactic| walk_at "og") => `(tactic| repeat' (first
  | (with_reducible refine sw_seq ?_)
  | ((with_reducible apply sw_append); (· exact rfl))
  | ((with_reducible apply sw_ret_own); (· exact rfl))
  | ((with_reducible apply sw_catOwn); (· exact rfl))
  | ((with_reducible apply we_len_own); (· exact rfl))
  | ((with_reducible apply we_nin_own); (· exact rfl))
  | ((with_reducible apply we_ix_own); (· exact rfl))
  | ((with_reducible apply we_ne_own); (· exact rfl); (· with_reducible assumption))
  | ((with_reducible refine sw_own ?_ ?_); (· walk_at "sd"))
  | walk_at "st"))

abbrev s_law_asked_here : Stmt := topS 24
theorem sc_law_asked_here : FnScope ["_law_piece", "_law_own", "_law_one", "_law_found", "_law_section", "_law_item", "_law_at"] ["_law_piece"] (defScope s_law_asked_here) := ⟨rfl, rfl, rfl, by decide +kernel, rfl, by decide +kernel, by decide +kernel⟩

def f_law_asked_here : FS := fun ss g P => ∃ (a : PyData) (secs syms : List PyData), ss = [.d (.tuple [a, .tuple secs, .tuple syms])] ∧ AllD GSec secs ∧ secs.length ≤ 3000 ∧ AllD IsSym syms ∧ syms.length ≤ 30000 ∧ P (.d (.list ((askedOf secs syms).map .str))) g
theorem len_law_asked_here : ∀ ss g P, f_law_asked_here ss g P → ss.length = ["_law_piece"].length := by
  rintro ss g P ⟨_, _, _, rfl, _⟩
  rfl

theorem ok_law_asked_here {P : Program} {w : World} {K : PySem.W.Frag} {mg : Str → Option Value} {base : Heap} (S : Std K mg "_law_asked_here" s_law_asked_here ["_law_piece"]) (z_sorted : mg "sorted" = none) : Cal P w K mg base 1 "_law_asked_here" ["_law_piece"] f_law_asked_here := by
  refine cal_of S sc_law_asked_here (by decide) (len_law_asked_here) fun a cdv A outer s H vs Q E hr => ?_
  have sc := sc_law_asked_here
  let nm : List Str := ["_law_piece", "_law_own", "_law_one", "_law_found", "_law_section", "_law_item", "_law_at"]
  let sco := defScope s_law_asked_here
  refine ⟨_, (pss_cons (ps_setLc (i := 1) (own := [("_law_one", 2)]) (g := (gName 2)) (by rfl) sc.nd rfl rfl (sw_true rfl rfl rfl (by decide +kernel)) (pi_tup (pe_ix (r := rIx K) ix_seq (pv 0) pe_int (fun _ _ => rfl))) (blkOk_by (own := [("_law_one", 2)]) (N := nm) (sc := sco) (by decide +kernel)) (fun _ _ _ _ _ => pg_name (i := 2) sc.nd rfl (Or.inl rfl)) (fun _ _ _ _ _ => pts_one (pt_cmpR (r := rEqu K) (op_equ (room64 hr)) (pe_ix (r := rIx K) ix_seq (pv 2) pe_int (fun _ _ => rfl)) pe_str (nomark _))) (fun _ _ _ _ _ => (pe_ix (r := rIx K) ix_seq (pv 2) pe_int (fun _ _ => rfl))))
 (pss_cons (ps_set (i := 3) sc.nd rfl (Or.inl rfl) (pe_lst pa_nil))
 (pss_cons (ps_for PassesOwn.never rfl (pi_tup (pe_ix (r := rIx K) ix_seq (pv 0) pe_int (fun _ _ => rfl))) (pg_name (i := 4) sc.nd rfl (Or.inl rfl))
 (pss_one (ps_for PassesOwn.never rfl (pi_tup (pe_ix (r := rIx K) ix_seq (pv 4) pe_int (fun _ _ => rfl))) (pg_name (i := 5) sc.nd rfl (Or.inl rfl))
 (pss_cons (ps_set (i := 6) sc.nd rfl (Or.inl rfl) (pe_dget2 (hu_of hr) (pe_disp (pps_cons pe_str pe_int (pps_cons pe_str pe_int (pps_cons pe_str pe_int (pps_cons pe_str pe_int (pps_cons pe_str pe_int pps_nil))))) (by rfl) (by rfl) (fun z => by cases z) (by decide)) (pe_ix (r := rIx K) ix_seq (pv 5) pe_int (fun _ _ => rfl)) pe_int ⟨by rfl, by rfl, by rfl, by rfl⟩))
 (pss_one (ps_if (PW.pt (pw_and (pt_cmpR op_gt (pv 6) pe_int (nomark _)) (pw_and (pt_cmpR (r := rNin K) (op_nin (room65 hr)) (pe_ix (r := rIx K) ix_seq (pv 5) (pv 6) (fun _ _ => rfl)) (pv 1) (by rfl)) (pw_and1 (pt_cmpR (r := rNin K) (op_nin (room65 hr)) (pe_ix (r := rIx K) ix_seq (pv 5) (pv 6) (fun _ _ => rfl)) (pv 3) (by rfl))))))
 (pss_one (ps_expr (pe_bm PySem.F.plainAttrs_list PySem.F.slot_list_append PySem.F.type_list_append mt_append (pv 3) (pa_cons (pe_ix (r := rIx K) ix_seq (pv 5) (pv 6) (fun _ _ => rfl)) pa_nil))))
 pss_nil))))))
 (pss_one (ps_ret (pe_callB (r := rSrtA K w) (cr_srtA rfl (hu4 hr)) (by rfl) z_sorted (by decide +kernel) (pa_cons (pv 3) pa_nil))))))), ?_⟩
  clear sc nm sco
  try dsimp only [cxOf, Cx.nox, Cx.wish]

  rintro ss g P ⟨a, secs, syms, rfl, hsecs, hsl, hsy, hsyl, q⟩
  show SW K _ _ [.d (.tuple [a, .tuple secs, .tuple syms]), .un, .un, .un, .un, .un, .un] g
  have hall := items_all hsecs
  refine sw_seq ?_
  walk_at "os"
  refine we_lc (is := [2]) (by simp) (by simp) ?_
  walk_at "os"
  refine ⟨fun k acc g' => g = g' ∧ acc = ((syms.take k).filterMap localOf).map PyData.str, ⟨rfl, rfl⟩, ?_, ?_⟩
  · rintro k acc _ hk la ⟨rfl, rfl⟩ _
    obtain ⟨x, b, v, e, hx⟩ := hsy _ (List.getElem_mem hk)
    rw [nth_get (d := .tuple [.str x, .str b, v]) (by rw [List.getElem?_eq_getElem hk, e])]
    have hstep : (syms.take (k + 1)).filterMap localOf = (syms.take k).filterMap localOf ++ (if b = "local" then [x] else []) := by
      rw [List.take_add_one, List.getElem?_eq_getElem hk, List.filterMap_append, e]
      congr 1
      show List.filterMap localOf [.tuple [.str x, .str b, v]] = _
      rw [List.filterMap_cons, local_eq]
      by_cases hb : b = "local"
      · rw [if_pos hb, if_pos hb]
        rfl
      · rw [if_neg hb, if_neg hb]
        rfl
    walk_at "os"
    refine ifd (fun h => ?_) fun h => ?_
    · rw [if_pos h] at hstep
      walk_at "os"
      refine ⟨Gh.le_refl _, rfl, ?_⟩
      rw [hstep, List.map_append]
      rfl
    · rw [if_neg h, List.append_nil] at hstep
      refine ⟨Gh.le_refl _, rfl, ?_⟩
      rw [hstep]
  rintro acc _ la ⟨rfl, rfl⟩
  rw [List.take_length]
  walk_at "os"
  refine sw_seq ?_
  refine sw_own (by show 3 < 7; decide) ?_
  walk_at "os"
  refine sw_seq ?_
  refine sw_for (is := [4]) ?_
  walk_at "os"
  refine ⟨fun k ρ g' => g = g' ∧ ∃ s2 s4 s5 s6, ρ = [.d (.tuple [a, .tuple secs, .tuple syms]), .d (.list ((syms.filterMap localOf).map .str)), s2, .own ((foundOf (syms.filterMap localOf) (((secs.take k).flatMap secItems).filterMap nameOf)).map .str), s4, s5, s6], ?_, ?_, ?_⟩
  · exact ⟨rfl, _, _, _, _, rfl⟩
  · rintro k _ _ hk ⟨rfl, s2, s4, s5, s6, rfl⟩
    obtain ⟨a1, b1, c1, is, e1, hi, hil⟩ := hsecs _ (List.getElem_mem hk)
    rw [nth_get (d := .tuple [a1, b1, c1, .tuple is]) (by rw [List.getElem?_eq_getElem hk, e1])]
    have hk1 := items_len hsecs k
    walk_at "os"
    refine sw_for (is := [5]) ?_
    walk_at "os"
    refine ⟨fun m ρ g' => g = g' ∧ ∃ s5 s6, ρ = [.d (.tuple [a, .tuple secs, .tuple syms]), .d (.list ((syms.filterMap localOf).map .str)), s2, .own ((foundOf (syms.filterMap localOf) ((((secs.take k).flatMap secItems) ++ is.take m).filterMap nameOf)).map .str), .d (.tuple [a1, b1, c1, .tuple is]), s5, s6], ?_, ?_, ?_⟩
    · refine ⟨rfl, s5, s6, ?_⟩
      rw [List.take_zero, List.append_nil]
      rfl
    · rintro m _ _ hm ⟨rfl, s5, s6, rfl⟩
      obtain ⟨w1, r, e2, hp, _⟩ := hi _ (List.getElem_mem hm)
      rw [nth_get (d := .tuple (.str w1 :: r)) (by rw [List.getElem?_eq_getElem hm, e2])]
      have hl2 : ((foundOf (syms.filterMap localOf) ((((secs.take k).flatMap secItems) ++ is.take m).filterMap nameOf)).map PyData.str).length ≤ 3000 * k + m := by
        rw [List.length_map]
        refine Nat.le_trans (found_len _ _) (Nat.le_trans (List.length_filterMap_le _ _) ?_)
        rw [List.length_append, List.length_take]
        omega
      have hok : ∀ x, x ∈ foundOf (syms.filterMap localOf) ((((secs.take k).flatMap secItems) ++ is.take m).filterMap nameOf) → PyData.strOk x = true := fun x hx => by
        have h1 := ((fnd_spec _ [] List.nodup_nil fun y hy => absurd hy List.not_mem_nil).2.2 x).mp hx
        rcases h1 with h1 | ⟨h1, _⟩
        · cases h1
        · refine (names_ok ?_ h1).k
          intro d hd
          rcases List.mem_append.mp hd with z | z
          · exact hall d (by
              obtain ⟨u, u1, u2⟩ := List.mem_flatMap.mp z
              exact List.mem_flatMap.mpr ⟨u, List.mem_of_mem_take u1, u2⟩)
          · exact hi d (List.mem_of_mem_take z)
      have hstep : ((((secs.take k).flatMap secItems) ++ is.take (m + 1)).filterMap nameOf) = ((((secs.take k).flatMap secItems) ++ is.take m).filterMap nameOf) ++ (nameOf (.tuple (.str w1 :: r))).toList := by
        rw [List.take_add_one, List.getElem?_eq_getElem hm, e2, ← List.append_assoc, List.filterMap_append]
        congr 1
      walk_at "os"
      refine sw_seq ?_
      walk_at "os"
      refine we_dispGet2 (prs := partL) (by decide) ?_
      walk_at "os"
      refine r2_ix_tup atI_zero ?_
      walk_at "os"
      rw [part_last]
      cases hn : npart w1 with
      | none =>
        rw [name_none hn] at hstep
        rw [if_neg (by simp)]
        walk_at "os"
        refine ⟨rfl, .d (.tuple (.str w1 :: r)), .d (.int 0), ?_⟩
        rw [hstep]
        show _ = [_, _, _, Sl.own ((foundOf _ (_ ++ [])).map .str), _, _, _]
        rw [List.append_nil]
        rfl
      | some j =>
        obtain ⟨x, hx, hxn⟩ := hp j hn
        have hj := npart_pos hn
        rw [name_some hn hx] at hstep
        have hst2 : foundOf (syms.filterMap localOf) ((((secs.take k).flatMap secItems) ++ is.take (m + 1)).filterMap nameOf) = fnd (syms.filterMap localOf) (foundOf (syms.filterMap localOf) ((((secs.take k).flatMap secItems) ++ is.take m).filterMap nameOf)) x := by
          rw [hstep]
          exact found_snoc _ _ _
        show if decide ((0 : Int) < ((j : Nat) : Int)) = true then _ else _
        rw [if_pos (by simp; omega)]
        walk_at "os"
        refine r2_ix_tup (atI_nat hx) ?_
        walk_at "os"
        refine ifn (fun h1 => ?_) fun h1 => ?_
        · walk_at "os"
          refine r2_ix_tup (atI_nat hx) ?_
          refine ⟨_, rfl, by
            simp [SeqAt.shaped, PyData.canLay0, PyData.depth, hxn.k], shaped_strs hok, ?_⟩
          rw [any_strs]
          walk_at "os"
          refine ifn (fun h2 => ?_) fun h2 => ?_
          · have hst3 : fnd (syms.filterMap localOf) (foundOf (syms.filterMap localOf) ((((secs.take k).flatMap secItems) ++ is.take m).filterMap nameOf)) x = foundOf (syms.filterMap localOf) ((((secs.take k).flatMap secItems) ++ is.take m).filterMap nameOf) ++ [x] := if_neg fun z => z.elim h1 h2
            walk_at "os"
            · rw [sizeLine_eq]; omega
            refine r2_ix_tup (atI_nat hx) ?_
            walk_at "os"
            refine ⟨rfl, .d (.tuple (.str w1 :: r)), .d (.int j), ?_⟩
            rw [hst2, hst3, List.map_append]
            rfl
          · have hst3 : fnd (syms.filterMap localOf) (foundOf (syms.filterMap localOf) ((((secs.take k).flatMap secItems) ++ is.take m).filterMap nameOf)) x = foundOf (syms.filterMap localOf) ((((secs.take k).flatMap secItems) ++ is.take m).filterMap nameOf) := if_pos (.inr h2)
            walk_at "os"
            refine ⟨rfl, .d (.tuple (.str w1 :: r)), .d (.int j), ?_⟩
            rw [hst2, hst3]
            rfl
        · have hst3 : fnd (syms.filterMap localOf) (foundOf (syms.filterMap localOf) ((((secs.take k).flatMap secItems) ++ is.take m).filterMap nameOf)) x = foundOf (syms.filterMap localOf) ((((secs.take k).flatMap secItems) ++ is.take m).filterMap nameOf) := if_pos (.inl h1)
          walk_at "os"
          refine ⟨rfl, .d (.tuple (.str w1 :: r)), .d (.int j), ?_⟩
          rw [hst2, hst3]
          rfl
    · rintro _ _ ⟨rfl, s5, s6, rfl⟩
      refine ⟨rfl, s2, .d (.tuple [a1, b1, c1, .tuple is]), s5, s6, ?_⟩
      rw [List.take_length, items_step hk e1]
  · rintro _ _ ⟨rfl, s2, s4, s5, s6, rfl⟩
    rw [List.take_length]
    show SW K _ _ [_, _, _, _, _, _, _] g
    refine sw_freeze 3 rfl ?_
    walk_at "os"
    refine rc_srtL ?_
    rw [found_perm]
    exact q

end LK
set_option maxRecDepth 100000
set_option maxHeartbeats 8000000
set_option autoImplicit false
namespace LK
open PySem L2 PyProof.Rows PL
variable [TBs]
local macro_rules | `(tactic| walk_at "nm") => `(tactic| first
  | (with_reducible assumption)
  | exact few_txt (by decide +kernel))
local macro_rules | `(tactic| walk_at "cm") => `(tactic| (unfold CMul; first
  | (left; decide)
  | (right; decide)
  | (left; refine ⟨?_, ?_⟩ <;> omega)
  | (right; refine ⟨?_, ?_⟩ <;> omega)))
local macro_rules | `(tactic| walk_at "sd") => `(tactic| first
  | exact rfl
  | exact Nat.le_of_ble_eq_true rfl
  | (with_reducible assumption)
  | decide
  | omega
  | (simp only [List.length_cons, List.length_nil, List.length_append, List.length_set, List.length_replicate, List.length_map]; omega)
  | (refine ⟨?_, ?_⟩ <;> (first | decide | omega)))
local macro_rules | `(tactic| walk_at "sz") => `(tactic| first
  | decide
  | (rw [sizeLine_eq]; omega)
  | (rw [sizeLine_eq]; simp only [List.length_cons, List.length_nil, List.length_append, List.length_set, List.length_replicate, List.length_map]; omega)
  | (refine ⟨?_, ?_⟩ <;> (first | decide | omega)))
local macro_rules | `(tactic| walk_at "ai") => `(tactic| repeat' (first
  | (with_reducible assumption)
  | (with_reducible exact AllD.nil)
  | (with_reducible refine AllD.cons ?_ ?_)
  | (with_reducible refine AllD.app ?_ ?_)
  | exact gi_room
  | exact gi_none (by decide +kernel) (by decide +kernel)
  | exact gi_one (by decide +kernel) (by decide +kernel) (by walk_at "nm")
  | exact gi_two (by decide +kernel) (by decide +kernel) (by walk_at "nm")))
local macro_rules | `(tactic| walk_at "st") => `(tactic| first
  | (with_reducible refine L2.iteT ?_)
  | (with_reducible refine L2.iteF ?_)
  | (with_reducible refine sw_if ?_)
  | (with_reducible refine cell_scr ?_)
  | (with_reducible refine cell_lst ?_)
  | (with_reducible refine cell_rcd ?_)
  | (with_reducible refine cell_dic ?_)
  | (with_reducible refine sw_setR ?_)
  | (with_reducible refine sw_next ?_)
  | (with_reducible refine sw_retN ?_)
  | (with_reducible refine sw_ret ?_)
  | (with_reducible refine we_op ?_)
  | (with_reducible refine we_int ?_)
  | (with_reducible refine we_str ?_)
  | (with_reducible refine we_bl ?_)
  | (with_reducible refine we_non ?_)
  | (with_reducible refine wa_nil ?_)
  | (with_reducible refine wa_cons ?_)
  | (with_reducible refine we_tup ?_)
  | (with_reducible refine we_lst ?_)
  | (with_reducible refine we_call ?_)
  | (with_reducible refine we_cb ?_)
  | (with_reducible refine we_if ?_)
  | (with_reducible refine we_neg ?_)
  | (with_reducible refine wt_tst ?_)
  | (with_reducible refine wt_and ?_)
  | (with_reducible refine wt_or ?_)
  | (with_reducible refine wt_not ?_)
  | (with_reducible refine wt_yes ?_)
  | (with_reducible refine r2_plus_int ?_)
  | (with_reducible refine r2_sub ?_)
  | (with_reducible refine r2_lt ?_)
  | (with_reducible refine r2_le ?_)
  | (with_reducible refine r2_gt ?_)
  | (with_reducible refine r2_ge ?_)
  | (with_reducible refine r2_eq_int ?_)
  | (with_reducible refine r2_eq_str ?_)
  | (with_reducible refine r2_ne_int ?_)
  | (with_reducible refine r2_ne_str ?_)
  | (with_reducible refine rc_len_list ?_)
  | (with_reducible refine rc_len_tup ?_)
  | (with_reducible refine rc_len_scr ?_)
  | (with_reducible refine rc_min2 ?_)
  | (with_reducible refine rc_max2 ?_)
  | (with_reducible refine rc_int_bool ?_)
  | (with_reducible refine rc_abs ?_)
  | (with_reducible refine wgs_nil ?_)
  | (with_reducible refine use_number ?_)
  | (with_reducible refine we_andV ?_)
  | (with_reducible refine we_orV ?_)
  | (with_reducible refine we_notV ?_)
  | (with_reducible refine we_dget ?_)
  | (with_reducible refine r2_in_strs ?_)
  | (with_reducible refine r2_nin_strs ?_)
  | (with_reducible refine we_index ?_)
  | ((with_reducible apply wg_name); (· walk_at "sd"))
  | ((with_reducible apply wg_tup); (· exact rfl))
  | ((with_reducible apply we_vd); (· exact rfl))
  | ((with_reducible apply we_vt); (· exact rfl))
  | ((with_reducible apply we_vs); (· exact rfl))
  | ((with_reducible apply r2_ix_rcd); (· exact rfl))
  | ((with_reducible apply r2_ix_tpl); (· exact rfl))
  | ((with_reducible apply r2_ix_list); (· exact rfl))
  | ((with_reducible apply r2_ix_tup); (· exact rfl))
  | ((with_reducible refine sw_asg ?_ ?_); (· walk_at "sd"))
  | ((with_reducible refine use_next ?_ ?_); (· walk_at "sd"))
  | ((with_reducible refine sl_w_str ?_ ?_); (· walk_at "sz"))
  | ((with_reducible refine r2_times_int ?_ ?_); (· walk_at "cm"))
  | ((with_reducible refine r2_mod ?_ ?_); (· walk_at "sd"))
  | ((with_reducible refine r2_fdiv ?_ ?_); (· walk_at "sd"))
  | ((with_reducible refine r2_pow ?_ ?_); (· exact ⟨by decide, by decide, by decide⟩))
  | ((with_reducible refine r2_plus_str ?_ ?_); (· walk_at "sd"))
  | ((with_reducible refine r2_plus_list ?_ ?_); (· walk_at "sd"))
  | ((with_reducible refine r2_plus_tup ?_ ?_); (· walk_at "sd"))
  | ((with_reducible refine rc_str_int ?_ ?_); (· walk_at "sd"))
  | ((with_reducible refine rc_len_str ?_ ?_); (· walk_at "sd"))
  | (with_reducible apply sw_asgG)
  | (with_reducible apply wgs_cons)
  | (with_reducible refine we_slice ?_)
  | (with_reducible refine wo_none ?_)
  | (with_reducible refine wo_some ?_)
  | (with_reducible refine sl_w_list ?_)
  | (with_reducible refine sl_w_tup ?_)
  | (with_reducible refine rc_tuple_list ?_)
  | (with_reducible refine wi_range1 ?_)
  | (with_reducible refine wi_range2 ?_)
  | (with_reducible refine wi_list ?_)
  | (with_reducible refine wi_tup ?_)
  | ((with_reducible apply Exists.intro); (with_reducible apply And.intro); (· exact rfl); (with_reducible apply And.intro); (· walk_at "sz"))
  | ((with_reducible apply Exists.intro); (with_reducible apply Exists.intro); (with_reducible apply And.intro); (· exact rfl); (with_reducible apply And.intro); (· exact rfl); (with_reducible apply Exists.intro); (with_reducible apply Exists.intro); (with_reducible apply And.intro); (· exact rfl); (with_reducible apply And.intro); (· exact rfl); (with_reducible apply And.intro))
  | ((with_reducible apply Exists.intro); (with_reducible apply And.intro); (· exact rfl))
  | fail)
local macro_rules | `(tactic| walk_at "gs") => `(tactic| repeat' (walk_at "st"))
local macro_rules | `(tactic| walk_at "go") => `(tactic| repeat' (first | (with_reducible refine sw_seq ?_) | walk_at "st"))
local macro_rules | `(tactic| walk_at "os") => `(tactic| repeat' (first
  | ((with_reducible apply sw_append); (· exact rfl))
  | ((with_reducible apply sw_ret_own); (· exact rfl))
  | ((with_reducible apply sw_catOwn); (· exact rfl))
  | ((with_reducible apply we_len_own); (· exact rfl))
  | ((with_reducible apply we_nin_own); (· exact rfl))
  | ((with_reducible apply we_ix_own); (· exact rfl))
  | ((with_reducible apply we_ne_own); (· exact rfl); (· with_reducible assumption))
  | ((with_reducible refine sw_own ?_ ?_); (· walk_at "sd"))
  | walk_at "st"))
local macro_rules | `(tactic| walk_at "og") => `(tactic| repeat' (first
  | (with_reducible refine sw_seq ?_)
  | ((with_reducible apply sw_append); (· exact rfl))
  | ((with_reducible apply sw_ret_own); (· exact rfl))
  | ((with_reducible apply sw_catOwn); (· exact rfl))
  | ((with_reducible apply we_len_own); (· exact rfl))
  | ((with_reducible apply we_nin_own); (· exact rfl))
  | ((with_reducible apply we_ix_own); (· exact rfl))
  | ((with_reducible apply we_ne_own); (· exact rfl); (· with_reducible assumption))
  | ((with_reducible refine sw_own ?_ ?_); (· walk_at "sd"))
  | walk_at "st"))

abbrev slaw : Stmt := topS 25
theorem sclaw : FnScope ["script", "_law_pen", "_law_section", "_law_piece", "_law_again", "_law_found", "_law_due", "_law_item"] ["script"] (defScope slaw) := ⟨rfl, rfl, rfl, by decide +kernel, rfl, by decide +kernel, by decide +kernel⟩

def flaw : FS := fun ss g P => ∃ (ns : List Int), ss = [.s ns] ∧ g.ub = 0 ∧ ∀ g', P (.d (.bool true)) g'
theorem lenlaw : ∀ ss g P, flaw ss g P → ss.length = ["script"].length := by
  rintro ss g P ⟨_, rfl, _⟩
  rfl

theorem oklaw {P : Program} {w : World} {K : PySem.W.Frag} {mg : Str → Option Value} {base : Heap} {a0 : Addr} {fd0 : FuncData} (F : Fun K "law" "law" slaw a0 fd0) (Clength : Cal P w K mg base 2 "length" ["section"] flength) (C_law_pieces : Cal P w K mg base 10 "_law_pieces" ["_law_pen"] f_law_pieces) (C_law_random_piece : Cal P w K mg base 3 "_law_random_piece" ["_law_pen"] f_law_random_piece) (Casked : CalO P w K mg base 3 "asked" ["piece"] fasked) (C_law_asked_here : Cal P w K mg base 1 "_law_asked_here" ["_law_piece"] f_law_asked_here) (z_range : mg "range" = none) (z_isinstance : mg "isinstance" = none) (z_list : mg "list" = none) (z_len : mg "len" = none) (z_bool : mg "bool" = none) : FnOk P w K mg base CX0 11 a0 fd0 ["script"] (spF K flaw) := by
  obtain ⟨alength, fdlength, Glength, glength, klength, blength⟩ := Clength
  obtain ⟨a_law_pieces, fd_law_pieces, G_law_pieces, g_law_pieces, k_law_pieces, b_law_pieces⟩ := C_law_pieces
  obtain ⟨a_law_random_piece, fd_law_random_piece, G_law_random_piece, g_law_random_piece, k_law_random_piece, b_law_random_piece⟩ := C_law_random_piece
  obtain ⟨aasked, fdasked, Gasked, gasked, kasked, basked⟩ := Casked
  obtain ⟨a_law_asked_here, fd_law_asked_here, G_law_asked_here, g_law_asked_here, k_law_asked_here, b_law_asked_here⟩ := C_law_asked_here
  refine fnOk_of F sclaw (by decide) (lenlaw) fun a cdv A outer s H vs Q E hr => ?_
  have sc := sclaw
  let nm : List Str := ["script", "_law_pen", "_law_section", "_law_piece", "_law_again", "_law_found", "_law_due", "_law_item"]
  let sco := defScope slaw
  refine ⟨_, (pss_cons (ps_set (i := 1) sc.nd rfl (Or.inl rfl) (pe_lst (pa_cons (pv 0) (pa_cons pe_int (pa_cons pe_int pa_nil)))))
 (pss_cons (ps_for PassesOwn.never rfl (pi_list (pe_lst (pa_cons (pe_tup (pa_cons pe_str (pa_cons pe_str (pa_cons pe_int (pa_cons (pe_tup pa_nil) pa_nil))))) (pa_cons (pe_tup (pa_cons pe_str (pa_cons pe_str (pa_cons pe_int (pa_cons (pe_tup pa_nil) pa_nil))))) (pa_cons (pe_tup (pa_cons pe_str (pa_cons pe_str (pa_cons pe_int (pa_cons (pe_tup (pa_cons (pe_tup (pa_cons pe_str (pa_cons pe_int pa_nil))) pa_nil)) pa_nil))))) pa_nil))))) (pg_name (i := 2) sc.nd rfl (Or.inl rfl))
 (pss_one (ps_if (pt_cmpR (r := rNeq K) (op_neq (room64 hr)) (pe_call Glength (hr.mono (by decide)) (by rfl) glength klength blength .nil pass0 (pa_cons (pv 2) pa_nil)) pe_int (nomark _))
 (pss_one (ps_ret pe_bl))
 pss_nil)))
 (pss_cons (ps_for PassesOwn.never rfl (pi_list (pe_op (r := rPlus K) op_plus (pe_ix (r := rIx K) ix_seq (pe_call G_law_pieces (hr.mono (by decide)) (by rfl) g_law_pieces k_law_pieces b_law_pieces .nil pass0 (pa_cons (pv 1) pa_nil)) pe_int (fun _ _ => rfl)) (pe_lst (pa_cons (pe_call G_law_random_piece (hr.mono (by decide)) (by rfl) g_law_random_piece k_law_random_piece b_law_random_piece .nil pass0 (pa_cons (pv 1) pa_nil)) pa_nil)))) (pg_name (i := 3) sc.nd rfl (Or.inl rfl))
 (pss_cons (ps_for PassesOwn.never rfl (pi_range1 (by rfl) z_range (pa_cons pe_int pa_nil)) (pg_name (i := 4) sc.nd rfl (Or.inl rfl))
 (pss_cons (ps_set (i := 5) sc.nd rfl (Or.inl rfl) (pe_call Gasked (hr.mono (by decide)) (by rfl) gasked kasked basked .nil pass0 (pa_cons (pv 3) pa_nil)))
 (pss_cons (ps_if (PW.pt (pw_or (pt_not (show PT _ _ (tTru K _) from pt_truth (pe_callB (r := rIsi K) call_isi (by rfl) z_isinstance (by decide +kernel) (pa_cons (pv 5) (pa_cons (pe_bltn (v := .ty "list") (by rfl) z_list (by decide +kernel) rfl) pa_nil))) (by intro _; rfl))) (pw_or1 (pt_cmpR (r := rNeq K) (op_neq (room64 hr)) (pv 5) (pe_call G_law_asked_here (hr.mono (by decide)) (by rfl) g_law_asked_here k_law_asked_here b_law_asked_here .nil pass0 (pa_cons (pv 3) pa_nil)) (nomark _)))))
 (pss_one (ps_ret pe_bl))
 pss_nil)
 (pss_cons (ps_expr (pe_bm PySem.F.plainAttrs_list PySem.F.slot_list_append PySem.F.type_list_append mt_append (pv 5) (pa_cons pe_str pa_nil)))
 (pss_one (ps_expr (pe_bm0 PySem.F.plainAttrs_list PySem.F.slot_list_reverse PySem.F.type_list_reverse mt_reverse (pv 5))))))))
 (pss_one (ps_for PassesOwn.never rfl (pi_tup (pe_ix (r := rIx K) ix_seq (pv 3) pe_int (fun _ _ => rfl))) (pg_name (i := 2) sc.nd rfl (Or.inl rfl))
 (pss_cons (ps_set (i := 6) sc.nd rfl (Or.inl rfl) (pe_callB (r := rLenK K) call_len (by rfl) z_len (by decide +kernel) (pa_cons (pe_ix (r := rIx K) ix_seq (pv 2) pe_int (fun _ _ => rfl)) pa_nil)))
 (pss_cons (ps_for PassesOwn.never rfl (pi_tup (pe_ix (r := rIx K) ix_seq (pv 2) pe_int (fun _ _ => rfl))) (pg_name (i := 7) sc.nd rfl (Or.inl rfl))
 (pss_one (ps_if (pt_cmpR (r := rEqu K) (op_equ (room64 hr)) (pe_ix (r := rIx K) ix_seq (pv 7) pe_int (fun _ _ => rfl)) pe_str (nomark _))
 (pss_one (ps_set (i := 6) sc.nd rfl (Or.inl rfl) (pe_op op_sub (pe_op (r := rPlus K) op_plus (pv 6) (pe_ix (r := rIx K) ix_seq (pv 7) pe_int (fun _ _ => rfl))) pe_int)))
 pss_nil)))
 (pss_cons (ps_set (i := 5) sc.nd rfl (Or.inl rfl) (pe_call Glength (hr.mono (by decide)) (by rfl) glength klength blength .nil pass0 (pa_cons (pv 2) pa_nil)))
 (pss_one (ps_if (PW.pt (pw_or (show PT _ _ (tTru K _) from pt_truth (pe_callB (r := rIsi K) call_isi (by rfl) z_isinstance (by decide +kernel) (pa_cons (pv 5) (pa_cons (pe_bltn (v := .ty "bool") (by rfl) z_bool (by decide +kernel) rfl) pa_nil))) (by intro _; rfl)) (pw_or1 (pt_cmpR (r := rNeq K) (op_neq (room64 hr)) (pv 5) (pv 6) (nomark _)))))
 (pss_one (ps_ret pe_bl))
 pss_nil)))))))))
 (pss_one (ps_ret pe_bl))))), ?_⟩
  clear sc nm sco
  try dsimp only [cxOf, Cx.nox, Cx.wish]

  rintro ss g P ⟨ns, rfl, hub, q⟩
  show SW K _ _ [.s ns, .un, .un, .un, .un, .un, .un, .un] g
  refine sw_seq ?_
  refine sw_asg (by show 1 < 8; decide) ?_
  refine we_lstT [.scr ns, .dat IsNat, .dat IsNat] ?_
  walk_at "os"
  refine ⟨by show 3 ≤ sizeLine; rw [sizeLine_eq]; decide, .cons rfl (.cons ⟨0, rfl, by decide⟩ (.cons ⟨0, rfl, by decide⟩ .nil)), ?_⟩
  walk_at "os"
  refine sw_seq ?_
  refine sw_for (is := [2]) ?_
  walk_at "os"
  refine ⟨fun k ρ g' => g = g' ∧ ∃ s2, ρ = [.s ns, .t (penT ns), s2, .un, .un, .un, .un, .un], ?_, ?_, ?_⟩
  · exact ⟨rfl, _, rfl⟩
  · rintro k _ _ hk ⟨rfl, s2, rfl⟩
    obtain ⟨a, b, c, is, e, hi, hl, hs⟩ := three_ok (k := k) hk
    rw [e]
    walk_at "os"
    refine ⟨a, b, c, is, rfl, hi, hl, ?_⟩
    rw [hs]
    walk_at "os"
    refine sw_next ?_
    exact ⟨rfl, _, rfl⟩
  rintro _ _ ⟨rfl, s2, rfl⟩
  walk_at "os"
  refine sw_seq ?_
  refine sw_for (is := [3]) ?_
  walk_at "os"
  refine ⟨ns, rfl, by omega, fun ps pa pb pc g2 hps hpl le2 => ?_⟩
  walk_at "os"
  refine ⟨ns, rfl, fun dp hdp => ?_⟩
  walk_at "os"
  refine r2_plus_list (by rw [sizeLine_eq]; simp only [List.length_cons, List.length_nil]; omega) ?_
  walk_at "os"
  have hall : AllD GPiece (ps ++ [dp]) := hps.snoc hdp
  refine ⟨fun k ρ g' => g2 = g' ∧ ∃ s2 s3 s4 s5 s6 s7, ρ = [.s ns, .t (penT ns), s2, s3, s4, s5, s6, s7], ?_, ?_, ?_⟩
  · exact ⟨rfl, _, _, _, _, _, _, rfl⟩
  · rintro k _ _ hk ⟨rfl, s2, s3, s4, s5, s6, s7, rfl⟩
    obtain ⟨a, secs, syms, e, hsecs, hsl, hsy, hsyl⟩ := hall _ (List.getElem_mem hk)
    rw [nth_get (d := .tuple [a, .tuple secs, .tuple syms]) (by rw [List.getElem?_eq_getElem hk, e])]
    have hao := asked_ok (syms := syms) hsecs
    have hal := asked_len (syms := syms) hsecs hsl
    walk_at "os"
    refine sw_seq ?_
    refine sw_for (is := [4]) ?_
    walk_at "os"
    refine ⟨fun m ρ g' => g2 = g' ∧ ∃ s4 s5, ρ = [.s ns, .t (penT ns), s2, .d (.tuple [a, .tuple secs, .tuple syms]), s4, s5, s6, s7], ?_, ?_, ?_⟩
    · exact ⟨rfl, _, _, rfl⟩
    · rintro m _ _ hm ⟨rfl, s4, s5, rfl⟩
      walk_at "os"
      refine sw_seq ?_
      refine sw_callO (by show 5 < 8; decide) ?_
      walk_at "os"
      refine ⟨a, secs, syms, rfl, hsecs, hsl, hsy, hsyl, ?_⟩
      show SW K (tSeq _ _) _ [.s ns, .t (penT ns), s2, .d (.tuple [a, .tuple secs, .tuple syms]), .d (.int m), .own ((askedOf secs syms).map .str), s6, s7] g2
      refine sw_seq ?_
      walk_at "os"
      refine wt_tru_b ?_
      refine we_isi_own rfl ?_
      refine ⟨true, rfl, ?_⟩
      walk_at "os"
      rw [if_neg (by decide)]
      refine wt_tst ?_
      refine we_neq_own rfl ?_
      walk_at "os"
      refine ⟨a, secs, syms, rfl, hsecs, hsl, hsy, hsyl, ?_⟩
      refine ⟨_, rfl, shaped_strs hao, shaped_strs hao, ?_⟩
      rw [eqv_strs hao]
      walk_at "os"
      rw [if_neg (by decide)]
      walk_at "os"
      show SW K (tSeq _ _) _ [.s ns, .t (penT ns), s2, .d (.tuple [a, .tuple secs, .tuple syms]), .d (.int m), .own ((askedOf secs syms).map .str), s6, s7] g2
      refine sw_seq ?_
      walk_at "os"
      · rw [sizeLine_eq, List.length_map]; omega
      refine sw_revOwn rfl ?_
      exact ⟨rfl, _, _, rfl⟩
    · rintro _ _ ⟨rfl, s4, s5, rfl⟩
      walk_at "os"
      refine sw_for (is := [2]) ?_
      walk_at "os"
      refine ⟨fun m ρ g' => g2 = g' ∧ ∃ s2 s5 s6 s7, ρ = [.s ns, .t (penT ns), s2, .d (.tuple [a, .tuple secs, .tuple syms]), s4, s5, s6, s7], ?_, ?_, ?_⟩
      · exact ⟨rfl, _, _, _, _, rfl⟩
      · rintro m _ _ hm ⟨rfl, s2, s5, s6, s7, rfl⟩
        obtain ⟨a1, b1, c1, is, e1, hi, hil⟩ := hsecs _ (List.getElem_mem hm)
        rw [nth_get (d := .tuple [a1, b1, c1, .tuple is]) (by rw [List.getElem?_eq_getElem hm, e1])]
        walk_at "os"
        refine sw_seq ?_
        walk_at "os"
        refine sw_seq ?_
        refine sw_for (is := [7]) ?_
        walk_at "os"
        refine ⟨fun u ρ g' => g2 = g' ∧ ∃ s7, ρ = [.s ns, .t (penT ns), .d (.tuple [a1, b1, c1, .tuple is]), .d (.tuple [a, .tuple secs, .tuple syms]), s4, s5, .d (.int ((is.length : Int) + ((is.take u).map itemLen).sum - u)), s7], ?_, ?_, ?_⟩
        · refine ⟨rfl, s7, ?_⟩
          simp
        · rintro u _ _ hu ⟨rfl, s7, rfl⟩
          obtain ⟨w1, r, e2, _, hroom⟩ := hi _ (List.getElem_mem hu)
          rw [nth_get (d := .tuple (.str w1 :: r)) (by rw [List.getElem?_eq_getElem hu, e2])]
          have hstep : ((is.take (u + 1)).map itemLen).sum = ((is.take u).map itemLen).sum + itemLen (.tuple (.str w1 :: r)) := by
            rw [List.take_add_one, List.getElem?_eq_getElem hu, List.map_append, List.sum_append, e2]
            simp
          walk_at "os"
          refine r2_ix_tup atI_zero ?_
          walk_at "os"
          refine ifd (fun h => ?_) fun h => ?_
          · have hw : w1 = "room" := h
            obtain ⟨n, rfl⟩ := hroom hw
            subst hw
            rw [itemLen_room] at hstep
            walk_at "os"
            refine ⟨rfl, .d (.tuple [.str "room", .int n]), ?_⟩
            rw [hstep, show (is.length : Int) + (((is.take u).map itemLen).sum + n) - ((u + 1 : Nat) : Int) = (is.length : Int) + ((is.take u).map itemLen).sum - u + n - 1 by omega]
            rfl
          · rw [itemLen_else (w := w1) h] at hstep
            walk_at "os"
            refine ⟨rfl, .d (.tuple (.str w1 :: r)), ?_⟩
            rw [hstep, show (is.length : Int) + (((is.take u).map itemLen).sum + 1) - ((u + 1 : Nat) : Int) = (is.length : Int) + ((is.take u).map itemLen).sum - u by omega]
            rfl
        · rintro _ _ ⟨rfl, s7, rfl⟩
          rw [List.take_length, show (is.length : Int) + (is.map itemLen).sum - (is.length : Nat) = (is.map itemLen).sum by omega]
          walk_at "os"
          refine sw_seq ?_
          walk_at "os"
          refine ⟨a1, b1, c1, is, rfl, hi, by omega, ?_⟩
          walk_at "os"
          refine wt_tru_b ?_
          refine we_isi_int rfl ?_
          refine ⟨false, rfl, ?_⟩
          rw [if_neg (by decide)]
          walk_at "os"
          refine ifn (fun h => absurd rfl h) fun _ => ?_
          walk_at "os"
          exact ⟨rfl, _, _, _, _, rfl⟩
      · rintro _ _ ⟨rfl, s2, s5, s6, s7, rfl⟩
        exact ⟨rfl, _, _, _, _, _, _, rfl⟩
  · rintro _ _ ⟨rfl, s2, s3, s4, s5, s6, s7, rfl⟩
    walk_at "os"
    exact q _

end LK
set_option maxRecDepth 100000
set_option maxHeartbeats 0
namespace LK
open PySem L2 PyProof.Rows PL
open PySem.Spec
def d_law_fill : He.DefD := ⟨("_law_fill", none), "_law_fill", "_law_fill", defArgs s_law_fill, defBody s_law_fill, defScope s_law_fill, [], []⟩
def d_law_next : He.DefD := ⟨("_law_next", none), "_law_next", "_law_next", defArgs s_law_next, defBody s_law_next, defScope s_law_next, [], []⟩
def d_law_number : He.DefD := ⟨("_law_number", none), "_law_number", "_law_number", defArgs s_law_number, defBody s_law_number, defScope s_law_number, [], []⟩
def d_law_data : He.DefD := ⟨("_law_data", none), "_law_data", "_law_data", defArgs s_law_data, defBody s_law_data, defScope s_law_data, [], []⟩
def d_law_numbers_in : He.DefD := ⟨("_law_numbers_in", none), "_law_numbers_in", "_law_numbers_in", defArgs s_law_numbers_in, defBody s_law_numbers_in, defScope s_law_numbers_in, [], []⟩
def d_law_reach : He.DefD := ⟨("_law_reach", none), "_law_reach", "_law_reach", defArgs s_law_reach, defBody s_law_reach, defScope s_law_reach, [], []⟩
def d_law_on_data : He.DefD := ⟨("_law_on_data", none), "_law_on_data", "_law_on_data", defArgs s_law_on_data, defBody s_law_on_data, defScope s_law_on_data, [], []⟩
def d_law_by_places : He.DefD := ⟨("_law_by_places", none), "_law_by_places", "_law_by_places", defArgs s_law_by_places, defBody s_law_by_places, defScope s_law_by_places, [], []⟩
def d_law_snippet : He.DefD := ⟨("_law_snippet", none), "_law_snippet", "_law_snippet", defArgs s_law_snippet, defBody s_law_snippet, defScope s_law_snippet, [], []⟩
def d_law_code : He.DefD := ⟨("_law_code", none), "_law_code", "_law_code", defArgs s_law_code, defBody s_law_code, defScope s_law_code, [], []⟩
def d_law_put : He.DefD := ⟨("_law_put", none), "_law_put", "_law_put", defArgs s_law_put, defBody s_law_put, defScope s_law_put, [], []⟩
def d_law_put_datas : He.DefD := ⟨("_law_put_datas", none), "_law_put_datas", "_law_put_datas", defArgs s_law_put_datas, defBody s_law_put_datas, defScope s_law_put_datas, [], []⟩
def d_law_put_commons : He.DefD := ⟨("_law_put_commons", none), "_law_put_commons", "_law_put_commons", defArgs s_law_put_commons, defBody s_law_put_commons, defScope s_law_put_commons, [], []⟩
def ditem_length : He.DefD := ⟨("item_length", none), "item_length", "item_length", defArgs sitem_length, defBody sitem_length, defScope sitem_length, [], []⟩
def dlength : He.DefD := ⟨("length", none), "length", "length", defArgs slength, defBody slength, defScope slength, [], []⟩
def d_law_random_piece : He.DefD := ⟨("_law_random_piece", none), "_law_random_piece", "_law_random_piece", defArgs s_law_random_piece, defBody s_law_random_piece, defScope s_law_random_piece, [], []⟩
def d_law_closed : He.DefD := ⟨("_law_closed", none), "_law_closed", "_law_closed", defArgs s_law_closed, defBody s_law_closed, defScope s_law_closed, [], []⟩
def d_law_pieces : He.DefD := ⟨("_law_pieces", none), "_law_pieces", "_law_pieces", defArgs s_law_pieces, defBody s_law_pieces, defScope s_law_pieces, [], []⟩
def dnamed_by : He.DefD := ⟨("named_by", none), "named_by", "named_by", defArgs snamed_by, defBody snamed_by, defScope snamed_by, [], []⟩
def dnamings : He.DefD := ⟨("namings", none), "namings", "namings", defArgs snamings, defBody snamings, defScope snamings, [], []⟩
def dasked : He.DefD := ⟨("asked", none), "asked", "asked", defArgs sasked, defBody sasked, defScope sasked, [], []⟩
def d_law_asked_here : He.DefD := ⟨("_law_asked_here", none), "_law_asked_here", "_law_asked_here", defArgs s_law_asked_here, defBody s_law_asked_here, defScope s_law_asked_here, [], []⟩
def dlaw : He.DefD := ⟨("law", none), "law", "law", defArgs slaw, defBody slaw, defScope slaw, [], []⟩
def fn : List He.DefD := [d_law_fill, d_law_next, d_law_number, d_law_data, d_law_numbers_in, d_law_reach, d_law_on_data, d_law_by_places, d_law_snippet, d_law_code, d_law_put, d_law_put_datas, d_law_put_commons, ditem_length, dlength, d_law_random_piece, d_law_closed, d_law_pieces, dnamed_by, dnamings, dasked, d_law_asked_here, dlaw]
def fa : List He.Fa := [.glo "_law_fill", .glo "_law_next", .glo "_law_number", .glo "_law_data", .glo "_law_numbers_in", .glo "_law_reach", .glo "_law_on_data", .glo "_law_by_places", .glo "_law_snippet", .glo "_law_code", .glo "_law_put", .glo "_law_put_datas", .glo "_law_put_commons", .glo "item_length", .glo "length", .glo "_law_random_piece", .glo "_law_closed", .glo "_law_pieces", .glo "named_by", .glo "namings", .glo "asked", .glo "_law_asked_here", .glo "law", .glo "NAMED_PART", .free "len", .free "range", .free "int", .free "str", .free "tuple", .free "sorted", .free "set", .free "isinstance", .free "list", .free "bool", .free "sum", .free "min", .free "max"]
def ts : List He.Tab := [(fun K => He.ga K "NAMED_PART", partT.map (·.1))]
def ex (K : PySem.W.Frag) : Bool := He.valsB K (He.ga K "NAMED_PART") (partT.map fun q => (q.1, He.Dv.int q.2))
def tf : List He.Defn := [("_law_closed", none)]
abbrev RL : PySem.W.OpenLaw := PySem.Challenge.rw_weldmill_k02_names_asked_and_lengths
abbrev RR : PySem.W.OpenRow := PySem.W.OpenLaw.row RL
abbrev hk : PySem.W.Hook := He.hookX 4 fa fn ts tf ex
def ob (s : PySem.W.SharedT) : He.AlX := He.obsX 4 fa fn ts tf ex (HandSHeadRun.getT s)
theorem ob_eq (s : PySem.W.SharedT) : ob s = hk.obs s.abs := He.obsX_eq (HandSHeadRun.getT_eq s)
def loose : List Str := ["NAMED_PART", "item_length", "length", "named_by", "namings", "asked", "_law_fill", "_law_next", "_law_number", "_law_data", "_law_numbers_in", "_law_reach", "_law_on_data", "_law_by_places", "_law_snippet", "_law_code", "_law_put", "_law_closed", "_law_put_datas", "_law_put_commons", "_law_pieces", "_law_random_piece", "_law_asked_here"]
theorem run_f (w : World) : HandSHeadRun.RunEq RR (PySem.W.view RR.prog [25]) hk ob 6000 loose (w.withFollow "special-get-raises" false) := by
  intro os
  kernel_rfl
theorem run_t (w : World) : HandSHeadRun.RunEq RR (PySem.W.view RR.prog [25]) hk ob 6000 loose (w.withFollow "special-get-raises" true) := by
  intro os
  kernel_rfl
theorem run (w : World) : HandSHeadRun.RunEq RR (PySem.W.view RR.prog [25]) hk ob 6000 loose w := PySem.W.byRow2 "special-get-raises" (P := fun w => HandSHeadRun.RunEq RR (PySem.W.view RR.prog [25]) hk ob 6000 loose w) run_f run_t w
theorem facts {w : World} {K : PySem.W.Frag} {h : Heap} {mg : Str → Option Value} {f : Addr} (X : K.In h) (G : h.Ns mainGlobals mg) (hfa : mg ("law" : Str) = some (.ref f)) (c : He.SaysX fa fn ts tf ex w h K) : LamX.LawAtS RL w K CX0 11 63 "script" mg f h := by
  have cd := c.t.d
  letI : TBs := ⟨[((He.cT K ("_law_closed", none)).2, (("_law_closed" : Str) ++ ".<locals>." ++ "<lambda>"))]⟩
  obtain ⟨fd_law_fill, F_law_fill⟩ := cd.def_ 0 (d := d_law_fill) rfl
  have g_law_fill : mg "_law_fill" = some (.ref (He.fAd K ("_law_fill", none))) := He.glo_ok X G (cd.fact 0 (f := .glo "_law_fill") rfl)
  have S_law_fill : Std K mg "_law_fill" s_law_fill ["_law_cell", "_law_at"] := std_of F_law_fill g_law_fill (fun _ _ _ _ _ _ us hl => match us, hl with | [_, _], _ => rfl)
  obtain ⟨fd_law_next, F_law_next⟩ := cd.def_ 1 (d := d_law_next) rfl
  have g_law_next : mg "_law_next" = some (.ref (He.fAd K ("_law_next", none))) := He.glo_ok X G (cd.fact 1 (f := .glo "_law_next") rfl)
  have S_law_next : Std K mg "_law_next" s_law_next ["_law_pen", "_law_many"] := std_of F_law_next g_law_next (fun _ _ _ _ _ _ us hl => match us, hl with | [_, _], _ => rfl)
  obtain ⟨fd_law_number, F_law_number⟩ := cd.def_ 2 (d := d_law_number) rfl
  have g_law_number : mg "_law_number" = some (.ref (He.fAd K ("_law_number", none))) := He.glo_ok X G (cd.fact 2 (f := .glo "_law_number") rfl)
  have S_law_number : Std K mg "_law_number" s_law_number ["_law_pen"] := std_of F_law_number g_law_number (fun _ _ _ _ _ _ us hl => match us, hl with | [_], _ => rfl)
  obtain ⟨fd_law_data, F_law_data⟩ := cd.def_ 3 (d := d_law_data) rfl
  have g_law_data : mg "_law_data" = some (.ref (He.fAd K ("_law_data", none))) := He.glo_ok X G (cd.fact 3 (f := .glo "_law_data") rfl)
  have S_law_data : Std K mg "_law_data" s_law_data ["_law_pen", "_law_functions", "_law_datas"] := std_of F_law_data g_law_data (fun _ _ _ _ _ _ us hl => match us, hl with | [_, _, _], _ => rfl)
  obtain ⟨fd_law_numbers_in, F_law_numbers_in⟩ := cd.def_ 4 (d := d_law_numbers_in) rfl
  have g_law_numbers_in : mg "_law_numbers_in" = some (.ref (He.fAd K ("_law_numbers_in", none))) := He.glo_ok X G (cd.fact 4 (f := .glo "_law_numbers_in") rfl)
  have S_law_numbers_in : Std K mg "_law_numbers_in" s_law_numbers_in ["_law_kinds"] := std_of F_law_numbers_in g_law_numbers_in (fun _ _ _ _ _ _ us hl => match us, hl with | [_], _ => rfl)
  obtain ⟨fd_law_reach, F_law_reach⟩ := cd.def_ 5 (d := d_law_reach) rfl
  have g_law_reach : mg "_law_reach" = some (.ref (He.fAd K ("_law_reach", none))) := He.glo_ok X G (cd.fact 5 (f := .glo "_law_reach") rfl)
  have S_law_reach : Std K mg "_law_reach" s_law_reach ["_law_pen", "_law_name", "_law_spot"] := std_of F_law_reach g_law_reach (fun _ _ _ _ _ _ us hl => match us, hl with | [_, _, _], _ => rfl)
  obtain ⟨fd_law_on_data, F_law_on_data⟩ := cd.def_ 6 (d := d_law_on_data) rfl
  have g_law_on_data : mg "_law_on_data" = some (.ref (He.fAd K ("_law_on_data", none))) := He.glo_ok X G (cd.fact 6 (f := .glo "_law_on_data") rfl)
  have S_law_on_data : Std K mg "_law_on_data" s_law_on_data ["_law_pen", "_law_plan", "_law_way"] := std_of F_law_on_data g_law_on_data (fun _ _ _ _ _ _ us hl => match us, hl with | [_, _, _], _ => rfl)
  obtain ⟨fd_law_by_places, F_law_by_places⟩ := cd.def_ 7 (d := d_law_by_places) rfl
  have g_law_by_places : mg "_law_by_places" = some (.ref (He.fAd K ("_law_by_places", none))) := He.glo_ok X G (cd.fact 7 (f := .glo "_law_by_places") rfl)
  have S_law_by_places : Std K mg "_law_by_places" s_law_by_places ["_law_pen", "_law_plan", "_law_number_of"] := std_of F_law_by_places g_law_by_places (fun _ _ _ _ _ _ us hl => match us, hl with | [_, _, _], _ => rfl)
  obtain ⟨fd_law_snippet, F_law_snippet⟩ := cd.def_ 8 (d := d_law_snippet) rfl
  have g_law_snippet : mg "_law_snippet" = some (.ref (He.fAd K ("_law_snippet", none))) := He.glo_ok X G (cd.fact 8 (f := .glo "_law_snippet") rfl)
  have S_law_snippet : Std K mg "_law_snippet" s_law_snippet ["_law_pen", "_law_plan", "_law_number_of", "_law_label"] := std_of F_law_snippet g_law_snippet (fun _ _ _ _ _ _ us hl => match us, hl with | [_, _, _, _], _ => rfl)
  obtain ⟨fd_law_code, F_law_code⟩ := cd.def_ 9 (d := d_law_code) rfl
  have g_law_code : mg "_law_code" = some (.ref (He.fAd K ("_law_code", none))) := He.glo_ok X G (cd.fact 9 (f := .glo "_law_code") rfl)
  have S_law_code : Std K mg "_law_code" s_law_code ["_law_pen", "_law_plan", "_law_number_of", "_law_prefix"] := std_of F_law_code g_law_code (fun _ _ _ _ _ _ us hl => match us, hl with | [_, _, _, _], _ => rfl)
  obtain ⟨fd_law_put, F_law_put⟩ := cd.def_ 10 (d := d_law_put) rfl
  have g_law_put : mg "_law_put" = some (.ref (He.fAd K ("_law_put", none))) := He.glo_ok X G (cd.fact 10 (f := .glo "_law_put") rfl)
  have S_law_put : Std K mg "_law_put" s_law_put ["_law_pen", "_law_part", "_law_kind", "_law_items", "_law_symbols"] := std_of F_law_put g_law_put (fun _ _ _ _ _ _ us hl => match us, hl with | [_, _, _, _, _], _ => rfl)
  obtain ⟨fd_law_put_datas, F_law_put_datas⟩ := cd.def_ 11 (d := d_law_put_datas) rfl
  have g_law_put_datas : mg "_law_put_datas" = some (.ref (He.fAd K ("_law_put_datas", none))) := He.glo_ok X G (cd.fact 11 (f := .glo "_law_put_datas") rfl)
  have S_law_put_datas : Std K mg "_law_put_datas" s_law_put_datas ["_law_pen", "_law_parts", "_law_functions", "_law_datas", "_law_maybes"] := std_of F_law_put_datas g_law_put_datas (fun _ _ _ _ _ _ us hl => match us, hl with | [_, _, _, _, _], _ => rfl)
  obtain ⟨fd_law_put_commons, F_law_put_commons⟩ := cd.def_ 12 (d := d_law_put_commons) rfl
  have g_law_put_commons : mg "_law_put_commons" = some (.ref (He.fAd K ("_law_put_commons", none))) := He.glo_ok X G (cd.fact 12 (f := .glo "_law_put_commons") rfl)
  have S_law_put_commons : Std K mg "_law_put_commons" s_law_put_commons ["_law_pen", "_law_parts", "_law_stem", "_law_kinds"] := std_of F_law_put_commons g_law_put_commons (fun _ _ _ _ _ _ us hl => match us, hl with | [_, _, _, _], _ => rfl)
  obtain ⟨fditem_length, Fitem_length⟩ := cd.def_ 13 (d := ditem_length) rfl
  have gitem_length : mg "item_length" = some (.ref (He.fAd K ("item_length", none))) := He.glo_ok X G (cd.fact 13 (f := .glo "item_length") rfl)
  have Sitem_length : Std K mg "item_length" sitem_length ["item"] := std_of Fitem_length gitem_length (fun _ _ _ _ _ _ us hl => match us, hl with | [_], _ => rfl)
  obtain ⟨fdlength, Flength⟩ := cd.def_ 14 (d := dlength) rfl
  have glength : mg "length" = some (.ref (He.fAd K ("length", none))) := He.glo_ok X G (cd.fact 14 (f := .glo "length") rfl)
  have Slength : Std K mg "length" slength ["section"] := std_of Flength glength (fun _ _ _ _ _ _ us hl => match us, hl with | [_], _ => rfl)
  obtain ⟨fd_law_random_piece, F_law_random_piece⟩ := cd.def_ 15 (d := d_law_random_piece) rfl
  have g_law_random_piece : mg "_law_random_piece" = some (.ref (He.fAd K ("_law_random_piece", none))) := He.glo_ok X G (cd.fact 15 (f := .glo "_law_random_piece") rfl)
  have S_law_random_piece : Std K mg "_law_random_piece" s_law_random_piece ["_law_pen"] := std_of F_law_random_piece g_law_random_piece (fun _ _ _ _ _ _ us hl => match us, hl with | [_], _ => rfl)
  obtain ⟨fd_law_closed, F_law_closed⟩ := cd.def_ 16 (d := d_law_closed) rfl
  have g_law_closed : mg "_law_closed" = some (.ref (He.fAd K ("_law_closed", none))) := He.glo_ok X G (cd.fact 16 (f := .glo "_law_closed") rfl)
  have S_law_closed : StdC K mg "_law_closed" s_law_closed ["_law_parts", "_law_stem", "_law_maybes", "_law_by"] (He.codeOf K ("_law_closed", none)) := stdC_of F_law_closed g_law_closed (fun _ _ _ _ _ _ us hl => match us, hl with | [_, _, _, _], _ => rfl)
  obtain ⟨fd_law_pieces, F_law_pieces⟩ := cd.def_ 17 (d := d_law_pieces) rfl
  have g_law_pieces : mg "_law_pieces" = some (.ref (He.fAd K ("_law_pieces", none))) := He.glo_ok X G (cd.fact 17 (f := .glo "_law_pieces") rfl)
  have S_law_pieces : Std K mg "_law_pieces" s_law_pieces ["_law_pen"] := std_of F_law_pieces g_law_pieces (fun _ _ _ _ _ _ us hl => match us, hl with | [_], _ => rfl)
  obtain ⟨fdnamed_by, Fnamed_by⟩ := cd.def_ 18 (d := dnamed_by) rfl
  have gnamed_by : mg "named_by" = some (.ref (He.fAd K ("named_by", none))) := He.glo_ok X G (cd.fact 18 (f := .glo "named_by") rfl)
  have Snamed_by : Std K mg "named_by" snamed_by ["section"] := std_of Fnamed_by gnamed_by (fun _ _ _ _ _ _ us hl => match us, hl with | [_], _ => rfl)
  obtain ⟨fdnamings, Fnamings⟩ := cd.def_ 19 (d := dnamings) rfl
  have gnamings : mg "namings" = some (.ref (He.fAd K ("namings", none))) := He.glo_ok X G (cd.fact 19 (f := .glo "namings") rfl)
  have Snamings : Std K mg "namings" snamings ["piece"] := std_of Fnamings gnamings (fun _ _ _ _ _ _ us hl => match us, hl with | [_], _ => rfl)
  obtain ⟨fdasked, Fasked⟩ := cd.def_ 20 (d := dasked) rfl
  have gasked : mg "asked" = some (.ref (He.fAd K ("asked", none))) := He.glo_ok X G (cd.fact 20 (f := .glo "asked") rfl)
  have Sasked : Std K mg "asked" sasked ["piece"] := std_of Fasked gasked (fun _ _ _ _ _ _ us hl => match us, hl with | [_], _ => rfl)
  obtain ⟨fd_law_asked_here, F_law_asked_here⟩ := cd.def_ 21 (d := d_law_asked_here) rfl
  have g_law_asked_here : mg "_law_asked_here" = some (.ref (He.fAd K ("_law_asked_here", none))) := He.glo_ok X G (cd.fact 21 (f := .glo "_law_asked_here") rfl)
  have S_law_asked_here : Std K mg "_law_asked_here" s_law_asked_here ["_law_piece"] := std_of F_law_asked_here g_law_asked_here (fun _ _ _ _ _ _ us hl => match us, hl with | [_], _ => rfl)
  obtain ⟨fdlaw, Flaw⟩ := cd.def_ 22 (d := dlaw) rfl
  have glaw : mg "law" = some (.ref (He.fAd K ("law", none))) := He.glo_ok X G (cd.fact 22 (f := .glo "law") rfl)
  have gNP : mg "NAMED_PART" = some (.ref (He.ga K "NAMED_PART")) := He.glo_ok X G (cd.fact 23 (f := .glo "NAMED_PART") rfl)
  have z_len : mg "len" = none := He.free_ok X G (cd.fact 24 (f := .free "len") rfl)
  have z_range : mg "range" = none := He.free_ok X G (cd.fact 25 (f := .free "range") rfl)
  have z_int : mg "int" = none := He.free_ok X G (cd.fact 26 (f := .free "int") rfl)
  have z_str : mg "str" = none := He.free_ok X G (cd.fact 27 (f := .free "str") rfl)
  have z_tuple : mg "tuple" = none := He.free_ok X G (cd.fact 28 (f := .free "tuple") rfl)
  have z_sorted : mg "sorted" = none := He.free_ok X G (cd.fact 29 (f := .free "sorted") rfl)
  have z_set : mg "set" = none := He.free_ok X G (cd.fact 30 (f := .free "set") rfl)
  have z_isinstance : mg "isinstance" = none := He.free_ok X G (cd.fact 31 (f := .free "isinstance") rfl)
  have z_list : mg "list" = none := He.free_ok X G (cd.fact 32 (f := .free "list") rfl)
  have z_bool : mg "bool" = none := He.free_ok X G (cd.fact 33 (f := .free "bool") rfl)
  have z_sum : mg "sum" = none := He.free_ok X G (cd.fact 34 (f := .free "sum") rfl)
  have z_min : mg "min" = none := He.free_ok X G (cd.fact 35 (f := .free "min") rfl)
  have z_max : mg "max" = none := He.free_ok X G (cd.fact 36 (f := .free "max") rfl)
  have tNP : KTab K w (He.ga K "NAMED_PART") partT := by
    have e : ts.map (fun t => He.dicW K (t.1 K)) = ts.map (fun t => some (He.keysIn w.params t.2)) := congrArg (fun z : He.AlT => z.2) c.t
    injection e with e1 e2
    exact ktab_of e1 c.more
  have ef : f = He.fAd K ("law", none) := by
    rw [hfa] at glaw
    cases glaw
    rfl
  subst ef
  refine ⟨fdlaw, [He.cT K ("_law_closed", none)], spF K flaw, fun p hp => ?_, fun p hp => ?_, fun p hp => ?_, fun s u => ?_, fun H a ns hl hb hT hS => ?_, fun base X2 G2 T => ?_⟩
  · rw [List.mem_singleton.mp hp]
    exact c.empty _ List.mem_cons_self
  · rw [List.mem_singleton.mp hp]
    exact c.out _ List.mem_cons_self
  · rw [List.mem_singleton.mp hp]
    exact PySem.W.codeHd_of_K X (c.hd _ List.mem_cons_self)
  · exact FunD.bindsA (ps := ["script"]) Flaw (fun _ _ _ _ _ _ us hl => match us, hl with | [_], _ => rfl) s [u] rfl
  · refine sp_law (fun p hp => ?_) (fun p q hp hq _ => ?_) hS ⟨ns, rfl, rfl, fun _ => rfl⟩ _
    · rw [List.mem_singleton.mp hp]
      exact hT _ List.mem_cons_self
    · rw [List.mem_singleton.mp hp, List.mem_singleton.mp hq]
  have TB := T _ (List.mem_cons_self (a := He.cT K ("_law_closed", none)))
  have inT : ((He.cT K ("_law_closed", none)).2, (("_law_closed" : Str) ++ ".<locals>." ++ "<lambda>")) ∈ TBs.tb := List.mem_cons_self
  have C_law_fill : Cal RL.prog w K mg base 1 "_law_fill" ["_law_cell", "_law_at"] f_law_fill := ok_law_fill S_law_fill
  have C_law_next : Cal RL.prog w K mg base 2 "_law_next" ["_law_pen", "_law_many"] f_law_next := ok_law_next S_law_next C_law_fill z_len
  have C_law_number : Cal RL.prog w K mg base 3 "_law_number" ["_law_pen"] f_law_number := ok_law_number S_law_number C_law_next
  have C_law_data : Cal RL.prog w K mg base 4 "_law_data" ["_law_pen", "_law_functions", "_law_datas"] f_law_data := ok_law_data S_law_data C_law_next C_law_number z_range z_len z_int z_min z_max
  have C_law_numbers_in : Cal RL.prog w K mg base 1 "_law_numbers_in" ["_law_kinds"] f_law_numbers_in := ok_law_numbers_in S_law_numbers_in z_range z_min z_len
  have C_law_reach : Cal RL.prog w K mg base 3 "_law_reach" ["_law_pen", "_law_name", "_law_spot"] f_law_reach := ok_law_reach S_law_reach C_law_next
  have C_law_on_data : Cal RL.prog w K mg base 4 "_law_on_data" ["_law_pen", "_law_plan", "_law_way"] f_law_on_data := ok_law_on_data S_law_on_data C_law_next C_law_numbers_in C_law_reach C_law_number z_sorted z_len
  have C_law_by_places : Cal RL.prog w K mg base 4 "_law_by_places" ["_law_pen", "_law_plan", "_law_number_of"] f_law_by_places := ok_law_by_places S_law_by_places C_law_next C_law_reach z_sorted z_range z_min z_len
  have C_law_snippet : Cal RL.prog w K mg base 5 "_law_snippet" ["_law_pen", "_law_plan", "_law_number_of", "_law_label"] f_law_snippet := ok_law_snippet S_law_snippet C_law_next C_law_on_data C_law_by_places C_law_number z_len
  have C_law_code : Cal RL.prog w K mg base 6 "_law_code" ["_law_pen", "_law_plan", "_law_number_of", "_law_prefix"] f_law_code := ok_law_code S_law_code C_law_next C_law_snippet z_range z_str z_len z_int
  have C_law_put : Cal RL.prog w K mg base 7 "_law_put" ["_law_pen", "_law_part", "_law_kind", "_law_items", "_law_symbols"] f_law_put := ok_law_put S_law_put C_law_next z_range z_len z_int z_sum
  have C_law_put_datas : Cal RL.prog w K mg base 8 "_law_put_datas" ["_law_pen", "_law_parts", "_law_functions", "_law_datas", "_law_maybes"] f_law_put_datas := ok_law_put_datas S_law_put_datas C_law_data C_law_next C_law_put C_law_number z_len z_int
  have C_law_put_commons : Cal RL.prog w K mg base 3 "_law_put_commons" ["_law_pen", "_law_parts", "_law_stem", "_law_kinds"] f_law_put_commons := ok_law_put_commons S_law_put_commons C_law_next z_range z_len z_int z_max
  have Citem_length : Cal RL.prog w K mg base 1 "item_length" ["item"] fitem_length := okitem_length Sitem_length
  have Clength : Cal RL.prog w K mg base 2 "length" ["section"] flength := oklength Slength Citem_length z_sum
  have C_law_random_piece : Cal RL.prog w K mg base 3 "_law_random_piece" ["_law_pen"] f_law_random_piece := ok_law_random_piece S_law_random_piece C_law_next z_range z_int z_len z_tuple
  have C_law_closed : Cal RL.prog w K mg base 2 "_law_closed" ["_law_parts", "_law_stem", "_law_maybes", "_law_by"] f_law_closed := ok_law_closed S_law_closed TB inT z_range z_len z_tuple z_str z_sorted
  have C_law_pieces : Cal RL.prog w K mg base 10 "_law_pieces" ["_law_pen"] f_law_pieces := ok_law_pieces S_law_pieces C_law_next C_law_put_datas C_law_put_commons C_law_code C_law_put C_law_closed z_range z_str z_len z_sorted
  have Cnamed_by : Cal RL.prog w K mg base 1 "named_by" ["section"] fnamed_by := oknamed_by Snamed_by gNP tNP
  have Cnamings : Cal RL.prog w K mg base 2 "namings" ["piece"] fnamings := oknamings Snamings Cnamed_by
  have Casked : CalO RL.prog w K mg base 3 "asked" ["piece"] fasked := okasked Sasked Cnamings z_set z_sorted
  have C_law_asked_here : Cal RL.prog w K mg base 1 "_law_asked_here" ["_law_piece"] f_law_asked_here := ok_law_asked_here S_law_asked_here z_sorted
  exact oklaw (fun_of Flaw) Clength C_law_pieces C_law_random_piece Casked C_law_asked_here z_range z_isinstance z_list z_len z_bool
end LK
open PySem PySem.W PySem.Calls PyProof.Rows
theorem PySem.Challenge.cw_weldmill_k02_names_asked_and_lengths_holds : PySem.Challenge.rw_weldmill_k02_names_asked_and_lengths.Holds := by
  w_on; o_law
  refine HandSHeadRun.head_any (r := LK.RR) (q := view LK.RR.prog [25]) (H := LK.hk) (ob := LK.ob) (M := 6000) (loose := LK.loose) (d := HandSHeadRun.topDef LK.RR.prog 25) (kwd := []) LK.ob_eq
    (by kernel_rfl) (fun s => by kernel_rfl) LK.run (by kernel_rfl) (by kernel_rfl) (by kernel_rfl) (by rfl) (by first | assumption | decide +kernel) (by decide +kernel) ⟨rfl, rfl, rfl, rfl, rfl, by decide +kernel⟩ ?hw ?hc
  case hw => w_witness2
  case hc =>
    refine LamX.walk_ofTsE (l := LK.RL) (n := 63) (k := 11) (x := "script") (CX := fun _ => L2.CX0) rfl (by decide) (by kernel_rfl) ⟨rfl, by decide, by decide⟩ ?F (fun _ _ _ _ _ z => z)
    intro w mg fa h Y G hmg0
    obtain ⟨K, KX, c⟩ := Y
    have hmg : mg ("law" : PySem.Str) = some (.ref fa) := by
      have e : (HandSHeadRun.topDef LK.RR.prog 25).name = ("law" : PySem.Str) := by kernel_rfl
      rw [← e]
      exact hmg0
    exact ⟨K, KX, LK.facts KX G hmg c⟩

import PyProof.Rows.All
import Wide.All
import OpenK.AllK
import Wide.FinOn
import HandS.ForMost
import HandS.Spec
import KE.KeyNested
import KE.KDictPairs
import HandS.Lambda
import HandS.EndTab
import HandS.Zip
import HandS.Conv
import HandS.IsInst
import HandS.Deep
import HandS.TupAny
import HandS.TupMul
import HandS.Wide
import KE.DataCmp
import KE.DataMinMax
import HandS.Sort
import PyProof.EnumMake
import KE.GoesMore
import PyProof.Draws
import HandS.Text
import HandS.Style
import PyProof.SeqIndex
import HandS.More
import HandS.SortInts
import HandS.TupSets
import HandS.Ends
import PyProof.ReprRoads
import HandS.Replace
import KE.KRevSl
import KE.KDictZip
import HandS.Zip0
import HandS.ListItems
import KE.KDictDisplayH
import PyProof.StrBlock2
import HandS.SetFor
import HandS.CallLocal
import KE.KDictCopyH
import PyProof.ReprLen
import PyProof.Rows.ReprShort
import HandS.TupLe
import HandS.Iter
import HandS.Defaults
import KE.KTupSum
import HandS.Nested
import HandS.EndOwn
import KE.KDictWalk
import HandS.DictComp
import KE.SortCalls
import KE.SortData
import HandS.Strs
import HandS.Star
import KE.GoesEnumKw
import HandS.SortKw
import KE.KDictLaws
import HandS.RaiseMore
import PySem.Challenge.RW_tumblemarks_k39_watched_cells
section
set_option linter.all false
set_option autoImplicit false
set_option Elab.async false
namespace T3
open PySem L2

inductive Md where | own | bor | fro
  deriving DecidableEq
inductive Ct where
  | ls (xs : List PyData)
  | dk (kvs : List (Key × PyData))
  | dn (kvs : List (NestedKey × PyData))
inductive S where
  | pd (x : PyData)
  | nt (xs : List PyData)
  | mu (m : Md) (c : Ct)
inductive R where
  | pd (x : PyData)
  | nt (xs : List PyData)
  | tmp (c : Ct)
  | var (i : Nat)
abbrev Sl := List (Option S)
abbrev Mset := Addr → Prop

def Imm : HO → Prop
  | .tup _ => True
  | .frz _ _ => True
  | _ => False
def NT (o : HO) : Prop := ∀ ps, o ≠ .tbl ps
class TabL where
  l : List (Addr × Str)
instance (priority := low) TabL.no : TabL := ⟨[]⟩
variable [TabL]

def FnK (K : PySem.W.Frag) (nm : Str) (a : Addr) : Prop := PySem.W.nsIn K mainGlobals nm = some (some (.ref a))
abbrev fnV (nm : Str) : PyData := .dict [(.str nm, .none)]
abbrev ntD (xs : List PyData) : PyData := .dict [(.bool true, .tuple xs)]
abbrev lamD (f c a : Addr) (q : Str) (xs : List PyData) : PyData := .dict [(.int (f : Nat), .none), (.int (c : Nat), .none), (.str q, .none), (.int (a : Nat), .tuple xs)]
def NkOk (k : NestedKey) : Prop := k.depth ≤ 8 ∧ (∀ w w', NestedKey.hash w k = NestedKey.hash w' k) ∧ ∃ ks, k = .tup ks
structure DEs where
  o : Obj
  ep : Nat
  es : List DictEntry
def DnO (a : Addr) (z : DEs) : HO := .ext fun h => (a == sysModules) = false ∧ z.es.length ≤ sizeLine ∧ h.get? a = some z.o ∧ z.o.ExactDict ∧ z.o.data = .dict z.es.toArray z.ep
abbrev dcD (kvs : List (NestedKey × PyData)) : PyData := .dict ((.list [], .none) :: kvs.map fun q => (q.1.data, q.2))
def keyD : Key → PyData
  | .inl i => .int i
  | .inr x => .str x
abbrev dkD (kvs : List (Key × PyData)) : PyData := .dict ((.list [.none], .none) :: kvs.map fun q => (keyD q.1, q.2))
inductive Dn4 : List DictEntry → List V → List V → List NestedKey → Prop
  | nil : Dn4 [] [] [] []
  | cons {e : DictEntry} {es : List DictEntry} {b : Addr} {v : V} {ks vs : List V} {n : NestedKey} {ns : List NestedKey} : NkOk n → (∀ w, NestedKey.hash w n = e.hash) → e.key = .ref b → RelV v e.val → Dn4 es ks vs ns → Dn4 (e :: es) (.ref b :: ks) (v :: vs) (n :: ns)
mutual
inductive Rp (K : PySem.W.Frag) (B : Mset) (H : Hp) : V → PyData → Prop
  | non : Rp K B H .non .none
  | bl (b : Bool) : Rp K B H (.bl b) (.bool b)
  | int (i : Int) : Rp K B H (.int i) (.int i)
  | str (x : Str) : Rp K B H (.str x) (.str x)
  | tup {a : Addr} {xs : List V} {ds : List PyData} : SqT K H a xs → RpA K B H xs ds → Rp K B H (.ref a) (.tuple ds)
  | lst {a : Addr} {xs : List V} {ds : List PyData} : H a = some (.lst xs) → ¬ B a → RpA K B H xs ds → Rp K B H (.ref a) (.list ds)
  | frz {a : Addr} {o : Obj} {xs : List V} {ds : List PyData} : H a = some (.frz o (.lst xs)) → RpA K B H xs ds → Rp K B H (.ref a) (.list ds)
  | kls {a : Addr} {o : Obj} {its : Array Value} {n : Nat} {xs : List V} {ds : List PyData} : K.lookup a = some o → o.cls = .type "list" → o.dict = none → o.data = .seq its n → its.size ≤ sizeLine → Vals xs its.toList → RpA K B H xs ds → Rp K B H (.ref a) (.list ds)
  | fn {a : Addr} {nm : Str} : FnK K nm a → Rp K B H (.ref a) (fnV nm)
  | ntp {a : Addr} {o : Obj} {vs : List V} {xs : List PyData} : H a = some (.frz o (.tup vs)) → o.dict = none → RpA K B H vs xs → Rp K B H (.ref a) (ntD xs)
  | lam {f c a : Addr} {q : Str} {o : Obj} {vs : List V} {xs : List PyData} : H c = some (LamX.CodeO c q) → ¬ B c → H a = some (.frz o (.tup vs)) → o.dict = none → RpA K B H vs xs → Rp K B H (.ref f) (lamD f c a q xs)
  | dct {a : Addr} {z : DEs} {ks vs : List V} {kvs : List (NestedKey × PyData)} : H a = some (DnO a z) → ¬ B a → Dn4 z.es ks vs (kvs.map (·.1)) → (kvs.map (·.1)).Nodup → RpA K B H ks (kvs.map fun q => q.1.data) → RpA K B H vs (kvs.map (·.2)) → Rp K B H (.ref a) (dcD kvs)
  | dck {a : Addr} {ws : List (Key × V)} {kvs : List (Key × PyData)} : H a = some (.dK ws) → ¬ B a → ws.map (·.1) = kvs.map (·.1) → RpA K B H (ws.map (·.2)) (kvs.map (·.2)) → Rp K B H (.ref a) (dkD kvs)
inductive RpA (K : PySem.W.Frag) (B : Mset) (H : Hp) : List V → List PyData → Prop
  | nil : RpA K B H [] []
  | cons {v : V} {vs : List V} {d : PyData} {ds : List PyData} : Rp K B H v d → RpA K B H vs ds → RpA K B H (v :: vs) (d :: ds)
end

structure Grow (B : Mset) (H : Hp) (B' : Mset) (H' : Hp) : Prop where
  keep : ∀ a o, H a = some o → (¬ B a ∧ NT o ∨ Imm o) → H' a = some o
  new : ∀ a, B' a → B a ∨ H a = none

theorem SqT.grow {K : PySem.W.Frag} {B B' : Mset} {H H' : Hp} (g : Grow B H B' H') {a : Addr} {xs : List V} (h : SqT K H a xs) : SqT K H' a xs := by
  rcases h with (h | ⟨o, h⟩) | h
  · exact .inl (.inl (g.keep _ _ h (.inr trivial)))
  · exact .inl (.inr ⟨o, g.keep _ _ h (.inr trivial)⟩)
  · exact .inr h

mutual
theorem Rp.grow {K : PySem.W.Frag} {B B' : Mset} {H H' : Hp} (g : Grow B H B' H') : ∀ {v : V} {d : PyData}, Rp K B H v d → Rp K B' H' v d
  | _, _, .non => .non
  | _, _, .bl b => .bl b
  | _, _, .int i => .int i
  | _, _, .str x => .str x
  | _, _, .tup h r => .tup (SqT.grow g h) (RpA.grow g r)
  | _, _, .lst h nb r => .lst (g.keep _ _ h (.inl ⟨nb, fun _ z => nomatch z⟩)) (fun q => by
      rcases g.new _ q with q | q
      · exact nb q
      · rw [h] at q; cases q) (RpA.grow g r)
  | _, _, .frz h r => .frz (g.keep _ _ h (.inr trivial)) (RpA.grow g r)
  | _, _, .kls h1 h2 h3 h4 h5 h6 r => .kls h1 h2 h3 h4 h5 h6 (RpA.grow g r)
  | _, _, .fn h => .fn h
  | _, _, .ntp h1 h2 r => .ntp (g.keep _ _ h1 (.inr trivial)) h2 (RpA.grow g r)
  | _, _, .lam h1 nb h2 h3 r => .lam (g.keep _ _ h1 (.inl ⟨nb, LamX.codeO_ne⟩)) (fun q => by
      rcases g.new _ q with q | q
      · exact nb q
      · rw [h1] at q; cases q) (g.keep _ _ h2 (.inr trivial)) h3 (RpA.grow g r)
  | _, _, .dct h nb h4 nd r1 r2 => .dct (g.keep _ _ h (.inl ⟨nb, fun _ z => nomatch z⟩)) (fun q => by
      rcases g.new _ q with q | q
      · exact nb q
      · rw [h] at q; cases q) h4 nd (RpA.grow g r1) (RpA.grow g r2)
  | _, _, .dck h nb hk r => .dck (g.keep _ _ h (.inl ⟨nb, fun _ z => nomatch z⟩)) (fun q => by
      rcases g.new _ q with q | q
      · exact nb q
      · rw [h] at q; cases q) hk (RpA.grow g r)
theorem RpA.grow {K : PySem.W.Frag} {B B' : Mset} {H H' : Hp} (g : Grow B H B' H') : ∀ {vs : List V} {ds : List PyData}, RpA K B H vs ds → RpA K B' H' vs ds
  | _, _, .nil => .nil
  | _, _, .cons h r => .cons (Rp.grow g h) (RpA.grow g r)
end

theorem RpA.length {K : PySem.W.Frag} {B : Mset} {H : Hp} : ∀ {vs : List V} {ds : List PyData}, RpA K B H vs ds → vs.length = ds.length
  | _, _, .nil => rfl
  | _, _, .cons _ r => by simp [RpA.length r]
theorem RpA.get {K : PySem.W.Frag} {B : Mset} {H : Hp} : ∀ {vs : List V} {ds : List PyData} {i : Nat} {d : PyData}, RpA K B H vs ds → ds[i]? = some d → ∃ v, vs[i]? = some v ∧ Rp K B H v d
  | _, _, _, _, .nil, e => by simp at e
  | _, _, 0, _, .cons h _, e => by simp at e; subst e; exact ⟨_, rfl, h⟩
  | _, _, i + 1, d, .cons _ r, e => by
    obtain ⟨v, h1, h2⟩ := RpA.get (i := i) (d := d) r (by simpa using e)
    exact ⟨v, by simpa using h1, h2⟩
theorem RpA.getV {K : PySem.W.Frag} {B : Mset} {H : Hp} : ∀ {vs : List V} {ds : List PyData} {i : Nat} {v : V}, RpA K B H vs ds → vs[i]? = some v → ∃ d, ds[i]? = some d ∧ Rp K B H v d
  | _, _, _, _, .nil, e => by simp at e
  | _, _, 0, _, .cons h _, e => by simp at e; subst e; exact ⟨_, rfl, h⟩
  | _, _, i + 1, d, .cons _ r, e => by
    obtain ⟨v, h1, h2⟩ := RpA.getV (i := i) (v := d) r (by simpa using e)
    exact ⟨v, by simpa using h1, h2⟩
theorem RpA.append {K : PySem.W.Frag} {B : Mset} {H : Hp} : ∀ {vs ws : List V} {ds es : List PyData}, RpA K B H vs ds → RpA K B H ws es → RpA K B H (vs ++ ws) (ds ++ es)
  | _, _, _, _, .nil, q => q
  | _, _, _, _, .cons h r, q => .cons h (RpA.append r q)
theorem RpA.take {K : PySem.W.Frag} {B : Mset} {H : Hp} : ∀ {vs : List V} {ds : List PyData} (n : Nat), RpA K B H vs ds → RpA K B H (vs.take n) (ds.take n)
  | _, _, 0, _ => .nil
  | _, _, _ + 1, .nil => .nil
  | _, _, n + 1, .cons h r => .cons h (RpA.take n r)
theorem RpA.drop {K : PySem.W.Frag} {B : Mset} {H : Hp} : ∀ {vs : List V} {ds : List PyData} (n : Nat), RpA K B H vs ds → RpA K B H (vs.drop n) (ds.drop n)
  | _, _, 0, q => q
  | _, _, _ + 1, .nil => .nil
  | _, _, n + 1, .cons h r => RpA.drop n r
theorem RpA.set {K : PySem.W.Frag} {B : Mset} {H : Hp} {v : V} {d : PyData} (q : Rp K B H v d) : ∀ {vs : List V} {ds : List PyData} (n : Nat), RpA K B H vs ds → RpA K B H (vs.set n v) (ds.set n d)
  | _, _, _, .nil => .nil
  | _, _, 0, .cons _ r => .cons q r
  | _, _, n + 1, .cons h r => .cons h (RpA.set q n r)
theorem RpA.ints {K : PySem.W.Frag} {B : Mset} {H : Hp} : ∀ {vs : List V} {ns : List Int}, RpA K B H vs (ns.map .int) → vs = ns.map V.int
  | _, [], .nil => rfl
  | _, n :: ns, .cons h r => by
    cases h
    rw [RpA.ints r]
    rfl
theorem RpA.of_ints {K : PySem.W.Frag} {B : Mset} {H : Hp} : ∀ (ns : List Int), RpA K B H (ns.map V.int) (ns.map .int)
  | [] => .nil
  | n :: ns => .cons (.int n) (RpA.of_ints ns)
theorem RpA.bls {K : PySem.W.Frag} {B : Mset} {H : Hp} : ∀ {vs : List V} {ns : List Bool}, RpA K B H vs (ns.map .bool) → vs = ns.map V.bl
  | _, [], .nil => rfl
  | _, n :: ns, .cons h r => by
    cases h
    rw [RpA.bls r]
    rfl
theorem RpA.strs {K : PySem.W.Frag} {B : Mset} {H : Hp} : ∀ {vs : List V} {ns : List Str}, RpA K B H vs (ns.map .str) → vs = ns.map V.str
  | _, [], .nil => rfl
  | _, n :: ns, .cons h r => by
    cases h
    rw [RpA.strs r]
    rfl


mutual
theorem Rp.dp0 {K : PySem.W.Frag} {B : Mset} {H : Hp} : ∀ {v : V} {d : PyData}, Rp K B H v d → d.canLay0 = true → Dp K H v d
  | _, _, .non, _ => .non
  | _, _, .bl b, _ => .bl b
  | _, _, .int i, _ => .int i
  | _, _, .str x, _ => .str x
  | _, _, .tup h r, l => .tup h (RpA.dp0 r (by simpa [PyData.canLay0] using l))
  | _, _, .lst h _ r, l => .lst (.inl (.inl h)) (RpA.dp0 r (by simpa [PyData.canLay0] using l))
  | _, _, .frz h r, l => .lst (.inl (.inr ⟨_, h⟩)) (RpA.dp0 r (by simpa [PyData.canLay0] using l))
  | _, _, .kls h1 h2 h3 h4 h5 h6 r, l => .lst (.inr ⟨_, _, _, h1, h2, h3, h4, h5, h6⟩) (RpA.dp0 r (by simpa [PyData.canLay0] using l))
  | _, _, .fn _, l => by simp [PyData.canLay0] at l
  | _, _, .ntp _ _ _, l => by simp [PyData.canLay0] at l
  | _, _, .lam _ _ _ _ _, l => by simp [PyData.canLay0] at l
  | _, _, .dct _ _ _ _ _ _, l => by simp [PyData.canLay0] at l
  | _, _, .dck _ _ _ _, l => by simp [PyData.canLay0] at l
theorem RpA.dp0 {K : PySem.W.Frag} {B : Mset} {H : Hp} : ∀ {vs : List V} {ds : List PyData}, RpA K B H vs ds → PyData.canLayAll0 ds = true → DpAll K H vs ds
  | _, _, .nil, _ => .nil
  | _, _, .cons h r, l => .cons (Rp.dp0 h (by simp [PyData.canLayAll0] at l; exact l.1)) (RpA.dp0 r (by simp [PyData.canLayAll0] at l; exact l.2))
end

def KvR (K : PySem.W.Frag) (B : Mset) (H : Hp) : List (Key × V) → List (Key × PyData) → Prop := Paired fun p q => p.1 = q.1 ∧ Rp K B H p.2 q.2
def DnE (K : PySem.W.Frag) (B : Mset) (H : Hp) (e : DictEntry) (q : NestedKey × PyData) : Prop :=
  NkOk q.1 ∧ (∀ w, NestedKey.hash w q.1 = e.hash) ∧ (∃ b, e.key = .ref b ∧ Rp K B H (.ref b) q.1.data) ∧ ∃ v, RelV v e.val ∧ Rp K B H v q.2
structure DnR (K : PySem.W.Frag) (B : Mset) (H : Hp) (es : DEs) (kvs : List (NestedKey × PyData)) : Prop where
  ent : Paired (DnE K B H) es.es kvs
  nd : (kvs.map (·.1)).Nodup
theorem DnR.grow {K : PySem.W.Frag} {B B' : Mset} {H H' : Hp} (g : Grow B H B' H') {es : DEs} {kvs : List (NestedKey × PyData)} (h : DnR K B H es kvs) : DnR K B' H' es kvs :=
  ⟨Paired.mapP h.ent fun _ _ ⟨a, b, ⟨c, d, e⟩, v, f, x⟩ => ⟨a, b, ⟨c, d, e.grow g⟩, v, f, x.grow g⟩, h.nd⟩
def CtR (K : PySem.W.Frag) (B : Mset) (H : Hp) (a : Addr) : Ct → Prop
  | .ls xs => ∃ vs, H a = some (.lst vs) ∧ RpA K B H vs xs
  | .dk kvs => ∃ ws, H a = some (.dK ws) ∧ KvR K B H ws kvs
  | .dn kvs => ∃ es, H a = some (DnO a es) ∧ DnR K B H es kvs

theorem dn_split {K : PySem.W.Frag} {B : Mset} {H : Hp} : ∀ {es : List DictEntry} {kvs : List (NestedKey × PyData)}, Paired (DnE K B H) es kvs → ∃ ks vs, Dn4 es ks vs (kvs.map (·.1)) ∧ RpA K B H ks (kvs.map fun q => q.1.data) ∧ RpA K B H vs (kvs.map (·.2))
  | _, _, .nil => ⟨[], [], .nil, .nil, .nil⟩
  | _, _, .cons ⟨h1, h2, ⟨b, h3, h4⟩, v, h5, h6⟩ t => by
    obtain ⟨ks, vs, a1, a2, a3⟩ := dn_split t
    exact ⟨.ref b :: ks, v :: vs, .cons h1 h2 h3 h5 a1, .cons h4 a2, .cons h6 a3⟩
theorem dn_join {K : PySem.W.Frag} {B : Mset} {H : Hp} : ∀ {es : List DictEntry} {ks vs : List V} {kvs : List (NestedKey × PyData)}, Dn4 es ks vs (kvs.map (·.1)) → RpA K B H ks (kvs.map fun q => q.1.data) → RpA K B H vs (kvs.map (·.2)) → Paired (DnE K B H) es kvs
  | es, ks, vs, [], h, _, _ => by
    simp only [List.map_nil] at h
    cases h
    exact .nil
  | es, ks, vs, q :: kvs, h, r1, r2 => by
    simp only [List.map_cons] at h r1 r2
    cases h with
    | cons h1 h2 h3 h4 t =>
      cases r1 with
      | cons k1 k2 =>
        cases r2 with
        | cons v1 v2 => exact .cons ⟨h1, h2, ⟨_, h3, k1⟩, _, h4, v1⟩ (dn_join t k2 v2)
theorem kv_split {K : PySem.W.Frag} {B : Mset} {H : Hp} : ∀ {ws : List (Key × V)} {kvs : List (Key × PyData)}, KvR K B H ws kvs → ws.map (·.1) = kvs.map (·.1) ∧ RpA K B H (ws.map (·.2)) (kvs.map (·.2))
  | _, _, .nil => ⟨rfl, .nil⟩
  | _, _, .cons ⟨h1, h2⟩ t => by
    obtain ⟨a, b⟩ := kv_split t
    exact ⟨by simp [h1, a], .cons h2 b⟩
theorem kv_join {K : PySem.W.Frag} {B : Mset} {H : Hp} : ∀ {ws : List (Key × V)} {kvs : List (Key × PyData)}, ws.map (·.1) = kvs.map (·.1) → RpA K B H (ws.map (·.2)) (kvs.map (·.2)) → KvR K B H ws kvs
  | [], [], _, _ => .nil
  | [], _ :: _, h, _ => by simp at h
  | _ :: _, [], h, _ => by simp at h
  | w :: ws, q :: kvs, h, r => by
    simp only [List.map_cons, List.cons.injEq] at h r
    cases r with
    | cons r1 r2 => exact .cons ⟨h.1, r1⟩ (kv_join h.2 r2)
theorem CtR.hop {K : PySem.W.Frag} {B B' : Mset} {H H' : Hp} {a : Addr} {c : Ct} (h : CtR K B H a c) (g : Grow B H B' H') (k : ∀ o, H a = some o → H' a = some o) : CtR K B' H' a c := by
  cases c with
  | ls zs => obtain ⟨ws, h1, h2⟩ := h; exact ⟨ws, k _ h1, h2.grow g⟩
  | dk kvs => obtain ⟨ws, h1, h2⟩ := h; exact ⟨ws, k _ h1, Paired.mapP h2 fun _ _ q => ⟨q.1, q.2.grow g⟩⟩
  | dn kvs => obtain ⟨ws, h1, h2⟩ := h; exact ⟨ws, k _ h1, h2.grow g⟩
def ctD : Ct → PyData
  | .ls xs => .list xs
  | .dk kvs => dkD kvs
  | .dn kvs => dcD kvs
theorem CtR.rp {K : PySem.W.Frag} {B : Mset} {H : Hp} {a : Addr} {c : Ct} (h : CtR K B H a c) (nb : ¬ B a) : Rp K B H (.ref a) (ctD c) := by
  cases c with
  | ls xs => obtain ⟨vs, h1, h2⟩ := h; exact .lst h1 nb h2
  | dk kvs => obtain ⟨ws, h1, h2⟩ := h; obtain ⟨a, b⟩ := kv_split h2; exact .dck h1 nb a b
  | dn kvs => obtain ⟨es, h1, h2⟩ := h; obtain ⟨ks, vs, x, y, z⟩ := dn_split h2.ent; exact .dct h1 nb x h2.nd y z

def NtR (K : PySem.W.Frag) (B : Mset) (H : Hp) (a : Addr) (xs : List PyData) : Prop := ∃ o vs, H a = some (.frz o (.tup vs)) ∧ o.dict = none ∧ RpA K B H vs xs
theorem NtR.grow {K : PySem.W.Frag} {B B' : Mset} {H H' : Hp} (g : Grow B H B' H') {a : Addr} {xs : List PyData} (h : NtR K B H a xs) : NtR K B' H' a xs := by
  obtain ⟨o, vs, h1, h2, h3⟩ := h
  exact ⟨o, vs, g.keep _ _ h1 (.inr trivial), h2, h3.grow g⟩
theorem NtR.rp {K : PySem.W.Frag} {B : Mset} {H : Hp} {a : Addr} {xs : List PyData} (h : NtR K B H a xs) : Rp K B H (.ref a) (.tuple xs) := by
  obtain ⟨o, vs, h1, h2, h3⟩ := h
  exact .tup (.inl (.inr ⟨o, h1⟩)) h3
def Wof (σ : St) (env : Sl) : Mset := fun a => ∃ (i : Nat) (m : Md) (c : Ct), env[i]? = some (some (.mu m c)) ∧ m ≠ .fro ∧ σ[i]? = some (some (.ref a))

def TbB (B : Mset) (H : Hp) : Prop := ∀ p ∈ TabL.l, ∃ ps : Array Value, H p.1 = some (.tbl ps) ∧ ¬ B p.1 ∧ TriplesOk ps.toList ∧ ∀ (pos : Pos) (cv : Value), codeAmong pos ps.toList = some cv → ∃ c, cv = .ref c ∧ H c = some (LamX.CodeO c p.2) ∧ ¬ B c
theorem TbB.on {B B' : Mset} {H H' : Hp} (h : TbB B H) (k : ∀ a o, H a = some o → ¬ B a → H' a = some o) (n : ∀ a, B' a → B a ∨ H a = none) : TbB B' H' := fun p hp => by
  obtain ⟨ps, h1, h2, h3, h4⟩ := h p hp
  have nb : ∀ a o, H a = some o → ¬ B a → ¬ B' a := fun a o e q z => by
    rcases n a z with z | z
    · exact q z
    · rw [e] at z; cases z
  refine ⟨ps, k _ _ h1 h2, nb _ _ h1 h2, h3, fun pos cv hc => ?_⟩
  obtain ⟨c, e1, e2, e3⟩ := h4 pos cv hc
  exact ⟨c, e1, k _ _ e2 e3, nb _ _ e2 e3⟩
structure EnvR (K : PySem.W.Frag) (B : Mset) (H : Hp) (σ : St) (env : Sl) : Prop where
  len : env.length = σ.length
  pd : ∀ (i : Nat) x, env[i]? = some (some (.pd x)) → ∃ v, σ[i]? = some (some v) ∧ Rp K B H v x
  nt : ∀ (i : Nat) xs, env[i]? = some (some (.nt xs)) → ∃ a, σ[i]? = some (some (.ref a)) ∧ NtR K B H a xs
  mu : ∀ (i : Nat) m c, env[i]? = some (some (.mu m c)) → ∃ a, σ[i]? = some (some (.ref a)) ∧ B a ∧ CtR K B H a c
  inj : ∀ (i j : Nat) m n c d a, env[i]? = some (some (.mu m c)) → env[j]? = some (some (.mu n d)) → σ[i]? = some (some (.ref a)) → σ[j]? = some (some (.ref a)) → i = j
  dom : ∀ a, B a → ∃ o, H a = some o
  tb : TbB B H

structure Stp (W B : Mset) (H : Hp) (W' B' : Mset) (H' : Hp) : Prop where
  keep : ∀ a o, H a = some o → (¬ W a ∧ NT o ∨ Imm o) → H' a = some o
  new : ∀ a, B' a → B a ∨ H a = none
  old : ∀ a, B a → ¬ W a → B' a
  sub : ∀ a, W' a → W a ∨ H a = none
  liv : ∀ a, H' a = none → H a = none

theorem EnvR.wb {K : PySem.W.Frag} {B : Mset} {H : Hp} {σ : St} {env : Sl} (e : EnvR K B H σ env) : ∀ a, Wof σ env a → B a := by
  rintro a ⟨i, m, c, h1, _, h3⟩
  obtain ⟨a', h4, h5, _⟩ := e.mu i m c h1
  rw [h3] at h4
  cases h4
  exact h5

theorem Stp.grow {W B W' B' : Mset} {H H' : Hp} (s : Stp W B H W' B' H') (wb : ∀ a, W a → B a) : Grow B H B' H' :=
  ⟨fun a o h q => s.keep a o h (q.imp (fun n => ⟨fun w => n.1 (wb a w), n.2⟩) id), s.new⟩

theorem Stp.refl {W B : Mset} {H : Hp} : Stp W B H W B H := ⟨fun _ _ h _ => h, fun _ h => .inl h, fun _ h _ => h, fun _ h => .inl h, fun _ h => h⟩

theorem Stp.trans {W B W1 B1 W2 B2 : Mset} {H H1 H2 : Hp} (s : Stp W B H W1 B1 H1) (t : Stp W1 B1 H1 W2 B2 H2) (wb : ∀ a, W a → B a) (dom : ∀ a, B a → ∃ o, H a = some o) : Stp W B H W2 B2 H2 where
  keep a o h q := by
    refine t.keep a o (s.keep a o h q) ?_
    rcases q with q | q
    · refine .inl ⟨fun w => ?_, q.2⟩
      rcases s.sub a w with w | w
      · exact q.1 w
      · rw [h] at w; cases w
    · exact .inr q
  new a h := by
    rcases t.new a h with h | h
    · exact s.new a h
    · exact .inr (s.liv a h)
  old a h w := by
    refine t.old a (s.old a h w) fun w1 => ?_
    rcases s.sub a w1 with q | q
    · exact w q
    · obtain ⟨o, e⟩ := dom a h
      rw [e] at q; cases q
  sub a h := by
    rcases t.sub a h with h | h
    · exact s.sub a h
    · exact .inr (s.liv a h)
  liv a h := s.liv a (t.liv a h)

def RR (K : PySem.W.Frag) (H₀ : Hp) (B : Mset) (H : Hp) (σ : St) (env : Sl) (v : V) : R → Prop
  | .pd x => Rp K B H v x
  | .nt xs => ∃ a, v = .ref a ∧ NtR K B H a xs
  | .tmp c => ∃ a, v = .ref a ∧ H₀ a = none ∧ B a ∧ CtR K B H a c ∧ ∀ (i : Nat) m d, env[i]? = some (some (S.mu m d)) → σ[i]? ≠ some (some (V.ref a))
  | .var i => σ[i]? = some (some v) ∧ ∃ m c, env[i]? = some (some (.mu m c))

structure At (K : PySem.W.Frag) (σ : St) (B : Mset) (H : Hp) (env : Sl) (B' : Mset) (H' : Hp) (env' : Sl) : Prop where
  st : Stp (Wof σ env) B H (Wof σ env') B' H'
  en : EnvR K B' H' σ env'
  sm : ∀ (i : Nat) m c, env'[i]? = some (some (.mu m c)) → ∃ c', env[i]? = some (some (.mu m c'))
  ks : ∀ (i : Nat) m c, env[i]? = some (some (.mu m c)) → ∃ c', env'[i]? = some (some (.mu m c'))

abbrev EE := Sl → Option (R × Sl)
abbrev EA := Sl → Option (List R × Sl)

def tE (K : PySem.W.Frag) (f : EE) : TE := fun σ H Q => ∃ B env d env', EnvR K B H σ env ∧ f env = some (d, env') ∧
  ∀ B' H' v, At K σ B H env B' H' env' → RR K H B' H' σ env' v d → Q v H'

theorem PE.imp {X : Cx} {e : Expr} {t t' : TE} (h : PE X e t) (i : ∀ σ H Q, t' σ H Q → t σ H Q) : PE X e t' := ⟨fun pins s σ H Q I q => h.run pins s σ H Q I (i σ H Q q)⟩
theorem PS.imp {X : Cx} {e : Stmt} {t t' : TS} (h : PS X e t) (i : ∀ D σ H, t' D σ H → t D σ H) : PS X e t' := ⟨fun pins s σ H D I q => h.run pins s σ H D I (i D σ H q)⟩
theorem PSs.imp {X : Cx} {e : List Stmt} {t t' : TS} (h : PSs X e t) (i : ∀ D σ H, t' D σ H → t D σ H) : PSs X e t' := ⟨fun pins s σ H D I q => h.run pins s σ H D I (i D σ H q)⟩
theorem PT.imp {X : Cx} {e : Expr} {t t' : TT} (h : PT X e t) (i : ∀ σ H Q, t' σ H Q → t σ H Q) : PT X e t' := ⟨fun pins s σ H Q I q => h.run pins s σ H Q I (i σ H Q q)⟩
theorem PA.imp {X : Cx} {e : List Expr} {t t' : TA} (h : PA X e t) (i : ∀ σ H Q, t' σ H Q → t σ H Q) : PA X e t' := ⟨fun pos pins s σ H Q I q => h.run pos pins s σ H Q I (i σ H Q q)⟩

theorem At.refl {K : PySem.W.Frag} {σ : St} {B : Mset} {H : Hp} {env : Sl} (e : EnvR K B H σ env) : At K σ B H env B H env := ⟨.refl, e, fun _ _ c h => ⟨c, h⟩, fun _ _ c h => ⟨c, h⟩⟩
theorem At.trans {K : PySem.W.Frag} {σ : St} {B B1 B2 : Mset} {H H1 H2 : Hp} {env env1 env2 : Sl} (e : EnvR K B H σ env) (a : At K σ B H env B1 H1 env1) (b : At K σ B1 H1 env1 B2 H2 env2) : At K σ B H env B2 H2 env2 :=
  ⟨a.st.trans b.st e.wb e.dom, b.en, fun i m c h => let ⟨c1, h1⟩ := b.sm i m c h; a.sm i m c1 h1, fun i m c h => let ⟨c1, h1⟩ := a.ks i m c h; b.ks i m c1 h1⟩
theorem At.grow {K : PySem.W.Frag} {σ : St} {B B1 : Mset} {H H1 : Hp} {env env1 : Sl} (e : EnvR K B H σ env) (a : At K σ B H env B1 H1 env1) : Grow B H B1 H1 := a.st.grow e.wb

theorem KvR.grow {K : PySem.W.Frag} {B B' : Mset} {H H' : Hp} (g : Grow B H B' H') {ws : List (Key × V)} {kvs : List (Key × PyData)} (h : KvR K B H ws kvs) : KvR K B' H' ws kvs :=
  Paired.mapP h fun _ _ q => ⟨q.1, q.2.grow g⟩

theorem CtR.keep {K : PySem.W.Frag} {W B W' B' : Mset} {H H' : Hp} {a : Addr} {c : Ct} (h : CtR K B H a c) (s : Stp W B H W' B' H') (wb : ∀ a, W a → B a) (hw : ¬ W a) : CtR K B' H' a c := by
  cases c with
  | ls xs =>
    obtain ⟨vs, h1, h2⟩ := h
    exact ⟨vs, s.keep _ _ h1 (.inl ⟨hw, fun _ z => nomatch z⟩), h2.grow (s.grow wb)⟩
  | dk kvs =>
    obtain ⟨vs, h1, h2⟩ := h
    exact ⟨vs, s.keep _ _ h1 (.inl ⟨hw, fun _ z => nomatch z⟩), h2.grow (s.grow wb)⟩
  | dn kvs =>
    obtain ⟨vs, h1, h2⟩ := h
    exact ⟨vs, s.keep _ _ h1 (.inl ⟨hw, fun _ z => nomatch z⟩), h2.grow (s.grow wb)⟩

theorem RR.later {K : PySem.W.Frag} {H₀ : Hp} {σ : St} {B B1 : Mset} {H H1 : Hp} {env env1 : Sl} {v : V} {d : R} (e : EnvR K B H σ env) (a : At K σ B H env B1 H1 env1) (h : RR K H₀ B H σ env v d) (hd : ∀ i, d ≠ .var i) : RR K H₀ B1 H1 σ env1 v d := by
  cases d with
  | pd x => exact Rp.grow (a.grow e) h
  | nt xs => obtain ⟨p, e1, h1⟩ := h; exact ⟨p, e1, h1.grow (a.grow e)⟩
  | var i => exact absurd rfl (hd i)
  | tmp c =>
    obtain ⟨p, rfl, h0, hb, hc, hn⟩ := h
    have hw : ¬ Wof σ env p := by
      rintro ⟨i, m, c', h1, _, h3⟩
      exact hn i m c' h1 h3
    refine ⟨p, rfl, h0, a.st.old p hb hw, hc.keep a.st e.wb hw, fun i m d h1 h2 => ?_⟩
    obtain ⟨c', h3⟩ := a.sm i m d h1
    exact hn i m c' h3 h2
end T3

end
section
set_option linter.all false
set_option autoImplicit false
set_option Elab.async false
namespace T3
open PySem L2
variable [TabL]

def RA (K : PySem.W.Frag) (H₀ : Hp) (B : Mset) (H : Hp) (σ : St) (env : Sl) (v : V) : R → Prop
  | .pd x => Rp K B H v x
  | .nt xs => ∃ a, v = .ref a ∧ NtR K B H a xs
  | .tmp c => ∃ a, v = .ref a ∧ H₀ a = none ∧ B a ∧ CtR K B H a c ∧ ∀ (i : Nat) m d, env[i]? = some (some (S.mu m d)) → σ[i]? ≠ some (some (V.ref a))
  | .var i => σ[i]? = some (some v)
structure RRA (K : PySem.W.Frag) (H₀ : Hp) (B : Mset) (H : Hp) (σ : St) (env : Sl) (vs : List V) (ds : List R) : Prop where
  len : vs.length = ds.length
  each : ∀ (k : Nat) v d, vs[k]? = some v → ds[k]? = some d → RA K H₀ B H σ env v d
  apart : ∀ (k l : Nat) c c' v, k ≠ l → ds[k]? = some (.tmp c) → ds[l]? = some (.tmp c') → vs[k]? = some v → vs[l]? = some v → False

theorem RR.ra {K : PySem.W.Frag} {H₀ H : Hp} {B : Mset} {σ : St} {env : Sl} {v : V} {d : R} (h : RR K H₀ B H σ env v d) : RA K H₀ B H σ env v d := by
  cases d with
  | pd x => exact h
  | nt x => exact h
  | tmp c => exact h
  | var i => exact h.1
theorem RR.from {K : PySem.W.Frag} {H₀ H₁ H : Hp} {B : Mset} {σ : St} {env : Sl} {v : V} {d : R} (h : RR K H₁ B H σ env v d) (l : ∀ a, H₁ a = none → H₀ a = none) : RR K H₀ B H σ env v d := by
  cases d with
  | pd x => exact h
  | nt x => exact h
  | tmp c => obtain ⟨a, h1, h2, h3⟩ := h; exact ⟨a, h1, l a h2, h3⟩
  | var i => exact h
theorem RA.later {K : PySem.W.Frag} {H₀ : Hp} {σ : St} {B B1 : Mset} {H H1 : Hp} {env env1 : Sl} {v : V} {d : R} (e : EnvR K B H σ env) (a : At K σ B H env B1 H1 env1) (h : RA K H₀ B H σ env v d) : RA K H₀ B1 H1 σ env1 v d := by
  cases d with
  | pd x => exact RR.later (d := .pd x) (H₀ := H₀) e a h (fun _ => nofun)
  | nt x => exact RR.later (d := .nt x) (H₀ := H₀) e a h (fun _ => nofun)
  | var i => exact h
  | tmp c => exact RR.later (d := .tmp c) e a h (fun _ => nofun)

def tA (K : PySem.W.Frag) (f : EA) : TA := fun σ H Q => ∃ B env ds env', EnvR K B H σ env ∧ f env = some (ds, env') ∧
  ∀ B' H' vs, At K σ B H env B' H' env' → RRA K H B' H' σ env' vs ds → Q vs H'
def eNil : EA := fun env => some ([], env)
def eCons (fa : EE) (fr : EA) : EA := fun env => match fa env with
  | none => none
  | some (d, e1) => match fr e1 with
    | none => none
    | some (ds, e2) => some (d :: ds, e2)

theorem rd_cons {K : PySem.W.Frag} {fa : EE} {fr : EA} {σ : St} {H : Hp} {Q : List V → Hp → Prop} (h : tA K (eCons fa fr) σ H Q) : tCons (tE K fa) (tA K fr) σ H Q := by
  obtain ⟨B, env, ds, env', en, ev, q⟩ := h
  unfold eCons at ev
  split at ev
  · cases ev
  rename_i d e1 h1
  split at ev
  · cases ev
  rename_i ds1 e2 h2
  cases ev
  refine ⟨B, env, d, e1, en, h1, fun B1 H1 v a1 r1 => ⟨B1, e1, ds1, _, a1.en, h2, fun B2 H2 vs a2 r2 => q B2 H2 (v :: vs) (a1.trans en a2) ?_⟩⟩
  refine ⟨by simp [r2.len], fun k w d' hv hd => ?_, fun k l c c' w hkl hk hl vk vl => ?_⟩
  · cases k with
    | zero =>
      simp at hv hd
      subst hv hd
      exact (r1.ra).later a1.en a2
    | succ k =>
      have := r2.each k w d' (by simpa using hv) (by simpa using hd)
      cases d' with
      | pd x => exact this
      | nt x => exact this
      | var i => exact this
      | tmp c => obtain ⟨a, e1, e2, e3⟩ := this; exact ⟨a, e1, a1.st.liv a e2, e3⟩
  · have fresh : ∀ (k : Nat) c', ds1[k]? = some (.tmp c') → vs[k]? = some w → ∀ c, d = .tmp c → v = w → False := by
      intro kk c' gk gv c hd hw
      subst hd hw
      obtain ⟨a, rfl, _, ba, _, _⟩ := r1
      obtain ⟨a', e, h0, _⟩ := r2.each kk _ _ gv gk
      cases e
      obtain ⟨o, ho⟩ := a1.en.dom a ba
      rw [ho] at h0
      cases h0
    cases k with
    | zero =>
      cases l with
      | zero => exact hkl rfl
      | succ l => exact fresh l c' (by simpa using hl) (by simpa using vl) c (by simpa using hk) (by simpa using vk)
    | succ k =>
      cases l with
      | zero => exact fresh k c (by simpa using hk) (by simpa using vk) c' (by simpa using hl) (by simpa using vl)
      | succ l => exact r2.apart k l c c' w (by omega) (by simpa using hk) (by simpa using hl) (by simpa using vk) (by simpa using vl)
theorem rd_nil {K : PySem.W.Frag} {σ : St} {H : Hp} {Q : List V → Hp → Prop} (h : tA K eNil σ H Q) : tNil σ H Q := by
  obtain ⟨B, env, ds, env', en, ev, q⟩ := h
  cases ev
  exact q B H [] (.refl en) ⟨rfl, fun k v d h => by simp at h, fun k l c c' v _ h => by simp at h⟩

section
variable {X : Cx} {e : Expr} {es : List Expr} {K : PySem.W.Frag}
theorem a_nil : PA X [] (tA K eNil) := PA.imp pa_nil fun _ _ _ h => rd_nil h
theorem a_cons {fa : EE} {fr : EA} (ha : PE X e (tE K fa)) (hr : PA X es (tA K fr)) (hs : starEach (e :: es) X.env = (false, eval e X.env) :: starEach es X.env := by rfl) : PA X (e :: es) (tA K (eCons fa fr)) :=
  PA.imp (pa_cons ha hr hs) fun _ _ _ h => rd_cons h
end

def eVar (i : Nat) : EE := fun env => match env[i]? with
  | some (some (.pd x)) => some (.pd x, env)
  | some (some (.nt x)) => some (.nt x, env)
  | some (some (.mu _ _)) => some (.var i, env)
  | _ => none
def eC (x : PyData) : EE := fun env => some (.pd x, env)
theorem e_var {X : Cx} {e : Expr} {i : Nat} (h : PE X e (tVar i)) : PE X e (tE X.K (eVar i)) := PE.imp h fun σ H Q t => by
  obtain ⟨B, env, d, env', en, ev, q⟩ := t
  unfold eVar at ev
  split at ev
  · rename_i x hx
    cases ev
    obtain ⟨v, hv, r⟩ := en.pd _ _ hx
    exact ⟨v, hv, q B H v (.refl en) r⟩
  · rename_i x hx
    cases ev
    obtain ⟨a, hv, r⟩ := en.nt _ _ hx
    exact ⟨_, hv, q B H _ (.refl en) ⟨a, rfl, r⟩⟩
  · rename_i m c hx
    cases ev
    obtain ⟨a, hv, _, r⟩ := en.mu _ _ _ hx
    exact ⟨_, hv, q B H _ (.refl en) ⟨hv, _, _, hx⟩⟩
  · cases ev
theorem e_c {X : Cx} {e : Expr} {v : V} {x : PyData} (h : PE X e (tC v)) (r : ∀ B H, Rp X.K B H v x) : PE X e (tE X.K (eC x)) := PE.imp h fun σ H Q t => by
  obtain ⟨B, env, d, env', en, ev, q⟩ := t
  cases ev
  exact q B H v (.refl en) (r B H)

def ctn (env : Sl) : R → Option PyData
  | .pd x => some x
  | .nt xs => some (.tuple xs)
  | .tmp (.ls xs) => some (.list xs)
  | .tmp (.dk _) => none
  | .tmp (.dn _) => none
  | .var i => match env[i]? with
    | some (some (.mu _ (.ls xs))) => some (.list xs)
    | _ => none
def ctns (env : Sl) : List R → Option (List PyData)
  | [] => some []
  | d :: ds => match ctn env d with
    | none => none
    | some x => match ctns env ds with
      | none => none
      | some xs => some (x :: xs)
inductive Cn (K : PySem.W.Frag) (B : Mset) (H : Hp) : V → PyData → Prop
  | rp {v : V} {x : PyData} : Rp K B H v x → Cn K B H v x
  | ct {a : Addr} {vs : List V} {xs : List PyData} : H a = some (.lst vs) → RpA K B H vs xs → Cn K B H (.ref a) (.list xs)
inductive CnA (K : PySem.W.Frag) (B : Mset) (H : Hp) : List V → List PyData → Prop
  | nil : CnA K B H [] []
  | cons {v : V} {vs : List V} {d : PyData} {ds : List PyData} : Cn K B H v d → CnA K B H vs ds → CnA K B H (v :: vs) (d :: ds)
theorem Cn.of {K : PySem.W.Frag} {H₀ : Hp} {B : Mset} {H : Hp} {σ : St} {env : Sl} {v : V} {d : R} {x : PyData} (en : EnvR K B H σ env) (h : RA K H₀ B H σ env v d) (c : ctn env d = some x) : Cn K B H v x := by
  cases d with
  | pd y => cases c; exact .rp h
  | nt y => cases c; obtain ⟨a, rfl, h⟩ := h; exact .rp h.rp
  | tmp t =>
    cases t with
    | ls xs =>
      cases c
      obtain ⟨a, rfl, _, _, ⟨vs, h1, h2⟩, _⟩ := h
      exact .ct h1 h2
    | dk _ => cases c
    | dn _ => cases c
  | var i =>
    simp only [ctn] at c
    split at c
    · rename_i m xs hx
      cases c
      obtain ⟨a, h1, _, vs, h2, h3⟩ := en.mu _ _ _ hx
      have h : σ[i]? = some (some v) := h
      rw [h] at h1
      cases h1
      exact .ct h2 h3
    · cases c
theorem CnA.of {K : PySem.W.Frag} {H₀ : Hp} {B : Mset} {H : Hp} {σ : St} {env : Sl} (en : EnvR K B H σ env) : ∀ {vs : List V} {ds : List R} {xs : List PyData}, RRA K H₀ B H σ env vs ds → ctns env ds = some xs → CnA K B H vs xs
  | [], [], xs, _, c => by cases c; exact .nil
  | v :: vs, d :: ds, xs, r, c => by
    unfold ctns at c
    split at c
    · cases c
    rename_i x hx
    split at c
    · cases c
    rename_i ys hy
    cases c
    refine .cons (Cn.of en (r.each 0 v d rfl rfl) hx) (CnA.of en ⟨by have := r.len; simpa using this, fun k w e h1 h2 => r.each (k + 1) w e (by simpa using h1) (by simpa using h2), fun k l c c' w h0 h1 h2 h3 h4 => r.apart (k + 1) (l + 1) c c' w (by omega) (by simpa using h1) (by simpa using h2) (by simpa using h3) (by simpa using h4)⟩ hy)
  | [], _ :: _, _, r, _ => by have := r.len; simp at this
  | _ :: _, [], _, r, _ => by have := r.len; simp at this
theorem Cn.dp {K : PySem.W.Frag} {B : Mset} {H : Hp} {v : V} {x : PyData} (h : Cn K B H v x) (l : SeqAt.shaped x = true) : Dp K H v x := by
  have l0 : x.canLay0 = true := by
    unfold SeqAt.shaped at l
    rw [Bool.and_eq_true] at l
    exact l.1
  cases h with
  | rp h => exact h.dp0 l0
  | ct h r => exact .lst (.inl (.inl h)) (r.dp0 (by simpa [PyData.canLay0] using l0))
theorem Cn.list {K : PySem.W.Frag} {B : Mset} {H : Hp} {v : V} {xs : List PyData} (h : Cn K B H v (.list xs)) : ∃ a vs, v = .ref a ∧ SqL K H a vs ∧ RpA K B H vs xs := by
  cases h with
  | rp h =>
    cases h with
    | lst h _ r => exact ⟨_, _, rfl, .inl (.inl h), r⟩
    | frz h r => exact ⟨_, _, rfl, .inl (.inr ⟨_, h⟩), r⟩
    | kls h1 h2 h3 h4 h5 h6 r => exact ⟨_, _, rfl, .inr ⟨_, _, _, h1, h2, h3, h4, h5, h6⟩, r⟩
  | ct h r => exact ⟨_, _, rfl, .inl (.inl h), r⟩
theorem Cn.tuple {K : PySem.W.Frag} {B : Mset} {H : Hp} {v : V} {xs : List PyData} (h : Cn K B H v (.tuple xs)) : ∃ a vs, v = .ref a ∧ SqT K H a vs ∧ RpA K B H vs xs := by
  cases h with
  | rp h =>
    cases h with
    | tup h r => exact ⟨_, _, rfl, h, r⟩
theorem Cn.int {K : PySem.W.Frag} {B : Mset} {H : Hp} {v : V} {i : Int} (h : Cn K B H v (.int i)) : v = .int i := by
  cases h with
  | rp h => cases h; rfl
theorem Cn.str {K : PySem.W.Frag} {B : Mset} {H : Hp} {v : V} {i : Str} (h : Cn K B H v (.str i)) : v = .str i := by
  cases h with
  | rp h => cases h; rfl
theorem Cn.bool {K : PySem.W.Frag} {B : Mset} {H : Hp} {v : V} {i : Bool} (h : Cn K B H v (.bool i)) : v = .bl i := by
  cases h with
  | rp h => cases h; rfl
theorem Cn.none {K : PySem.W.Frag} {B : Mset} {H : Hp} {v : V} (h : Cn K B H v .none) : v = .non := by
  cases h with
  | rp h => cases h; rfl

theorem At.alloc {K : PySem.W.Frag} {σ : St} {B B1 : Mset} {H H1 : Hp} {env env1 : Sl} {p : Addr} (en : EnvR K B H σ env) (a : At K σ B H env B1 H1 env1) (np : H1 p = none) (o : HO) (mt : Prop) (fz : Mset)
    (hf : ∀ q, fz q → H q = none ∧ ∀ (i : Nat) m d, env1[i]? = some (some (S.mu m d)) → σ[i]? ≠ some (some (V.ref q))) :
    Grow B1 H1 (fun q => (B1 q ∧ ¬ fz q) ∨ (mt ∧ q = p)) (upd H1 p o) ∧ At K σ B H env (fun q => (B1 q ∧ ¬ fz q) ∨ (mt ∧ q = p)) (upd H1 p o) env1 := by
  have ne : ∀ {q o'}, H1 q = some o' → q ≠ p := fun {q o'} h e => by rw [e, np] at h; cases h
  have g : Grow B1 H1 (fun q => (B1 q ∧ ¬ fz q) ∨ (mt ∧ q = p)) (upd H1 p o) := ⟨fun q o' h _ => by rw [upd_ne (ne h)]; exact h, fun q h => by
    rcases h with h | h
    · exact .inl h.1
    · rw [h.2]; exact .inr np⟩
  refine ⟨g, ⟨fun q o' h c => ?_, fun q h => ?_, fun q h w => ?_, a.st.sub, fun q h => ?_⟩, ⟨a.en.len, fun i x h => ?_, fun i x h => ?_, fun i m c h => ?_, a.en.inj, fun q h => ?_, a.en.tb.on (fun q o' h _ => by rw [upd_ne (ne h)]; exact h) g.new⟩, a.sm, a.ks⟩
  · have h1 := a.st.keep q o' h c
    rw [upd_ne (ne h1)]; exact h1
  · rcases h with h | h
    · exact a.st.new q h.1
    · rw [h.2]; exact .inr (a.st.liv _ np)
  · refine .inl ⟨a.st.old q h w, fun f => ?_⟩
    obtain ⟨o', ho⟩ := en.dom q h
    rw [(hf q f).1] at ho; cases ho
  · by_cases e : q = p
    · rw [e]; exact a.st.liv _ np
    · rw [upd_ne e] at h; exact a.st.liv _ h
  · obtain ⟨v, h1, h2⟩ := a.en.pd i x h
    exact ⟨v, h1, h2.grow g⟩
  · obtain ⟨v, h1, h2⟩ := a.en.nt i x h
    exact ⟨v, h1, h2.grow g⟩
  · obtain ⟨q, h1, h2, h3⟩ := a.en.mu i m c h
    refine ⟨q, h1, .inl ⟨h2, fun f => (hf q f).2 i m c h h1⟩, ?_⟩
    cases c with
    | ls xs => obtain ⟨vs, h4, h5⟩ := h3; exact ⟨vs, by rw [upd_ne (ne h4)]; exact h4, h5.grow g⟩
    | dk xs => obtain ⟨vs, h4, h5⟩ := h3; exact ⟨vs, by rw [upd_ne (ne h4)]; exact h4, h5.grow g⟩
    | dn xs => obtain ⟨vs, h4, h5⟩ := h3; exact ⟨vs, by rw [upd_ne (ne h4)]; exact h4, h5.grow g⟩
  · rcases h with h | h
    · obtain ⟨o', ho⟩ := a.en.dom q h.1
      exact ⟨o', by rw [upd_ne (ne ho)]; exact ho⟩
    · rw [h.2]; exact ⟨o, upd_same⟩

abbrev KK := List R → Sl → Option (R × Sl)
def eThen (f : EA) (k : KK) : EE := fun env => match f env with
  | none => none
  | some (ds, e1) => k ds e1
def Con (K : PySem.W.Frag) (k : KK) (r : List V → Hp → VK → Prop) : Prop := ∀ σ H B env B1 H1 env1 vs ds d e2 Q, EnvR K B H σ env → At K σ B H env B1 H1 env1 → RRA K H B1 H1 σ env1 vs ds → k ds env1 = some (d, e2) →
  (∀ B' H' v, At K σ B H env B' H' e2 → RR K H B' H' σ e2 v d → Q v H') → r vs H1 Q
theorem rd_then {K : PySem.W.Frag} {f : EA} {k : KK} {r : List V → Hp → VK → Prop} (c : Con K k r) {σ : St} {H : Hp} {Q : VK} (h : tE K (eThen f k) σ H Q) : tA K f σ H (fun vs H1 => r vs H1 Q) := by
  obtain ⟨B, env, d, env', en, ev, q⟩ := h
  unfold eThen at ev
  split at ev
  · cases ev
  rename_i ds e1 h1
  exact ⟨B, env, ds, e1, en, h1, fun B1 H1 vs a1 r1 => c σ H B env B1 H1 e1 vs ds d env' Q en a1 r1 ev q⟩
def l2 (r : R2) : List V → Hp → VK → Prop := fun vs H Q => ∀ x y, vs = [x, y] → r x y H Q
def l1 (r : V → Hp → VK → Prop) : List V → Hp → VK → Prop := fun vs H Q => ∀ x, vs = [x] → r x H Q
def eTwo (fa fb : EE) : EA := eCons fa (eCons fb eNil)
def eOne (fa : EE) : EA := eCons fa eNil
theorem rd_two {K : PySem.W.Frag} {fa fb : EE} {k : KK} {r : R2} (c : Con K k (l2 r)) {σ : St} {H : Hp} {Q : VK} (h : tE K (eThen (eTwo fa fb) k) σ H Q) : tOp r (tE K fa) (tE K fb) σ H Q := by
  have h := rd_cons (rd_then c h)
  obtain ⟨B, env, d, env', en, ev, q⟩ := h
  refine ⟨B, env, d, env', en, ev, fun B1 H1 x a1 r1 => ?_⟩
  have h2 := rd_cons (q B1 H1 x a1 r1)
  obtain ⟨B, env, d, env', en, ev, q⟩ := h2
  refine ⟨B, env, d, env', en, ev, fun B2 H2 y a2 r2 => ?_⟩
  exact rd_nil (q B2 H2 y a2 r2) x y rfl
theorem rd_one {K : PySem.W.Frag} {fa : EE} {k : KK} {r : V → Hp → VK → Prop} (c : Con K k (l1 r)) {σ : St} {H : Hp} {Q : VK} (h : tE K (eThen (eOne fa) k) σ H Q) : tUn r (tE K fa) σ H Q := by
  have h := rd_cons (rd_then c h)
  obtain ⟨B, env, d, env', en, ev, q⟩ := h
  refine ⟨B, env, d, env', en, ev, fun B1 H1 x a1 r1 => ?_⟩
  exact rd_nil (q B1 H1 x a1 r1) x rfl

def kE (o : List PyData → Option PyData) : KK := fun ds env => match ctns env ds with
  | none => none
  | some xs => match o xs with
    | none => none
    | some z => some (.pd z, env)
def OkE (K : PySem.W.Frag) (o : List PyData → Option PyData) (r : List V → Hp → VK → Prop) : Prop := ∀ B H vs xs z Q, CnA K B H vs xs → o xs = some z → (∀ v, Rp K B H v z → Q v H) → r vs H Q
theorem con_E {K : PySem.W.Frag} {o : List PyData → Option PyData} {r : List V → Hp → VK → Prop} (h : OkE K o r) : Con K (kE o) r := by
  intro σ H B env B1 H1 env1 vs ds d e2 Q en a rr hk q
  unfold kE at hk
  split at hk
  · cases hk
  rename_i xs hx
  split at hk
  · cases hk
  rename_i z hz
  cases hk
  exact h B1 H1 vs xs z _ (CnA.of a.en rr hx) hz fun v hv => q B1 H1 v a hv
def kT (o : List PyData → Option (List PyData)) : KK := fun ds env => match ctns env ds with
  | none => none
  | some xs => match o xs with
    | none => none
    | some z => some (.pd (.tuple z), env)
def OkT (K : PySem.W.Frag) (o : List PyData → Option (List PyData)) (r : List V → Hp → VK → Prop) : Prop := ∀ B H vs xs z Q, CnA K B H vs xs → o xs = some z → (∀ v, Rp K B H v (.tuple z) → Q v H) → (∀ ws p, RpA K B H ws z → H p = none → Q (.ref p) (upd H p (.tup ws))) → r vs H Q
theorem con_T {K : PySem.W.Frag} {o : List PyData → Option (List PyData)} {r : List V → Hp → VK → Prop} (h : OkT K o r) : Con K (kT o) r := by
  intro σ H B env B1 H1 env1 vs ds d e2 Q en a rr hk q
  unfold kT at hk
  split at hk
  · cases hk
  rename_i xs hx
  split at hk
  · cases hk
  rename_i z hz
  cases hk
  refine h B1 H1 vs xs z _ (CnA.of a.en rr hx) hz (fun v hv => q B1 H1 v a hv) fun ws p hw np => ?_
  obtain ⟨g, a2⟩ := a.alloc en np (.tup ws) False (fun _ => False) (fun _ f => f.elim)
  exact q _ _ _ a2 (.tup (.inl (.inl upd_same)) (hw.grow g))
def kL (o : List PyData → Option (List PyData)) : KK := fun ds env => match ctns env ds with
  | none => none
  | some xs => match o xs with
    | none => none
    | some z => some (.tmp (.ls z), env)
def OkL (K : PySem.W.Frag) (o : List PyData → Option (List PyData)) (r : List V → Hp → VK → Prop) : Prop := ∀ B H vs xs z Q, CnA K B H vs xs → o xs = some z → (∀ ws p, RpA K B H ws z → H p = none → Q (.ref p) (upd H p (.lst ws))) → r vs H Q
theorem con_L {K : PySem.W.Frag} {o : List PyData → Option (List PyData)} {r : List V → Hp → VK → Prop} (h : OkL K o r) : Con K (kL o) r := by
  intro σ H B env B1 H1 env1 vs ds d e2 Q en a rr hk q
  unfold kL at hk
  split at hk
  · cases hk
  rename_i xs hx
  split at hk
  · cases hk
  rename_i z hz
  cases hk
  refine h B1 H1 vs xs z _ (CnA.of a.en rr hx) hz fun ws p hw np => ?_
  obtain ⟨g, a2⟩ := a.alloc en np (.lst ws) True (fun _ => False) (fun _ f => f.elim)
  refine q _ _ _ a2 ⟨p, rfl, a.st.liv _ np, .inr ⟨trivial, rfl⟩, ⟨ws, upd_same, hw.grow g⟩, fun i m d h1 h2 => ?_⟩
  obtain ⟨b, h3, h4, _⟩ := a.en.mu i m d h1
  rw [h3] at h2
  cases h2
  obtain ⟨o', ho⟩ := a.en.dom _ h4
  rw [np] at ho; cases ho
end T3

end
section
set_option linter.all false
set_option autoImplicit false
set_option Elab.async false
namespace T3
open PySem L2
variable [TabL]

def data1 : R → Option PyData
  | .pd x => some x
  | .nt xs => some (.tuple xs)
  | .tmp c => some (ctD c)
  | .var _ => none
def datas : List R → Option (List PyData)
  | [] => some []
  | d :: ds => match data1 d with
    | none => none
    | some x => match datas ds with
      | none => none
      | some xs => some (x :: xs)
def fzOf (vs : List V) (ds : List R) : Mset := fun q => ∃ (k : Nat) (c : Ct), ds[k]? = some (.tmp c) ∧ vs[k]? = some (.ref q)
theorem RRA.fz {K : PySem.W.Frag} {H₀ : Hp} {B : Mset} {H : Hp} {σ : St} {env : Sl} {vs : List V} {ds : List R} (r : RRA K H₀ B H σ env vs ds) : ∀ q, fzOf vs ds q → H₀ q = none ∧ ∀ (i : Nat) m d, env[i]? = some (some (S.mu m d)) → σ[i]? ≠ some (some (V.ref q)) := by
  rintro q ⟨k, c, h1, h2⟩
  obtain ⟨a, e, h3, _, _, h5⟩ := r.each k _ _ h2 h1
  cases e
  exact ⟨h3, h5⟩
theorem RRA.tail {K : PySem.W.Frag} {H₀ : Hp} {B : Mset} {H : Hp} {σ : St} {env : Sl} {v : V} {d : R} {vs : List V} {ds : List R} (r : RRA K H₀ B H σ env (v :: vs) (d :: ds)) : RRA K H₀ B H σ env vs ds :=
  ⟨by have := r.len; simpa using this, fun k w e h1 h2 => r.each (k + 1) w e (by simpa using h1) (by simpa using h2), fun k l c c' w h0 h1 h2 h3 h4 => r.apart (k + 1) (l + 1) c c' w (by omega) (by simpa using h1) (by simpa using h2) (by simpa using h3) (by simpa using h4)⟩
theorem RRA.data {K : PySem.W.Frag} {H₀ : Hp} {B B' : Mset} {H H' : Hp} {σ : St} {env : Sl} (g : Grow B H B' H') (hk : ∀ a o, H a = some o → H' a = some o) : ∀ {vs : List V} {ds : List R} {xs : List PyData}, RRA K H₀ B H σ env vs ds → (∀ q, fzOf vs ds q → ¬ B' q) → datas ds = some xs → RpA K B' H' vs xs
  | [], [], xs, _, _, c => by cases c; exact .nil
  | v :: vs, d :: ds, xs, r, nb, c => by
    unfold datas at c
    split at c
    · cases c
    rename_i x hx
    split at c
    · cases c
    rename_i ys hy
    cases c
    refine .cons ?_ (RRA.data g hk r.tail (fun q ⟨k, c, h1, h2⟩ => nb q ⟨k + 1, c, by simpa using h1, by simpa using h2⟩) hy)
    have h := r.each 0 v d rfl rfl
    cases d with
    | pd y => cases hx; exact Rp.grow g h
    | nt y => cases hx; obtain ⟨a, rfl, h⟩ := h; exact h.rp.grow g
    | var i => cases hx
    | tmp t =>
      cases hx
      obtain ⟨a, rfl, _, _, hc, _⟩ := h
      refine CtR.rp ?_ (nb a ⟨0, _, rfl, rfl⟩)
      exact hc.hop g (hk _)
  | [], _ :: _, _, r, _, _ => by have := r.len; simp at this
  | _ :: _, [], _, r, _, _ => by have := r.len; simp at this
theorem datas_len : ∀ {ds : List R} {xs : List PyData}, datas ds = some xs → xs.length = ds.length
  | [], xs, c => by cases c; rfl
  | d :: ds, xs, c => by
    unfold datas at c
    split at c
    · cases c
    split at c
    · cases c
    rename_i h
    cases c
    simp [datas_len h]
def kTup : KK := fun ds env => match datas ds with
  | none => none
  | some xs => if xs.length ≤ 1000 then some (.pd (.tuple xs), env) else none
def kLst : KK := fun ds env => match datas ds with
  | none => none
  | some xs => if xs.length ≤ 1000 then some (.tmp (.ls xs), env) else none
theorem keep_upd {H : Hp} {p : Addr} {o : HO} (np : H p = none) : ∀ a o', H a = some o' → upd H p o a = some o' := fun a o' h => by
  rw [upd_ne (fun e => by rw [e, np] at h; cases h)]; exact h
theorem con_tup {K : PySem.W.Frag} : Con K kTup (fun xs H1 Q => xs.length ≤ sizeLine ∧ ∀ p, H1 p = none → Q (.ref p) (upd H1 p (.tup xs))) := by
  intro σ H B env B1 H1 env1 vs ds d e2 Q en a rr hk q
  unfold kTup at hk
  split at hk
  · cases hk
  rename_i xs hx
  split at hk
  · rename_i hl
    cases hk
    refine ⟨by rw [rr.len, ← datas_len hx]; exact Nat.le_of_lt (small1000 hl), fun p np => ?_⟩
    obtain ⟨g, a2⟩ := a.alloc en np (.tup vs) False (fzOf vs ds) rr.fz
    exact q _ _ _ a2 (.tup (.inl (.inl upd_same)) (rr.data g (keep_upd np) (fun q f h => h.elim (fun h => h.2 f) (fun h => h.1)) hx))
  · cases hk
theorem con_lst {K : PySem.W.Frag} : Con K kLst (fun xs H1 Q => xs.length ≤ sizeLine ∧ ∀ p, H1 p = none → Q (.ref p) (upd H1 p (.lst xs))) := by
  intro σ H B env B1 H1 env1 vs ds d e2 Q en a rr hk q
  unfold kLst at hk
  split at hk
  · cases hk
  rename_i xs hx
  split at hk
  · rename_i hl
    cases hk
    refine ⟨by rw [rr.len, ← datas_len hx]; exact Nat.le_of_lt (small1000 hl), fun p np => ?_⟩
    obtain ⟨g, a2⟩ := a.alloc en np (.lst vs) True (fzOf vs ds) rr.fz
    have nfp : ∀ q, fzOf vs ds q → q ≠ p := by
      rintro q ⟨k, c, h1, h2⟩ e
      obtain ⟨b, e2, _, h4, _⟩ := rr.each k _ _ h2 h1
      cases e2
      obtain ⟨o, ho⟩ := a.en.dom _ h4
      rw [e, np] at ho; cases ho
    refine q _ _ _ a2 ⟨p, rfl, a.st.liv _ np, .inr ⟨trivial, rfl⟩, ⟨vs, upd_same, rr.data g (keep_upd np) (fun q f h => h.elim (fun h => h.2 f) (fun h => nfp q f h.2)) hx⟩, fun i m d h1 h2 => ?_⟩
    obtain ⟨b, h3, h4, _⟩ := a.en.mu i m d h1
    rw [h3] at h2
    cases h2
    obtain ⟨o', ho⟩ := a.en.dom _ h4
    rw [np] at ho; cases ho
  · cases hk
section
variable {X : Cx} {e : Expr} {es : List Expr} {pos : Pos} {f : EA} {fa fb : EE}
theorem e_tup {k : Nat} (h : PA X es (tA X.K f)) : PE X (.Tuple es k pos) (tE X.K (eThen f kTup)) := PE.imp (pe_tup h) fun _ _ _ t => rd_then con_tup t
theorem e_lst (h : PA X es (tA X.K f)) : PE X (.List es pos) (tE X.K (eThen f kLst)) := PE.imp (pe_lst h) fun _ _ _ t => rd_then con_lst t
theorem e_op {a b : Expr} {op : Operator} {r : R2} {k : KK} (ho : OpR X (binaryOp op) r) (c : Con X.K k (l2 r)) (ha : PE X a (tE X.K fa)) (hb : PE X b (tE X.K fb)) : PE X (.BinOp a op b pos) (tE X.K (eThen (eTwo fa fb) k)) :=
  PE.imp (pe_op ho ha hb) fun _ _ _ t => rd_two c t
theorem e_un {a : Expr} {op : UnaryOp} {r : V → Hp → VK → Prop} {k : KK} (ho : UnR X (unaryOp op) r) (c : Con X.K k (l1 r)) (ha : PE X a (tE X.K fa)) : PE X (.UnaryOp op a pos) (tE X.K (eThen (eOne fa) k)) :=
  PE.imp (pe_un ho ha) fun _ _ _ t => rd_one c t
theorem e_cmp {a b : Expr} {op : CmpOp} {r : R2} {k : KK} (ho : OpR X (compareOp op) r) (c : Con X.K k (l2 r)) (ha : PE X a (tE X.K fa)) (hb : PE X b (tE X.K fb)) (hm : behindInMarks op b = false := by rfl) : PE X (.Compare a [op] [b] pos) (tE X.K (eThen (eTwo fa fb) k)) :=
  PE.imp (pe_cmpR ho ha hb hm) fun _ _ _ t => rd_two c t
theorem e_ix {a b : Expr} {r : R2} {k : KK} (ho : IxR X r) (c : Con X.K k (l2 r)) (ha : PE X a (tE X.K fa)) (hb : PE X b (tE X.K fb)) (hs : PlainIx b := by exact fun _ _ => rfl) : PE X (.Subscript a b pos) (tE X.K (eThen (eTwo fa fb) k)) :=
  PE.imp (pe_ix ho ha hb hs) fun _ _ _ t => rd_two c t
theorem e_callB {id : String} {x : Str} {p : Pos} {r : List V → Hp → VK → Prop} {k : KK} (hc : CallR X (.builtin id) r) (c : Con X.K k r) (hg : Gl X x) (hm : X.mg x = none) (hv : bootBuiltins x = some (.builtin id)) (ha : PA X (e :: es) (tA X.K f)) (hn : x ≠ "__name__" := by decide) (hdb : (x == ("__debug__" : Str)) = false := by decide) (he : starEach (e :: es) X.env = (false, eval e X.env) :: starEach es X.env := by rfl) (hpl : (backTo pos (starEach es X.env)).any (·.1) = false := by rfl) :
    PE X (.Call (.Name x p) (e :: es) [] pos) (tE X.K (eThen f k)) :=
  PE.imp (pe_callB hc hg hm hv ha hn hdb he hpl) fun _ _ _ t => rd_then c t
theorem e_callTy {T : String} {x : Str} {p : Pos} {r : List V → Hp → VK → Prop} {k : KK} (hc : CallR X (.type T) r) (c : Con X.K k r) (hg : Gl X x) (hm : X.mg x = none) (hv : bootBuiltins x = some (.type T)) (ha : PA X (e :: es) (tA X.K f)) (hn : x ≠ "__name__" := by decide) (hdb : (x == ("__debug__" : Str)) = false := by decide) (he : starEach (e :: es) X.env = (false, eval e X.env) :: starEach es X.env := by rfl) (hpl : (backTo pos (starEach es X.env)).any (·.1) = false := by rfl) :
    PE X (.Call (.Name x p) (e :: es) [] pos) (tE X.K (eThen f k)) :=
  PE.imp (pe_callTy hc hg hm hv ha hn hdb he hpl) fun _ _ _ t => rd_then c t
end

abbrev EB := Sl → Option (Bool × Sl)
def tT (K : PySem.W.Frag) (f : EB) : TT := fun σ H Q => ∃ B env b env', EnvR K B H σ env ∧ f env = some (b, env') ∧ ∀ B' H', At K σ B H env B' H' env' → Q b H'
def bT (f : EE) : EB := fun env => match f env with
  | some (.pd (.bool b), e) => some (b, e)
  | _ => none
theorem rd_test {K : PySem.W.Frag} {f : EE} {σ : St} {H : Hp} {Q : Bool → Hp → Prop} (h : tT K (bT f) σ H Q) : tTest (tE K f) σ H Q := by
  obtain ⟨B, env, b, env', en, ev, q⟩ := h
  unfold bT at ev
  split at ev
  · rename_i b' e' h1
    cases ev
    refine ⟨B, env, _, env', en, h1, fun B' H' v a r => ?_⟩
    have r : Rp K B' H' v (.bool b) := r
    cases r
    exact ⟨_, rfl, q _ _ a⟩
  · cases ev
def bAnd (f g : EB) : EB := fun env => match f env with
  | none => none
  | some (b, e) => if b = true then g e else some (false, e)
def bOr (f g : EB) : EB := fun env => match f env with
  | none => none
  | some (b, e) => if b = true then some (true, e) else g e
def bNot (f : EB) : EB := fun env => match f env with
  | none => none
  | some (b, e) => some (!b, e)
theorem tT.later {K : PySem.W.Frag} {f : EB} {σ : St} {H : Hp} {Q : Bool → Hp → Prop} {B B1 : Mset} {H1 : Hp} {env e1 env' : Sl} {b : Bool} (en : EnvR K B H σ env) (a1 : At K σ B H env B1 H1 e1) (ev : f e1 = some (b, env')) (q : ∀ B' H', At K σ B H env B' H' env' → Q b H') : tT K f σ H1 Q :=
  ⟨B1, e1, b, env', a1.en, ev, fun B2 H2 a2 => q B2 H2 (a1.trans en a2)⟩
theorem rd_and {K : PySem.W.Frag} {f g : EB} {σ : St} {H : Hp} {Q : Bool → Hp → Prop} (h : tT K (bAnd f g) σ H Q) : tAnd (tT K f) (tT K g) σ H Q := by
  obtain ⟨B, env, b, env', en, ev, q⟩ := h
  unfold bAnd at ev
  split at ev
  · cases ev
  rename_i b1 e1 h1
  refine ⟨B, env, b1, e1, en, h1, fun B1 H1 a1 => ?_⟩
  cases b1 with
  | true => simp at ev ⊢; exact tT.later en a1 ev q
  | false => simp at ev ⊢; obtain ⟨rfl, rfl⟩ := ev; exact q _ _ a1
theorem rd_or {K : PySem.W.Frag} {f g : EB} {σ : St} {H : Hp} {Q : Bool → Hp → Prop} (h : tT K (bOr f g) σ H Q) : tOr (tT K f) (tT K g) σ H Q := by
  obtain ⟨B, env, b, env', en, ev, q⟩ := h
  unfold bOr at ev
  split at ev
  · cases ev
  rename_i b1 e1 h1
  refine ⟨B, env, b1, e1, en, h1, fun B1 H1 a1 => ?_⟩
  cases b1 with
  | false => simp at ev ⊢; exact tT.later en a1 ev q
  | true => simp at ev ⊢; obtain ⟨rfl, rfl⟩ := ev; exact q _ _ a1
theorem rd_not {K : PySem.W.Frag} {f : EB} {σ : St} {H : Hp} {Q : Bool → Hp → Prop} (h : tT K (bNot f) σ H Q) : tNot (tT K f) σ H Q := by
  obtain ⟨B, env, b, env', en, ev, q⟩ := h
  unfold bNot at ev
  split at ev
  · cases ev
  rename_i b1 e1 h1
  cases ev
  exact ⟨B, env, b1, env', en, h1, fun B1 H1 a1 => q _ _ a1⟩
def eB (f : EB) : EE := fun env => match f env with
  | none => none
  | some (b, e) => some (.pd (.bool b), e)
theorem rd_eT {K : PySem.W.Frag} {f : EE} {σ : St} {H : Hp} {Q : VK} (h : tE K (eB (bT f)) σ H Q) : tE K f σ H Q := by
  obtain ⟨B, env, d, env', en, ev, q⟩ := h
  unfold eB bT at ev
  split at ev
  · cases ev
  rename_i b e1 h1
  cases ev
  split at h1
  · rename_i h2
    cases h1
    exact ⟨B, env, _, _, en, h2, q⟩
  · cases h1
theorem rd_andV {K : PySem.W.Frag} {f g : EB} {σ : St} {H : Hp} {Q : VK} (h : tE K (eB (bAnd f g)) σ H Q) : tAndV (tE K (eB f)) (tE K (eB g)) σ H Q := by
  obtain ⟨B, env, d, env', en, ev, q⟩ := h
  unfold eB bAnd at ev
  split at ev
  · cases ev
  rename_i b0 e0 h0
  cases ev
  split at h0
  · cases h0
  rename_i b1 e1 h1
  refine ⟨B, env, .pd (.bool b1), e1, en, by unfold eB; rw [h1], fun B1 H1 v a1 r1 => ?_⟩
  have r1 : Rp K B1 H1 v (.bool b1) := r1
  cases r1
  refine ⟨b1, rfl, ?_⟩
  cases b1 with
  | true => simp at h0 ⊢; exact ⟨B1, e1, _, _, a1.en, by unfold eB; rw [h0], fun B2 H2 v a2 r2 => q B2 H2 v (a1.trans en a2) (RR.from (H₁ := H1) r2 a1.st.liv)⟩
  | false => simp at h0 ⊢; obtain ⟨rfl, rfl⟩ := h0; exact q _ _ _ a1 (.bl _)
theorem rd_notV {K : PySem.W.Frag} {f : EB} {σ : St} {H : Hp} {Q : VK} (h : tE K (eB (bNot f)) σ H Q) : tNotV (tE K (eB f)) σ H Q := by
  obtain ⟨B, env, d, env', en, ev, q⟩ := h
  unfold eB bNot at ev
  split at ev
  · cases ev
  rename_i b0 e0 h0
  cases ev
  split at h0
  · cases h0
  rename_i b1 e1 h1
  cases h0
  refine ⟨B, env, .pd (.bool b1), _, en, by unfold eB; rw [h1], fun B1 H1 v a1 r1 => ?_⟩
  have r1 : Rp K B1 H1 v (.bool b1) := r1
  cases r1
  exact ⟨b1, rfl, q _ _ _ a1 (.bl _)⟩
def eIf (c : EB) (f g : EE) : EE := fun env => match c env with
  | none => none
  | some (b, e) => if b = true then f e else g e
theorem tE.later {K : PySem.W.Frag} {f : EE} {σ : St} {H : Hp} {Q : VK} {B B1 : Mset} {H1 : Hp} {env e1 env' : Sl} {d : R} (en : EnvR K B H σ env) (a1 : At K σ B H env B1 H1 e1) (ev : f e1 = some (d, env')) (q : ∀ B' H' v, At K σ B H env B' H' env' → RR K H B' H' σ env' v d → Q v H') : tE K f σ H1 Q :=
  ⟨B1, e1, d, env', a1.en, ev, fun B2 H2 v a2 r2 => q B2 H2 v (a1.trans en a2) (r2.from a1.st.liv)⟩
theorem rd_if {K : PySem.W.Frag} {c : EB} {f g : EE} {σ : St} {H : Hp} {Q : VK} (h : tE K (eIf c f g) σ H Q) : tIf (tT K c) (tE K f) (tE K g) σ H Q := by
  obtain ⟨B, env, d, env', en, ev, q⟩ := h
  unfold eIf at ev
  split at ev
  · cases ev
  rename_i b1 e1 h1
  refine ⟨B, env, b1, e1, en, h1, fun B1 H1 a1 => ?_⟩
  cases b1 with
  | true => simp at ev ⊢; exact tE.later en a1 ev q
  | false => simp at ev ⊢; exact tE.later en a1 ev q
section
variable {X : Cx} {a b c : Expr} {rest : List Expr} {pos : Pos} {f g : EB} {fa fb fc : EE}
theorem b_of {t : TE} (h : PT X a (tTest t)) (i : ∀ σ H Q, tE X.K fa σ H Q → t σ H Q) : PT X a (tT X.K (bT fa)) := PT.imp h fun σ H Q q => i _ _ _ (rd_test q)
theorem b_cmp {op : CmpOp} {r : R2} {k : KK} (ho : OpR X (compareOp op) r) (cn : Con X.K k (l2 r)) (ha : PE X a (tE X.K fa)) (hb : PE X b (tE X.K fb)) (hm : behindInMarks op b = false := by rfl) : PT X (.Compare a [op] [b] pos) (tT X.K (bT (eThen (eTwo fa fb) k))) :=
  b_of (pt_cmpR ho ha hb hm) fun _ _ _ t => rd_two cn t
theorem b_and1 (ha : PT X a (tT X.K f)) : PW X (.BoolOp .And [a] pos) (tT X.K f) := pw_and1 ha
theorem b_or1 (ha : PT X a (tT X.K f)) : PW X (.BoolOp .Or [a] pos) (tT X.K f) := pw_or1 ha
theorem PW.imp {e : Expr} {t t' : TT} (h : PW X e t) (i : ∀ σ H Q, t' σ H Q → t σ H Q) : PW X e t' := ⟨fun w pins s σ H Q I q => h.run w pins s σ H Q I (i σ H Q q)⟩
theorem b_and (ha : PT X a (tT X.K f)) (hb : PW X (.BoolOp .And (b :: rest) pos) (tT X.K g)) : PW X (.BoolOp .And (a :: b :: rest) pos) (tT X.K (bAnd f g)) := PW.imp (pw_and ha hb) fun _ _ _ t => rd_and t
theorem b_or (ha : PT X a (tT X.K f)) (hb : PW X (.BoolOp .Or (b :: rest) pos) (tT X.K g)) : PW X (.BoolOp .Or (a :: b :: rest) pos) (tT X.K (bOr f g)) := PW.imp (pw_or ha hb) fun _ _ _ t => rd_or t
theorem b_not (ha : PT X a (tT X.K f)) : PT X (.UnaryOp .Not a pos) (tT X.K (bNot f)) := PT.imp (pt_not ha) fun _ _ _ t => rd_not t
theorem e_and1 {op} (ha : PE X a (tE X.K fa)) : PE X (.BoolOp op [a] pos) (tE X.K (eB (bT fa))) := PE.imp (pe_one ha) fun _ _ _ t => rd_eT t
theorem e_bool (ha : PE X a (tE X.K fa)) : PE X a (tE X.K (eB (bT fa))) := PE.imp ha fun _ _ _ t => rd_eT t
theorem e_and (ha : PE X a (tE X.K (eB f))) (hb : PE X (.BoolOp .And (b :: rest) pos) (tE X.K (eB g))) : PE X (.BoolOp .And (a :: b :: rest) pos) (tE X.K (eB (bAnd f g))) := PE.imp (pe_and ha hb) fun _ _ _ t => rd_andV t
theorem e_not (ha : PE X a (tE X.K (eB f))) : PE X (.UnaryOp .Not a pos) (tE X.K (eB (bNot f))) := PE.imp (pe_not ha) fun _ _ _ t => rd_notV t
theorem e_if (hc : PT X c (tT X.K f)) (ha : PE X a (tE X.K fa)) (hb : PE X b (tE X.K fb)) : PE X (.IfExp c a b pos) (tE X.K (eIf f fa fb)) := PE.imp (pe_ifExp hc ha hb) fun _ _ _ t => rd_if t
end
end T3

end
section
set_option linter.all false
set_option autoImplicit false
set_option Elab.async false
namespace T3
open PySem L2
variable [TabL]

inductive Fl where | nx | bk | ct | rt (d : R)
abbrev SS := Sl → Option (Fl × Sl)
def Bor (σ : St) (env : Sl) (σ' : St) (env' : Sl) : Prop := ∀ (i : Nat) m c, env[i]? = some (some (S.mu m c)) → m ≠ .own → σ'[i]? = σ[i]? ∧ ∃ c', env'[i]? = some (some (S.mu m c'))
structure AtS (K : PySem.W.Frag) (σ : St) (B : Mset) (H : Hp) (env : Sl) (σ' : St) (B' : Mset) (H' : Hp) (env' : Sl) : Prop where
  st : Stp (Wof σ env) B H (Wof σ' env') B' H'
  en : EnvR K B' H' σ' env'
  bo : Bor σ env σ' env'
theorem Bor.refl {σ : St} {env : Sl} : Bor σ env σ env := fun i m c h _ => ⟨rfl, c, h⟩
theorem Bor.trans {σ σ1 σ2 : St} {env env1 env2 : Sl} (a : Bor σ env σ1 env1) (b : Bor σ1 env1 σ2 env2) : Bor σ env σ2 env2 := fun i m c h hm => by
  obtain ⟨h1, c1, h2⟩ := a i m c h hm
  obtain ⟨h3, h4⟩ := b i m c1 h2 hm
  exact ⟨h3.trans h1, h4⟩
theorem AtS.refl {K : PySem.W.Frag} {σ : St} {B : Mset} {H : Hp} {env : Sl} (e : EnvR K B H σ env) : AtS K σ B H env σ B H env := ⟨.refl, e, .refl⟩
theorem AtS.trans {K : PySem.W.Frag} {σ σ1 σ2 : St} {B B1 B2 : Mset} {H H1 H2 : Hp} {env env1 env2 : Sl} (e : EnvR K B H σ env) (a : AtS K σ B H env σ1 B1 H1 env1) (b : AtS K σ1 B1 H1 env1 σ2 B2 H2 env2) : AtS K σ B H env σ2 B2 H2 env2 :=
  ⟨a.st.trans b.st e.wb e.dom, b.en, a.bo.trans b.bo⟩
def Fin (K : PySem.W.Frag) (D : Ends) (H : Hp) (fl : Fl) (B' : Mset) (σ' : St) (H' : Hp) (env' : Sl) : Prop := match fl with
  | .nx => D.nx σ' H'
  | .bk => D.bk σ' H'
  | .ct => D.ct σ' H'
  | .rt d => ∀ v, RR K H B' H' σ' env' v d → D.rt v H'
def tS (K : PySem.W.Frag) (f : SS) : TS := fun D σ H => ∃ B env fl env', EnvR K B H σ env ∧ f env = some (fl, env') ∧ ∀ B' σ' H', AtS K σ B H env σ' B' H' env' → Fin K D H fl B' σ' H' env'
def sPass : SS := fun env => some (.nx, env)
def sSeq (f g : SS) : SS := fun env => match f env with
  | none => none
  | some (.nx, e1) => g e1
  | some (fl, e1) => some (fl, e1)
theorem tS.later {K : PySem.W.Frag} {f : SS} {D : Ends} {σ σ1 : St} {H H1 : Hp} {B B1 : Mset} {env e1 env' : Sl} {fl : Fl} (en : EnvR K B H σ env) (a1 : AtS K σ B H env σ1 B1 H1 e1) (ev : f e1 = some (fl, env')) (q : ∀ B' σ' H', AtS K σ B H env σ' B' H' env' → Fin K D H fl B' σ' H' env') : tS K f D σ1 H1 := by
  refine ⟨B1, e1, fl, env', a1.en, ev, fun B2 σ2 H2 a2 => ?_⟩
  have h := q B2 σ2 H2 (a1.trans en a2)
  cases fl with
  | nx => exact h
  | bk => exact h
  | ct => exact h
  | rt d => exact fun v r => h v (r.from a1.st.liv)
theorem rd_seq {K : PySem.W.Frag} {f g : SS} {D : Ends} {σ : St} {H : Hp} (h : tS K (sSeq f g) D σ H) : tSeq (tS K f) (tS K g) D σ H := by
  obtain ⟨B, env, fl, env', en, ev, q⟩ := h
  unfold sSeq at ev
  split at ev
  · cases ev
  · rename_i e1 h1
    exact ⟨B, env, .nx, e1, en, h1, fun B1 σ1 H1 a1 => tS.later en a1 ev q⟩
  · rename_i fl1 e1 hn h1
    cases ev
    refine ⟨B, env, fl, env', en, h1, fun B1 σ1 H1 a1 => ?_⟩
    have h := q B1 σ1 H1 a1
    cases fl with
    | nx => exact (hn rfl).elim
    | bk => exact h
    | ct => exact h
    | rt d => exact h
theorem rd_pass {K : PySem.W.Frag} {D : Ends} {σ : St} {H : Hp} (h : tS K sPass D σ H) : tNext D σ H := by
  obtain ⟨B, env, fl, env', en, ev, q⟩ := h
  cases ev
  exact q B σ H (.refl en)
theorem At.s {K : PySem.W.Frag} {σ : St} {B B1 : Mset} {H H1 : Hp} {env env1 : Sl} (a : At K σ B H env B1 H1 env1) : AtS K σ B H env σ B1 H1 env1 :=
  ⟨a.st, a.en, fun i m c h _ => ⟨rfl, a.ks i m c h⟩⟩
def sIf (c : EB) (f g : SS) : SS := fun env => match c env with
  | none => none
  | some (b, e) => if b = true then f e else g e
theorem rd_ifS {K : PySem.W.Frag} {c : EB} {f g : SS} {D : Ends} {σ : St} {H : Hp} (h : tS K (sIf c f g) D σ H) : tIfS (tT K c) (tS K f) (tS K g) D σ H := by
  obtain ⟨B, env, fl, env', en, ev, q⟩ := h
  unfold sIf at ev
  split at ev
  · cases ev
  rename_i b1 e1 h1
  refine ⟨B, env, b1, e1, en, h1, fun B1 H1 a1 => ?_⟩
  cases b1 with
  | true => simp at ev ⊢; exact tS.later en a1.s ev q
  | false => simp at ev ⊢; exact tS.later en a1.s ev q
def sRet (f : EE) : SS := fun env => match f env with
  | none => none
  | some (d, e) => some (.rt d, e)
theorem rd_ret {K : PySem.W.Frag} {f : EE} {D : Ends} {σ : St} {H : Hp} (h : tS K (sRet f) D σ H) : tRet (tE K f) D σ H := by
  obtain ⟨B, env, fl, env', en, ev, q⟩ := h
  unfold sRet at ev
  split at ev
  · cases ev
  rename_i d e1 h1
  cases ev
  exact ⟨B, env, d, _, en, h1, fun B1 H1 v a1 r1 => q B1 σ H1 a1.s v r1⟩
def sExpr (f : EE) : SS := fun env => match f env with
  | none => none
  | some (_, e) => some (.nx, e)
theorem rd_expr {K : PySem.W.Frag} {f : EE} {D : Ends} {σ : St} {H : Hp} (h : tS K (sExpr f) D σ H) : tDrop (tE K f) D σ H := by
  obtain ⟨B, env, fl, env', en, ev, q⟩ := h
  unfold sExpr at ev
  split at ev
  · cases ev
  rename_i d e1 h1
  cases ev
  exact ⟨B, env, d, _, en, h1, fun B1 H1 v a1 r1 => q B1 σ H1 a1.s⟩
def sNever : SS := fun _ => none
theorem rd_never {K : PySem.W.Frag} {D : Ends} {σ : St} {H : Hp} (h : tS K sNever D σ H) : tNever D σ H := by
  obtain ⟨B, env, fl, env', en, ev, q⟩ := h
  cases ev

def free (env : Sl) (i : Nat) : Bool := match env[i]? with
  | some (some (.mu .own _)) => true
  | some (some (.pd _)) => true
  | some (some (.nt _)) => true
  | some none => true
  | _ => false
def setR (i : Nat) (d : R) (env : Sl) : Option Sl := if free env i = true then match d with
    | .pd x => some (env.set i (some (.pd x)))
    | .nt x => some (env.set i (some (.nt x)))
    | .tmp c => some (env.set i (some (.mu .own c)))
    | .var _ => none
  else none
theorem free_ne {env : Sl} {i : Nat} (h : free env i = true) : i < env.length ∧ ∀ m c, env[i]? = some (some (S.mu m c)) → m = .own := by
  unfold free at h
  split at h
  · rename_i h1; refine ⟨(List.getElem?_eq_some_iff.mp h1).1, fun m c e => ?_⟩; rw [h1] at e; cases e; rfl
  · rename_i h1; refine ⟨(List.getElem?_eq_some_iff.mp h1).1, fun m c e => ?_⟩; rw [h1] at e; cases e
  · rename_i h1; refine ⟨(List.getElem?_eq_some_iff.mp h1).1, fun m c e => ?_⟩; rw [h1] at e; cases e
  · rename_i h1; refine ⟨(List.getElem?_eq_some_iff.mp h1).1, fun m c e => ?_⟩; rw [h1] at e; cases e
  · cases h
theorem get_set {α : Type} {l : List α} {i j : Nat} {x y : α} (h : (l.set i x)[j]? = some y) : (i = j ∧ y = x) ∨ (i ≠ j ∧ l[j]? = some y) := by
  by_cases e : i = j
  · subst e
    by_cases hl : i < l.length
    · rw [List.getElem?_set_self hl] at h; cases h; exact .inl ⟨rfl, rfl⟩
    · rw [List.getElem?_eq_none (by simpa using hl)] at h; cases h
  · rw [List.getElem?_set_ne e] at h; exact .inr ⟨e, h⟩
theorem AtS.set {K : PySem.W.Frag} {σ₀ σ : St} {B B1 : Mset} {H H1 : Hp} {env e1 e2 : Sl} {i : Nat} {v : V} {d : R} (en : EnvR K B H σ₀ env) (a : AtS K σ₀ B H env σ B1 H1 e1) (r : RA K H B1 H1 σ e1 v d) (hs : setR i d e1 = some e2) : AtS K σ₀ B H env (σ.set i (some v)) B1 H1 e2 := by
  unfold setR at hs
  split at hs
  · rename_i hf
    obtain ⟨hi, hm⟩ := free_ne hf
    have hiσ : i < σ.length := by rw [← a.en.len]; exact hi
    have bor : ∀ x, Bor σ₀ env (σ.set i (some v)) (e1.set i x) := fun x j m c h hn => by
      obtain ⟨h1, c', h2⟩ := a.bo j m c h hn
      have hj : i ≠ j := fun z => by subst z; exact hn (hm _ _ h2)
      exact ⟨by rw [List.getElem?_set_ne hj]; exact h1, c', by rw [List.getElem?_set_ne hj]; exact h2⟩
    cases d with
    | var _ => cases hs
    | pd x =>
      cases hs
      have wsub : ∀ q, Wof (σ.set i (some v)) (e1.set i (some (.pd x))) q → Wof σ e1 q := by
        rintro q ⟨j, m, c, h1, h2, h3⟩
        rcases get_set h1 with ⟨e, e'⟩ | ⟨e, h1⟩
        · cases e'
        · rw [List.getElem?_set_ne e] at h3; exact ⟨j, m, c, h1, h2, h3⟩
      refine ⟨⟨a.st.keep, a.st.new, a.st.old, fun q w => a.st.sub q (wsub q w), a.st.liv⟩, ⟨by simp [a.en.len], fun j y h => ?_, fun j y h => ?_, fun j m c h => ?_, fun j k m n c c' q h1 h2 h3 h4 => ?_, a.en.dom, a.en.tb⟩, bor _⟩
      · rcases get_set h with ⟨e, e'⟩ | ⟨e, h⟩
        · cases e'; subst e; exact ⟨v, by rw [List.getElem?_set_self hiσ], r⟩
        · obtain ⟨w, h1, h2⟩ := a.en.pd j y h
          exact ⟨w, by rw [List.getElem?_set_ne e]; exact h1, h2⟩
      · rcases get_set h with ⟨e, e'⟩ | ⟨e, h⟩
        · cases e'
        · obtain ⟨w, h1, h2⟩ := a.en.nt j y h
          exact ⟨w, by rw [List.getElem?_set_ne e]; exact h1, h2⟩
      · rcases get_set h with ⟨e, e'⟩ | ⟨e, h⟩
        · cases e'
        · obtain ⟨w, h1, h2⟩ := a.en.mu j m c h
          exact ⟨w, by rw [List.getElem?_set_ne e]; exact h1, h2⟩
      · rcases get_set h1 with ⟨e, e'⟩ | ⟨e, h1⟩
        · cases e'
        rcases get_set h2 with ⟨f, e'⟩ | ⟨f, h2⟩
        · cases e'
        rw [List.getElem?_set_ne e] at h3
        rw [List.getElem?_set_ne f] at h4
        exact a.en.inj j k m n c c' q h1 h2 h3 h4
    | nt x =>
      cases hs
      obtain ⟨p, rfl, r⟩ := r
      have wsub : ∀ q, Wof (σ.set i (some (.ref p))) (e1.set i (some (.nt x))) q → Wof σ e1 q := by
        rintro q ⟨j, m, c, h1, h2, h3⟩
        rcases get_set h1 with ⟨e, e'⟩ | ⟨e, h1⟩
        · cases e'
        · rw [List.getElem?_set_ne e] at h3; exact ⟨j, m, c, h1, h2, h3⟩
      refine ⟨⟨a.st.keep, a.st.new, a.st.old, fun q w => a.st.sub q (wsub q w), a.st.liv⟩, ⟨by simp [a.en.len], fun j y h => ?_, fun j y h => ?_, fun j m c h => ?_, fun j k m n c c' q h1 h2 h3 h4 => ?_, a.en.dom, a.en.tb⟩, bor _⟩
      · rcases get_set h with ⟨e, e'⟩ | ⟨e, h⟩
        · cases e'
        · obtain ⟨w, h1, h2⟩ := a.en.pd j y h
          exact ⟨w, by rw [List.getElem?_set_ne e]; exact h1, h2⟩
      · rcases get_set h with ⟨e, e'⟩ | ⟨e, h⟩
        · cases e'; subst e; exact ⟨p, by rw [List.getElem?_set_self hiσ], r⟩
        · obtain ⟨w, h1, h2⟩ := a.en.nt j y h
          exact ⟨w, by rw [List.getElem?_set_ne e]; exact h1, h2⟩
      · rcases get_set h with ⟨e, e'⟩ | ⟨e, h⟩
        · cases e'
        · obtain ⟨w, h1, h2⟩ := a.en.mu j m c h
          exact ⟨w, by rw [List.getElem?_set_ne e]; exact h1, h2⟩
      · rcases get_set h1 with ⟨e, e'⟩ | ⟨e, h1⟩
        · cases e'
        rcases get_set h2 with ⟨f, e'⟩ | ⟨f, h2⟩
        · cases e'
        rw [List.getElem?_set_ne e] at h3
        rw [List.getElem?_set_ne f] at h4
        exact a.en.inj j k m n c c' q h1 h2 h3 h4
    | tmp t =>
      cases hs
      obtain ⟨p, rfl, h0, hb, hc, hns⟩ := r
      refine ⟨⟨a.st.keep, a.st.new, a.st.old, fun q w => ?_, a.st.liv⟩, ⟨by simp [a.en.len], fun j y h => ?_, fun j y h => ?_, fun j m c h => ?_, fun j k m n c c' q h1 h2 h3 h4 => ?_, a.en.dom, a.en.tb⟩, bor _⟩
      · obtain ⟨j, m, c, h1, h2, h3⟩ := w
        rcases get_set h1 with ⟨e, e'⟩ | ⟨e, h1⟩
        · subst e
          rw [List.getElem?_set_self hiσ] at h3
          cases h3
          exact .inr h0
        · rw [List.getElem?_set_ne e] at h3; exact a.st.sub q ⟨j, m, c, h1, h2, h3⟩
      · rcases get_set h with ⟨e, e'⟩ | ⟨e, h⟩
        · cases e'
        · obtain ⟨w, h1, h2⟩ := a.en.pd j y h
          exact ⟨w, by rw [List.getElem?_set_ne e]; exact h1, h2⟩
      · rcases get_set h with ⟨e, e'⟩ | ⟨e, h⟩
        · cases e'
        · obtain ⟨w, h1, h2⟩ := a.en.nt j y h
          exact ⟨w, by rw [List.getElem?_set_ne e]; exact h1, h2⟩
      · rcases get_set h with ⟨e, e'⟩ | ⟨e, h⟩
        · cases e'; subst e; exact ⟨p, by rw [List.getElem?_set_self hiσ], hb, hc⟩
        · obtain ⟨w, h1, h2⟩ := a.en.mu j m c h
          exact ⟨w, by rw [List.getElem?_set_ne e]; exact h1, h2⟩
      · rcases get_set h1 with ⟨e, e'⟩ | ⟨e, h1⟩
        · subst e
          rw [List.getElem?_set_self hiσ] at h3
          cases h3
          rcases get_set h2 with ⟨f, e''⟩ | ⟨f, h2⟩
          · exact f
          · rw [List.getElem?_set_ne f] at h4
            exact absurd h4 (hns _ _ _ h2)
        · rw [List.getElem?_set_ne e] at h3
          rcases get_set h2 with ⟨f, e''⟩ | ⟨f, h2⟩
          · subst f
            rw [List.getElem?_set_self hiσ] at h4
            cases h4
            exact absurd h3 (hns _ _ _ h1)
          · rw [List.getElem?_set_ne f] at h4
            exact a.en.inj j k m n c c' q h1 h2 h3 h4
  · cases hs
def sSet (i : Nat) (f : EE) : SS := fun env => match f env with
  | none => none
  | some (d, e) => match setR i d e with
    | none => none
    | some e2 => some (.nx, e2)
theorem rd_set {K : PySem.W.Frag} {i : Nat} {f : EE} {D : Ends} {σ : St} {H : Hp} (h : tS K (sSet i f) D σ H) : tAsg (tE K f) (gName i) D σ H := by
  obtain ⟨B, env, fl, env', en, ev, q⟩ := h
  unfold sSet at ev
  split at ev
  · cases ev
  rename_i d e1 h1
  split at ev
  · cases ev
  rename_i e2 h2
  cases ev
  exact ⟨B, env, d, _, en, h1, fun B1 H1 v a1 r1 => q B1 _ H1 (AtS.set en a1.s r1.ra h2)⟩
abbrev GG := PyData → Sl → Option Sl
def tG (K : PySem.W.Frag) (g : GG) : TG := fun v σ H Q => ∃ B env x env', EnvR K B H σ env ∧ Rp K B H v x ∧ g x env = some env' ∧ ∀ B' σ' H', AtS K σ B H env σ' B' H' env' → Q σ' H'
def gN (i : Nat) : GG := fun x env => setR i (.pd x) env
theorem rd_gN {K : PySem.W.Frag} {i : Nat} {v : V} {σ : St} {H : Hp} {Q : St → Hp → Prop} (h : tG K (gN i) v σ H Q) : gName i v σ H Q := by
  obtain ⟨B, env, x, env', en, r, ev, q⟩ := h
  exact q B _ H (AtS.set en (.refl en) (d := .pd x) r ev)
abbrev GGs := List PyData → Sl → Option Sl
def tGs (K : PySem.W.Frag) (g : GGs) : TGs := fun vs σ H Q => ∃ B env xs env', EnvR K B H σ env ∧ RpA K B H vs xs ∧ g xs env = some env' ∧ ∀ B' σ' H', AtS K σ B H env σ' B' H' env' → Q σ' H'
def gNl : GGs := fun xs env => match xs with
  | [] => some env
  | _ => none
def gCn (g : GG) (gs : GGs) : GGs := fun xs env => match xs with
  | [] => none
  | x :: xs => match g x env with
    | none => none
    | some e => gs xs e
theorem rd_gNl {K : PySem.W.Frag} {vs : List V} {σ : St} {H : Hp} {Q : St → Hp → Prop} (h : tGs K gNl vs σ H Q) : gNil vs σ H Q := by
  obtain ⟨B, env, x, env', en, r, ev, q⟩ := h
  unfold gNl at ev
  split at ev
  · cases ev; cases r; exact ⟨rfl, q B _ H (.refl en)⟩
  · cases ev
theorem rd_gCn {K : PySem.W.Frag} {g : GG} {gs : GGs} {vs : List V} {σ : St} {H : Hp} {Q : St → Hp → Prop} (h : tGs K (gCn g gs) vs σ H Q) : gCons (tG K g) (tGs K gs) vs σ H Q := by
  obtain ⟨B, env, xs, env', en, r, ev, q⟩ := h
  unfold gCn at ev
  split at ev
  · cases ev
  rename_i x xs
  split at ev
  · cases ev
  rename_i e1 h1
  cases r with
  | cons r1 r2 =>
    exact ⟨_, _, rfl, B, env, x, e1, en, r1, h1, fun B1 σ1 H1 a1 => ⟨B1, e1, xs, env', a1.en, r2.grow (a1.st.grow en.wb), ev, fun B2 σ2 H2 a2 => q B2 σ2 H2 (a1.trans en a2)⟩⟩
def gT (n : Nat) (gs : GGs) : GG := fun x env => match x with
  | .tuple xs => if xs.length = n then gs xs env else none
  | _ => none
theorem rd_gT {K : PySem.W.Frag} {n : Nat} {gs : GGs} {v : V} {σ : St} {H : Hp} {Q : St → Hp → Prop} (h : tG K (gT n gs) v σ H Q) : gTup K n (tGs K gs) v σ H Q := by
  obtain ⟨B, env, x, env', en, r, ev, q⟩ := h
  unfold gT at ev
  split at ev
  · split at ev
    · rename_i xs hl
      obtain ⟨a, vs, rfl, h1, h2⟩ := Cn.tuple (.rp r)
      exact ⟨a, vs, rfl, h1, by rw [h2.length]; exact hl, B, env, xs, env', en, h2, ev, q⟩
    · cases ev
  · cases ev
def putL (j : Nat) (i : Int) (x : PyData) (env : Sl) : Option Sl := match env[j]? with
  | some (some (.mu m (.ls xs))) => if m = .fro then none else match ixN xs.length i with
    | none => none
    | some k => some (env.set j (some (.mu m (.ls (xs.set k x)))))
  | _ => none
theorem AtS.write {K : PySem.W.Frag} {σ : St} {B : Mset} {H : Hp} {env : Sl} {j : Nat} {m : Md} {c c' : Ct} {a : Addr} {o : HO} (en : EnvR K B H σ env) (hj : env[j]? = some (some (.mu m c))) (hm : m ≠ .fro) (ha : σ[j]? = some (some (.ref a))) (ni : ∀ o', H a = some o' → ¬ Imm o')
    (hc : ∀ H', (∀ q o', q ≠ a → H q = some o' → H' q = some o') → H' a = some o → Grow B H B H' → CtR K B H' a c') : Grow B H B (upd H a o) ∧ At K σ B H env B (upd H a o) (env.set j (some (.mu m c'))) := by
  have hjl : j < env.length := (List.getElem?_eq_some_iff.mp hj).1
  obtain ⟨a', ha', hb, _⟩ := en.mu j m c hj
  rw [ha] at ha'
  cases ha'
  have w : Wof σ env a := ⟨j, m, c, hj, hm, ha⟩
  have g : Grow B H B (upd H a o) := ⟨fun q o' h n => by
    by_cases e : q = a
    · subst e
      rcases n with n | n
      · exact absurd hb n.1
      · exact absurd n (ni _ h)
    · rw [upd_ne e]; exact h, fun q h => .inl h⟩
  refine ⟨g, ⟨fun q o' h n => ?_, fun q h => .inl h, fun q h _ => h, fun q w' => ?_, fun q h => ?_⟩, ⟨by simp [en.len], fun i x h => ?_, fun i x h => ?_, fun i m' d h => ?_, fun i k m1 m2 c1 c2 q h1 h2 h3 h4 => ?_, fun q h => ?_, en.tb.on (fun q o' h n => by rw [upd_ne (fun e => n (by rw [e]; exact hb))]; exact h) g.new⟩, fun i m1 c1 h => ?_, fun i m1 c1 h => ?_⟩
  · by_cases e : q = a
    · subst e
      rcases n with n | n
      · exact absurd w n.1
      · exact absurd n (ni _ h)
    · rw [upd_ne e]; exact h
  · obtain ⟨i, m1, c1, h1, h2, h3⟩ := w'
    rcases get_set h1 with ⟨e, e'⟩ | ⟨e, h1⟩
    · subst e; rw [ha] at h3; cases h3; exact .inl w
    · exact .inl ⟨i, m1, c1, h1, h2, h3⟩
  · by_cases e : q = a
    · subst e; rw [upd_same] at h; cases h
    · rw [upd_ne e] at h; exact h
  · rcases get_set h with ⟨e, e'⟩ | ⟨e, h⟩
    · cases e'
    · obtain ⟨v, h1, h2⟩ := en.pd i x h
      exact ⟨v, h1, h2.grow g⟩
  · rcases get_set h with ⟨e, e'⟩ | ⟨e, h⟩
    · cases e'
    · obtain ⟨v, h1, h2⟩ := en.nt i x h
      exact ⟨v, h1, h2.grow g⟩
  · rcases get_set h with ⟨e, e'⟩ | ⟨e, h⟩
    · cases e'
      subst e
      exact ⟨a, ha, hb, hc _ (fun q o' n h => by rw [upd_ne n]; exact h) upd_same g⟩
    · obtain ⟨b, h1, h2, h3⟩ := en.mu i m' d h
      refine ⟨b, h1, h2, ?_⟩
      have nb : b ≠ a := fun z => by subst z; exact e (en.inj j i m m' c d b hj h ha h1)
      cases d with
      | ls xs => obtain ⟨vs, h4, h5⟩ := h3; exact ⟨vs, by rw [upd_ne nb]; exact h4, h5.grow g⟩
      | dk xs => obtain ⟨vs, h4, h5⟩ := h3; exact ⟨vs, by rw [upd_ne nb]; exact h4, h5.grow g⟩
      | dn xs => obtain ⟨vs, h4, h5⟩ := h3; exact ⟨vs, by rw [upd_ne nb]; exact h4, h5.grow g⟩
  · have f : ∀ {i : Nat} {m1 : Md} {c1 : Ct}, (env.set j (some (S.mu m c')))[i]? = some (some (.mu m1 c1)) → ∃ m2 c2, env[i]? = some (some (.mu m2 c2)) := fun {i m1 c1} h => by
      rcases get_set h with ⟨e, e'⟩ | ⟨e, h⟩
      · subst e; exact ⟨m, c, hj⟩
      · exact ⟨_, _, h⟩
    obtain ⟨_, _, g1⟩ := f h1
    obtain ⟨_, _, g2⟩ := f h2
    exact en.inj i k _ _ _ _ q g1 g2 h3 h4
  · by_cases e : q = a
    · subst e; exact ⟨_, upd_same⟩
    · rw [upd_ne e]; exact en.dom q h
  · rcases get_set h with ⟨e, e'⟩ | ⟨e, h⟩
    · cases e'; subst e; exact ⟨c, hj⟩
    · exact ⟨_, h⟩
  · by_cases e : j = i
    · subst e; rw [hj] at h; cases h; exact ⟨c', by rw [List.getElem?_set_self hjl]⟩
    · exact ⟨c1, by rw [List.getElem?_set_ne e]; exact h⟩
end T3

end
section
set_option linter.all false
set_option autoImplicit false
set_option Elab.async false
namespace T3
open PySem L2
variable [TabL]

structure Wk (K : PySem.W.Frag) (J : It) (pr : Mset) (G : Mset → Hp → Prop) (xs : List PyData) : Prop where
  go : ∀ i B H, G B H → i < xs.length → J.go i H
  stop : ∀ B H, G B H → J.stop xs.length H
  yld : ∀ (i : Nat) B H x H' d, G B H → xs[i]? = some d → J.yld i H x H' → (H' = H ∨ (∃ T vs, H T = none ∧ H' = upd H T (.tup vs)) ∨ ∃ T vs T2 vs2, H T = none ∧ upd H T (.tup vs) T2 = none ∧ H' = upd (upd H T (.tup vs)) T2 (.tup vs2)) ∧ Rp K B H' x d
  keep : ∀ W B H W' B' H', G B H → Stp W B H W' B' H' → (∀ a, W a → B a) → (∀ a, pr a → ¬ W a) → G B' H'

abbrev Lk := Option (Nat × Md)
abbrev EI := Sl → Option (List PyData × Lk × Sl)
def Locked (lk : Lk) (e e' : Sl) : Prop := match lk with
  | none => e' = e
  | some (i, m) => ∃ c, e[i]? = some (some (S.mu m c)) ∧ e' = e.set i (some (.mu .fro c))
def unlock (lk : Lk) (env : Sl) : Sl := match lk with
  | none => env
  | some (i, m) => match env[i]? with
    | some (some (.mu _ c)) => env.set i (some (.mu m c))
    | _ => env
def tI (K : PySem.W.Frag) (f : EI) : TI := fun σ H R => ∃ B env xs lk env', EnvR K B H σ env ∧ f env = some (xs, lk, env') ∧
  ∀ B' H' J pr G e1, At K σ B H env B' H' e1 → Locked lk e1 env' → Wk K J pr G xs → G B' H' → (∀ a, pr a → ¬ Wof σ env' a ∧ ∃ o, H' a = some o) → R J H'

theorem EnvR.mode {K : PySem.W.Frag} {B : Mset} {H : Hp} {σ : St} {env : Sl} {i : Nat} {m m' : Md} {c : Ct} (en : EnvR K B H σ env) (h : env[i]? = some (some (.mu m c))) : EnvR K B H σ (env.set i (some (.mu m' c))) := by
  have f : ∀ {j : Nat} {m1 : Md} {c1 : Ct}, (env.set i (some (S.mu m' c)))[j]? = some (some (.mu m1 c1)) → ∃ m2, env[j]? = some (some (.mu m2 c1)) := fun {j m1 c1} h1 => by
    rcases get_set h1 with ⟨e, e'⟩ | ⟨e, h1⟩
    · cases e'; subst e; exact ⟨m, h⟩
    · exact ⟨_, h1⟩
  refine ⟨by simp [en.len], fun j x h1 => ?_, fun j x h1 => ?_, fun j m1 c1 h1 => ?_, fun j k m1 m2 c1 c2 a h1 h2 h3 h4 => ?_, en.dom, en.tb⟩
  · rcases get_set h1 with ⟨e, e'⟩ | ⟨e, h1⟩
    · cases e'
    · exact en.pd j x h1
  · rcases get_set h1 with ⟨e, e'⟩ | ⟨e, h1⟩
    · cases e'
    · exact en.nt j x h1
  · obtain ⟨m2, h2⟩ := f h1
    exact en.mu j m2 c1 h2
  · obtain ⟨_, g1⟩ := f h1
    obtain ⟨_, g2⟩ := f h2
    exact en.inj j k _ _ _ _ a g1 g2 h3 h4
theorem Locked.en {K : PySem.W.Frag} {B : Mset} {H : Hp} {σ : St} {lk : Lk} {e e' : Sl} (l : Locked lk e e') (en : EnvR K B H σ e) : EnvR K B H σ e' := by
  cases lk with
  | none => cases l; exact en
  | some p => obtain ⟨i, m⟩ := p; obtain ⟨c, h1, rfl⟩ := l; exact en.mode h1
theorem Locked.sub {σ : St} {lk : Lk} {e e' : Sl} (l : Locked lk e e') : ∀ a, Wof σ e' a → Wof σ e a := by
  cases lk with
  | none => cases l; exact fun _ h => h
  | some p =>
    obtain ⟨i, m⟩ := p
    obtain ⟨c, h1, rfl⟩ := l
    rintro a ⟨j, m1, c1, h2, h3, h4⟩
    rcases get_set h2 with ⟨e, e'⟩ | ⟨e, h2⟩
    · cases e'; exact absurd rfl h3
    · exact ⟨j, m1, c1, h2, h3, h4⟩
theorem Locked.stp {W B B1 : Mset} {H H1 : Hp} {σ : St} {lk : Lk} {e e' : Sl} (l : Locked lk e e') (s : Stp W B H (Wof σ e) B1 H1) : Stp W B H (Wof σ e') B1 H1 := ⟨s.keep, s.new, s.old, fun a h => s.sub a (l.sub a h), s.liv⟩
theorem AtS.through {K : PySem.W.Frag} {σ σ2 : St} {B B1 B2 : Mset} {H H1 H2 : Hp} {env e1 e1' e2 : Sl} {lk : Lk} (en : EnvR K B H σ env) (a : At K σ B H env B1 H1 e1) (l : Locked lk e1 e1') (b : AtS K σ B1 H1 e1' σ2 B2 H2 e2) : AtS K σ B H env σ2 B2 H2 (unlock lk e2) := by
  have t : Stp (Wof σ env) B H (Wof σ2 e2) B2 H2 := (l.stp a.st).trans b.st en.wb en.dom
  cases lk with
  | none =>
    cases l
    exact ⟨t, b.en, fun i m c h hm => by
      obtain ⟨c1, h1⟩ := a.ks i m c h
      exact b.bo i m c1 h1 hm⟩
  | some p =>
    obtain ⟨i, m⟩ := p
    obtain ⟨c, h1, rfl⟩ := l
    have hi : i < e1.length := (List.getElem?_eq_some_iff.mp h1).1
    obtain ⟨hσ, c2, h2⟩ := b.bo i .fro c (by rw [List.getElem?_set_self hi]) (by decide)
    have hi2 : i < e2.length := (List.getElem?_eq_some_iff.mp h2).1
    have eu : unlock (some (i, m)) e2 = e2.set i (some (.mu m c2)) := by simp only [unlock, h2]
    rw [eu]
    refine ⟨⟨t.keep, t.new, t.old, fun q w => ?_, t.liv⟩, b.en.mode h2, fun j n d h hn => ?_⟩
    · obtain ⟨j, m1, d, g1, g2, g3⟩ := w
      rcases get_set g1 with ⟨e, e'⟩ | ⟨e, g1⟩
      · cases e'
        subst e
        rw [hσ] at g3
        exact a.st.sub q ⟨i, m, c, h1, g2, g3⟩
      · exact t.sub q ⟨j, m1, d, g1, g2, g3⟩
    · obtain ⟨d1, g1⟩ := a.ks j n d h
      by_cases e : i = j
      · subst e
        rw [h1] at g1
        cases g1
        exact ⟨hσ, c2, by rw [List.getElem?_set_self hi2]⟩
      · obtain ⟨g2, d2, g3⟩ := b.bo j n d1 (by rw [List.getElem?_set_ne e]; exact g1) hn
        exact ⟨g2, d2, by rw [List.getElem?_set_ne e]; exact g3⟩
theorem RR.relock {K : PySem.W.Frag} {H₀ H : Hp} {B : Mset} {σ : St} {env : Sl} {v : V} {d : R} {lk : Lk} (h : RR K H₀ B H σ env v d) : RR K H₀ B H σ (T3.unlock lk env) v d := by
  cases lk with
  | none => exact h
  | some p =>
    obtain ⟨i, m⟩ := p
    simp only [T3.unlock]
    split
    · rename_i m1 c h1
      have hi := (List.getElem?_eq_some_iff.mp h1).1
      cases d with
      | pd x => exact h
      | nt x => exact h
      | tmp t =>
        obtain ⟨a, e, h2, h3, h4, h5⟩ := h
        refine ⟨a, e, h2, h3, h4, fun j n d g => ?_⟩
        rcases get_set g with ⟨e, e'⟩ | ⟨e, g⟩
        · subst e; exact h5 i _ _ h1
        · exact h5 j n d g
      | var j =>
        obtain ⟨h2, n, d, h3⟩ := h
        refine ⟨h2, ?_⟩
        by_cases q : i = j
        · subst q; exact ⟨m, c, by rw [List.getElem?_set_self hi]⟩
        · exact ⟨n, d, by rw [List.getElem?_set_ne q]; exact h3⟩
    · exact h
theorem At.pair {K : PySem.W.Frag} {σ : St} {B : Mset} {H : Hp} {env : Sl} {T : Addr} {vs : List V} (en : EnvR K B H σ env) (nT : H T = none) : At K σ B H env B (upd H T (.tup vs)) env := by
  have ne : ∀ {q o'}, H q = some o' → q ≠ T := fun {q o'} h e => by rw [e, nT] at h; cases h
  have g : Grow B H B (upd H T (.tup vs)) := ⟨fun q o' h _ => by rw [upd_ne (ne h)]; exact h, fun q h => .inl h⟩
  refine ⟨⟨fun q o' h c => by rw [upd_ne (ne h)]; exact h, fun q h => .inl h, fun q h _ => h, fun q h => .inl h, fun q h => ?_⟩, ⟨en.len, fun i x h => ?_, fun i x h => ?_, fun i m c h => ?_, en.inj, fun q h => ?_, en.tb.on (fun q o' h _ => by rw [upd_ne (ne h)]; exact h) g.new⟩, fun i m c h => ⟨c, h⟩, fun i m c h => ⟨c, h⟩⟩
  · by_cases e : q = T
    · rw [e]; exact nT
    · rw [upd_ne e] at h; exact h
  · obtain ⟨v, h1, h2⟩ := en.pd i x h
    exact ⟨v, h1, h2.grow g⟩
  · obtain ⟨v, h1, h2⟩ := en.nt i x h
    exact ⟨v, h1, h2.grow g⟩
  · obtain ⟨q, h1, h2, h3⟩ := en.mu i m c h
    refine ⟨q, h1, h2, ?_⟩
    cases c with
    | ls xs => obtain ⟨vs, h4, h5⟩ := h3; exact ⟨vs, by rw [upd_ne (ne h4)]; exact h4, h5.grow g⟩
    | dk xs => obtain ⟨vs, h4, h5⟩ := h3; exact ⟨vs, by rw [upd_ne (ne h4)]; exact h4, h5.grow g⟩
    | dn xs => obtain ⟨vs, h4, h5⟩ := h3; exact ⟨vs, by rw [upd_ne (ne h4)]; exact h4, h5.grow g⟩
  · obtain ⟨o', ho⟩ := en.dom q h
    exact ⟨o', by rw [upd_ne (ne ho)]; exact ho⟩

def forL (g : GG) (body : SS) : List PyData → SS
  | [], env => some (.nx, env)
  | x :: xs, env => match g x env with
    | none => none
    | some e1 => match body e1 with
      | none => none
      | some (.nx, e2) => forL g body xs e2
      | some (.ct, e2) => forL g body xs e2
      | some (.bk, e2) => some (.nx, e2)
      | some (.rt d, e2) => some (.rt d, e2)
def sFor (it : EI) (g : GG) (body : SS) : SS := fun env => match it env with
  | none => none
  | some (xs, lk, e1) => match forL g body xs e1 with
    | none => none
    | some (fl, e2) => some (fl, unlock lk e2)
theorem rd_for {K : PySem.W.Frag} {it : EI} {g : GG} {body : SS} {D : Ends} {σ : St} {H : Hp} (h : tS K (sFor it g body) D σ H) : tFor (tI K it) (tG K g) (tS K body) D σ H := by
  obtain ⟨B, env, fl, env', en, ev, q⟩ := h
  unfold sFor at ev
  split at ev
  · cases ev
  rename_i xs lk e1 h1
  split at ev
  · cases ev
  rename_i fl' e2 h2
  cases ev
  refine ⟨B, env, xs, lk, e1, en, h1, fun B1 H1 J pr G e0 a1 lkd wk g0 hpr => ?_⟩
  have en1 : EnvR K B1 H1 σ e1 := lkd.en a1.en
  -- the walked thing stands wherever one comes
  have stays : ∀ {σi Bi Hi ei}, AtS K σ B1 H1 e1 σi Bi Hi ei → G Bi Hi := fun {σi Bi Hi ei} a => wk.keep _ _ _ _ _ _ g0 a.st en1.wb fun x hx => (hpr x hx).1
  have done : ∀ {σi Bi Hi ei}, AtS K σ B1 H1 e1 σi Bi Hi ei → ei = e2 → Fin K D H fl Bi σi Hi (unlock lk e2) := fun {σi Bi Hi ei} a e => by
    subst e
    exact q Bi σi Hi (AtS.through en a1 lkd a)
  refine ⟨fun i m σi Hi => i ≤ xs.length ∧ m = xs.length - i ∧ ∃ Bi ei, AtS K σ B1 H1 e1 σi Bi Hi ei ∧ forL g body (xs.drop i) ei = some (fl, e2), ⟨_, Nat.zero_le _, rfl, B1, e1, .refl en1, h2⟩, ?_⟩
  rintro i m σi Hi ⟨hi, rfl, Bi, ei, ai, fi⟩
  have gi := stays ai
  by_cases hlt : i < xs.length
  · have hd : xs.drop i = xs[i] :: xs.drop (i + 1) := List.drop_eq_getElem_cons hlt
    rw [hd] at fi
    unfold forL at fi
    split at fi
    · cases fi
    rename_i e3 h3
    refine .inr ⟨wk.go i Bi Hi gi hlt, fun σ' H' => ∃ B' e', AtS K σ B1 H1 e1 σ' B' H' e' ∧ forL g body (xs.drop (i + 1)) e' = some (fl, e2), fun σ' H' ⟨B', e', a', f'⟩ => ⟨xs.length - (i + 1), by omega, hlt, rfl, B', e', a', f'⟩, fun x H' hy => ?_⟩
    obtain ⟨hH, rx⟩ := wk.yld i Bi Hi x H' xs[i] gi (List.getElem?_eq_getElem hlt) hy
    have ay : At K σi Bi Hi ei Bi H' ei := by
      rcases hH with e | ⟨T, vs, nT, e⟩ | ⟨T, vs, T2, vs2, nT, nT2, e⟩
      · subst e; exact .refl ai.en
      · subst e; exact At.pair ai.en nT
      · subst e; exact (At.pair ai.en nT).trans ai.en (At.pair (At.pair ai.en nT).en nT2)
    have ai' : AtS K σ B1 H1 e1 σi Bi H' ei := ai.trans en1 ay.s
    refine ⟨Bi, ei, xs[i], e3, ay.en, rx, h3, fun B3 σ3 H3 a3 => ?_⟩
    have a3' : AtS K σ B1 H1 e1 σ3 B3 H3 e3 := ai'.trans en1 a3
    split at fi
    · cases fi
    · rename_i e4 h4
      exact ⟨B3, e3, .nx, e4, a3.en, h4, fun B4 σ4 H4 a4 => ⟨B4, e4, a3'.trans en1 a4, fi⟩⟩
    · rename_i e4 h4
      exact ⟨B3, e3, .ct, e4, a3.en, h4, fun B4 σ4 H4 a4 => ⟨B4, e4, a3'.trans en1 a4, fi⟩⟩
    · rename_i e4 h4
      cases fi
      exact ⟨B3, e3, .bk, _, a3.en, h4, fun B4 σ4 H4 a4 => done (a3'.trans en1 a4) rfl⟩
    · rename_i d e4 h4
      cases fi
      refine ⟨B3, e3, .rt d, _, a3.en, h4, fun B4 σ4 H4 a4 v r => ?_⟩
      have z := done (a3'.trans en1 a4) rfl
      exact z v ((r.from fun a h => a1.st.liv a (a3'.st.liv a h)).relock)
  · have e : i = xs.length := by omega
    subst e
    rw [List.drop_length] at fi
    cases fi
    exact .inl ⟨wk.stop Bi Hi gi, done ai rfl⟩
end T3

end
section
set_option linter.all false
set_option autoImplicit false
set_option Elab.async false
namespace T3
open PySem L2
variable [TabL]

def whileN (c : EB) (body : SS) : Nat → SS
  | 0, _ => none
  | n + 1, env => match c env with
    | none => none
    | some (false, e) => some (.nx, e)
    | some (true, e) => match body e with
      | none => none
      | some (.nx, e2) => whileN c body n e2
      | some (.ct, e2) => whileN c body n e2
      | some (.bk, e2) => some (.nx, e2)
      | some (.rt d, e2) => some (.rt d, e2)
theorem whileN_more {c : EB} {body : SS} : ∀ {n m : Nat} {env : Sl} {r : Fl × Sl}, whileN c body n env = some r → n ≤ m → whileN c body m env = some r
  | 0, _, _, _, h, _ => by cases h
  | n + 1, 0, _, _, _, hm => by omega
  | n + 1, m + 1, env, r, h, hm => by
    unfold whileN at h ⊢
    cases hc : c env with
    | none => rw [hc] at h; cases h
    | some p =>
      obtain ⟨b, e⟩ := p
      rw [hc] at h
      cases b with
      | false => exact h
      | true =>
        simp only at h ⊢
        cases hb : body e with
        | none => rw [hb] at h; cases h
        | some q =>
          obtain ⟨fl, e2⟩ := q
          rw [hb] at h
          cases fl with
          | nx => exact whileN_more (n := n) (m := m) h (by omega)
          | ct => exact whileN_more (n := n) (m := m) h (by omega)
          | bk => exact h
          | rt d => exact h
open Classical in
noncomputable def sWhile (c : EB) (body : SS) : SS := fun env => if h : ∃ r, ∃ n, whileN c body n env = some r then some (choose h) else none
theorem sWhile_of {c : EB} {body : SS} {n : Nat} {env : Sl} {r : Fl × Sl} (h : whileN c body n env = some r) : sWhile c body env = some r := by
  have ex : ∃ r, ∃ n, whileN c body n env = some r := ⟨r, n, h⟩
  unfold sWhile
  rw [dif_pos ex]
  obtain ⟨m, hm⟩ := Classical.choose_spec ex
  have h1 := whileN_more h (Nat.le_max_left n m)
  have h2 := whileN_more hm (Nat.le_max_right n m)
  rw [h1] at h2
  rw [← Option.some.inj h2]
theorem sWhile_ex {c : EB} {body : SS} {env : Sl} {r : Fl × Sl} (h : sWhile c body env = some r) : ∃ n, whileN c body n env = some r := by
  unfold sWhile at h
  split at h
  · rename_i ex
    obtain ⟨m, hm⟩ := Classical.choose_spec ex
    exact ⟨m, by rw [hm]; exact h⟩
  · cases h
theorem rd_while {K : PySem.W.Frag} {c : EB} {body : SS} {D : Ends} {σ : St} {H : Hp} (h : tS K (sWhile c body) D σ H) : tWhile (tT K c) (tS K body) D σ H := by
  obtain ⟨B, env, fl, env', en, ev, q⟩ := h
  obtain ⟨n, hn⟩ := sWhile_ex ev
  refine ⟨fun m σi Hi => ∃ Bi ei, AtS K σ B H env σi Bi Hi ei ∧ whileN c body m ei = some (fl, env'), ⟨n, B, env, .refl en, hn⟩, ?_⟩
  rintro m σi Hi ⟨Bi, ei, ai, fi⟩
  cases m with
  | zero => cases fi
  | succ m =>
    unfold whileN at fi
    split at fi
    · cases fi
    · rename_i e h1
      cases fi
      refine ⟨Bi, ei, false, _, ai.en, h1, fun B1 H1 a1 => ?_⟩
      simp
      exact q B1 σi H1 (ai.trans en a1.s)
    · rename_i e h1
      refine ⟨Bi, ei, true, e, ai.en, h1, fun B1 H1 a1 => ?_⟩
      have a1' := ai.trans en a1.s
      simp
      refine ⟨fun σ' H' => ∃ B' e', AtS K σ B H env σ' B' H' e' ∧ whileN c body m e' = some (fl, env'), fun σ' H' ⟨B', e', a', f'⟩ => ⟨m, by omega, B', e', a', f'⟩, ?_⟩
      split at fi
      · cases fi
      · rename_i e2 h2
        exact ⟨B1, e, .nx, e2, a1.en, h2, fun B2 σ2 H2 a2 => ⟨B2, e2, a1'.trans en a2, fi⟩⟩
      · rename_i e2 h2
        exact ⟨B1, e, .ct, e2, a1.en, h2, fun B2 σ2 H2 a2 => ⟨B2, e2, a1'.trans en a2, fi⟩⟩
      · rename_i e2 h2
        cases fi
        exact ⟨B1, e, .bk, _, a1.en, h2, fun B2 σ2 H2 a2 => q B2 σ2 H2 (a1'.trans en a2)⟩
      · rename_i d e2 h2
        cases fi
        exact ⟨B1, e, .rt d, _, a1.en, h2, fun B2 σ2 H2 a2 v r => q B2 σ2 H2 (a1'.trans en a2) v (r.from a1'.st.liv)⟩

abbrev FnD := List S → Option (R × List S)
def outR (env : Sl) : R → Option R
  | .pd x => some (.pd x)
  | .nt x => some (.nt x)
  | .tmp c => some (.tmp c)
  | .var i => match env[i]? with
    | some (some (.mu .own c)) => some (.tmp c)
    | _ => none
def finals : List S → Sl → Option (List S)
  | [], _ => some []
  | .pd x :: as, _ :: env => match finals as env with
    | none => none
    | some l => some (.pd x :: l)
  | .nt x :: as, _ :: env => match finals as env with
    | none => none
    | some l => some (.nt x :: l)
  | .mu m _ :: as, some (.mu m' c') :: env => if m = m' ∧ m ≠ .own then match finals as env with
      | none => none
      | some l => some (.mu m c' :: l)
    else none
  | _ :: _, _ => none
def startE (n : Nat) (as : List S) : Sl := as.map some ++ List.replicate (n - as.length) none
def runFn (n : Nat) (b : SS) : FnD := fun as => match b (startE n as) with
  | some (.rt d, e) => match outR e d with
    | none => none
    | some d' => match finals as e with
      | none => none
      | some as' => some (d', as')
  | some (.nx, e) => match finals as e with
    | none => none
    | some as' => some (.pd .none, as')
  | _ => none
def spF (K : PySem.W.Frag) (F : FnD) (n : Nat) : Sp := fun vs H Q _ => vs.length = n ∧ ∃ B as d as', EnvR K B H (vs.map some) (as.map some) ∧ F as = some (d, as') ∧
  ∀ B' H' v, At K (vs.map some) B H (as.map some) B' H' (as'.map some) → RR K H B' H' (vs.map some) (as'.map some) v d → (∀ i, d ≠ .var i) → Q v H'

theorem finals_get : ∀ {as : List S} {env : Sl} {as' : List S}, finals as env = some as' → as'.length = as.length ∧ ∀ (i : Nat) s, as[i]? = some s → (∃ x, s = .pd x ∧ as'[i]? = some (.pd x)) ∨ (∃ x, s = .nt x ∧ as'[i]? = some (.nt x)) ∨ (∃ m c c', s = .mu m c ∧ m ≠ .own ∧ env[i]? = some (some (.mu m c')) ∧ as'[i]? = some (.mu m c'))
  | [], _, _, h => by cases h; exact ⟨rfl, fun i s h => by simp at h⟩
  | .pd x :: as, [], _, h => by cases h
  | .nt x :: as, [], _, h => by cases h
  | .mu _ _ :: as, [], _, h => by cases h
  | .pd x :: as, e :: env, as', h => by
    unfold finals at h
    split at h
    · cases h
    rename_i l hl
    cases h
    obtain ⟨h1, h2⟩ := finals_get hl
    refine ⟨by simp [h1], fun i s hs => ?_⟩
    cases i with
    | zero => simp at hs; subst hs; exact .inl ⟨x, rfl, rfl⟩
    | succ i => simpa using h2 i s (by simpa using hs)
  | .nt x :: as, e :: env, as', h => by
    unfold finals at h
    split at h
    · cases h
    rename_i l hl
    cases h
    obtain ⟨h1, h2⟩ := finals_get hl
    refine ⟨by simp [h1], fun i s hs => ?_⟩
    cases i with
    | zero => simp at hs; subst hs; exact .inr (.inl ⟨x, rfl, rfl⟩)
    | succ i => simpa using h2 i s (by simpa using hs)
  | .mu m c :: as, none :: env, _, h => by cases h
  | .mu m c :: as, some (.pd _) :: env, _, h => by cases h
  | .mu m c :: as, some (.nt _) :: env, _, h => by cases h
  | .mu m c :: as, some (.mu m' c') :: env, as', h => by
    unfold finals at h
    split at h
    · rename_i hm
      obtain ⟨rfl, hm⟩ := hm
      split at h
      · cases h
      rename_i l hl
      cases h
      obtain ⟨h1, h2⟩ := finals_get hl
      refine ⟨by simp [h1], fun i s hs => ?_⟩
      cases i with
      | zero => simp at hs; subst hs; exact .inr (.inr ⟨m, c, c', rfl, hm, rfl, rfl⟩)
      | succ i => simpa using h2 i s (by simpa using hs)
    · cases h

theorem startE_get {n : Nat} {as : List S} {i : Nat} {s : S} : (startE n as)[i]? = some (some s) ↔ as[i]? = some s := by
  unfold startE
  by_cases h : i < as.length
  · rw [List.getElem?_append_left (by simpa using h), List.getElem?_map, List.getElem?_eq_getElem h]
    simp
  · rw [List.getElem?_append_right (by simpa using h), List.getElem?_eq_none (l := as) (by omega)]
    simp only [List.length_map]
    constructor
    · intro q
      by_cases z : i - as.length < n - as.length
      · rw [List.getElem?_replicate, if_pos z] at q; cases q
      · rw [List.getElem?_replicate, if_neg z] at q; cases q
    · intro q; cases q
theorem start_get {N : List Str} {vs : List V} {i : Nat} {v : V} : (start N vs)[i]? = some (some v) ↔ vs[i]? = some v := by
  unfold L2.start
  by_cases h : i < vs.length
  · rw [List.getElem?_append_left (by simpa using h), List.getElem?_map, List.getElem?_eq_getElem h]
    simp
  · rw [List.getElem?_append_right (by simpa using h), List.getElem?_eq_none (l := vs) (by omega)]
    simp only [List.length_map]
    constructor
    · intro q
      by_cases z : i - vs.length < N.length - vs.length
      · rw [List.getElem?_replicate, if_pos z] at q; cases q
      · rw [List.getElem?_replicate, if_neg z] at q; cases q
    · intro q; cases q
theorem map_get {α : Type} {l : List α} {i : Nat} {x : α} : (l.map some)[i]? = some (some x) ↔ l[i]? = some x := by
  rw [List.getElem?_map]
  cases l[i]? <;> simp
theorem fn_body {K : PySem.W.Frag} {n : Nat} {N : List Str} {b : SS} {vs : List V} {H : Hp} {Q : VK} {E : XK} (h : spF K (runFn N.length b) n vs H Q E) : tS K b { nx := fun _ H' => Q .non H', rt := Q } (start N vs) H := by
  obtain ⟨hn, B, as, d, as', en, hF, q⟩ := h
  have hl : as.length = vs.length := by simpa using en.len
  have en0 : EnvR K B H (start N vs) (startE N.length as) := by
    refine ⟨by simp [startE, L2.start, hl], fun i x h => ?_, fun i x h => ?_, fun i m c h => ?_, fun i j m m' c c' a h1 h2 h3 h4 => ?_, en.dom, en.tb⟩
    · obtain ⟨v, h1, h2⟩ := en.pd i x (map_get.mpr (startE_get.mp h))
      exact ⟨v, start_get.mpr (map_get.mp h1), h2⟩
    · obtain ⟨v, h1, h2⟩ := en.nt i x (map_get.mpr (startE_get.mp h))
      exact ⟨v, start_get.mpr (map_get.mp h1), h2⟩
    · obtain ⟨v, h1, h2⟩ := en.mu i m c (map_get.mpr (startE_get.mp h))
      exact ⟨v, start_get.mpr (map_get.mp h1), h2⟩
    · exact en.inj i j m m' c c' a (map_get.mpr (startE_get.mp h1)) (map_get.mpr (startE_get.mp h2)) (map_get.mpr (start_get.mp h3)) (map_get.mpr (start_get.mp h4))
  have wiff : ∀ a, Wof (start N vs) (startE N.length as) a ↔ Wof (vs.map some) (as.map some) a := fun a => by
    constructor
    · rintro ⟨i, m, c, h1, h2, h3⟩; exact ⟨i, m, c, map_get.mpr (startE_get.mp h1), h2, map_get.mpr (start_get.mp h3)⟩
    · rintro ⟨i, m, c, h1, h2, h3⟩; exact ⟨i, m, c, startE_get.mpr (map_get.mp h1), h2, start_get.mpr (map_get.mp h3)⟩
  -- where the body ends
  have key : ∀ {e : Sl} {B' σ' H'}, finals as e = some as' → AtS K (start N vs) B H (startE N.length as) σ' B' H' e → At K (vs.map some) B H (as.map some) B' H' (as'.map some) ∧ (∀ (i : Nat) m c, as'[i]? = some (.mu m c) → m ≠ .own ∧ e[i]? = some (some (.mu m c)) ∧ ∀ v, vs[i]? = some v → σ'[i]? = some (some v)) := by
    intro e B' σ' H' hf a
    obtain ⟨f1, f2⟩ := finals_get hf
    have back : ∀ (i : Nat) m c, as'[i]? = some (.mu m c) → m ≠ .own ∧ e[i]? = some (some (.mu m c)) ∧ (∃ c0, as[i]? = some (.mu m c0)) ∧ ∀ v, vs[i]? = some v → σ'[i]? = some (some v) := by
      intro i m c h
      have hi : i < as.length := by rw [← f1]; exact (List.getElem?_eq_some_iff.mp h).1
      rcases f2 i as[i] (List.getElem?_eq_getElem hi) with ⟨x, e1, e2⟩ | ⟨x, e1, e2⟩ | ⟨m1, c1, c2, e1, e2, e3, e4⟩
      · rw [h] at e2; cases e2
      · rw [h] at e2; cases e2
      · rw [h] at e4
        cases e4
        have hs : as[i]? = some (.mu m c1) := by rw [List.getElem?_eq_getElem hi, e1]
        refine ⟨e2, e3, ⟨c1, hs⟩, fun v hv => ?_⟩
        obtain ⟨g1, _⟩ := a.bo i m c1 (startE_get.mpr hs) e2
        rw [g1]
        exact start_get.mpr hv
    have wsub : ∀ q, Wof (vs.map some) (as'.map some) q → Wof (vs.map some) (as.map some) q := by
      rintro q ⟨i, m, c, h1, h2, h3⟩
      obtain ⟨_, _, ⟨c0, h4⟩, _⟩ := back i m c (map_get.mp h1)
      exact ⟨i, m, c0, map_get.mpr h4, h2, h3⟩
    have st : Stp (Wof (vs.map some) (as.map some)) B H (Wof (vs.map some) (as'.map some)) B' H' :=
      ⟨fun q o h c => a.st.keep q o h (c.imp (fun n => ⟨fun w => n.1 ((wiff q).mp w), n.2⟩) id), a.st.new, fun q h w => a.st.old q h fun w' => w ((wiff q).mp w'), fun q w => .inl (wsub q w), a.st.liv⟩
    refine ⟨⟨st, ⟨by simp [f1, hl], fun i x h => ?_, fun i x h => ?_, fun i m c h => ?_, fun i j m m' c c' p h1 h2 h3 h4 => ?_, a.en.dom, a.en.tb⟩, fun i m c h => ?_, fun i m c h => ?_⟩, fun i m c h => ⟨(back i m c h).1, (back i m c h).2.1, (back i m c h).2.2.2⟩⟩
    · have h := map_get.mp h
      have hi : i < as.length := by rw [← f1]; exact (List.getElem?_eq_some_iff.mp h).1
      rcases f2 i as[i] (List.getElem?_eq_getElem hi) with ⟨y, e1, e2⟩ | ⟨y, e1, e2⟩ | ⟨m1, c1, c2, e1, e2, e3, e4⟩
      · rw [h] at e2
        cases e2
        obtain ⟨v, g1, g2⟩ := en.pd i x (map_get.mpr (by rw [List.getElem?_eq_getElem hi, e1]))
        exact ⟨v, g1, g2.grow (a.st.grow en0.wb)⟩
      · rw [h] at e2; cases e2
      · rw [h] at e4; cases e4
    · have h := map_get.mp h
      have hi : i < as.length := by rw [← f1]; exact (List.getElem?_eq_some_iff.mp h).1
      rcases f2 i as[i] (List.getElem?_eq_getElem hi) with ⟨y, e1, e2⟩ | ⟨y, e1, e2⟩ | ⟨m1, c1, c2, e1, e2, e3, e4⟩
      · rw [h] at e2; cases e2
      · rw [h] at e2
        cases e2
        obtain ⟨v, g1, g2⟩ := en.nt i x (map_get.mpr (by rw [List.getElem?_eq_getElem hi, e1]))
        exact ⟨v, g1, g2.grow (a.st.grow en0.wb)⟩
      · rw [h] at e4; cases e4
    · obtain ⟨g0, g1, ⟨c0, g2⟩, g3⟩ := back i m c (map_get.mp h)
      obtain ⟨p, k1, k2, k3⟩ := a.en.mu i m c g1
      obtain ⟨p', k4, _⟩ := en.mu i m c0 (map_get.mpr g2)
      rw [g3 _ (map_get.mp k4)] at k1
      cases k1
      exact ⟨_, k4, k2, k3⟩
    · obtain ⟨_, _, ⟨c1, g1⟩, _⟩ := back i m c (map_get.mp h1)
      obtain ⟨_, _, ⟨c2, g2⟩, _⟩ := back j m' c' (map_get.mp h2)
      exact en.inj i j m m' c1 c2 p (map_get.mpr g1) (map_get.mpr g2) h3 h4
    · obtain ⟨_, _, ⟨c1, g1⟩, _⟩ := back i m c (map_get.mp h)
      exact ⟨c1, map_get.mpr g1⟩
    · have h := map_get.mp h
      rcases f2 i _ h with ⟨y, e1, e2⟩ | ⟨y, e1, e2⟩ | ⟨m1, c1, c2, e1, e2, e3, e4⟩
      · cases e1
      · cases e1
      · cases e1; exact ⟨c2, map_get.mpr e4⟩
  unfold runFn at hF
  split at hF
  · rename_i d0 e hb
    split at hF
    · cases hF
    rename_i d1 ho
    split at hF
    · cases hF
    rename_i as1 hf
    cases hF
    refine ⟨B, startE N.length as, .rt d0, e, en0, hb, fun B' σ' H' a v r => ?_⟩
    obtain ⟨at_, bk⟩ := key hf a
    cases d0 with
    | pd x => cases ho; exact q B' H' v at_ r (fun _ => nofun)
    | nt x => cases ho; exact q B' H' v at_ r (fun _ => nofun)
    | tmp c =>
      cases ho
      obtain ⟨p, rfl, r1, r2, r3, r4⟩ := r
      refine q B' H' _ at_ ⟨p, rfl, r1, r2, r3, fun i m c h1 h2 => ?_⟩ (fun _ => nofun)
      obtain ⟨_, g1, g2⟩ := bk i m c (map_get.mp h1)
      exact r4 i m c g1 (g2 _ (map_get.mp h2))
    | var j =>
      simp only [outR] at ho
      split at ho
      · rename_i c hc
        cases ho
        obtain ⟨r1, _⟩ := r
        obtain ⟨p, k1, k2, k3⟩ := a.en.mu j _ _ hc
        rw [k1] at r1
        cases r1
        have nsl : ∀ (i : Nat) m c, as'[i]? = some (.mu m c) → vs[i]? ≠ some (.ref p) := fun i m c' h1 h2 => by
          obtain ⟨g0, g1, g2⟩ := bk i m c' h1
          have e := a.en.inj j i _ _ _ _ p hc g1 k1 (g2 _ h2)
          subst e
          rw [hc] at g1
          cases g1
          exact g0 rfl
        refine q B' H' _ at_ ⟨p, rfl, ?_, k2, k3, fun i m c h1 h2 => nsl i m c (map_get.mp h1) (map_get.mp h2)⟩ (fun _ => nofun)
        rcases a.st.sub p ⟨j, _, _, hc, by decide, k1⟩ with w | w
        · obtain ⟨i, m, c0, h1, h2, h3⟩ := w
          obtain ⟨c1, h4⟩ := at_.ks i m c0 (map_get.mpr (startE_get.mp h1))
          exact absurd (start_get.mp h3) (nsl i m c1 (map_get.mp h4))
        · exact w
      · cases ho
  · rename_i e hb
    split at hF
    · cases hF
    rename_i as1 hf
    cases hF
    refine ⟨B, startE N.length as, .nx, e, en0, hb, fun B' σ' H' a => ?_⟩
    obtain ⟨at_, bk⟩ := key hf a
    exact q B' H' _ at_ .non (fun _ => nofun)
  · cases hF
theorem spF_len {K : PySem.W.Frag} {F : FnD} {n : Nat} {ps : List Str} (h : n = ps.length) : ∀ vs H Q E, spF K F n vs H Q E → vs.length = ps.length := fun vs H Q E q => by rw [← h]; exact q.1
end T3

end
section
set_option linter.all false
set_option autoImplicit false
set_option Elab.async false
namespace T3
open PySem L2
variable [TabL]

def toArg (env : Sl) : R → Option S
  | .pd x => some (.pd x)
  | .nt x => some (.nt x)
  | .tmp c => some (.mu .bor c)
  | .var i => match env[i]? with
    | some (some (.mu .fro c)) => some (.mu .fro c)
    | some (some (.mu _ c)) => some (.mu .bor c)
    | _ => none
def toArgs (env : Sl) : List R → Option (List S)
  | [] => some []
  | d :: ds => match toArg env d with
    | none => none
    | some a => match toArgs env ds with
      | none => none
      | some as => some (a :: as)
def hasVar (i : Nat) : List R → Bool
  | [] => false
  | .var j :: ds => decide (i = j) || hasVar i ds
  | _ :: ds => hasVar i ds
def varsApart : List R → Bool
  | [] => true
  | .var j :: ds => !hasVar j ds && varsApart ds
  | _ :: ds => varsApart ds
def back : List R → List S → Sl → Sl
  | .var i :: ds, .mu _ c :: as, env => match env[i]? with
    | some (some (.mu m _)) => back ds as (env.set i (some (.mu m c)))
    | _ => back ds as env
  | _ :: ds, _ :: as, env => back ds as env
  | _, _, env => env
def eCall (F : FnD) (f : EA) : EE := eThen f fun ds env => match toArgs env ds with
  | none => none
  | some as => if varsApart ds = true then match F as with
      | none => none
      | some (.var _, _) => none
      | some (d, as') => some (d, back ds as' env)
    else none

theorem toArgs_get {env : Sl} : ∀ {ds : List R} {as : List S}, toArgs env ds = some as → as.length = ds.length ∧ ∀ (k : Nat) d, ds[k]? = some d → ∃ s, as[k]? = some s ∧ toArg env d = some s
  | [], as, h => by cases h; exact ⟨rfl, fun k d h => by simp at h⟩
  | d :: ds, as, h => by
    unfold toArgs at h
    split at h
    · cases h
    rename_i a ha
    split at h
    · cases h
    rename_i as1 h1
    cases h
    obtain ⟨g1, g2⟩ := toArgs_get h1
    refine ⟨by simp [g1], fun k d' hd => ?_⟩
    cases k with
    | zero => simp at hd; subst hd; exact ⟨a, rfl, ha⟩
    | succ k => simpa using g2 k d' (by simpa using hd)
theorem hasVar_get {i : Nat} : ∀ {ds : List R} {k : Nat}, ds[k]? = some (.var i) → hasVar i ds = true
  | [], k, h => by simp at h
  | d :: ds, 0, h => by simp at h; subst h; simp [hasVar]
  | d :: ds, k + 1, h => by
    have := hasVar_get (ds := ds) (k := k) (by simpa using h)
    cases d <;> simp [hasVar, this]
theorem varsApart_get : ∀ {ds : List R} {k l i : Nat}, varsApart ds = true → ds[k]? = some (.var i) → ds[l]? = some (.var i) → k = l
  | [], k, _, _, _, h, _ => by simp at h
  | d :: ds, 0, 0, _, _, _, _ => rfl
  | d :: ds, 0, l + 1, i, hv, h, h' => by
    simp at h
    subst h
    have := hasVar_get (ds := ds) (k := l) (by simpa using h')
    simp [varsApart, this] at hv
  | d :: ds, k + 1, 0, i, hv, h, h' => by
    simp at h'
    subst h'
    have := hasVar_get (ds := ds) (k := k) (by simpa using h)
    simp [varsApart, this] at hv
  | d :: ds, k + 1, l + 1, i, hv, h, h' => by
    have hv' : varsApart ds = true := by cases d <;> simp [varsApart] at hv <;> first | exact hv | exact hv.2
    rw [varsApart_get (ds := ds) (k := k) (l := l) (i := i) hv' (by simpa using h) (by simpa using h')]
theorem varsApart_tail {d : R} {ds : List R} (h : varsApart (d :: ds) = true) : varsApart ds = true := by cases d <;> simp [varsApart] at h <;> first | exact h | exact h.2
theorem back_get : ∀ {ds : List R} {as : List S} {env : Sl}, varsApart ds = true → as.length = ds.length → (∀ (k : Nat) i, ds[k]? = some (.var i) → ∃ m c, env[i]? = some (some (.mu m c))) → (∀ (k : Nat) i, ds[k]? = some (.var i) → ∃ m c, as[k]? = some (.mu m c)) →
    (back ds as env).length = env.length ∧ (∀ j, (∀ k : Nat, ds[k]? ≠ some (.var j)) → (back ds as env)[j]? = env[j]?) ∧ ∀ (k : Nat) i m c m' c', ds[k]? = some (.var i) → env[i]? = some (some (.mu m c)) → as[k]? = some (.mu m' c') → (back ds as env)[i]? = some (some (.mu m c'))
  | [], [], env, _, _, _, _ => ⟨rfl, fun j _ => rfl, fun k i m c m' c' h => by simp at h⟩
  | [], _ :: _, _, _, h, _, _ => by simp at h
  | _ :: _, [], _, _, h, _, _ => by simp at h
  | d :: ds, a :: as, env, hv, hl, hm, hc => by
    have hl' : as.length = ds.length := by simpa using hl
    have hv' := varsApart_tail hv
    have plain : (∀ i, d ≠ .var i) → back (d :: ds) (a :: as) env = back ds as env := fun h => by
      cases d with
      | var i => exact absurd rfl (h i)
      | pd x => rfl
      | nt x => rfl
      | tmp c => rfl
    by_cases hd : ∃ i, d = .var i
    · obtain ⟨i, rfl⟩ := hd
      obtain ⟨m, c, h1⟩ := hm 0 i rfl
      obtain ⟨m', c', h2⟩ := hc 0 i rfl
      simp at h2
      subst h2
      have hi : i < env.length := (List.getElem?_eq_some_iff.mp h1).1
      have e : back (.var i :: ds) (.mu m' c' :: as) env = back ds as (env.set i (some (.mu m c'))) := by simp only [back, h1]
      have ni : ∀ k : Nat, ds[k]? ≠ some (.var i) := fun k z => by
        have := varsApart_get (ds := .var i :: ds) (k := 0) (l := k + 1) (i := i) hv rfl (by simpa using z)
        omega
      obtain ⟨b1, b2, b3⟩ := back_get (ds := ds) (as := as) (env := env.set i (some (.mu m c'))) hv' hl' (fun k j h => by
        obtain ⟨m1, c1, g⟩ := hm (k + 1) j (by simpa using h)
        have : i ≠ j := fun z => by subst z; exact ni k h
        exact ⟨m1, c1, by rw [List.getElem?_set_ne this]; exact g⟩) (fun k j h => by simpa using hc (k + 1) j (by simpa using h))
      rw [e]
      refine ⟨by simp [b1], fun j hj => ?_, fun k j m1 c1 m2 c2 g1 g2 g3 => ?_⟩
      · have n1 : i ≠ j := fun z => by subst z; exact hj 0 rfl
        rw [b2 j (fun k z => hj (k + 1) (by simpa using z)), List.getElem?_set_ne n1]
      · cases k with
        | zero =>
          simp at g1 g3
          subst g1
          rw [b2 _ ni, List.getElem?_set_self hi]
          rw [h1] at g2
          cases g2
          obtain ⟨_, rfl⟩ := g3
          rfl
        | succ k =>
          have g1' : ds[k]? = some (.var j) := by simpa using g1
          have n1 : i ≠ j := fun z => by subst z; exact ni k g1'
          exact b3 k j m1 c1 m2 c2 g1' (by rw [List.getElem?_set_ne n1]; exact g2) (by simpa using g3)
    · have hd' : ∀ i, d ≠ .var i := fun i z => hd ⟨i, z⟩
      rw [plain hd']
      obtain ⟨b1, b2, b3⟩ := back_get (ds := ds) (as := as) (env := env) hv' hl' (fun k j h => by simpa using hm (k + 1) j (by simpa using h)) (fun k j h => by simpa using hc (k + 1) j (by simpa using h))
      refine ⟨b1, fun j hj => b2 j (fun k z => hj (k + 1) (by simpa using z)), fun k j m1 c1 m2 c2 g1 g2 g3 => ?_⟩
      cases k with
      | zero => simp at g1; exact absurd g1 (hd' j)
      | succ k => exact b3 k j m1 c1 m2 c2 (by simpa using g1) g2 (by simpa using g3)

theorem rd_callS {K : PySem.W.Frag} {F : FnD} {f : EA} {n : Nat} {σ : St} {H : Hp} {Q : VK} {E : XK} {B : Mset} {env : Sl} {d : R} {env' : Sl} (hn : ∀ ds e e', f e = some (ds, e') → ds.length = n) (en : EnvR K B H σ env) (ev : eCall F f env = some (d, env')) (q : ∀ B' H' v, At K σ B H env B' H' env' → RR K H B' H' σ env' v d → Q v H') :
    ∃ ds e1, f env = some (ds, e1) ∧ ∀ B1 H1 vs, At K σ B H env B1 H1 e1 → RRA K H B1 H1 σ e1 vs ds → spF K F n vs H1 Q E := by
  unfold eCall eThen at ev
  split at ev
  · cases ev
  rename_i ds e1 h1
  dsimp only at ev
  split at ev
  · cases ev
  rename_i as h2
  split at ev
  rotate_left
  · cases ev
  rename_i hv
  refine ⟨ds, e1, h1, fun B1 H1 vs a1 rr => ?_⟩
  have lds : ds.length = n := hn _ _ _ h1
  obtain ⟨la, ga⟩ := toArgs_get h2
  have hlv : vs.length = ds.length := rr.len
  have hls : as.length = vs.length := by omega
  -- what an argument is
  have kind : ∀ (k : Nat) s v, as[k]? = some s → vs[k]? = some v → (∃ x, s = .pd x ∧ Rp K B1 H1 v x ∧ ∃ d, ds[k]? = some d ∧ ∀ i, d ≠ .var i) ∨ (∃ x p, s = .nt x ∧ v = .ref p ∧ NtR K B1 H1 p x) ∨ (∃ c p, s = .mu .bor c ∧ ds[k]? = some (.tmp c) ∧ v = .ref p ∧ H p = none ∧ B1 p ∧ CtR K B1 H1 p c ∧ ∀ (i : Nat) m d, e1[i]? = some (some (S.mu m d)) → σ[i]? ≠ some (some (V.ref p))) ∨
      (∃ i m c p, s = .mu (if m = .fro then .fro else .bor) c ∧ ds[k]? = some (.var i) ∧ e1[i]? = some (some (.mu m c)) ∧ v = .ref p ∧ σ[i]? = some (some (.ref p)) ∧ B1 p ∧ CtR K B1 H1 p c) := by
    intro k s v hs hv'
    have hk : k < ds.length := by rw [← la]; exact (List.getElem?_eq_some_iff.mp hs).1
    obtain ⟨s', g1, g2⟩ := ga k ds[k] (List.getElem?_eq_getElem hk)
    rw [hs] at g1
    cases g1
    have hdk : ds[k]? = some ds[k] := List.getElem?_eq_getElem hk
    have hr := rr.each k v ds[k] hv' hdk
    revert g2 hr hdk
    generalize ds[k] = d
    intro g2 hdk hr
    cases d with
    | pd x => cases g2; exact .inl ⟨x, rfl, hr, _, hdk, fun _ => nofun⟩
    | nt x => cases g2; obtain ⟨p, e1, e2⟩ := hr; exact .inr (.inl ⟨x, p, rfl, e1, e2⟩)
    | tmp c =>
      cases g2
      obtain ⟨p, rfl, r1, r2, r3, r4⟩ := hr
      exact .inr (.inr (.inl ⟨c, p, rfl, hdk, rfl, r1, r2, r3, r4⟩))
    | var i =>
      simp only [toArg] at g2
      have hr : σ[i]? = some (some v) := hr
      split at g2
      · rename_i c hc
        cases g2
        obtain ⟨p, k1, k2, k3⟩ := a1.en.mu i _ _ hc
        rw [hr] at k1
        cases k1
        exact .inr (.inr (.inr ⟨i, .fro, c, p, by simp, hdk, hc, rfl, hr, k2, k3⟩))
      · rename_i m c hnf hc
        cases g2
        obtain ⟨p, k1, k2, k3⟩ := a1.en.mu i _ _ hc
        rw [hr] at k1
        cases k1
        refine .inr (.inr (.inr ⟨i, m, c, p, ?_, hdk, hc, rfl, hr, k2, k3⟩))
        have hm : m ≠ .fro := fun z => hnf z
        rw [if_neg hm]
      · cases g2
  have enA : EnvR K B1 H1 (vs.map some) (as.map some) := by
    refine ⟨by simp [hls], fun k x h => ?_, fun k x h => ?_, fun k m c h => ?_, fun k l m m' c c' p g1 g2 g3 g4 => ?_, a1.en.dom, a1.en.tb⟩
    · have h := map_get.mp h
      have hk : k < vs.length := by rw [← hls]; exact (List.getElem?_eq_some_iff.mp h).1
      have hvk : vs[k]? = some vs[k] := List.getElem?_eq_getElem hk
      rcases kind k _ _ h hvk with ⟨y, e, r, _⟩ | ⟨y, p, e, _⟩ | ⟨c, p, e, _⟩ | ⟨i, m, c, p, e, _⟩
      · cases e; exact ⟨vs[k], map_get.mpr hvk, r⟩
      · cases e
      · cases e
      · cases e
    · have h := map_get.mp h
      have hk : k < vs.length := by rw [← hls]; exact (List.getElem?_eq_some_iff.mp h).1
      have hvk : vs[k]? = some vs[k] := List.getElem?_eq_getElem hk
      rcases kind k _ _ h hvk with ⟨y, e, r, _⟩ | ⟨y, p, e, e2, r⟩ | ⟨c, p, e, _⟩ | ⟨i, m, c, p, e, _⟩
      · cases e
      · cases e; exact ⟨p, map_get.mpr (by rw [hvk, e2]), r⟩
      · cases e
      · cases e
    · have h := map_get.mp h
      have hk : k < vs.length := by rw [← hls]; exact (List.getElem?_eq_some_iff.mp h).1
      have hvk : vs[k]? = some vs[k] := List.getElem?_eq_getElem hk
      rcases kind k _ _ h hvk with ⟨y, e, r, _⟩ | ⟨y, p, e, _⟩ | ⟨c1, p, e, _, ev, _, r2, r3, _⟩ | ⟨i, m1, c1, p, e, _, _, ev, _, r2, r3⟩
      · cases e
      · cases e
      · cases e; exact ⟨p, map_get.mpr (by rw [hvk, ev]), r2, r3⟩
      · cases e; exact ⟨p, map_get.mpr (by rw [hvk, ev]), r2, r3⟩
    · have g1 := map_get.mp g1
      have g2 := map_get.mp g2
      have g3 := map_get.mp g3
      have g4 := map_get.mp g4
      rcases kind k _ _ g1 g3 with ⟨y, e, r, _⟩ | ⟨y, p, e, _⟩ | ⟨c1, p1, e, d1, ev1, _, _, _, n1⟩ | ⟨i1, m1, c1, p1, e, d1, s1, ev1, t1, _⟩
      · cases e
      · cases e
      · cases ev1
        rcases kind l _ _ g2 g4 with ⟨y, e', r, _⟩ | ⟨y, p, e', _⟩ | ⟨c2, p2, e', d2, ev2, _, _, _, n2⟩ | ⟨i2, m2, c2, p2, e', d2, s2, ev2, t2, _⟩
        · cases e'
        · cases e'
        · cases ev2
          by_cases z : k = l
          · exact z
          · exact (rr.apart k l _ _ _ z d1 d2 g3 g4).elim
        · cases ev2; exact absurd t2 (n1 _ _ _ s2)
      · cases ev1
        rcases kind l _ _ g2 g4 with ⟨y, e', r, _⟩ | ⟨y, p, e', _⟩ | ⟨c2, p2, e', d2, ev2, _, _, _, n2⟩ | ⟨i2, m2, c2, p2, e', d2, s2, ev2, t2, _⟩
        · cases e'
        · cases e'
        · cases ev2; exact absurd t1 (n2 _ _ _ s1)
        · cases ev2
          have z := a1.en.inj i1 i2 _ _ _ _ _ s1 s2 t1 t2
          subst z
          exact varsApart_get hv d1 d2
  split at ev
  · cases ev
  · cases ev
  rename_i d0 as1 hd0 hF
  cases ev
  refine ⟨by omega, B1, as, d, as1, enA, hF, fun B2 H2 v a2 r2 nv => ?_⟩
  have las1 : as1.length = vs.length := by simpa using a2.en.len
  have bk := back_get (ds := ds) (as := as1) (env := e1) hv (by omega) (fun k i h => by
      obtain ⟨s, g1, g2⟩ := ga k _ h
      simp only [toArg] at g2
      split at g2
      · rename_i hc; exact ⟨_, _, hc⟩
      · rename_i hc; exact ⟨_, _, hc⟩
      · cases g2) (fun k i h => by
      obtain ⟨s, g1, g2⟩ := ga k _ h
      have : ∃ m c, s = .mu m c := by
        simp only [toArg] at g2
        split at g2
        · cases g2; exact ⟨_, _, rfl⟩
        · cases g2; exact ⟨_, _, rfl⟩
        · cases g2
      obtain ⟨m, c, rfl⟩ := this
      obtain ⟨c', h'⟩ := a2.ks k m c (map_get.mpr g1)
      exact ⟨m, c', map_get.mp h'⟩)
  obtain ⟨bl, bo, bv⟩ := bk
  -- W of the call: of the caller's or new
  have wcall : ∀ p, Wof (vs.map some) (as.map some) p → (∃ (k i : Nat) (m : Md) (c : Ct), ds[k]? = some (R.var i) ∧ e1[i]? = some (some (S.mu m c)) ∧ m ≠ .fro ∧ σ[i]? = some (some (V.ref p))) ∨ (H p = none ∧ ∀ (i : Nat) m d, e1[i]? = some (some (S.mu m d)) → σ[i]? ≠ some (some (V.ref p))) := by
    rintro p ⟨k, m, c, g1, g2, g3⟩
    rcases kind k _ _ (map_get.mp g1) (map_get.mp g3) with ⟨y, e, r, _⟩ | ⟨y, p, e, _⟩ | ⟨c1, p1, e, d1, ev1, h0, _, _, n1⟩ | ⟨i1, m1, c1, p1, e, d1, s1, ev1, t1, _⟩
    · cases e
    · cases e
    · cases ev1; exact .inr ⟨h0, n1⟩
    · cases ev1
      cases e
      refine .inl ⟨k, i1, m1, _, d1, s1, fun z => ?_, t1⟩
      rw [if_pos z] at g2
      exact g2 rfl
  have wW : ∀ p, Wof (vs.map some) (as.map some) p → Wof σ env p ∨ H p = none := fun p w => by
    rcases wcall p w with ⟨k, i, m, c, g1, g2, g3, g4⟩ | ⟨h0, _⟩
    · exact a1.st.sub p ⟨i, m, c, g2, g3, g4⟩
    · exact .inr h0
  have same : ∀ (j : Nat) m c, (back ds as1 e1)[j]? = some (some (S.mu m c)) → ∃ c', e1[j]? = some (some (.mu m c')) := fun j m c h => by
    by_cases z : ∃ k : Nat, ds[k]? = some (.var j)
    · obtain ⟨k, hk⟩ := z
      obtain ⟨s, g1, g2⟩ := ga k _ hk
      have : ∃ m c, e1[j]? = some (some (.mu m c)) ∧ ∃ m', s = .mu m' c := by
        simp only [toArg] at g2
        split at g2
        · rename_i hc; cases g2; exact ⟨_, _, hc, _, rfl⟩
        · rename_i hc; cases g2; exact ⟨_, _, hc, _, rfl⟩
        · cases g2
      obtain ⟨m1, c1, h3, m2, rfl⟩ := this
      obtain ⟨c2, h4⟩ := a2.ks k m2 c1 (map_get.mpr g1)
      rw [bv k j m1 c1 m2 c2 hk h3 (map_get.mp h4)] at h
      cases h
      exact ⟨c1, h3⟩
    · rw [bo j (fun k hk => z ⟨k, hk⟩)] at h
      exact ⟨c, h⟩
  have same' : ∀ (j : Nat) m c, e1[j]? = some (some (S.mu m c)) → ∃ c', (back ds as1 e1)[j]? = some (some (.mu m c')) ∧ ((∀ k : Nat, ds[k]? ≠ some (.var j)) ∧ c' = c ∨ ∃ (k : Nat) (m' : Md), ds[k]? = some (R.var j) ∧ as1[k]? = some (S.mu m' c')) := fun j m c h => by
    by_cases z : ∃ k : Nat, ds[k]? = some (.var j)
    · obtain ⟨k, hk⟩ := z
      obtain ⟨s, g1, g2⟩ := ga k _ hk
      have : ∃ m', s = .mu m' c := by
        simp only [toArg] at g2
        split at g2
        · rename_i hc; rw [h] at hc; cases hc; cases g2; exact ⟨_, rfl⟩
        · rename_i hc; rw [h] at hc; cases hc; cases g2; exact ⟨_, rfl⟩
        · cases g2
      obtain ⟨m2, rfl⟩ := this
      obtain ⟨c2, h4⟩ := a2.ks k m2 c (map_get.mpr g1)
      exact ⟨c2, bv k j m c m2 c2 hk h (map_get.mp h4), .inr ⟨k, m2, hk, map_get.mp h4⟩⟩
    · exact ⟨c, by rw [bo j (fun k hk => z ⟨k, hk⟩)]; exact h, .inl ⟨fun k hk => z ⟨k, hk⟩, rfl⟩⟩
  have gr : Grow B1 H1 B2 H2 := a2.grow enA
  have enE : EnvR K B2 H2 σ (back ds as1 e1) := by
    refine ⟨by rw [bl]; exact a1.en.len, fun j x h => ?_, fun j x h => ?_, fun j m c h => ?_, fun j k m m' c c' p g1 g2 g3 g4 => ?_, a2.en.dom, a2.en.tb⟩
    · have h' : e1[j]? = some (some (.pd x)) := by
        by_cases z : ∃ k : Nat, ds[k]? = some (.var j)
        · obtain ⟨k, hk⟩ := z
          obtain ⟨s, g1, g2⟩ := ga k _ hk
          have : ∃ m c, e1[j]? = some (some (.mu m c)) := by
            simp only [toArg] at g2
            split at g2
            · rename_i hc; exact ⟨_, _, hc⟩
            · rename_i hc; exact ⟨_, _, hc⟩
            · cases g2
          obtain ⟨m, c, h3⟩ := this
          obtain ⟨c', h4, _⟩ := same' j m c h3
          rw [h4] at h
          cases h
        · rw [bo j (fun k hk => z ⟨k, hk⟩)] at h; exact h
      obtain ⟨w, g1, g2⟩ := a1.en.pd j x h'
      exact ⟨w, g1, g2.grow gr⟩
    · have h' : e1[j]? = some (some (.nt x)) := by
        by_cases z : ∃ k : Nat, ds[k]? = some (.var j)
        · obtain ⟨k, hk⟩ := z
          obtain ⟨s, g1, g2⟩ := ga k _ hk
          have : ∃ m c, e1[j]? = some (some (.mu m c)) := by
            simp only [toArg] at g2
            split at g2
            · rename_i hc; exact ⟨_, _, hc⟩
            · rename_i hc; exact ⟨_, _, hc⟩
            · cases g2
          obtain ⟨m, c, h3⟩ := this
          obtain ⟨c', h4, _⟩ := same' j m c h3
          rw [h4] at h
          cases h
        · rw [bo j (fun k hk => z ⟨k, hk⟩)] at h; exact h
      obtain ⟨w, g1, g2⟩ := a1.en.nt j x h'
      exact ⟨w, g1, g2.grow gr⟩
    · obtain ⟨c0, h0⟩ := same j m c h
      obtain ⟨p, g1, g2, g3⟩ := a1.en.mu j m c0 h0
      obtain ⟨c', h4, hc⟩ := same' j m c0 h0
      rw [h] at h4
      cases h4
      rcases hc with ⟨hno, rfl⟩ | ⟨k, m', hk, ha⟩
      · have nw : ¬ Wof (vs.map some) (as.map some) p := fun w => by
          rcases wcall p w with ⟨k, i, m1, c1, k1, k2, k3, k4⟩ | ⟨_, hns⟩
          · have z := a1.en.inj j i _ _ _ _ p h0 k2 g1 k4
            subst z
            exact hno k k1
          · exact hns j m _ h0 g1
        exact ⟨p, g1, a2.st.old p g2 nw, g3.keep a2.st enA.wb nw⟩
      · obtain ⟨p', k1, k2, k3⟩ := a2.en.mu k m' c (map_get.mpr ha)
        have hvk : vs[k]? = some (.ref p') := map_get.mp k1
        have := rr.each k _ _ hvk hk
        have this : σ[j]? = some (some (.ref p')) := this
        rw [g1] at this
        cases this
        exact ⟨p, g1, k2, k3⟩
    · obtain ⟨c1, h1'⟩ := same j m c g1
      obtain ⟨c2, h2'⟩ := same k m' c' g2
      exact a1.en.inj j k m m' c1 c2 p h1' h2' g3 g4
  refine q B2 H2 v ⟨⟨fun p o h c => ?_, fun p h => ?_, fun p h w => ?_, fun p w => ?_, fun p h => a1.st.liv p (a2.st.liv p h)⟩, enE, fun j m c h => ?_, fun j m c h => ?_⟩ ?_
  · refine a2.st.keep p o (a1.st.keep p o h c) ?_
    rcases c with c | c
    · refine .inl ⟨fun w => ?_, c.2⟩
      rcases wW p w with w | w
      · exact c.1 w
      · rw [h] at w; cases w
    · exact .inr c
  · rcases a2.st.new p h with h | h
    · exact a1.st.new p h
    · exact .inr (a1.st.liv p h)
  · refine a2.st.old p (a1.st.old p h w) fun w' => ?_
    rcases wW p w' with z | z
    · exact w z
    · obtain ⟨o, ho⟩ := en.dom p h
      rw [z] at ho; cases ho
  · obtain ⟨j, m, c, g1, g2, g3⟩ := w
    obtain ⟨c0, h0⟩ := same j m c g1
    exact a1.st.sub p ⟨j, m, c0, h0, g2, g3⟩
  · obtain ⟨c0, h0⟩ := same j m c h
    exact a1.sm j m c0 h0
  · obtain ⟨c0, h0⟩ := a1.ks j m c h
    obtain ⟨c', h4, _⟩ := same' j m c0 h0
    exact ⟨c', h4⟩
  · cases d with
    | pd x => exact r2
    | nt x => exact r2
    | var i => exact absurd rfl (nv i)
    | tmp c =>
      obtain ⟨p, rfl, k1, k2, k3, k4⟩ := r2
      refine ⟨p, rfl, a1.st.liv p k1, k2, k3, fun j m d h1 h2 => ?_⟩
      obtain ⟨c0, h0⟩ := same j m d h1
      obtain ⟨p', g1, g2, g3⟩ := a1.en.mu j m c0 h0
      rw [h2] at g1
      cases g1
      obtain ⟨o, ho⟩ := a1.en.dom p g2
      rw [k1] at ho; cases ho
theorem rd_call {K : PySem.W.Frag} {F : FnD} {f : EA} {n : Nat} {σ : St} {H : Hp} {Q : VK} {E : XK} (hn : ∀ ds e e', f e = some (ds, e') → ds.length = n) (h : tE K (eCall F f) σ H Q) : tCall (spF K F n) [] E (tA K f) σ H Q := by
  obtain ⟨B, env, d, env', en, ev, q⟩ := h
  obtain ⟨ds, e1, h1, h2⟩ := rd_callS (E := E) hn en ev q
  exact ⟨B, env, ds, e1, en, h1, fun B1 H1 vs a1 rr => by
    show spF K F n (vs ++ []) H1 Q E
    rw [List.append_nil]
    exact h2 B1 H1 vs a1 rr⟩
end T3

end
section
set_option linter.all false
set_option autoImplicit false
set_option Elab.async false
namespace T3
open PySem L2
variable [TabL]

theorem small {n : Nat} (h : n ≤ 1000000) : n < sizeLine := by rw [sizeLine_eq]; omega

def wipeE (env : Sl) : List Nat → Sl
  | [] => env
  | v :: vs => (wipeE env vs).set v none
def unwipe (env : Sl) (e : Sl) : List Nat → Sl
  | [] => e
  | v :: vs => (unwipe env e vs).set v (env.getD v none)
theorem wipeE_len {env : Sl} : ∀ {vs : List Nat}, (wipeE env vs).length = env.length
  | [] => rfl
  | v :: vs => by simp [wipeE, wipeE_len (vs := vs)]
theorem wipeE_in {env : Sl} {s : S} : ∀ {vs : List Nat} {i : Nat}, (wipeE env vs)[i]? = some (some s) → i ∉ vs ∧ env[i]? = some (some s)
  | [], i, h => ⟨by simp, h⟩
  | v :: vs, i, h => by
    unfold wipeE at h
    rcases get_set h with ⟨e, e'⟩ | ⟨e, h⟩
    · cases e'
    · obtain ⟨h1, h2⟩ := wipeE_in h
      exact ⟨by simp only [List.mem_cons, not_or]; exact ⟨fun z => e z.symm, h1⟩, h2⟩
theorem wipeE_out {env : Sl} : ∀ {vs : List Nat} {i : Nat}, i ∉ vs → (wipeE env vs)[i]? = env[i]?
  | [], i, h => rfl
  | v :: vs, i, h => by
    simp only [List.mem_cons, not_or] at h
    unfold wipeE
    rw [List.getElem?_set_ne (fun z => h.1 z.symm), wipeE_out h.2]
theorem wipe_out {σ : St} : ∀ {vs : List Nat} {i : Nat}, i ∉ vs → (wipe σ vs)[i]? = σ[i]?
  | [], i, h => rfl
  | v :: vs, i, h => by
    simp only [List.mem_cons, not_or] at h
    unfold wipe
    rw [List.getElem?_set_ne (fun z => h.1 z.symm), wipe_out h.2]
theorem unwipe_len {env e : Sl} : ∀ {vs : List Nat}, (unwipe env e vs).length = e.length
  | [] => rfl
  | v :: vs => by simp [unwipe, unwipe_len (vs := vs)]
theorem unwipe_out {env e : Sl} : ∀ {vs : List Nat} {i : Nat}, i ∉ vs → (unwipe env e vs)[i]? = e[i]?
  | [], i, h => rfl
  | v :: vs, i, h => by
    simp only [List.mem_cons, not_or] at h
    unfold unwipe
    rw [List.getElem?_set_ne (fun z => h.1 z.symm), unwipe_out h.2]
theorem unwipe_in {env e : Sl} (hl : e.length = env.length) : ∀ {vs : List Nat} {i : Nat}, i ∈ vs → (unwipe env e vs)[i]? = env[i]?
  | [], i, h => by simp at h
  | v :: vs, i, h => by
    unfold unwipe
    by_cases z : v = i
    · subst z
      by_cases q : v < e.length
      · rw [List.getElem?_set_self (by rw [unwipe_len]; exact q)]
        rw [List.getD_eq_getElem?_getD, List.getElem?_eq_getElem (by omega)]
        rfl
      · rw [List.getElem?_eq_none (by simp [unwipe_len]; omega), List.getElem?_eq_none (by omega)]
    · rw [List.getElem?_set_ne z]
      refine unwipe_in hl ?_
      simp only [List.mem_cons] at h
      rcases h with h | h
      · exact absurd h.symm z
      · exact h
def Only (g : GG) (vs : List Nat) : Prop := ∀ x e e', g x e = some e' → ∀ j, j ∉ vs → e'[j]? = e[j]?
def tGv (K : PySem.W.Frag) (g : GG) (vs : List Nat) : TG := fun v σ H Q => ∃ B env x env', EnvR K B H σ env ∧ Rp K B H v x ∧ g x env = some env' ∧ ∀ B' σ' H', AtS K σ B H env σ' B' H' env' → wipe σ' vs = wipe σ vs → Q σ' H'
theorem wipe_set {σ : St} {x : Option V} : ∀ {vs : List Nat} {i : Nat}, i ∈ vs → wipe (σ.set i x) vs = wipe σ vs
  | [], i, h => by simp at h
  | v :: vs, i, h => by
    unfold wipe
    by_cases z : i ∈ vs
    · rw [wipe_set z]
    · have e : i = v := by
        simp only [List.mem_cons] at h
        rcases h with h | h
        · exact h
        · exact absurd h z
      subst e
      have : ∀ {ws : List Nat}, i ∉ ws → wipe (σ.set i x) ws = (wipe σ ws).set i x := by
        intro ws
        induction ws with
        | nil => intro _; rfl
        | cons w ws ih =>
          intro hw
          simp only [List.mem_cons, not_or] at hw
          show (wipe (σ.set i x) ws).set w none = ((wipe σ ws).set w none).set i x
          rw [ih hw.2, List.set_comm _ _ hw.1]
      rw [this z, List.set_set]
theorem wipe_idem {σ : St} : ∀ {vs : List Nat}, wipe (wipe σ vs) vs = wipe σ vs := fun {vs} => by
  have : ∀ (us ws : List Nat), (∀ u ∈ us, u ∈ ws) → wipe (wipe σ us) ws = wipe σ ws := by
    intro us
    induction us with
    | nil => intro ws _; rfl
    | cons u us ih =>
      intro ws h
      show wipe ((wipe σ us).set u none) ws = wipe σ ws
      rw [wipe_set (h u (by simp)), ih ws (fun z hz => h z (by simp [hz]))]
  exact this vs vs (fun _ h => h)
theorem rd_gNv {K : PySem.W.Frag} {i : Nat} {vs : List Nat} (hi : i ∈ vs) {v : V} {σ : St} {H : Hp} {Q : St → Hp → Prop} (h : tGv K (gN i) vs v σ H Q) : gName i v σ H Q := by
  obtain ⟨B, env, x, env', en, r, ev, q⟩ := h
  exact q B _ H (AtS.set en (.refl en) (d := .pd x) r ev) (wipe_set hi)
theorem only_gN {i : Nat} {vs : List Nat} (hi : i ∈ vs) : Only (gN i) vs := by
  intro x e e' h j hj
  have hij : i ≠ j := fun z => by subst z; exact hj hi
  simp only [gN, setR] at h
  split at h
  · cases h; rw [List.getElem?_set_ne hij]
  · cases h
def tGsv (K : PySem.W.Frag) (g : GGs) (vs : List Nat) : TGs := fun ws σ H Q => ∃ B env xs env', EnvR K B H σ env ∧ RpA K B H ws xs ∧ g xs env = some env' ∧ ∀ B' σ' H', AtS K σ B H env σ' B' H' env' → wipe σ' vs = wipe σ vs → Q σ' H'
def OnlyS (g : GGs) (vs : List Nat) : Prop := ∀ x e e', g x e = some e' → ∀ j, j ∉ vs → e'[j]? = e[j]?
theorem rd_gNlv {K : PySem.W.Frag} {us : List Nat} {vs : List V} {σ : St} {H : Hp} {Q : St → Hp → Prop} (h : tGsv K gNl us vs σ H Q) : gNil vs σ H Q := by
  obtain ⟨B, env, x, env', en, r, ev, q⟩ := h
  unfold gNl at ev
  split at ev
  · cases ev; cases r; exact ⟨rfl, q B _ H (.refl en) rfl⟩
  · cases ev
theorem rd_gCnv {K : PySem.W.Frag} {us : List Nat} {g : GG} {gs : GGs} {vs : List V} {σ : St} {H : Hp} {Q : St → Hp → Prop} (h : tGsv K (gCn g gs) us vs σ H Q) : gCons (tGv K g us) (tGsv K gs us) vs σ H Q := by
  obtain ⟨B, env, xs, env', en, r, ev, q⟩ := h
  unfold gCn at ev
  split at ev
  · cases ev
  rename_i x xs
  split at ev
  · cases ev
  rename_i e1 h1
  cases r with
  | cons r1 r2 =>
    exact ⟨_, _, rfl, B, env, x, e1, en, r1, h1, fun B1 σ1 H1 a1 w1 => ⟨B1, e1, xs, env', a1.en, r2.grow (a1.st.grow en.wb), ev, fun B2 σ2 H2 a2 w2 => q B2 σ2 H2 (a1.trans en a2) (w2.trans w1)⟩⟩
theorem rd_gTv {K : PySem.W.Frag} {us : List Nat} {n : Nat} {gs : GGs} {v : V} {σ : St} {H : Hp} {Q : St → Hp → Prop} (h : tGv K (gT n gs) us v σ H Q) : gTup K n (tGsv K gs us) v σ H Q := by
  obtain ⟨B, env, x, env', en, r, ev, q⟩ := h
  unfold gT at ev
  split at ev
  · split at ev
    · rename_i xs hl
      obtain ⟨a, vs, rfl, h1, h2⟩ := Cn.tuple (.rp r)
      exact ⟨a, vs, rfl, h1, by rw [h2.length]; exact hl, B, env, xs, env', en, h2, ev, q⟩
    · cases ev
  · cases ev
theorem only_gNl {vs : List Nat} : OnlyS gNl vs := by
  intro x e e' h j hj
  unfold gNl at h
  split at h
  · cases h; rfl
  · cases h
theorem only_gCn {vs : List Nat} {g : GG} {gs : GGs} (h1 : Only g vs) (h2 : OnlyS gs vs) : OnlyS (gCn g gs) vs := by
  intro x e e' h j hj
  unfold gCn at h
  split at h
  · cases h
  split at h
  · cases h
  rename_i e1 k1
  rw [h2 _ _ _ h j hj, h1 _ _ _ k1 j hj]
theorem only_gT {vs : List Nat} {n : Nat} {gs : GGs} (h1 : OnlyS gs vs) : Only (gT n gs) vs := by
  intro x e e' h j hj
  unfold gT at h
  split at h
  · split at h
    · exact h1 _ _ _ h j hj
    · cases h
  · cases h

theorem EnvR.wiped {K : PySem.W.Frag} {B : Mset} {H : Hp} {σ : St} {env : Sl} (en : EnvR K B H σ env) (vs : List Nat) : EnvR K B H (wipe σ vs) (wipeE env vs) := by
  refine ⟨by rw [wipeE_len, wipe_length]; exact en.len, fun i x h => ?_, fun i x h => ?_, fun i m c h => ?_, fun i j m n c d a h1 h2 h3 h4 => ?_, en.dom, en.tb⟩
  · obtain ⟨h1, h2⟩ := wipeE_in h
    rw [wipe_out h1]
    exact en.pd i x h2
  · obtain ⟨h1, h2⟩ := wipeE_in h
    rw [wipe_out h1]
    exact en.nt i x h2
  · obtain ⟨h1, h2⟩ := wipeE_in h
    rw [wipe_out h1]
    exact en.mu i m c h2
  · obtain ⟨k1, k2⟩ := wipeE_in h1
    obtain ⟨k3, k4⟩ := wipeE_in h2
    rw [wipe_out k1] at h3
    rw [wipe_out k3] at h4
    exact en.inj i j m n c d a k2 k4 h3 h4
theorem At.unwiped {K : PySem.W.Frag} {σ σ2 : St} {B B2 B4 : Mset} {H H2 H4 : Hp} {e e2 e4 : Sl} {vs : List Nat} (en : EnvR K B H σ e) (a : AtS K (wipe σ vs) B H (wipeE e vs) σ2 B2 H2 e2) (hw : wipe σ2 vs = wipe σ vs) (ho : ∀ j, j ∉ vs → e2[j]? = (wipeE e vs)[j]?)
    (b : At K σ2 B2 H2 e2 B4 H4 e4) : At K σ B H e B4 H4 (unwipe e e4 vs) := by
  have ew := en.wiped vs
  have t : Stp (Wof (wipe σ vs) (wipeE e vs)) B H (Wof σ2 e4) B4 H4 := a.st.trans b.st ew.wb ew.dom
  have hσ : ∀ j, j ∉ vs → σ2[j]? = σ[j]? := fun j hj => by rw [← wipe_out hj, hw, wipe_out hj]
  have l2 : e2.length = e.length := by rw [a.en.len, ← wipe_length σ2 vs, hw, wipe_length, en.len]
  have l4 : e4.length = e.length := by rw [b.en.len, ← a.en.len, l2]
  have wsub : ∀ p, Wof (wipe σ vs) (wipeE e vs) p → Wof σ e p := by
    rintro p ⟨i, m, c, h1, h2, h3⟩
    obtain ⟨k1, k2⟩ := wipeE_in h1
    rw [wipe_out k1] at h3
    exact ⟨i, m, c, k2, h2, h3⟩
  have hid : ∀ {i p}, i ∈ vs → (∃ m c, e[i]? = some (some (S.mu m c))) → σ[i]? = some (some (.ref p)) → ¬ Wof (wipe σ vs) (wipeE e vs) p := by
    rintro i p hi ⟨m, c, hm⟩ hp ⟨j, m1, c1, h1, h2, h3⟩
    obtain ⟨k1, k2⟩ := wipeE_in h1
    rw [wipe_out k1] at h3
    have z := en.inj i j _ _ _ _ p hm k2 hp h3
    subst z
    exact k1 hi
  have vis : ∀ (i : Nat) m c, i ∉ vs → e4[i]? = some (some (S.mu m c)) → ∃ c', e[i]? = some (some (.mu m c')) := fun i m c hi h => by
    obtain ⟨c1, h1⟩ := b.sm i m c h
    rw [ho i hi, wipeE_out hi] at h1
    exact ⟨c1, h1⟩
  have src : ∀ (i : Nat) m c, (unwipe e e4 vs)[i]? = some (some (S.mu m c)) → ∃ c', e[i]? = some (some (.mu m c')) := fun i m c h => by
    by_cases hi : i ∈ vs
    · rw [unwipe_in l4 hi] at h; exact ⟨c, h⟩
    · rw [unwipe_out hi] at h; exact vis i m c hi h
  refine ⟨⟨fun q o h c => t.keep q o h (c.imp (fun n => ⟨fun w => n.1 (wsub q w), n.2⟩) id), t.new, fun q h w => t.old q h fun w' => w (wsub q w'), fun q w => ?_, t.liv⟩, ⟨by rw [unwipe_len, l4, en.len], fun i x h => ?_, fun i x h => ?_, fun i m c h => ?_, fun i j m n c d p h1 h2 h3 h4 => ?_, b.en.dom, b.en.tb⟩, src, fun i m c h => ?_⟩
  · obtain ⟨i, m, c, h1, h2, h3⟩ := w
    obtain ⟨c', h4⟩ := src i m c h1
    exact .inl ⟨i, m, c', h4, h2, h3⟩
  · by_cases hi : i ∈ vs
    · rw [unwipe_in l4 hi] at h
      obtain ⟨v, k1, k2⟩ := en.pd i x h
      exact ⟨v, k1, k2.grow (t.grow ew.wb)⟩
    · rw [unwipe_out hi] at h
      obtain ⟨v, k1, k2⟩ := b.en.pd i x h
      rw [hσ i hi] at k1
      exact ⟨v, k1, k2⟩
  · by_cases hi : i ∈ vs
    · rw [unwipe_in l4 hi] at h
      obtain ⟨v, k1, k2⟩ := en.nt i x h
      exact ⟨v, k1, k2.grow (t.grow ew.wb)⟩
    · rw [unwipe_out hi] at h
      obtain ⟨v, k1, k2⟩ := b.en.nt i x h
      rw [hσ i hi] at k1
      exact ⟨v, k1, k2⟩
  · by_cases hi : i ∈ vs
    · rw [unwipe_in l4 hi] at h
      obtain ⟨p, k1, k2, k3⟩ := en.mu i m c h
      have nw := hid hi ⟨m, c, h⟩ k1
      exact ⟨p, k1, t.old p k2 nw, k3.keep t ew.wb nw⟩
    · rw [unwipe_out hi] at h
      obtain ⟨p, k1, k2, k3⟩ := b.en.mu i m c h
      rw [hσ i hi] at k1
      exact ⟨p, k1, k2, k3⟩
  · obtain ⟨c1, g1⟩ := src i m c h1
    obtain ⟨c2, g2⟩ := src j n d h2
    exact en.inj i j m n c1 c2 p g1 g2 h3 h4
  · by_cases hi : i ∈ vs
    · exact ⟨c, by rw [unwipe_in l4 hi]; exact h⟩
    · have h1 : e2[i]? = some (some (.mu m c)) := by rw [ho i hi, wipeE_out hi]; exact h
      obtain ⟨c', h2⟩ := b.ks i m c h1
      exact ⟨c', by rw [unwipe_out hi]; exact h2⟩
theorem At.app {K : PySem.W.Frag} {σ : St} {B B4 : Mset} {H H4 : Hp} {e e4 : Sl} {D : Addr} {ws ws' : List V} (en : EnvR K B H σ e) (a : At K σ B H e B4 H4 e4) (nD : H D = none) (bD : B4 D) (hD : H4 D = some (.lst ws)) (sD : ∀ (i : Nat) m d, e4[i]? = some (some (S.mu m d)) → σ[i]? ≠ some (some (V.ref D)))
    (fz : Mset) (hf : ∀ q, fz q → q ≠ D ∧ H q = none ∧ ∀ (i : Nat) m d, e4[i]? = some (some (S.mu m d)) → σ[i]? ≠ some (some (V.ref q))) :
    Grow B4 H4 (fun q => B4 q ∧ ¬ fz q) (upd H4 D (.lst ws')) ∧ At K σ B H e (fun q => B4 q ∧ ¬ fz q) (upd H4 D (.lst ws')) e4 := by
  have g : Grow B4 H4 (fun q => B4 q ∧ ¬ fz q) (upd H4 D (.lst ws')) := by
    refine ⟨fun q o h c => ?_, fun q h => .inl h.1⟩
    have : q ≠ D := fun z => by
      subst z
      rcases c with c | c
      · exact c.1 bD
      · rw [hD] at h; cases h; exact c
    rw [upd_ne this]; exact h
  refine ⟨g, ⟨fun q o h c => ?_, fun q h => a.st.new q h.1, fun q h w => ⟨a.st.old q h w, fun f => ?_⟩, a.st.sub, fun q h => ?_⟩, ⟨a.en.len, fun i x h => ?_, fun i x h => ?_, fun i m c h => ?_, a.en.inj, fun q h => ?_, a.en.tb.on (fun q o h n => by rw [upd_ne (fun z => n (by rw [z]; exact bD))]; exact h) g.new⟩, a.sm, a.ks⟩
  · have : q ≠ D := fun z => by rw [z, nD] at h; cases h
    rw [upd_ne this]; exact a.st.keep q o h c
  · obtain ⟨o, ho⟩ := en.dom q h
    rw [(hf q f).2.1] at ho; cases ho
  · by_cases z : q = D
    · rw [z]; exact nD
    · rw [upd_ne z] at h; exact a.st.liv q h
  · obtain ⟨v, k1, k2⟩ := a.en.pd i x h
    exact ⟨v, k1, k2.grow g⟩
  · obtain ⟨v, k1, k2⟩ := a.en.nt i x h
    exact ⟨v, k1, k2.grow g⟩
  · obtain ⟨p, k1, k2, k3⟩ := a.en.mu i m c h
    have np : p ≠ D := fun z => by subst z; exact sD i m c h k1
    refine ⟨p, k1, ⟨k2, fun f => (hf p f).2.2 i m c h k1⟩, ?_⟩
    cases c with
    | ls xs => obtain ⟨vs, h4, h5⟩ := k3; exact ⟨vs, by rw [upd_ne np]; exact h4, h5.grow g⟩
    | dk xs => obtain ⟨vs, h4, h5⟩ := k3; exact ⟨vs, by rw [upd_ne np]; exact h4, h5.grow g⟩
    | dn xs => obtain ⟨vs, h4, h5⟩ := k3; exact ⟨vs, by rw [upd_ne np]; exact h4, h5.grow g⟩
  · by_cases z : q = D
    · rw [z]; exact ⟨_, upd_same⟩
    · rw [upd_ne z]; exact a.en.dom q h.1

def lcL (g : GG) (t : EB) (f : EE) (vs : List Nat) : List PyData → Sl → List PyData → Option (List PyData × Sl)
  | [], env, acc => some (acc, env)
  | x :: xs, env, acc => match g x (wipeE env vs) with
    | none => none
    | some e1 => match t e1 with
      | none => none
      | some (b, e2) => if b = true then match f e2 with
          | none => none
          | some (d, e3) => match data1 d with
            | none => none
            | some y => lcL g t f vs xs (unwipe env e3 vs) (acc ++ [y])
        else lcL g t f vs xs (unwipe env e2 vs) acc
def eLc (it : EI) (g : GG) (t : EB) (f : EE) (vs : List Nat) : EE := fun env => match it env with
  | none => none
  | some (xs, lk, e1) => if xs.length ≤ 1000000 then match lcL g t f vs xs e1 [] with
      | none => none
      | some (acc, e2) => some (.tmp (.ls acc), unlock lk e2)
    else none
def bYes : EB := fun env => some (true, env)
theorem rd_yes {K : PySem.W.Frag} {σ : St} {H : Hp} {Q : Bool → Hp → Prop} (h : tT K bYes σ H Q) : tYes σ H Q := by
  obtain ⟨B, env, b, env', en, ev, q⟩ := h
  cases ev
  exact q B H (.refl en)
theorem At.through {K : PySem.W.Frag} {σ : St} {B B1 B2 : Mset} {H H1 H2 : Hp} {env e1 e1' e2 : Sl} {lk : Lk} (en : EnvR K B H σ env) (a : At K σ B H env B1 H1 e1) (l : Locked lk e1 e1') (b : At K σ B1 H1 e1' B2 H2 e2) : At K σ B H env B2 H2 (unlock lk e2) := by
  have h := AtS.through en a l b.s
  refine ⟨h.st, h.en, ?_, ?_⟩
  · cases lk with
    | none =>
      cases l
      exact fun i m c q => let ⟨c1, h1⟩ := b.sm i m c q; a.sm i m c1 h1
    | some p =>
      obtain ⟨i, m⟩ := p
      obtain ⟨c, h1, rfl⟩ := l
      have hi : i < e1.length := (List.getElem?_eq_some_iff.mp h1).1
      obtain ⟨c2, h2⟩ := b.ks i .fro c (by rw [List.getElem?_set_self hi])
      have eu : unlock (some (i, m)) e2 = e2.set i (some (.mu m c2)) := by simp only [unlock, h2]
      rw [eu]
      intro j n d q
      rcases get_set q with ⟨z, z'⟩ | ⟨z, q⟩
      · cases z'; subst z; exact a.sm i m c h1
      · obtain ⟨d1, q1⟩ := b.sm j n d q
        rw [List.getElem?_set_ne z] at q1
        exact a.sm j n d1 q1
  · cases lk with
    | none =>
      cases l
      exact fun i m c q => let ⟨c1, h1⟩ := a.ks i m c q; b.ks i m c1 h1
    | some p =>
      obtain ⟨i, m⟩ := p
      obtain ⟨c, h1, rfl⟩ := l
      have hi : i < e1.length := (List.getElem?_eq_some_iff.mp h1).1
      obtain ⟨c2, h2⟩ := b.ks i .fro c (by rw [List.getElem?_set_self hi])
      have hi2 : i < e2.length := (List.getElem?_eq_some_iff.mp h2).1
      have eu : unlock (some (i, m)) e2 = e2.set i (some (.mu m c2)) := by simp only [unlock, h2]
      rw [eu]
      intro j n d q
      obtain ⟨d1, q1⟩ := a.ks j n d q
      by_cases z : i = j
      · subst z
        rw [h1] at q1
        cases q1
        exact ⟨c2, by rw [List.getElem?_set_self hi2]⟩
      · obtain ⟨d2, q2⟩ := b.ks j n d1 (by rw [List.getElem?_set_ne z]; exact q1)
        exact ⟨d2, by rw [List.getElem?_set_ne z]; exact q2⟩

theorem rd_lc {K : PySem.W.Frag} {it : EI} {g : GG} {t : EB} {f : EE} {vs : List Nat} (hg : Only g vs) {σ : St} {H : Hp} {Q : VK} (h : tE K (eLc it g t f vs) σ H Q) : tLc (tI K it) (tGv K g vs) (tT K t) (tE K f) vs σ H Q := by
  obtain ⟨B, env, d, env', en, ev, q⟩ := h
  unfold eLc at ev
  split at ev
  · cases ev
  rename_i xs lk e1 h1
  split at ev
  rotate_left
  · cases ev
  rename_i hlen
  split at ev
  · cases ev
  rename_i accF e2 h2
  cases ev
  refine ⟨B, env, xs, lk, e1, en, h1, fun B1 H1 J pr G e0 a1 lkd wk g0 hpr D nD => ?_⟩
  have en1 : EnvR K B1 H1 σ e1 := lkd.en a1.en
  have stays : ∀ {Bi Hi ei}, At K σ B1 H1 e1 Bi Hi ei → G Bi Hi := fun {Bi Hi ei} a => wk.keep _ _ _ _ _ _ g0 a.st en1.wb fun x hx => (hpr x hx).1
  have slotNone : ∀ {Bi Hi ei}, At K σ B1 H1 e1 Bi Hi ei → ∀ p, H1 p = none → ∀ (i : Nat) m d, ei[i]? = some (some (S.mu m d)) → σ[i]? ≠ some (some (V.ref p)) := fun {Bi Hi ei} a p np i m d h3 h4 => by
    obtain ⟨c0, k0⟩ := a.sm i m d h3
    obtain ⟨p', k1, k2, _⟩ := en1.mu i m c0 k0
    rw [h4] at k1
    cases k1
    obtain ⟨o, ho⟩ := en1.dom p k2
    rw [np] at ho; cases ho
  let Iv : Nat → Hp → List PyData → Sl → Mset → Prop := fun i Hi acc ei Bi => At K σ B1 H1 e1 Bi Hi ei ∧ Bi D ∧ acc.length ≤ i ∧ (∃ ws, Hi D = some (.lst ws) ∧ RpA K Bi Hi ws acc) ∧ lcL g t f vs (xs.drop i) ei acc = some (accF, e2)
  refine ⟨fun i m Hi => i ≤ xs.length ∧ m = xs.length - i ∧ ∃ acc ei Bi, Iv i Hi acc ei Bi, ⟨_, Nat.zero_le _, rfl, [], e1, (fun q => (B1 q ∧ ¬ False) ∨ (True ∧ q = D)), ?_⟩, ?_⟩
  · obtain ⟨_, a2⟩ := (At.refl en1).alloc en1 nD (.lst []) True (fun _ => False) (fun _ z => z.elim)
    exact ⟨a2, .inr ⟨trivial, rfl⟩, Nat.le_refl _, ⟨[], upd_same, .nil⟩, h2⟩
  rintro i m Hi ⟨hi, rfl, acc, ei, Bi, ai, bD, hacc, ⟨ws, hD, rw_⟩, fi⟩
  have gi := stays ai
  by_cases hlt : i < xs.length
  · have hd : xs.drop i = xs[i] :: xs.drop (i + 1) := List.drop_eq_getElem_cons hlt
    rw [hd] at fi
    unfold lcL at fi
    split at fi
    · cases fi
    rename_i e3 h3
    refine .inr ⟨wk.go i Bi Hi gi hlt, fun H' => ∃ acc ei Bi, Iv (i + 1) H' acc ei Bi, fun H' ⟨acc', e', B', z⟩ => ⟨xs.length - (i + 1), by omega, hlt, rfl, acc', e', B', z⟩, fun x H' hy => ?_⟩
    obtain ⟨hH, rx⟩ := wk.yld i Bi Hi x H' xs[i] gi (List.getElem?_eq_getElem hlt) hy
    have ay : At K σ Bi Hi ei Bi H' ei := by
      rcases hH with e | ⟨T, vs, nT, e⟩ | ⟨T, vs, T2, vs2, nT, nT2, e⟩
      · subst e; exact .refl ai.en
      · subst e; exact At.pair ai.en nT
      · subst e; exact (At.pair ai.en nT).trans ai.en (At.pair (At.pair ai.en nT).en nT2)
    have ai' : At K σ B1 H1 e1 Bi H' ei := ai.trans en1 ay
    have hD' : H' D = some (.lst ws) := by
      rcases hH with e | ⟨T, us, nT, e⟩ | ⟨T, us, T2, us2, nT, nT2, e⟩
      · rw [e]; exact hD
      · rw [e, upd_ne (fun z => by rw [← z, hD] at nT; cases nT)]; exact hD
      · have h1 : upd Hi T (.tup us) D = some (.lst ws) := by rw [upd_ne (fun z => by rw [← z, hD] at nT; cases nT)]; exact hD
        rw [e, upd_ne (fun z => by rw [← z, h1] at nT2; cases nT2)]; exact h1
    have rw' : RpA K Bi H' ws acc := rw_.grow (ay.grow ai.en)
    refine ⟨Bi, wipeE ei vs, xs[i], e3, ay.en.wiped vs, rx, h3, fun B3 σ3 H3 a3 w3' => ?_⟩
    have w3 : wipe σ3 vs = wipe σ vs := w3'.trans wipe_idem
    refine ⟨w3, ?_⟩
    have ho : ∀ j, j ∉ vs → e3[j]? = (wipeE ei vs)[j]? := hg _ _ _ h3
    -- what lies behind some step of the block
    have out : ∀ {B4 H4 e4}, At K σ3 B3 H3 e3 B4 H4 e4 → At K σ B1 H1 e1 B4 H4 (unwipe ei e4 vs) ∧ B4 D ∧ H4 D = some (.lst ws) ∧ RpA K B4 H4 ws acc := fun {B4 H4 e4} b => by
      have u := At.unwiped ay.en a3 w3 ho b
      have nw : ¬ Wof σ ei D := by
        rintro ⟨j, m, c, k1, _, k3⟩
        exact slotNone ai' D nD j m c k1 k3
      exact ⟨ai'.trans en1 u, u.st.old D bD nw, u.st.keep D _ hD' (.inl ⟨nw, fun _ z => nomatch z⟩), rw'.grow (u.grow ay.en)⟩
    split at fi
    · cases fi
    rename_i b e4 h4
    refine ⟨B3, e3, b, e4, a3.en, h4, fun B4 H4 a4 => ?_⟩
    cases b with
    | false =>
      simp at fi ⊢
      obtain ⟨o1, o2, o3, o4⟩ := out a4
      exact ⟨acc, _, B4, o1, o2, by omega, ⟨ws, o3, o4⟩, fi⟩
    | true =>
      simp at fi ⊢
      split at fi
      · cases fi
      rename_i d e5 h5
      split at fi
      · cases fi
      rename_i y hy'
      refine ⟨B4, e4, d, e5, a4.en, h5, fun B5 H5 v a5 r5 => ?_⟩
      have a45 := a4.trans a3.en a5
      obtain ⟨o1, o2, o3, o4⟩ := out a45
      refine ⟨ws, o3, ?_, ?_⟩
      · have := o4.length; exact Nat.lt_of_le_of_lt (by omega) (small (n := i) (by omega))
      have hH1 : ∀ p, H4 p = none → H1 p = none := fun p z => (out a4).1.st.liv p z
      cases d with
      | var j => cases hy'
      | nt z =>
        cases hy'
        obtain ⟨p, rfl, r5⟩ := r5
        obtain ⟨g6, a6⟩ := o1.app (ws' := ws ++ [.ref p]) en1 nD o2 o3 (slotNone o1 D nD) (fun _ => False) (fun _ z => z.elim)
        exact ⟨_, _, _, a6, ⟨o2, id⟩, by simp; omega, ⟨_, upd_same, (o4.grow g6).append (.cons (r5.rp.grow g6) .nil)⟩, fi⟩
      | pd z =>
        cases hy'
        obtain ⟨g6, a6⟩ := o1.app (ws' := ws ++ [v]) en1 nD o2 o3 (slotNone o1 D nD) (fun _ => False) (fun _ z => z.elim)
        exact ⟨acc ++ [y], _, _, a6, ⟨o2, id⟩, by simp; omega, ⟨_, upd_same, (o4.grow g6).append (.cons (Rp.grow g6 r5) .nil)⟩, fi⟩
      | tmp c =>
        cases hy'
        obtain ⟨p, rfl, k1, k2, k3, k4⟩ := r5
        have npD : p ≠ D := fun z => by
          subst z
          obtain ⟨_, _, q3, _⟩ := out a4
          rw [q3] at k1; cases k1
        obtain ⟨g6, a6⟩ := o1.app (ws' := ws ++ [.ref p]) en1 nD o2 o3 (slotNone o1 D nD) (fun q => q = p) (fun q z => by subst z; exact ⟨npD, hH1 q k1, slotNone o1 q (hH1 q k1)⟩)
        exact ⟨acc ++ [ctD c], _, _, a6, ⟨o2, fun z => npD z.symm⟩, by simp; omega, ⟨_, upd_same, (o4.grow g6).append (.cons ((k3.hop g6 (fun o z => by rw [upd_ne npD]; exact z)).rp (fun z => z.2 rfl)) .nil)⟩, fi⟩
  · have e : i = xs.length := by omega
    subst e
    rw [List.drop_length] at fi
    cases fi
    refine .inl ⟨wk.stop Bi Hi gi, q Bi Hi _ (At.through en a1 lkd ai) (RR.relock (d := .tmp (.ls accF)) ⟨D, rfl, a1.st.liv D nD, bD, ⟨ws, hD, rw_⟩, slotNone ai D nD⟩)⟩
end T3

end
section
set_option linter.all false
set_option autoImplicit false
set_option Elab.async false
namespace T3
open PySem L2
variable [TabL]

theorem PI.imp {X : Cx} {tg e : Expr} {t t' : TI} (h : PI X tg e t) (i : ∀ σ H Q, t' σ H Q → t σ H Q) : PI X tg e t' := ⟨fun pins s σ H Q I q => h.run pins s σ H Q I (i σ H Q q)⟩
theorem PI.or {X : Cx} {tg e : Expr} {t t' : TI} (h : PI X tg e t) (h' : PI X tg e t') : PI X tg e (fun σ H Q => t σ H Q ∨ t' σ H Q) := ⟨fun pins s σ H Q I q => q.elim (h.run pins s σ H Q I) (h'.run pins s σ H Q I)⟩
def signs (s : Str) : List PyData := s.cps.toList.map fun c => .str ⟨#[c]⟩
def iSeq (f : EE) : EI := fun env => match f env with
  | some (.pd (.tuple xs), e) => some (xs, none, e)
  | some (.nt xs, e) => some (xs, none, e)
  | some (.pd (.list xs), e) => some (xs, none, e)
  | some (.pd (.str s), e) => some (signs s, none, e)
  | some (.tmp (.ls xs), e) => some (xs, none, e)
  | some (.var i, e) => match e[i]? with
    | some (some (.mu m (.ls xs))) => some (xs, some (i, m), e.set i (some (.mu .fro (.ls xs))))
    | _ => none
  | _ => none
theorem wk_tup {K : PySem.W.Frag} {a : Addr} {xs : List PyData} : Wk K (Itt K a) (fun _ => False) (fun B H => Rp K B H (.ref a) (.tuple xs)) xs where
  go i B H g hi := by
    obtain ⟨a', vs, e, h1, h2⟩ := Cn.tuple (.rp g)
    cases e
    exact ⟨vs, vs[i]'(by rw [h2.length]; exact hi), h1, by simp⟩
  stop B H g := by
    obtain ⟨a', vs, e, h1, h2⟩ := Cn.tuple (.rp g)
    cases e
    exact ⟨vs, h1, by rw [h2.length]; exact Nat.le_refl _⟩
  yld i B H x H' d g hd hy := by
    obtain ⟨a', vs, e, h1, h2⟩ := Cn.tuple (.rp g)
    cases e
    obtain ⟨rfl, hy⟩ := hy
    obtain ⟨v, k1, k2⟩ := h2.get hd
    rw [hy vs h1] at k1
    cases k1
    exact ⟨.inl rfl, k2⟩
  keep W B H W' B' H' g s wb _ := g.grow (s.grow wb)
theorem wk_lst {K : PySem.W.Frag} {a : Addr} {xs : List PyData} : Wk K (Itl K a) (fun _ => False) (fun B H => Rp K B H (.ref a) (.list xs)) xs where
  go i B H g hi := by
    obtain ⟨a', vs, e, h1, h2⟩ := Cn.list (.rp g)
    cases e
    exact ⟨vs, vs[i]'(by rw [h2.length]; exact hi), h1, by simp⟩
  stop B H g := by
    obtain ⟨a', vs, e, h1, h2⟩ := Cn.list (.rp g)
    cases e
    exact ⟨vs, h1, by rw [h2.length]; exact Nat.le_refl _⟩
  yld i B H x H' d g hd hy := by
    obtain ⟨a', vs, e, h1, h2⟩ := Cn.list (.rp g)
    cases e
    obtain ⟨rfl, hy⟩ := hy
    obtain ⟨v, k1, k2⟩ := h2.get hd
    rw [hy vs h1] at k1
    cases k1
    exact ⟨.inl rfl, k2⟩
  keep W B H W' B' H' g s wb _ := g.grow (s.grow wb)
theorem wk_mut {K : PySem.W.Frag} {a : Addr} {xs : List PyData} : Wk K (Itl K a) (fun q => q = a) (fun B H => ∃ vs, H a = some (.lst vs) ∧ RpA K B H vs xs) xs where
  go i B H g hi := by
    obtain ⟨vs, h1, h2⟩ := g
    exact ⟨vs, vs[i]'(by rw [h2.length]; exact hi), .inl (.inl h1), by simp⟩
  stop B H g := by
    obtain ⟨vs, h1, h2⟩ := g
    exact ⟨vs, .inl (.inl h1), by rw [h2.length]; exact Nat.le_refl _⟩
  yld i B H x H' d g hd hy := by
    obtain ⟨vs, h1, h2⟩ := g
    obtain ⟨rfl, hy⟩ := hy
    obtain ⟨v, k1, k2⟩ := h2.get hd
    rw [hy vs (.inl (.inl h1))] at k1
    cases k1
    exact ⟨.inl rfl, k2⟩
  keep W B H W' B' H' g s wb hp := by
    obtain ⟨vs, h1, h2⟩ := g
    exact ⟨vs, s.keep _ _ h1 (.inl ⟨hp a rfl, fun _ z => nomatch z⟩), h2.grow (s.grow wb)⟩
theorem signs_len {s : Str} : (signs s).length = s.cps.size := by simp [signs]
theorem wk_str {K : PySem.W.Frag} {s : Str} : Wk K (Its s) (fun _ => False) (fun _ _ => True) (signs s) where
  go i B H g hi := by rw [signs_len] at hi; exact hi
  stop B H g := by rw [signs_len]; exact Nat.le_refl _
  yld i B H x H' d g hd hy := by
    obtain ⟨rfl, c, h1, rfl⟩ := hy
    refine ⟨.inl rfl, ?_⟩
    simp only [signs, List.getElem?_map, Array.getElem?_toList, h1] at hd
    cases hd
    exact .str _
  keep W B H W' B' H' g s wb hp := trivial
theorem rd_seq_ {K : PySem.W.Frag} {f : EE} {σ : St} {H : Hp} {R : It → Hp → Prop} (h : tI K (iSeq f) σ H R) : iList K (tE K f) σ H R ∨ iTup K (tE K f) σ H R ∨ iStr (tE K f) σ H R := by
  obtain ⟨B, env, xs, lk, env', en, ev, q⟩ := h
  unfold iSeq at ev
  split at ev
  · rename_i ys e h1
    cases ev
    refine .inr (.inl ⟨B, env, _, _, en, h1, fun B1 H1 v a1 r1 => ?_⟩)
    have r1 : Rp K B1 H1 v (.tuple xs) := r1
    obtain ⟨a, vs, rfl, h2, h3⟩ := Cn.tuple (.rp r1)
    exact ⟨a, rfl, ⟨vs, h2⟩, q B1 H1 _ _ _ _ a1 rfl wk_tup r1 (fun _ z => z.elim)⟩
  · rename_i ys e h1
    cases ev
    refine .inr (.inl ⟨B, env, _, _, en, h1, fun B1 H1 v a1 r1 => ?_⟩)
    obtain ⟨p, rfl, r1⟩ := r1
    obtain ⟨a, vs, e, h2, h3⟩ := Cn.tuple (.rp r1.rp)
    cases e
    exact ⟨_, rfl, ⟨vs, h2⟩, q B1 H1 _ _ _ _ a1 rfl wk_tup r1.rp (fun _ z => z.elim)⟩
  · rename_i ys e h1
    cases ev
    refine .inl ⟨B, env, _, _, en, h1, fun B1 H1 v a1 r1 => ?_⟩
    have r1 : Rp K B1 H1 v (.list xs) := r1
    obtain ⟨a, vs, rfl, h2, h3⟩ := Cn.list (.rp r1)
    exact ⟨a, rfl, ⟨vs, h2⟩, q B1 H1 _ _ _ _ a1 rfl wk_lst r1 (fun _ z => z.elim)⟩
  · rename_i s e h1
    cases ev
    refine .inr (.inr ⟨B, env, _, _, en, h1, fun B1 H1 v a1 r1 => ?_⟩)
    have r1 : Rp K B1 H1 v (.str s) := r1
    cases r1
    exact ⟨s, rfl, q B1 H1 _ _ _ _ a1 rfl wk_str trivial (fun _ z => z.elim)⟩
  · rename_i ys e h1
    cases ev
    refine .inl ⟨B, env, _, _, en, h1, fun B1 H1 v a1 r1 => ?_⟩
    obtain ⟨a, rfl, k0, k1, ⟨vs, k2, k3⟩, k4⟩ := r1
    refine ⟨a, rfl, ⟨vs, .inl (.inl k2)⟩, q B1 H1 _ _ _ _ a1 rfl wk_mut ⟨vs, k2, k3⟩ (fun p z => ?_)⟩
    subst z
    exact ⟨fun ⟨i, m, c, g1, _, g3⟩ => k4 i m c g1 g3, _, k2⟩
  · rename_i i e h1
    split at ev
    · rename_i m ys h2
      cases ev
      refine .inl ⟨B, env, _, _, en, h1, fun B1 H1 v a1 r1 => ?_⟩
      obtain ⟨k1, _⟩ := r1
      obtain ⟨a, g1, g2, vs, g3, g4⟩ := a1.en.mu i _ _ h2
      rw [k1] at g1
      cases g1
      refine ⟨a, rfl, ⟨vs, .inl (.inl g3)⟩, q B1 H1 _ _ _ _ a1 ⟨_, h2, rfl⟩ wk_mut ⟨vs, g3, g4⟩ (fun p z => ?_)⟩
      subst z
      refine ⟨fun ⟨j, m', c, z1, z2, z3⟩ => ?_, _, g3⟩
      rcases get_set z1 with ⟨e1, e2⟩ | ⟨e1, z1⟩
      · cases e2; exact z2 rfl
      · exact e1 (a1.en.inj i j _ _ _ _ _ h2 z1 k1 z3)
    · cases ev
  · cases ev
theorem i_seq {X : Cx} {tg l : Expr} {f : EE} (h : PE X l (tE X.K f)) : PI X tg l (tI X.K (iSeq f)) := PI.imp (PI.or (pi_list h) (PI.or (pi_tup h) (pi_str h))) fun _ _ _ t => rd_seq_ t
def rgD (i : Int) (n : Nat) (c : Int) : List PyData := (List.range n).map fun k => .int (i + (k : Nat) * c)
theorem rgD_get {i c : Int} {n k : Nat} {d : PyData} (h : (rgD i n c)[k]? = some d) : d = .int (i + (k : Nat) * c) := by
  simp only [rgD, List.getElem?_map] at h
  by_cases z : k < n
  · rw [List.getElem?_range z] at h; cases h; rfl
  · rw [List.getElem?_eq_none (by simpa using z)] at h; cases h
theorem wk_rng {K : PySem.W.Frag} {i : Int} {n : Nat} : Wk K (Itr i n) (fun _ => False) (fun _ _ => True) (rgD i n 1) where
  go k B H g hi := by simp [rgD] at hi; exact hi
  stop B H g := by simp [rgD, Itr, Itc]
  yld k B H x H' d g hd hy := by
    obtain ⟨rfl, rfl⟩ := hy
    have := rgD_get hd
    subst this
    rw [Int.mul_one]
    exact ⟨.inl rfl, .int _⟩
  keep W B H W' B' H' g s wb hp := trivial
def RgI1 (j : Int) : Prop := -(2 ^ 62) ≤ j ∧ j < 2 ^ 62
def RgI2 (i j : Int) : Prop := -(2 ^ 62) ≤ i ∧ i < 2 ^ 62 ∧ -(2 ^ 62) ≤ j ∧ j < 2 ^ 62
noncomputable instance (j : Int) : Decidable (RgI1 j) := Classical.propDecidable _
noncomputable instance (i j : Int) : Decidable (RgI2 i j) := Classical.propDecidable _
noncomputable def iRg1 (f : EA) : EI := fun env => match f env with
  | some ([.pd (.int j)], e) => if RgI1 j then some (rgD 0 j.toNat 1, none, e) else none
  | _ => none
theorem RRA.int1 {K : PySem.W.Frag} {H₀ : Hp} {B : Mset} {H : Hp} {σ : St} {env : Sl} {vs : List V} {j : Int} (r : RRA K H₀ B H σ env vs [.pd (.int j)]) : vs = [.int j] := by
  match vs, r with
  | [v], r =>
    have := r.each 0 v _ rfl rfl
    have this : Rp K B H v (.int j) := this
    cases this
    rfl
  | [], r => have := r.len; simp at this
  | _ :: _ :: _, r => have := r.len; simp at this
theorem rd_rg1 {K : PySem.W.Frag} {f : EA} {σ : St} {H : Hp} {R : It → Hp → Prop} (h : tI K (iRg1 f) σ H R) : iRng1 (tA K f) σ H R := by
  obtain ⟨B, env, xs, lk, env', en, ev, q⟩ := h
  unfold iRg1 at ev
  split at ev
  · rename_i j e h1
    split at ev
    · rename_i hb
      cases ev
      refine ⟨B, env, _, _, en, h1, fun B1 H1 vs a1 r1 => ⟨j, r1.int1, hb.1, hb.2, q B1 H1 _ _ _ _ a1 rfl wk_rng trivial (fun _ z => z.elim)⟩⟩
    · cases ev
  · cases ev
theorem i_rg1 {X : Cx} {tg a : Expr} {f : EA} {p pos : Pos} (hg : Gl X "range") (hm : X.mg "range" = none) (ha : PA X [a] (tA X.K f)) (hs : starEach [a] X.env = [(false, eval a X.env)] := by rfl) : PI X tg (.Call (.Name "range" p) [a] [] pos) (tI X.K (iRg1 f)) :=
  PI.imp (pi_range1 hg hm ha hs) fun _ _ _ t => rd_rg1 t
end T3

end
section
set_option linter.all false
set_option autoImplicit false
set_option Elab.async false
namespace T3
open PySem L2
variable [TabL]

theorem CnA.one {K : PySem.W.Frag} {B : Mset} {H : Hp} {vs : List V} {x : PyData} (h : CnA K B H vs [x]) : ∃ v, vs = [v] ∧ Cn K B H v x := by
  cases h with
  | cons h1 h2 => cases h2; exact ⟨_, rfl, h1⟩
theorem CnA.two {K : PySem.W.Frag} {B : Mset} {H : Hp} {vs : List V} {x y : PyData} (h : CnA K B H vs [x, y]) : ∃ v w, vs = [v, w] ∧ Cn K B H v x ∧ Cn K B H w y := by
  cases h with
  | cons h1 h2 => obtain ⟨w, rfl, h3⟩ := h2.one; exact ⟨_, _, rfl, h1, h3⟩
def kOr (k1 k2 : KK) : KK := fun ds env => match k1 ds env with
  | some r => some r
  | none => k2 ds env
theorem con_or {K : PySem.W.Frag} {k1 k2 : KK} {r1 r2 : List V → Hp → VK → Prop} (h1 : Con K k1 r1) (h2 : Con K k2 r2) : Con K (kOr k1 k2) (fun vs H Q => r1 vs H Q ∨ r2 vs H Q) := by
  intro σ H B env B1 H1 env1 vs ds d e2 Q en a rr hk q
  unfold kOr at hk
  split at hk
  · rename_i r hr
    cases hk
    exact .inl (h1 σ H B env B1 H1 env1 vs ds d e2 Q en a rr hr q)
  · exact .inr (h2 σ H B env B1 H1 env1 vs ds d e2 Q en a rr hk q)
theorem con_or2 {K : PySem.W.Frag} {k1 k2 : KK} {r1 r2 : R2} (h1 : Con K k1 (l2 r1)) (h2 : Con K k2 (l2 r2)) : Con K (kOr k1 k2) (l2 fun x y H Q => r1 x y H Q ∨ r2 x y H Q) := by
  intro σ H B env B1 H1 env1 vs ds d e2 Q en a rr hk q x y e
  exact (con_or h1 h2 σ H B env B1 H1 env1 vs ds d e2 Q en a rr hk q).imp (fun z => z x y e) (fun z => z x y e)

def oI (C : Int → Int → Prop) [∀ i j, Decidable (C i j)] (g : Int → Int → PyData) : List PyData → Option PyData
  | [.int i, .int j] => if C i j then some (g i j) else none
  | _ => none
theorem ok_I {K : PySem.W.Frag} {C : Int → Int → Prop} [∀ i j, Decidable (C i j)] {g : Int → Int → Int} : OkE K (oI C fun i j => .int (g i j)) (l2 (rI C fun i j => .int (g i j))) := by
  intro B H vs xs z Q cn ho q x y e
  unfold oI at ho
  split at ho
  · split at ho
    · rename_i i j hc
      cases ho
      obtain ⟨v, w, e2, c1, c2⟩ := cn.two
      rw [e] at e2
      cases e2
      exact ⟨i, j, c1.int, c2.int, hc, q _ (.int _)⟩
    · cases ho
  · cases ho
theorem ok_I0 {K : PySem.W.Frag} {g : Int → Int → Int} : OkE K (oI (fun _ _ => True) fun i j => .int (g i j)) (l2 (rI0 fun i j => .int (g i j))) := by
  intro B H vs xs z Q cn ho q x y e
  obtain ⟨i, j, h1, h2, _, h3⟩ := ok_I (C := fun _ _ => True) (g := g) B H vs xs z Q cn ho q x y e
  exact ⟨i, j, h1, h2, h3⟩
theorem ok_B0 {K : PySem.W.Frag} {g : Int → Int → Bool} : OkE K (oI (fun _ _ => True) fun i j => .bool (g i j)) (l2 (rI0 fun i j => .bl (g i j))) := by
  intro B H vs xs z Q cn ho q x y e
  unfold oI at ho
  split at ho
  · rename_i i j
    simp at ho
    cases ho
    obtain ⟨v, w, e2, c1, c2⟩ := cn.two
    rw [e] at e2
    cases e2
    exact ⟨i, j, c1.int, c2.int, q _ (.bl _)⟩
  · cases ho
noncomputable instance (i j : Int) : Decidable (CMul i j) := Classical.propDecidable _
noncomputable instance (i j : Int) : Decidable (CDivW i j) := Classical.propDecidable _
noncomputable instance (i j : Int) : Decidable (CPow i j) := Classical.propDecidable _
def kSub : KK := kE (oI (fun _ _ => True) fun i j => .int (i - j))
theorem cdv (i j : Int) (h1 : 0 < j) (h2 : j < 1000000000000000) : CDivW i j := by
  refine ⟨h1, ?_⟩
  have : j.natAbs.log2 < 50 := (Nat.log2_lt (by omega)).mpr (by omega)
  omega
noncomputable def kFdiv : KK := kE (oI CDivW fun i j => .int (i / j))
def kMod : KK := kE (oI (fun _ j => 0 < j) fun i j => .int (i % j))
noncomputable def kPow : KK := kE (oI CPow fun i j => .int (i ^ j.toNat))
def kLt0 : KK := kE (oI (fun _ _ => True) fun i j => .bool (decide (i < j)))
def oLtG : List PyData → Option PyData
  | [.tuple xs, .tuple ys] => if SeqAt.shaped (.tuple xs) = true ∧ SeqAt.shaped (.tuple ys) = true ∧ PySem.W.alike (.tuple xs) (.tuple ys) = true ∧ (PyData.tuple xs).depth ≤ 30 then some (.bool (PySem.W.dataLt (.tuple xs) (.tuple ys))) else none
  | _ => none
def oGtG : List PyData → Option PyData
  | [.tuple xs, .tuple ys] => if SeqAt.shaped (.tuple xs) = true ∧ SeqAt.shaped (.tuple ys) = true ∧ PySem.W.alike (.tuple xs) (.tuple ys) = true ∧ (PyData.tuple xs).depth ≤ 30 then some (.bool (PySem.W.dataLt (.tuple ys) (.tuple xs))) else none
  | _ => none
def rLtG (K : PySem.W.Frag) : R2 := fun x y H Q => ∃ d e, Dp K H x d ∧ Dp K H y e ∧ PySem.W.alike d e = true ∧ d ≠ .none ∧ d.depth ≤ 30 ∧ Q (.bl (PySem.W.dataLt d e)) H
def rGtG (K : PySem.W.Frag) : R2 := fun x y H Q => ∃ d e, Dp K H x d ∧ Dp K H y e ∧ PySem.W.alike d e = true ∧ d ≠ .none ∧ d.depth ≤ 30 ∧ Q (.bl (PySem.W.dataLt e d)) H
theorem op_ltG {X : Cx} (hu : X.A.units + 64 < cLine) : OpR X (compareOp .Lt) (rLtG X.K) := by
  intro pins s σ H x y v u Q I rx ry h
  obtain ⟨d, e, hd, he, al, nn, dp, q⟩ := h
  obtain ⟨as, r1⟩ := Dp.reads I d x v hd rx
  obtain ⟨bs, r2⟩ := Dp.reads I e y u he ry
  exact PySem.W.lt_data r1 r2 al nn (by omega) ⟨.bl _, H, I, rfl, q⟩
theorem op_gtG {X : Cx} (hu : X.A.units + 64 < cLine) : OpR X (compareOp .Gt) (rGtG X.K) := by
  intro pins s σ H x y v u Q I rx ry h
  obtain ⟨d, e, hd, he, al, nn, dp, q⟩ := h
  obtain ⟨as, r1⟩ := Dp.reads I d x v hd rx
  obtain ⟨bs, r2⟩ := Dp.reads I e y u he ry
  exact PySem.W.gt_data r1 r2 al nn (by omega) ⟨.bl _, H, I, rfl, q⟩
theorem ok_ltG {K : PySem.W.Frag} : OkE K oLtG (l2 (rLtG K)) := by
  intro B H vs xs z Q cn ho q x y e
  unfold oLtG at ho
  split at ho
  · split at ho
    · rename_i a b hs
      cases ho
      obtain ⟨v, w, e2, c1, c2⟩ := cn.two
      rw [e] at e2
      cases e2
      exact ⟨_, _, c1.dp hs.1, c2.dp hs.2.1, hs.2.2.1, by simp, hs.2.2.2, q _ (.bl _)⟩
    · cases ho
  · cases ho
theorem ok_gtG {K : PySem.W.Frag} : OkE K oGtG (l2 (rGtG K)) := by
  intro B H vs xs z Q cn ho q x y e
  unfold oGtG at ho
  split at ho
  · split at ho
    · rename_i a b hs
      cases ho
      obtain ⟨v, w, e2, c1, c2⟩ := cn.two
      rw [e] at e2
      cases e2
      exact ⟨_, _, c1.dp hs.1, c2.dp hs.2.1, hs.2.2.1, by simp, hs.2.2.2, q _ (.bl _)⟩
    · cases ho
  · cases ho
def kGt : KK := kOr (kE (oI (fun _ _ => True) fun i j => .bool (decide (j < i)))) (kE oGtG)
def oNeg : List PyData → Option PyData
  | [.int i] => some (.int (-i))
  | _ => none
def kNeg : KK := kE oNeg
theorem c_neg {K : PySem.W.Frag} : Con K kNeg (l1 (rU fun i => .int (-i))) := con_E <| by
  intro B H vs xs z Q cn ho q x e
  unfold oNeg at ho
  split at ho
  · cases ho
    obtain ⟨v, e2, c1⟩ := cn.one
    rw [e] at e2
    cases e2
    exact ⟨_, c1.int, q _ (.int _)⟩
  · cases ho

def oCatS : List PyData → Option PyData
  | [.str i, .str j] => if i.length + j.length ≤ 1000000 then some (.str (i ++ j)) else none
  | _ => none
def rCatS : R2 := fun x y H Q => ∃ i j, x = .str i ∧ y = .str j ∧ i.length + j.length ≤ sizeLine ∧ Q (.str (i ++ j)) H
theorem ok_catS {K : PySem.W.Frag} : OkE K oCatS (l2 rCatS) := by
  intro B H vs xs z Q cn ho q x y e
  unfold oCatS at ho
  split at ho
  · split at ho
    · rename_i hl
      cases ho
      obtain ⟨v, w, e2, c1, c2⟩ := cn.two
      rw [e] at e2
      cases e2
      exact ⟨_, _, c1.str, c2.str, Nat.le_of_lt (small hl), q _ (.str _)⟩
    · cases ho
  · cases ho
def oCatT : List PyData → Option (List PyData)
  | [.tuple xs, .tuple ys] => if xs.length + ys.length ≤ 1000000 then some (xs ++ ys) else none
  | _ => none
theorem ok_catT {K : PySem.W.Frag} : OkT K oCatT (l2 (rCatA K)) := by
  intro B H vs xs z Q cn ho q0 q x y e
  unfold oCatT at ho
  split at ho
  · split at ho
    · rename_i xs ys hl
      cases ho
      obtain ⟨v, w, e2, c1, c2⟩ := cn.two
      rw [e] at e2
      cases e2
      obtain ⟨a, us, rfl, h1, h2⟩ := c1.tuple
      obtain ⟨b, ws, rfl, h3, h4⟩ := c2.tuple
      refine ⟨a, b, us, ws, rfl, rfl, h1, h3, ?_, fun z => ?_, fun z z2 => ?_, fun z z2 p np => q _ p (h2.append h4) np⟩
      · rw [h2.length, h4.length]; exact Nat.le_of_lt (small hl)
      · subst z; cases h2; exact q0 _ (.tup h3 h4)
      · subst z2; cases h4; rw [List.append_nil] at q0; exact q0 _ (.tup h1 h2)
    · cases ho
  · cases ho
def lsOf (env : Sl) : R → Option (List PyData)
  | .tmp (.ls xs) => some xs
  | .var i => match env[i]? with
    | some (some (.mu _ (.ls xs))) => some xs
    | _ => none
  | _ => none
theorem lsOf_at {K : PySem.W.Frag} {H₀ : Hp} {B : Mset} {H : Hp} {σ : St} {env : Sl} {v : V} {d : R} {xs : List PyData} (en : EnvR K B H σ env) (h : RA K H₀ B H σ env v d) (c : lsOf env d = some xs) : ∃ a vs, v = .ref a ∧ H a = some (.lst vs) ∧ RpA K B H vs xs := by
  cases d with
  | pd y => cases c
  | nt y => cases c
  | tmp t =>
    cases t with
    | ls ys => cases c; obtain ⟨a, rfl, _, _, ⟨vs, h1, h2⟩, _⟩ := h; exact ⟨a, vs, rfl, h1, h2⟩
    | dk _ => cases c
    | dn _ => cases c
  | var i =>
    simp only [lsOf] at c
    split at c
    · rename_i m ys hx
      cases c
      obtain ⟨a, h1, _, vs, h2, h3⟩ := en.mu _ _ _ hx
      have h : σ[i]? = some (some v) := h
      rw [h] at h1
      cases h1
      exact ⟨a, vs, rfl, h2, h3⟩
    · cases c
def kCatL : KK := fun ds env => match ds with
  | [d1, d2] => match lsOf env d1 with
    | none => none
    | some xs => match lsOf env d2 with
      | none => none
      | some ys => if xs.length + ys.length ≤ 1000000 then some (.tmp (.ls (xs ++ ys)), env) else none
  | _ => none
theorem con_new {K : PySem.W.Frag} {σ : St} {B B1 : Mset} {H H1 : Hp} {env env1 : Sl} {p : Addr} {ws : List V} {xs : List PyData} {Q : VK} (en : EnvR K B H σ env) (a : At K σ B H env B1 H1 env1) (np : H1 p = none) (hw : RpA K B1 H1 ws xs)
    (q : ∀ B' H' v, At K σ B H env B' H' env1 → RR K H B' H' σ env1 v (.tmp (.ls xs)) → Q v H') : Q (.ref p) (upd H1 p (.lst ws)) := by
  obtain ⟨g, a2⟩ := a.alloc en np (.lst ws) True (fun _ => False) (fun _ f => f.elim)
  refine q _ _ _ a2 ⟨p, rfl, a.st.liv _ np, .inr ⟨trivial, rfl⟩, ⟨ws, upd_same, hw.grow g⟩, fun i m d h1 h2 => ?_⟩
  obtain ⟨b, h3, h4, _⟩ := a.en.mu i m d h1
  rw [h3] at h2
  cases h2
  obtain ⟨o', ho⟩ := a.en.dom _ h4
  rw [np] at ho; cases ho
theorem c_catL {K : PySem.W.Frag} : Con K kCatL (l2 rCat) := by
  intro σ H B env B1 H1 env1 vs ds d e2 Q en a rr hk q x y e
  unfold kCatL at hk
  split at hk
  · rename_i d1 d2
    split at hk
    · cases hk
    rename_i xs hx
    split at hk
    · cases hk
    rename_i ys hy
    split at hk
    · rename_i hl
      cases hk
      subst e
      obtain ⟨p, us, rfl, h1, h2⟩ := lsOf_at a.en (rr.each 0 x d1 rfl rfl) hx
      obtain ⟨p2, ws, rfl, h3, h4⟩ := lsOf_at a.en (rr.each 1 y d2 rfl rfl) hy
      exact ⟨p, p2, us, ws, rfl, rfl, h1, h3, by rw [h2.length, h4.length]; exact Nat.le_of_lt (small hl), fun r nr => con_new en a nr (h2.append h4) q⟩
    · cases hk
  · cases hk
def kAdd : KK := kOr (kE (oI (fun _ _ => True) fun i j => .int (i + j))) (kOr (kE oCatS) (kOr (kT oCatT) kCatL))
def oRepT : List PyData → Option (List PyData)
  | [.tuple xs, .int k] => if xs ≠ [] ∧ 2 ≤ k ∧ k ≤ 1000 ∧ xs.length ≤ 1000 then some (List.replicate k.toNat xs).flatten else none
  | _ => none
theorem RpA.rep {K : PySem.W.Frag} {B : Mset} {H : Hp} {vs : List V} {xs : List PyData} (h : RpA K B H vs xs) : ∀ k : Nat, RpA K B H (List.replicate k vs).flatten (List.replicate k xs).flatten
  | 0 => .nil
  | k + 1 => by
    rw [List.replicate_succ, List.replicate_succ, List.flatten_cons, List.flatten_cons]
    exact h.append (RpA.rep h k)
theorem ok_repT {K : PySem.W.Frag} : OkT K oRepT (l2 (rRepT K)) := by
  intro B H vs xs z Q cn ho q0 q x y e
  unfold oRepT at ho
  split at ho
  · split at ho
    · rename_i xs k hl
      cases ho
      obtain ⟨v, w, e2, c1, c2⟩ := cn.two
      rw [e] at e2
      cases e2
      obtain ⟨a, us, rfl, h1, h2⟩ := c1.tuple
      refine ⟨a, k, us, rfl, c2.int, h1, fun z => ?_, hl.2.1, hl.2.2.1, by rw [h2.length]; exact hl.2.2.2, fun p np => q _ p (h2.rep _) np⟩
      subst z
      cases h2
      exact hl.1 rfl
    · cases ho
  · cases ho
noncomputable def kMul : KK := kOr (kE (oI CMul fun i j => .int (i * j))) (kT oRepT)

def oEq : List PyData → Option PyData
  | [x, y] => if SeqAt.shaped x = true ∧ SeqAt.shaped y = true then some (.bool (PyData.eqv x y)) else none
  | _ => none
def oNe : List PyData → Option PyData
  | [x, y] => if SeqAt.shaped x = true ∧ SeqAt.shaped y = true then some (.bool (!PyData.eqv x y)) else none
  | _ => none
theorem ok_eq {K : PySem.W.Frag} : OkE K oEq (l2 (rEqD K)) := by
  intro B H vs xs z Q cn ho q x y e
  unfold oEq at ho
  split at ho
  · split at ho
    · rename_i a b hs
      cases ho
      obtain ⟨v, w, e2, c1, c2⟩ := cn.two
      rw [e] at e2
      cases e2
      exact ⟨a, b, c1.dp hs.1, c2.dp hs.2, hs.1, hs.2, q _ (.bl _)⟩
    · cases ho
  · cases ho
theorem ok_ne {K : PySem.W.Frag} : OkE K oNe (l2 (rNeD K)) := by
  intro B H vs xs z Q cn ho q x y e
  unfold oNe at ho
  split at ho
  · split at ho
    · rename_i a b hs
      cases ho
      obtain ⟨v, w, e2, c1, c2⟩ := cn.two
      rw [e] at e2
      cases e2
      exact ⟨a, b, c1.dp hs.1, c2.dp hs.2, hs.1, hs.2, q _ (.bl _)⟩
    · cases ho
  · cases ho
def rInT (K : PySem.W.Frag) (neg : Bool) : R2 := fun x y H Q => ∃ d ds, Dp K H x d ∧ Dp K H y (.tuple ds) ∧ SeqAt.shaped d = true ∧ SeqAt.shaped (.tuple ds) = true ∧ Q (.bl (if neg = true then !ds.any (fun z => PyData.eqv z d) else ds.any (fun z => PyData.eqv z d))) H
theorem room_in {A : Around} {xs : List PyData} {d : PyData} (hd : SeqAt.shaped d = true) (hu : A.units + 65 < cLine) : A.units + 1 + min (PyData.depthAll xs) d.depth < cLine := by
  have h1 := SeqAt.depth_of_shaped hd
  have h2 := Nat.min_le_right (PyData.depthAll xs) d.depth
  omega
theorem op_inT {X : Cx} (hu : X.A.units + 65 < cLine) : OpR X (compareOp .In) (rInT X.K false) := by
  intro pins s σ H x y v u Q I rx ry h
  obtain ⟨d, ds, hd, he, sd, se, q⟩ := h
  obtain ⟨as, r1⟩ := Dp.reads I d x v hd rx
  obtain ⟨bs, r2⟩ := Dp.reads I _ y u he ry
  have hl : PyData.canLayAll0 ds = true := SeqAt.canLay_of_shaped se
  exact SeqAt.in_tuple_reads r2 r1 hl (SeqAt.canLay_of_shaped sd) (room_in sd hu) ⟨.bl _, H, I, rfl, by simpa using q⟩
theorem op_notInT {X : Cx} (hu : X.A.units + 65 < cLine) : OpR X (compareOp .NotIn) (rInT X.K true) := by
  intro pins s σ H x y v u Q I rx ry h
  obtain ⟨d, ds, hd, he, sd, se, q⟩ := h
  obtain ⟨as, r1⟩ := Dp.reads I d x v hd rx
  obtain ⟨bs, r2⟩ := Dp.reads I _ y u he ry
  have hl : PyData.canLayAll0 ds = true := SeqAt.canLay_of_shaped se
  exact SeqAt.notIn_tuple_reads r2 r1 hl (SeqAt.canLay_of_shaped sd) (room_in sd hu) ⟨.bl _, H, I, rfl, by simpa using q⟩
def oIn (neg : Bool) : List PyData → Option PyData
  | [x, .list ys] => if SeqAt.shaped x = true ∧ SeqAt.shaped (.list ys) = true then some (.bool (if neg = true then !ys.any (fun z => PyData.eqv z x) else ys.any (fun z => PyData.eqv z x))) else none
  | [x, .tuple ys] => if SeqAt.shaped x = true ∧ SeqAt.shaped (.tuple ys) = true then some (.bool (if neg = true then !ys.any (fun z => PyData.eqv z x) else ys.any (fun z => PyData.eqv z x))) else none
  | _ => none
theorem ok_in {K : PySem.W.Frag} : OkE K (oIn false) (l2 fun x y H Q => rInD K x y H Q ∨ rInT K false x y H Q) := by
  intro B H vs xs z Q cn ho q x y e
  unfold oIn at ho
  split at ho
  · split at ho
    · rename_i a b hs
      cases ho
      obtain ⟨v, w, e2, c1, c2⟩ := cn.two
      rw [e] at e2
      cases e2
      exact .inl ⟨_, _, c1.dp hs.1, c2.dp hs.2, hs.1, hs.2, q _ (.bl _)⟩
    · cases ho
  · split at ho
    · rename_i a b hs
      cases ho
      obtain ⟨v, w, e2, c1, c2⟩ := cn.two
      rw [e] at e2
      cases e2
      exact .inr ⟨_, _, c1.dp hs.1, c2.dp hs.2, hs.1, hs.2, q _ (.bl _)⟩
    · cases ho
  · cases ho
theorem ok_notin {K : PySem.W.Frag} : OkE K (oIn true) (l2 fun x y H Q => rNotInD K x y H Q ∨ rInT K true x y H Q) := by
  intro B H vs xs z Q cn ho q x y e
  unfold oIn at ho
  split at ho
  · split at ho
    · rename_i a b hs
      cases ho
      obtain ⟨v, w, e2, c1, c2⟩ := cn.two
      rw [e] at e2
      cases e2
      exact .inl ⟨_, _, c1.dp hs.1, c2.dp hs.2, hs.1, hs.2, q _ (.bl _)⟩
    · cases ho
  · split at ho
    · rename_i a b hs
      cases ho
      obtain ⟨v, w, e2, c1, c2⟩ := cn.two
      rw [e] at e2
      cases e2
      exact .inr ⟨_, _, c1.dp hs.1, c2.dp hs.2, hs.1, hs.2, q _ (.bl _)⟩
    · cases ho
  · cases ho
def isN : PyData → Bool
  | .none => true
  | _ => false
def oIsN (neg : Bool) : List PyData → Option PyData
  | [x, .none] => some (.bool (if neg = true then !isN x else isN x))
  | _ => none
theorem Cn.isN {K : PySem.W.Frag} {B : Mset} {H : Hp} {v : V} {x : PyData} (h : Cn K B H v x) : decide (v = .non) = isN x := by
  cases h with
  | ct => rfl
  | rp h => cases h <;> rfl
theorem ok_isN {K : PySem.W.Frag} : OkE K (oIsN false) (l2 fun x y H Q => y = .non ∧ Q (.bl (decide (x = .non))) H) := by
  intro B H vs xs z Q cn ho q x y e
  unfold oIsN at ho
  split at ho
  · cases ho
    obtain ⟨v, w, e2, c1, c2⟩ := cn.two
    rw [e] at e2
    cases e2
    refine ⟨c2.none, ?_⟩
    rw [c1.isN]
    exact q _ (.bl _)
  · cases ho
theorem ok_notN {K : PySem.W.Frag} : OkE K (oIsN true) (l2 fun x y H Q => y = .non ∧ Q (.bl (!decide (x = .non))) H) := by
  intro B H vs xs z Q cn ho q x y e
  unfold oIsN at ho
  split at ho
  · cases ho
    obtain ⟨v, w, e2, c1, c2⟩ := cn.two
    rw [e] at e2
    cases e2
    refine ⟨c2.none, ?_⟩
    rw [c1.isN]
    exact q _ (.bl _)
  · cases ho
def ints? : List PyData → Option (List Int)
  | [] => some []
  | .int i :: xs => match ints? xs with
    | none => none
    | some ns => some (i :: ns)
  | _ => none
theorem ints_map : ∀ {xs : List PyData} {ns : List Int}, ints? xs = some ns → xs = ns.map .int
  | [], ns, h => by cases h; rfl
  | .int i :: xs, ns, h => by
    unfold ints? at h
    split at h
    · cases h
    rename_i ms hm
    cases h
    rw [ints_map hm]
    rfl
  | .none :: _, _, h => by cases h
  | .bool _ :: _, _, h => by cases h
  | .str _ :: _, _, h => by cases h
  | .list _ :: _, _, h => by cases h
  | .tuple _ :: _, _, h => by cases h
  | .dict _ :: _, _, h => by cases h
def oLtT : List PyData → Option PyData
  | [.tuple xs, .tuple ys] => match ints? xs with
    | none => none
    | some ns => match ints? ys with
      | none => none
      | some ms => some (.bool (HT.lexLt ns ms))
  | _ => none
theorem ok_ltT {K : PySem.W.Frag} : OkE K oLtT (l2 (rLtT K)) := by
  intro B H vs xs z Q cn ho q x y e
  unfold oLtT at ho
  split at ho
  · split at ho
    · cases ho
    rename_i ns h1
    split at ho
    · cases ho
    rename_i ms h2
    cases ho
    obtain ⟨v, w, e2, c1, c2⟩ := cn.two
    rw [e] at e2
    cases e2
    obtain ⟨a, us, rfl, h3, h4⟩ := c1.tuple
    obtain ⟨b, ws, rfl, h5, h6⟩ := c2.tuple
    rw [ints_map h1] at h4
    rw [ints_map h2] at h6
    have e1 := h4.ints
    have e2 := h6.ints
    subst e1 e2
    exact ⟨a, b, ns, ms, rfl, rfl, h3, h5, q _ (.bl _)⟩
  · cases ho
def kLt : KK := kOr kLt0 (kOr (kE oLtT) (kE oLtG))
def oIx : List PyData → Option PyData
  | [.list xs, .int i] => atI xs i
  | [.tuple xs, .int i] => atI xs i
  | [.str s, .int i] => if s.length ≤ 1000000 then (atI s.cps.toList i).map fun c => .str ⟨#[c]⟩ else none
  | _ => none
theorem at_rp {K : PySem.W.Frag} {B : Mset} {H : Hp} {vs : List V} {xs : List PyData} {i : Int} {z : PyData} (r : RpA K B H vs xs) (h : atI xs i = some z) : ∃ v, atI vs i = some v ∧ Rp K B H v z := by
  unfold atI at h ⊢
  rw [r.length]
  cases e : ixN xs.length i with
  | none => rw [e] at h; cases h
  | some j =>
    rw [e] at h
    exact r.get h
theorem ok_ix {K : PySem.W.Frag} : OkE K oIx (l2 (rIx K)) := by
  intro B H vs xs z Q cn ho q x y e
  unfold oIx at ho
  split at ho
  · obtain ⟨v, w, e2, c1, c2⟩ := cn.two
    rw [e] at e2
    cases e2
    obtain ⟨a, us, rfl, h1, h2⟩ := c1.list
    obtain ⟨v, h3, h4⟩ := at_rp h2 ho
    exact .inl ⟨a, us, _, v, rfl, c2.int, h1, h3, q v h4⟩
  · obtain ⟨v, w, e2, c1, c2⟩ := cn.two
    rw [e] at e2
    cases e2
    obtain ⟨a, us, rfl, h1, h2⟩ := c1.tuple
    obtain ⟨v, h3, h4⟩ := at_rp h2 ho
    exact .inr (.inl ⟨a, us, _, v, rfl, c2.int, h1, h3, q v h4⟩)
  · split at ho
    · rename_i s i hl
      obtain ⟨v, w, e2, c1, c2⟩ := cn.two
      rw [e] at e2
      cases e2
      cases hc : atI s.cps.toList i with
      | none => rw [hc] at ho; cases ho
      | some c =>
        rw [hc] at ho
        cases ho
        exact .inr (.inr ⟨s, i, c, c1.str, c2.int, Nat.le_of_lt (small hl), hc, q _ (.str _)⟩)
    · cases ho
  · cases ho
end T3

end
section
set_option linter.all false
set_option autoImplicit false
set_option Elab.async false
namespace T3
open PySem L2
variable [TabL]

def cOr (r r' : List V → Hp → VK → Prop) : List V → Hp → VK → Prop := fun vs H Q => r vs H Q ∨ r' vs H Q
def oLen : List PyData → Option PyData
  | [.list xs] => some (.int xs.length)
  | [.tuple xs] => some (.int xs.length)
  | [.str s] => if s.length ≤ 1000000 then some (.int s.length) else none
  | _ => none
def rLen (K : PySem.W.Frag) : List V → Hp → VK → Prop := cOr (fun xs H Q => ∃ p ys, xs = [.ref p] ∧ (SqL K H p ys ∨ SqT K H p ys) ∧ Q (.int ys.length) H) (fun xs H Q => ∃ z, xs = [.str z] ∧ z.length ≤ sizeLine ∧ Q (.int z.length) H)
theorem cr_len {X : Cx} : CallR X (.builtin "len") (rLen X.K) := CallR.or call_len_seq call_len_str
theorem c_len {K : PySem.W.Frag} : Con K (kE oLen) (rLen K) := con_E <| by
  intro B H vs xs z Q cn ho q
  unfold oLen at ho
  split at ho
  · cases ho
    obtain ⟨v, rfl, c1⟩ := cn.one
    obtain ⟨a, us, rfl, h1, h2⟩ := c1.list
    refine .inl ⟨a, us, rfl, .inl h1, ?_⟩
    rw [h2.length]
    exact q _ (.int _)
  · cases ho
    obtain ⟨v, rfl, c1⟩ := cn.one
    obtain ⟨a, us, rfl, h1, h2⟩ := c1.tuple
    refine .inl ⟨a, us, rfl, .inr h1, ?_⟩
    rw [h2.length]
    exact q _ (.int _)
  · split at ho
    · rename_i hl
      cases ho
      obtain ⟨v, rfl, c1⟩ := cn.one
      exact .inr ⟨_, by rw [c1.str], Nat.le_of_lt (small hl), q _ (.int _)⟩
    · cases ho
  · cases ho
def bools? : List PyData → Option (List Bool)
  | [] => some []
  | .bool i :: xs => match bools? xs with
    | none => none
    | some ns => some (i :: ns)
  | _ => none
theorem bools_map : ∀ {xs : List PyData} {ns : List Bool}, bools? xs = some ns → xs = ns.map .bool
  | [], ns, h => by cases h; rfl
  | .bool i :: xs, ns, h => by
    unfold bools? at h
    split at h
    · cases h
    rename_i ms hm
    cases h
    rw [bools_map hm]
    rfl
  | .none :: _, _, h => by cases h
  | .int _ :: _, _, h => by cases h
  | .str _ :: _, _, h => by cases h
  | .list _ :: _, _, h => by cases h
  | .tuple _ :: _, _, h => by cases h
  | .dict _ :: _, _, h => by cases h
def oAll : List PyData → Option PyData
  | [.list xs] => match bools? xs with
    | none => none
    | some bs => some (.bool (bs.all id))
  | _ => none
theorem c_all {K : PySem.W.Frag} : Con K (kE oAll) (rAll K) := con_E <| by
  intro B H vs xs z Q cn ho q
  unfold oAll at ho
  split at ho
  · split at ho
    · cases ho
    rename_i bs hb
    cases ho
    obtain ⟨v, rfl, c1⟩ := cn.one
    obtain ⟨a, us, rfl, h1, h2⟩ := c1.list
    rw [bools_map hb] at h2
    have e := h2.bls
    subst e
    exact ⟨a, bs, rfl, h1, q _ (.bl _)⟩
  · cases ho
def oInt1 : List PyData → Option PyData
  | [.int i] => some (.int i)
  | [.bool b] => some (.int (if b then 1 else 0))
  | _ => none
theorem c_int1 {K : PySem.W.Frag} : Con K (kE oInt1) (fun xs H Q => (∃ i, xs = [.int i] ∧ Q (.int i) H) ∨ ∃ k, xs = [.bl k] ∧ Q (.int (if k then 1 else 0)) H) := con_E <| by
  intro B H vs xs z Q cn ho q
  unfold oInt1 at ho
  split at ho
  · cases ho
    obtain ⟨v, rfl, c1⟩ := cn.one
    exact .inl ⟨_, by rw [c1.int], q _ (.int _)⟩
  · cases ho
    obtain ⟨v, rfl, c1⟩ := cn.one
    exact .inr ⟨_, by rw [c1.bool], q _ (.int _)⟩
  · cases ho
def oAbs : List PyData → Option PyData
  | [.int i] => some (.int (if i < 0 then -i else i))
  | _ => none
def rMinT (K : PySem.W.Frag) : List V → Hp → VK → Prop := fun vs H Q => ∃ (a : Addr) (n : Int) (ns : List Int), vs = [V.ref a] ∧ SqT K H a ((n :: ns).map V.int) ∧ Q (.int (ns.foldl min n)) H
def rMaxT (K : PySem.W.Frag) : List V → Hp → VK → Prop := fun vs H Q => ∃ (a : Addr) (n : Int) (ns : List Int), vs = [V.ref a] ∧ SqT K H a ((n :: ns).map V.int) ∧ Q (.int (ns.foldl max n)) H
theorem DpAll.ints {K : PySem.W.Frag} {H : Hp} : ∀ ns : List Int, DpAll K H (ns.map V.int) (ns.map .int)
  | [] => .nil
  | n :: ns => .cons (.int n) (DpAll.ints ns)
theorem alike_ints (ns : List Int) : PySem.W.AlikeAll (ns.map .int) := by
  constructor
  · intro x hx y hy
    obtain ⟨i, _, rfl⟩ := List.mem_map.mp hx
    obtain ⟨j, _, rfl⟩ := List.mem_map.mp hy
    rfl
  · intro x hx
    obtain ⟨i, _, rfl⟩ := List.mem_map.mp hx
    intro z
    cases z
theorem depth_ints : ∀ ns : List Int, PyData.depthAll (ns.map .int) = 0
  | [] => by simp [PyData.depthAll]
  | n :: ns => by simp [PyData.depthAll, PyData.depth, depth_ints ns]
theorem reads_int {h : Heap} {v : Value} {i : Int} {as : List Addr} (r : Reads h v (.int i) as) : ∃ t, v = .int i t := by
  cases r with
  | int _ t => exact ⟨t, rfl⟩
theorem cr_minT {X : Cx} (hc : X.calm = true) (hu : X.A.units + 64 < cLine) : CallR X (.builtin "min") (rMinT X.K) := by
  intro pins s σ H vs us Q I r h
  obtain ⟨a, n, ns, rfl, hs, q⟩ := h
  obtain ⟨its, rv, ⟨o, ho, hcl, m, hd⟩, hz⟩ := I.tuple hs
  rw [Vals.ref1 r]
  obtain ⟨as, hr⟩ := Dp.readsAll I _ _ its (DpAll.ints (n :: ns)) rv
  refine PySem.W.min_tuple_data (vs := its.toArray) (I.ok.hd hc) ⟨o, ho, hcl, m, hd⟩ (x := .int n) (xs := ns.map .int) hr (alike_ints (n :: ns)) (by have := depth_ints (n :: ns); simp only [List.map_cons] at this; rw [this]; omega) fun i v h' tk bs hv hrd hk => ?_
  rw [PySem.W.minD_ints] at hrd
  obtain ⟨t, rfl⟩ := reads_int hrd
  exact ⟨.int _, H, I.kept hk, ⟨t, rfl⟩, q⟩
theorem cr_maxT {X : Cx} (hc : X.calm = true) (hu : X.A.units + 64 < cLine) : CallR X (.builtin "max") (rMaxT X.K) := by
  intro pins s σ H vs us Q I r h
  obtain ⟨a, n, ns, rfl, hs, q⟩ := h
  obtain ⟨its, rv, ⟨o, ho, hcl, m, hd⟩, hz⟩ := I.tuple hs
  rw [Vals.ref1 r]
  obtain ⟨as, hr⟩ := Dp.readsAll I _ _ its (DpAll.ints (n :: ns)) rv
  refine PySem.W.max_tuple_data (vs := its.toArray) (I.ok.hd hc) ⟨o, ho, hcl, m, hd⟩ (x := .int n) (xs := ns.map .int) hr (alike_ints (n :: ns)) (by have := depth_ints (n :: ns); simp only [List.map_cons] at this; rw [this]; omega) fun i v h' tk bs hv hrd hk => ?_
  rw [PySem.W.maxD_ints] at hrd
  obtain ⟨t, rfl⟩ := reads_int hrd
  exact ⟨.int _, H, I.kept hk, ⟨t, rfl⟩, q⟩
def rMm (K : PySem.W.Frag) (mx : Bool) : List V → Hp → VK → Prop := if mx = true then cOr (fun xs H Q => ∃ i j, xs = [.int i, .int j] ∧ Q (.int (if j > i then j else i)) H) (cOr (rMaxT K) (rMax K)) else cOr (fun xs H Q => ∃ i j, xs = [.int i, .int j] ∧ Q (.int (if j < i then j else i)) H) (cOr (rMinT K) (rMin K))
theorem cr_mx {X : Cx} (hc : X.calm = true) (hu : X.A.units + 64 < cLine) : CallR X (.builtin "max") (rMm X.K true) := CallR.or (call_max2 hc) (CallR.or (cr_maxT hc hu) (cr_max hc))
theorem cr_mn {X : Cx} (hc : X.calm = true) (hu : X.A.units + 64 < cLine) : CallR X (.builtin "min") (rMm X.K false) := CallR.or (call_min2 hc) (CallR.or (cr_minT hc hu) (cr_min hc))
def oMax : List PyData → Option PyData
  | [.int i, .int j] => some (.int (if j > i then j else i))
  | [.tuple xs] => match ints? xs with
    | some (n :: ns) => some (.int (ns.foldl max n))
    | _ => none
  | [.list xs] => match ints? xs with
    | some (n :: ns) => some (.int (ns.foldl max n))
    | _ => none
  | _ => none
def oMin : List PyData → Option PyData
  | [.int i, .int j] => some (.int (if j < i then j else i))
  | [.tuple xs] => match ints? xs with
    | some (n :: ns) => some (.int (ns.foldl min n))
    | _ => none
  | [.list xs] => match ints? xs with
    | some (n :: ns) => some (.int (ns.foldl min n))
    | _ => none
  | _ => none
theorem foldl_max : ∀ (ns : List Int) (n m : Int), m ∈ n :: ns → (∀ y, y ∈ n :: ns → y ≤ m) → ns.foldl max n = m
  | [], n, m, h, _ => by simp at h; simp [h]
  | k :: ns, n, m, h, hb => by
    show ns.foldl max (max n k) = m
    have h1 := hb n (by simp)
    have h2 := hb k (by simp)
    refine foldl_max ns _ m ?_ fun y hy => ?_
    · simp only [List.mem_cons] at h ⊢
      rcases h with h | h | h
      · left; omega
      · left; omega
      · right; exact h
    · simp only [List.mem_cons] at hy
      rcases hy with hy | hy
      · omega
      · exact hb y (by simp [hy])
theorem foldl_min : ∀ (ns : List Int) (n m : Int), m ∈ n :: ns → (∀ y, y ∈ n :: ns → m ≤ y) → ns.foldl min n = m
  | [], n, m, h, _ => by simp at h; simp [h]
  | k :: ns, n, m, h, hb => by
    show ns.foldl min (min n k) = m
    have h1 := hb n (by simp)
    have h2 := hb k (by simp)
    refine foldl_min ns _ m ?_ fun y hy => ?_
    · simp only [List.mem_cons] at h ⊢
      rcases h with h | h | h
      · left; omega
      · left; omega
      · right; exact h
    · simp only [List.mem_cons] at hy
      rcases hy with hy | hy
      · omega
      · exact hb y (by simp [hy])
theorem c_mx {K : PySem.W.Frag} : Con K (kE oMax) (rMm K true) := con_E <| by
  intro B H vs xs z Q cn ho q
  unfold oMax at ho
  split at ho
  · cases ho
    obtain ⟨v, w, rfl, c1, c2⟩ := cn.two
    exact .inl ⟨_, _, by rw [c1.int, c2.int], q _ (.int _)⟩
  · split at ho
    · rename_i n ns hb
      cases ho
      obtain ⟨v, rfl, c1⟩ := cn.one
      obtain ⟨a, us, rfl, h1, h2⟩ := c1.tuple
      rw [ints_map hb] at h2
      have e := h2.ints
      subst e
      exact .inr (.inl ⟨a, n, ns, rfl, h1, q _ (.int _)⟩)
    · cases ho
  · split at ho
    · rename_i n ns hb
      cases ho
      obtain ⟨v, rfl, c1⟩ := cn.one
      obtain ⟨a, us, rfl, h1, h2⟩ := c1.list
      rw [ints_map hb] at h2
      have e := h2.ints
      subst e
      refine .inr (.inr ⟨a, n :: ns, rfl, h1, by simp, fun m hm hb' => ?_⟩)
      rw [← foldl_max ns n m hm hb']
      exact q _ (.int _)
    · cases ho
  · cases ho
theorem c_mn {K : PySem.W.Frag} : Con K (kE oMin) (rMm K false) := con_E <| by
  intro B H vs xs z Q cn ho q
  unfold oMin at ho
  split at ho
  · cases ho
    obtain ⟨v, w, rfl, c1, c2⟩ := cn.two
    exact .inl ⟨_, _, by rw [c1.int, c2.int], q _ (.int _)⟩
  · split at ho
    · rename_i n ns hb
      cases ho
      obtain ⟨v, rfl, c1⟩ := cn.one
      obtain ⟨a, us, rfl, h1, h2⟩ := c1.tuple
      rw [ints_map hb] at h2
      have e := h2.ints
      subst e
      exact .inr (.inl ⟨a, n, ns, rfl, h1, q _ (.int _)⟩)
    · cases ho
  · split at ho
    · rename_i n ns hb
      cases ho
      obtain ⟨v, rfl, c1⟩ := cn.one
      obtain ⟨a, us, rfl, h1, h2⟩ := c1.list
      rw [ints_map hb] at h2
      have e := h2.ints
      subst e
      refine .inr (.inr ⟨a, n :: ns, rfl, h1, by simp, fun m hm hb' => ?_⟩)
      rw [← foldl_min ns n m hm hb']
      exact q _ (.int _)
    · cases ho
  · cases ho
def rTupN (K : PySem.W.Frag) : List V → Hp → VK → Prop := fun xs H Q => ∃ p ys, xs = [.ref p] ∧ ((SqL K H p ys ∧ ∀ l o, H l = none → o.dict = none → Q (.ref l) (upd H l (.frz o (.tup ys)))) ∨ (SqT K H p ys ∧ Q (.ref p) H))
theorem cr_tupN {X : Cx} : CallR X (.type "tuple") (rTupN X.K) := by
  intro pins s σ H xs us Q I r h
  obtain ⟨p, ys, rfl, h⟩ := h
  obtain ⟨u, rfl, rx⟩ := vals1 r
  cases rx
  rcases h with ⟨hq, q⟩ | ⟨hq, q⟩
  · obtain ⟨its, r', pl, hz⟩ := I.list hq
    have hlen := r'.length
    refine call_tuple_list pl.isList (fun h' kp => ?_) (by simp only [List.size_toArray] <;> omega)
    have I1 : Inv X pins σ H { s with heap := h' } := I.kept (t' := s.toks) kp
    refine ⟨.ref h'.objs.size, _, I1.laid (t' := s.toks) (o := .frz { cls := .type "tuple", data := .seq its.toArray } (.tup ys)) (fun b o e => Heap.get?_push_of_some _ e) (Nat.le_refl _) ?_, rfl, q _ _ (I1.hok.fresh (Nat.le_refl _)) rfl⟩
    exact ⟨Heap.get?_push_size _ rfl, hz, its, r', PyProof.Rows.IsTup.new _ _⟩
  · obtain ⟨its, r', pl, hz⟩ := I.tuple hq
    exact call_tuple_same pl ⟨.ref p, H, I, rfl, q⟩
def kTupN : KK := fun ds env => match ds with
  | [.nt xs] => some (.nt xs, env)
  | [d] => match ctn env d with
    | some (.list xs) => some (.nt xs, env)
    | some (.tuple xs) => some (.pd (.tuple xs), env)
    | _ => none
  | _ => none
theorem c_tupN {K : PySem.W.Frag} : Con K kTupN (rTupN K) := by
  intro σ H B env B1 H1 env1 vs ds d e2 Q en a rr hk q
  unfold kTupN at hk
  split at hk
  · cases hk
    match vs, rr with
    | [v], rr =>
      obtain ⟨p, rfl, r⟩ := rr.each 0 v _ rfl rfl
      obtain ⟨o, us, h1, h2, h3⟩ := id r
      exact ⟨p, us, rfl, .inr ⟨.inl (.inr ⟨o, h1⟩), q B1 H1 _ a ⟨p, rfl, r⟩⟩⟩
    | [], rr => have := rr.len; simp at this
    | _ :: _ :: _, rr => have := rr.len; simp at this
  · rename_i d1 _
    match vs, rr with
    | [v], rr =>
      split at hk
      · rename_i xs hx
        cases hk
        obtain ⟨p, us, rfl, h1, h2⟩ := (Cn.of a.en (rr.each 0 v d1 rfl rfl) hx).list
        refine ⟨p, us, rfl, .inl ⟨h1, fun l o nl hd => ?_⟩⟩
        obtain ⟨g, a2⟩ := a.alloc en nl (.frz o (.tup us)) False (fun _ => False) (fun _ f => f.elim)
        exact q _ _ _ a2 ⟨l, rfl, o, us, upd_same, hd, h2.grow g⟩
      · rename_i xs hx
        cases hk
        obtain ⟨p, us, rfl, h1, h2⟩ := (Cn.of a.en (rr.each 0 v d1 rfl rfl) hx).tuple
        exact ⟨p, us, rfl, .inr ⟨h1, q B1 H1 _ a (.tup h1 h2)⟩⟩
      · cases hk
    | [], rr => have := rr.len; simp at this
    | _ :: _ :: _, rr => have := rr.len; simp at this
  · cases hk
def oList : List PyData → Option (List PyData)
  | [.list xs] => some xs
  | [.tuple xs] => some xs
  | _ => none
theorem c_list {K : PySem.W.Frag} : Con K (kL oList) (fun xs H Q => ∃ p ys, xs = [.ref p] ∧ (SqL K H p ys ∨ SqT K H p ys) ∧ ∀ l, H l = none → Q (.ref l) (upd H l (.lst ys))) := con_L <| by
  intro B H vs xs z Q cn ho q
  unfold oList at ho
  split at ho
  · cases ho
    obtain ⟨v, rfl, c1⟩ := cn.one
    obtain ⟨a, us, rfl, h1, h2⟩ := c1.list
    exact ⟨a, us, rfl, .inl h1, fun l nl => q us l h2 nl⟩
  · cases ho
    obtain ⟨v, rfl, c1⟩ := cn.one
    obtain ⟨a, us, rfl, h1, h2⟩ := c1.tuple
    exact ⟨a, us, rfl, .inr h1, fun l nl => q us l h2 nl⟩
  · cases ho
end T3

end
section
set_option linter.all false
set_option autoImplicit false
set_option Elab.async false
namespace T3
open PySem L2
variable [TabL]

def tyN : PyData → String
  | .none => "NoneType"
  | .bool _ => "bool"
  | .int _ => "int"
  | .str _ => "str"
  | .list _ => "list"
  | .tuple _ => "tuple"
  | .dict _ => "dict"
theorem Cn.ty {K : PySem.W.Frag} {B : Mset} {H : Hp} {v : V} {x : PyData} (h : Cn K B H v x) (nx : ∀ kvs, x ≠ .dict kvs) : TyX K H v (.type (tyN x)) := by
  cases h with
  | ct h r => exact .base (.lst h)
  | rp h =>
    cases h with
    | non => exact .base .non
    | bl b => exact .base (.bl b)
    | int i => exact .base (.int i)
    | str x => exact .base (.str x)
    | tup h r =>
      rcases h with (h | ⟨o, h⟩) | ⟨o, _, _, h1, h2, _⟩
      · exact .base (.tup h)
      · exact .fTuple h
      · exact .kTuple h1 h2
    | lst h _ r => exact .base (.lst h)
    | frz h r => exact .base (.frz h)
    | kls h1 h2 h3 h4 h5 h6 r => exact .kList h1 h2
    | fn h => exact absurd rfl (nx _)
    | ntp h1 h2 h3 => exact absurd rfl (nx _)
    | lam h1 h2 h3 h4 h5 => exact absurd rfl (nx _)
    | dct h1 h2 h3 h4 h5 h6 => exact absurd rfl (nx _)
    | dck h1 h2 h3 h4 => exact absurd rfl (nx _)
inductive T5 where | int | bool | str | tuple | list
def T5.n : T5 → String
  | .int => "int"
  | .bool => "bool"
  | .str => "str"
  | .tuple => "tuple"
  | .list => "list"
def isi5 : T5 → PyData → Bool
  | .int, .int _ => true
  | .int, .bool _ => true
  | .bool, .bool _ => true
  | .str, .str _ => true
  | .tuple, .tuple _ => true
  | .list, .list _ => true
  | _, _ => false
theorem kt0 : ∀ t : T5, kitB "NoneType" t.n = some false := by intro t; cases t <;> decide +kernel
theorem kt1 : ∀ t : T5, kitB "bool" t.n = some (match t with | .int => true | .bool => true | _ => false) := by intro t; cases t <;> decide +kernel
theorem kt2 : ∀ t : T5, kitB "int" t.n = some (match t with | .int => true | _ => false) := by intro t; cases t <;> decide +kernel
theorem kt3 : ∀ t : T5, kitB "str" t.n = some (match t with | .str => true | _ => false) := by intro t; cases t <;> decide +kernel
theorem kt4 : ∀ t : T5, kitB "list" t.n = some (match t with | .list => true | _ => false) := by intro t; cases t <;> decide +kernel
theorem kt5 : ∀ t : T5, kitB "tuple" t.n = some (match t with | .tuple => true | _ => false) := by intro t; cases t <;> decide +kernel
theorem kit5 {K : PySem.W.Frag} (t : T5) (x : PyData) (hx : ∀ kvs, x ≠ .dict kvs) : PySem.W.kitOne K (.type (tyN x)) (.type t.n) = some (isi5 t x) := by
  cases x with
  | dict kvs => exact absurd rfl (hx kvs)
  | none => cases t <;> exact kit_ty (kt0 _)
  | bool b => cases t <;> exact kit_ty (kt1 _)
  | int b => cases t <;> exact kit_ty (kt2 _)
  | str b => cases t <;> exact kit_ty (kt3 _)
  | list b => cases t <;> exact kit_ty (kt4 _)
  | tuple b => cases t <;> exact kit_ty (kt5 _)
def oIsi (t : T5) : List PyData → Option PyData
  | [.dict _] => none
  | [x] => some (.bool (isi5 t x))
  | _ => none
theorem e_isi {X : Cx} {e : Expr} {f : EE} {x : Str} {p p2 pos : Pos} (t : T5) (h : PE X e (tE X.K f)) (hg : Gl X "isinstance") (hm : X.mg "isinstance" = none) (hg2 : Gl X x) (hm2 : X.mg x = none) (hv2 : bootBuiltins x = some (.type t.n)) (hn2 : x ≠ "__name__" := by decide) (hd2 : (x == ("__debug__" : Str)) = false := by decide)
    (hs1 : starEach [e, .Name x p2] X.env = (false, eval e X.env) :: starEach [.Name x p2] X.env := by rfl) (hs2 : starEach [.Name x p2] X.env = (false, eval (.Name x p2) X.env) :: starEach [] X.env := by rfl) (hpl : (backTo pos (starEach [.Name x p2] X.env)).any (·.1) = false := by rfl) :
    PE X (.Call (.Name "isinstance" p) [e, .Name x p2] [] pos) (tE X.K (eThen (eOne f) (kE (oIsi t)))) := by
  refine PE.imp (pe_callB call_isi hg hm PyProof.Rows.boot_isinstance (pa_cons h (pa_cons (pe_bltn (v := .ty t.n) hg2 hm2 hv2 rfl hn2 hd2) pa_nil hs2) hs1) (by decide) (by decide) hs1 hpl) fun σ H Q q => ?_
  have c : Con X.K (kE (oIsi t)) (l1 fun x H Q => rIsi X.K [x, .ty t.n] H Q) := con_E <| by
    intro B H vs xs z Q cn ho q x e
    unfold oIsi at ho
    split at ho
    · cases ho
    · rename_i nx
      cases ho
      obtain ⟨v, e2, c1⟩ := cn.one
      rw [e] at e2
      cases e2
      exact ⟨x, .ty t.n, _, _, _, rfl, .ty _, c1.ty nx, kit5 t _ nx, q _ (.bl _)⟩
    · cases ho
  exact rd_one c q

def cutD (xs : List PyData) (lo hi : Option Int) : List PyData := (xs.drop (HT.sIx xs.length 0 lo)).take (HT.sIx xs.length xs.length hi - HT.sIx xs.length 0 lo)
theorem RpA.cut {K : PySem.W.Frag} {B : Mset} {H : Hp} {vs : List V} {xs : List PyData} (h : RpA K B H vs xs) (lo hi : Option Int) : RpA K B H (cutV vs lo hi) (cutD xs lo hi) := by
  unfold cutV cutD
  rw [h.length]
  exact (h.drop _).take _
abbrev EO := Sl → Option (Option Int × Sl)
def oNo : EO := fun env => some (none, env)
def oSome (f : EE) : EO := fun env => match f env with
  | some (.pd (.int i), e) => some (some i, e)
  | _ => none
def tO (K : PySem.W.Frag) (f : EO) : TO := fun σ H Q => ∃ B env i env', EnvR K B H σ env ∧ f env = some (i, env') ∧ ∀ B' H', At K σ B H env B' H' env' → Q i H'
theorem PO.imp {X : Cx} {e : Option Expr} {t t' : TO} (h : PO X e t) (i : ∀ σ H Q, t' σ H Q → t σ H Q) : PO X e t' := ⟨fun pins s σ H Q I q => h.run pins s σ H Q I (i σ H Q q)⟩
theorem o_no {X : Cx} {K : PySem.W.Frag} : PO X none (tO K oNo) := PO.imp po_none fun σ H Q q => by
  obtain ⟨B, env, i, env', en, ev, q⟩ := q
  cases ev
  exact q B H (.refl en)
theorem o_some {X : Cx} {e : Expr} {f : EE} (h : PE X e (tE X.K f)) : PO X (some e) (tO X.K (oSome f)) := PO.imp (po_some h) fun σ H Q q => by
  obtain ⟨B, env, i, env', en, ev, q⟩ := q
  unfold oSome at ev
  split at ev
  · rename_i j e h1
    cases ev
    refine ⟨B, env, _, _, en, h1, fun B1 H1 v a1 r1 => ?_⟩
    have r1 : Rp X.K B1 H1 v (.int j) := r1
    cases r1
    exact ⟨j, rfl, q B1 H1 a1⟩
  · cases ev
def kSl (l h : Option Int) : KK := fun ds env => match ds with
  | [d] => match ctn env d with
    | some (.tuple xs) => some (.pd (.tuple (cutD xs l h)), env)
    | some (.list xs) => some (.tmp (.ls (cutD xs l h)), env)
    | some (.str s) => if s.length ≤ 1000000 then some (.pd (.str (cutS s l h)), env) else none
    | _ => none
  | _ => none
def eSl (f : EE) (lo hi : EO) : EE := fun env => match f env with
  | none => none
  | some (d, e1) => match lo e1 with
    | none => none
    | some (l, e2) => match hi e2 with
      | none => none
      | some (h, e3) => kSl l h [d] e3
def rSl3 (K : PySem.W.Frag) : V → Option Int → Option Int → Hp → VK → Prop := fun x lo hi H Q => rSlL K x lo hi H Q ∨ rSlA K x lo hi H Q ∨ rSlS x lo hi H Q
theorem sl3 {X : Cx} : SlR X (rSl3 X.K) := SlR.or sl_list (SlR.or sl_tupA sl_str)
theorem cutD_all {xs : List PyData} {lo hi : Option Int} (h : HT.sIx xs.length 0 lo = 0 ∧ HT.sIx xs.length xs.length hi = xs.length) : cutD xs lo hi = xs := by
  unfold cutD
  rw [h.1, h.2]
  simp
theorem c_sl {K : PySem.W.Frag} {l h : Option Int} : Con K (kSl l h) (l1 fun x H Q => rSl3 K x l h H Q) := by
  intro σ H B env B1 H1 env1 vs ds d e2 Q en a rr hk q x e
  subst e
  unfold kSl at hk
  split at hk
  · rename_i d1
    split at hk
    · rename_i xs hx
      cases hk
      obtain ⟨p, us, rfl, h1, h2⟩ := (Cn.of a.en (rr.each 0 x d1 rfl rfl) hx).tuple
      refine .inr (.inl ⟨p, us, rfl, h1, fun z => ?_, fun z r nr => ?_⟩)
      · rw [h2.length] at z
        rw [cutD_all z] at q
        exact q B1 H1 _ a (.tup h1 h2)
      · obtain ⟨g, a2⟩ := a.alloc en nr (.tup (cutV us l h)) False (fun _ => False) (fun _ f => f.elim)
        exact q _ _ _ a2 (.tup (.inl (.inl upd_same)) ((h2.cut l h).grow g))
    · rename_i xs hx
      cases hk
      obtain ⟨p, us, rfl, h1, h2⟩ := (Cn.of a.en (rr.each 0 x d1 rfl rfl) hx).list
      exact .inl ⟨p, us, rfl, h1, fun r nr => con_new en a nr (h2.cut l h) q⟩
    · rename_i s hx
      split at hk
      · rename_i hl
        cases hk
        have c1 := Cn.of a.en (rr.each 0 x d1 rfl rfl) hx
        exact .inr (.inr ⟨s, c1.str, Nat.le_of_lt (small hl), q B1 H1 _ a (.str _)⟩)
      · cases hk
    · cases hk
  · cases hk
theorem e_sl {X : Cx} {e : Expr} {lo hi : Option Expr} {f : EE} {fl fh : EO} {p2 pos : Pos} (he : PE X e (tE X.K f)) (hl : PO X lo (tO X.K fl)) (hu : PO X hi (tO X.K fh)) : PE X (.Subscript e (.Slice lo hi none p2) pos) (tE X.K (eSl f fl fh)) := by
  refine PE.imp (pe_slice sl3 he hl hu) fun σ H Q t => ?_
  obtain ⟨B, env, d, env', en, ev, q⟩ := t
  unfold eSl at ev
  split at ev
  · cases ev
  rename_i d1 e1 h1
  split at ev
  · cases ev
  rename_i l e2 h2
  split at ev
  · cases ev
  rename_i h e3 h3
  refine ⟨B, env, d1, e1, en, h1, fun B1 H1 v a1 r1 => ⟨B1, e1, l, e2, a1.en, h2, fun B2 H2 a2 => ⟨B2, e2, h, e3, a2.en, h3, fun B3 H3 a3 => ?_⟩⟩⟩
  have a23 := a2.trans a1.en a3
  have aa := a1.trans en a23
  refine c_sl σ H B env B3 H3 e3 [v] [d1] d env' Q en aa ⟨rfl, fun k w d' hv hd => ?_, fun k l' c c' w hkl hk hl _ _ => ?_⟩ ev q v rfl
  · cases k with
    | zero => simp at hv hd; subst hv hd; exact (r1.ra).later a1.en a23
    | succ k => simp at hv
  · have : k = 0 := by
      cases k with
      | zero => rfl
      | succ k => simp at hk
    have : l' = 0 := by
      cases l' with
      | zero => rfl
      | succ k => simp at hl
    omega
end T3

end
section
set_option linter.all false
set_option autoImplicit false
set_option Elab.async false
namespace T3
open PySem L2
variable [TabL]

theorem RRA.cons {K : PySem.W.Frag} {σ : St} {B1 B2 : Mset} {H H1 H2 : Hp} {e1 e2 : Sl} {v : V} {d : R} {vs : List V} {ds : List R} (en1 : EnvR K B1 H1 σ e1) (lv : ∀ a, H1 a = none → H a = none) (r1 : RR K H B1 H1 σ e1 v d) (a2 : At K σ B1 H1 e1 B2 H2 e2) (r2 : RRA K H1 B2 H2 σ e2 vs ds) : RRA K H B2 H2 σ e2 (v :: vs) (d :: ds) := by
  refine ⟨by simp [r2.len], fun k w d' hv hd => ?_, fun k l c c' w hkl hk hl vk vl => ?_⟩
  · cases k with
    | zero => simp at hv hd; subst hv hd; exact (r1.ra).later en1 a2
    | succ k =>
      have := r2.each k w d' (by simpa using hv) (by simpa using hd)
      cases d' with
      | pd x => exact this
      | nt x => exact this
      | var i => exact this
      | tmp c => obtain ⟨a, e1, e2, e3⟩ := this; exact ⟨a, e1, lv a e2, e3⟩
  · have fresh : ∀ (k : Nat) c', ds[k]? = some (.tmp c') → vs[k]? = some w → ∀ c, d = .tmp c → v = w → False := by
      intro kk c' gk gv c hd hw
      subst hd hw
      obtain ⟨a, rfl, _, ba, _, _⟩ := r1
      obtain ⟨a', e, h0, _⟩ := r2.each kk _ _ gv gk
      cases e
      obtain ⟨o, ho⟩ := en1.dom a ba
      rw [ho] at h0
      cases h0
    cases k with
    | zero =>
      cases l with
      | zero => exact hkl rfl
      | succ l => exact fresh l c' (by simpa using hl) (by simpa using vl) c (by simpa using hk) (by simpa using vk)
    | succ k =>
      cases l with
      | zero => exact fresh k c (by simpa using hk) (by simpa using vk) c' (by simpa using hl) (by simpa using vl)
      | succ l => exact r2.apart k l c c' w (by omega) (by simpa using hk) (by simpa using hl) (by simpa using vk) (by simpa using vl)

def isL (env : Sl) : R → Bool
  | .pd (.list _) => true
  | .tmp (.ls _) => true
  | .var i => match env[i]? with
    | some (some (.mu _ (.ls _))) => true
    | _ => false
  | _ => false
def isS (env : Sl) : R → Bool
  | .pd (.str _) => true
  | _ => false
def isNt (env : Sl) : R → Bool
  | .nt _ => true
  | _ => false
def eBM (ty : Sl → R → Bool) (fo : EE) (fa : EA) (k : KK) : EE := fun env => match fo env with
  | none => none
  | some (d, e1) => if ty e1 d = true then match fa e1 with
      | none => none
      | some (ds, e2) => k (d :: ds) e2
    else none
def lm (r : V → List V → Hp → VK → Prop) : List V → Hp → VK → Prop := fun vs H Q => ∀ x xs, vs = x :: xs → r x xs H Q
theorem rd_bm {K : PySem.W.Frag} {ty : Sl → R → Bool} {fo : EE} {fa : EA} {k : KK} {r : V → List V → Hp → VK → Prop} {P : V → Hp → Prop} (hp : ∀ H₀ B H σ env v d, EnvR K B H σ env → RR K H₀ B H σ env v d → ty env d = true → P v H) (c : Con K k (lm r)) {σ : St} {H : Hp} {Q : VK} (h : tE K (eBM ty fo fa k) σ H Q) :
    tE K fo σ H fun x H1 => P x H1 ∧ tA K fa σ H1 fun xs H2 => r x xs H2 Q := by
  obtain ⟨B, env, d, env', en, ev, q⟩ := h
  unfold eBM at ev
  split at ev
  · cases ev
  rename_i d1 e1 h1
  split at ev
  rotate_left
  · cases ev
  rename_i ht
  split at ev
  · cases ev
  rename_i ds e2 h2
  refine ⟨B, env, d1, e1, en, h1, fun B1 H1 v a1 r1 => ⟨hp H B1 H1 σ e1 v d1 a1.en r1 ht, B1, e1, ds, e2, a1.en, h2, fun B2 H2 vs a2 r2 => ?_⟩⟩
  exact c σ H B env B2 H2 e2 (v :: vs) (d1 :: ds) d env' Q en (a1.trans en a2) (RRA.cons a1.en a1.st.liv r1 a2 r2) ev q v vs rfl
theorem ty_L {K : PySem.W.Frag} : ∀ H₀ B H σ env v d, EnvR K B H σ env → RR K H₀ B H σ env v d → isL env d = true → tyV K "list" v H := by
  intro H₀ B H σ env v d en r h
  unfold isL at h
  split at h
  · obtain ⟨a, vs, rfl, h1, _⟩ := Cn.list (.rp (show Rp K B H v (.list _) from r))
    exact .inl ⟨rfl, vs, h1⟩
  · obtain ⟨a, rfl, _, _, ⟨vs, h1, _⟩, _⟩ := r
    exact .inl ⟨rfl, vs, .inl (.inl h1)⟩
  · rename_i i
    split at h
    · rename_i hx
      obtain ⟨a, h1, _, vs, h2, _⟩ := en.mu _ _ _ hx
      rw [r.1] at h1
      cases h1
      exact .inl ⟨rfl, vs, .inl (.inl h2)⟩
    · cases h
  · cases h
theorem ty_S {K : PySem.W.Frag} : ∀ H₀ B H σ env v d, EnvR K B H σ env → RR K H₀ B H σ env v d → isS env d = true → tyV K "str" v H := by
  intro H₀ B H σ env v d en r h
  unfold isS at h
  split at h
  · have r : Rp K B H v (.str _) := r
    cases r
    rfl
  · cases h
theorem At.freeze {K : PySem.W.Frag} {σ : St} {B B1 : Mset} {H H1 : Hp} {env env1 : Sl} (en : EnvR K B H σ env) (a : At K σ B H env B1 H1 env1) (fz : Mset) (hf : ∀ q, fz q → H q = none ∧ ∀ (i : Nat) m d, env1[i]? = some (some (S.mu m d)) → σ[i]? ≠ some (some (V.ref q))) :
    Grow B1 H1 (fun q => B1 q ∧ ¬ fz q) H1 ∧ At K σ B H env (fun q => B1 q ∧ ¬ fz q) H1 env1 := by
  have g : Grow B1 H1 (fun q => B1 q ∧ ¬ fz q) H1 := ⟨fun q o h _ => h, fun q h => .inl h.1⟩
  refine ⟨g, ⟨a.st.keep, fun q h => a.st.new q h.1, fun q h w => ⟨a.st.old q h w, fun f => ?_⟩, a.st.sub, a.st.liv⟩, ⟨a.en.len, fun i x h => ?_, fun i x h => ?_, fun i m c h => ?_, a.en.inj, fun q h => a.en.dom q h.1, a.en.tb.on (fun q o h _ => h) g.new⟩, a.sm, a.ks⟩
  · obtain ⟨o', ho⟩ := en.dom q h
    rw [(hf q f).1] at ho; cases ho
  · obtain ⟨v, h1, h2⟩ := a.en.pd i x h
    exact ⟨v, h1, h2.grow g⟩
  · obtain ⟨v, h1, h2⟩ := a.en.nt i x h
    exact ⟨v, h1, h2.grow g⟩
  · obtain ⟨q, h1, h2, h3⟩ := a.en.mu i m c h
    refine ⟨q, h1, ⟨h2, fun f => (hf q f).2 i m c h h1⟩, ?_⟩
    cases c with
    | ls xs => obtain ⟨vs, h4, h5⟩ := h3; exact ⟨vs, h4, h5.grow g⟩
    | dk xs => obtain ⟨vs, h4, h5⟩ := h3; exact ⟨vs, h4, h5.grow g⟩
    | dn xs => obtain ⟨vs, h4, h5⟩ := h3; exact ⟨vs, h4, h5.grow g⟩
def kAppend : KK := fun ds env => match ds with
  | [.var i, d] => match data1 d with
    | none => none
    | some y => match env[i]? with
      | some (some (.mu m (.ls xs))) => if m ≠ .fro ∧ xs.length ≤ 1000000 then some (.pd .none, env.set i (some (.mu m (.ls (xs ++ [y]))))) else none
      | _ => none
  | _ => none
theorem c_append {K : PySem.W.Frag} : Con K kAppend (lm rAppend) := by
  intro σ H B env B1 H1 env1 vs ds d e2 Q en a rr hk q x xs e
  subst e
  unfold kAppend at hk
  split at hk
  · rename_i i d1
    split at hk
    · cases hk
    rename_i y hy
    split at hk
    · rename_i m ys hm
      split at hk
      · rename_i hc
        cases hk
        have hx : σ[i]? = some (some x) := rr.each 0 x _ rfl rfl
        obtain ⟨p, g1, g2, us, g3, g4⟩ := a.en.mu i _ _ hm
        rw [hx] at g1
        cases g1
        match xs, rr with
        | [w], rr =>
          obtain ⟨gf, af⟩ := a.freeze en (fzOf [.ref p, w] [.var i, d1]) rr.fz
          have hw : RpA K (fun q => B1 q ∧ ¬ fzOf [.ref p, w] [.var i, d1] q) H1 [w] [y] := by
            have := RRA.data (vs := [w]) (ds := [d1]) (xs := [y]) gf (fun a o h => h) rr.tail (fun q ⟨k, c, z1, z2⟩ h => h.2 ⟨k + 1, c, by simpa using z1, by simpa using z2⟩) (by simp [datas, hy])
            exact this
          refine ⟨p, us, w, rfl, rfl, g3, by rw [g4.length]; exact small hc.2, ?_⟩
          obtain ⟨gw, aw⟩ := AtS.write (o := .lst (us ++ [w])) (c' := .ls (ys ++ [y])) af.en hm hc.1 hx (fun o' h' im => by rw [g3] at h'; cases h'; exact im) (fun H' _ h1 g' => ⟨_, h1, ((g4.grow gf).append hw).grow g'⟩)
          exact q _ _ _ (af.trans en aw) .non
        | [], rr => have := rr.len; simp at this
        | _ :: _ :: _, rr => have := rr.len; simp at this
      · cases hk
    · cases hk
  · cases hk
def firstIx (d : PyData) : List PyData → Option Nat
  | [] => none
  | z :: zs => if PyData.eqv z d = true then some 0 else match firstIx d zs with
    | none => none
    | some j => some (j + 1)
theorem firstIx_at {d : PyData} : ∀ {zs : List PyData} {j : Nat}, firstIx d zs = some j → ∃ z, zs[j]? = some z ∧ PyData.eqv z d = true ∧ ∀ (m : Nat) z', m < j → zs[m]? = some z' → PyData.eqv z' d = false
  | [], j, h => by cases h
  | z :: zs, j, h => by
    unfold firstIx at h
    split at h
    · rename_i hz
      cases h
      exact ⟨z, rfl, hz, fun m z' hm => by omega⟩
    · rename_i hz
      split at h
      · cases h
      rename_i k hk
      cases h
      obtain ⟨y, h1, h2, h3⟩ := firstIx_at hk
      refine ⟨y, by simpa using h1, h2, fun m z' hm hm' => ?_⟩
      cases m with
      | zero => simp at hm'; subst hm'; simpa using hz
      | succ m => exact h3 m z' (by omega) (by simpa using hm')
def oIxL : List PyData → Option PyData
  | [.list ds, d] => if SeqAt.shaped (.list ds) = true ∧ SeqAt.shaped d = true then match firstIx d ds with
      | some j => some (.int (j : Nat))
      | none => none
    else none
  | _ => none
def oIxT : List PyData → Option PyData
  | [.tuple ds, d] => if SeqAt.shaped (.tuple ds) = true ∧ SeqAt.shaped d = true then match firstIx d ds with
      | some j => some (.int (j : Nat))
      | none => none
    else none
  | _ => none
def rTix (K : PySem.W.Frag) : V → List V → Hp → VK → Prop := fun x xs H Q => ∃ (a : Addr) (y : V) (d : PyData) (ds : List PyData) (j : Nat) (z : PyData), x = V.ref a ∧ xs = [y] ∧ Dp K H (V.ref a) (.tuple ds) ∧ Dp K H y d ∧
  SeqAt.shaped (.tuple ds) = true ∧ SeqAt.shaped d = true ∧ ds[j]? = some z ∧ PyData.eqv z d = true ∧ (∀ (m : Nat) (z' : PyData), m < j → ds[m]? = some z' → PyData.eqv z' d = false) ∧ Q (.int (j : Nat)) H
theorem mt_tix {X : Cx} (hu : X.A.units + 65 < cLine) : MtR X "tuple.index" (rTix X.K) := by
  intro pins s σ H x xs v us Q I rx rxs h
  obtain ⟨a, y, d, ds, j, z, rfl, rfl, hl, hy, sl, sd, hz, hzj, hno, q⟩ := h
  cases rx
  obtain ⟨uy, rfl, ry⟩ := rxs.one
  obtain ⟨bs, r1⟩ := Dp.reads I d y uy hy ry
  have hxs : PyData.canLayAll0 ds = true := SeqAt.canLay_of_shaped sl
  cases hl with
  | tup hs ha =>
    obtain ⟨its, rv, ⟨⟨cls, dd, data, sls⟩, ho, hc, n, hdt⟩, hlen⟩ := I.tuple hs
    simp only at hc hdt
    subst hc hdt
    obtain ⟨as, h4⟩ := Dp.readsAll I ds _ its ha rv
    have hn : its.length = ds.length := SeqAt.ReadsAll.length ds its as h4
    have hmap : its.map (SeqAt.readOf s.heap) = ds := SeqAt.readsAll_map ds its as hxs h4
    have at_ : ∀ (m : Nat) (hm : m < its.length) z', ds[m]? = some z' → SeqAt.readOf s.heap its[m] = z' := by
      intro m hm z' hz'
      rw [← hmap, List.getElem?_map, List.getElem?_eq_getElem hm] at hz'
      exact Option.some.inj hz'
    obtain ⟨hjd, _⟩ := List.getElem?_eq_some_iff.mp hz
    have hj : j < its.length := by omega
    have it := SeqAt.items_eqAt (vs := its.toArray) (show ReadsAll s.heap its.toArray.toList ds as from h4) r1 hxs (SeqAt.canLay_of_shaped sd) (A := X.A) (room_in sd hu)
    refine call_meets F.slot_tuple_index ⟨_, ho, rfl⟩ F.entry_tuple_index (F.args_tuple_index_2 _ _)
      (SeqAt.tuple_index2_found a its.toArray n dd sls uy (fun m => if h : m < its.length then PyData.eqv (SeqAt.readOf s.heap its[m]) d else false) j (by simpa using hj) (Nat.zero_le _) (by simpa using hj) ?_ ?_) ⟨ho, fun m hm => ?_, ⟨.int (j : Nat), H, I.tok _, ⟨_, rfl⟩, q⟩⟩
    · rw [dif_pos hj, at_ j hj z hz]; exact hzj
    · intro m hm _ hmj
      have hml : m < its.length := by simpa using hm
      rw [dif_pos hml, at_ m hml _ (List.getElem?_eq_getElem (by omega))]
      exact hno m _ hmj (List.getElem?_eq_getElem (by omega))
    · have hml : m < its.length := by simpa using hm
      rw [dif_pos hml]
      have := it its.toArray[m] (by simp)
      simpa using this
theorem pe_tix {X : Cx} {o e : Expr} {to : TE} {t : TA} {apos cpos : Pos} (hu : X.A.units + 65 < cLine) (ho : PE X o to) (ha : PA X [e] t)
    (hbase : attributeBase o "index" X.env (eval o X.env) = eval o X.env := by rfl)
    (hfew : ((backTo cpos (starEach [e] X.env)).all (fun x => !x.1) && (backToKw cpos (keywordEach [] X.env)).all (fun x => x.1.isSome)
      && decide (([e] : List Expr).length + ([] : List Keyword).length + (if ([] : List Keyword).isEmpty then 0 else 1) < 30)) = true := by rfl)
    (hline : (apos.endLine == cpos.line) = true := by rfl) (hs : starEach [e] X.env = (false, eval e X.env) :: starEach [] X.env := by rfl) (hplain : (backTo cpos (starEach [] X.env)).any (·.1) = false := by rfl) :
    PE X (.Call (.Attribute o "index" apos) [e] [] cpos) (fun σ H Q => to σ H fun x H1 => (∃ p ob us, x = .ref p ∧ H1 p = some (.frz ob (.tup us)) ∧ ob.dict = none) ∧ t σ H1 fun xs H2 => rTix X.K x xs H2 Q) := by
  refine ⟨fun pins s σ H Q I h => ?_⟩
  refine wpAny_Call_method_late hbase hfew hline rfl (thn (ho.run pins s σ H _ I h) fun v s1 ⟨x, H1, I1, r1, ⟨p, ob, us, ex, hf, hd⟩, q1⟩ => ?_)
  subst ex
  cases r1
  obtain ⟨g1, g2, its, g3, o2, g4, g5, _⟩ := I1.hok p _ hf
  refine ⟨"tuple", "tuple.index", F.plainAttrs_tuple, F.slot_tuple_index, F.type_tuple_index, ⟨o2, g4, g5⟩, fun a z => ?_, ?_⟩
  · cases z; exact ⟨ob, g1, hd⟩
  have hA := ha.run cpos pins s1 σ H1 _ I1 q1
  rw [hs] at hA ⊢
  refine Calls.callWith_builtin (by show (false || (backTo cpos (starEach [] X.env)).any (·.1)) = false; rw [hplain] <;> rfl) (Calls.evalArgs_plain ?_)
  exact thn hA fun us s2 ⟨vs, H2, I2, r2, q2⟩ => mt_tix hu pins s2 σ H2 (.ref p) vs _ us Q I2 rfl r2 q2
theorem c_tix {K : PySem.W.Frag} : Con K (kE oIxT) (lm (rTix K)) := con_E <| by
  intro B H vs xs z Q cn ho q x ys e
  unfold oIxT at ho
  split at ho
  · rename_i ds d
    split at ho
    · rename_i hs
      split at ho
      · rename_i j hj
        cases ho
        obtain ⟨v, w, e2, c1, c2⟩ := cn.two
        rw [e] at e2
        cases e2
        obtain ⟨a, us, rfl, h1, h2⟩ := c1.tuple
        obtain ⟨y, h3, h4, h5⟩ := firstIx_at hj
        exact ⟨a, w, d, ds, j, y, rfl, rfl, c1.dp hs.1, c2.dp hs.2, hs.1, hs.2, h3, h4, h5, q _ (.int _)⟩
      · cases ho
    · cases ho
  · cases ho
theorem ty_Nt {K : PySem.W.Frag} : ∀ H₀ B H σ env v d, EnvR K B H σ env → RR K H₀ B H σ env v d → isNt env d = true → ∃ p ob us, v = .ref p ∧ H p = some (.frz ob (.tup us)) ∧ ob.dict = none := by
  intro H₀ B H σ env v d en r h
  unfold isNt at h
  split at h
  · obtain ⟨a, rfl, o, us, h1, h2, _⟩ := r
    exact ⟨a, o, us, rfl, h1, h2⟩
  · cases h
def kIxT : KK := kE oIxT
theorem e_tix {X : Cx} {o e : Expr} {fo : EE} {fa : EA} {apos cpos : Pos} (hu : X.A.units + 65 < cLine) (ho : PE X o (tE X.K fo)) (ha : PA X [e] (tA X.K fa))
    (hbase : attributeBase o "index" X.env (eval o X.env) = eval o X.env := by rfl)
    (hfew : ((backTo cpos (starEach [e] X.env)).all (fun x => !x.1) && (backToKw cpos (keywordEach [] X.env)).all (fun x => x.1.isSome)
      && decide (([e] : List Expr).length + ([] : List Keyword).length + (if ([] : List Keyword).isEmpty then 0 else 1) < 30)) = true := by rfl)
    (hline : (apos.endLine == cpos.line) = true := by rfl) (hs : starEach [e] X.env = (false, eval e X.env) :: starEach [] X.env := by rfl) (hplain : (backTo cpos (starEach [] X.env)).any (·.1) = false := by rfl) :
    PE X (.Call (.Attribute o "index" apos) [e] [] cpos) (tE X.K (eBM isNt fo fa kIxT)) :=
  PE.imp (pe_tix hu ho ha hbase hfew hline hs hplain) fun _ _ _ t => rd_bm ty_Nt c_tix t
end T3

end
section
set_option linter.all false
set_option autoImplicit false
set_option Elab.async false
namespace T3
open PySem L2
variable [TabL]

def eCh (c1 c2 : Int → Int → Bool) (fa fb fc : EE) : EE := fun env => match fa env with
  | some (.pd (.int i), e1) => match fb e1 with
    | some (.pd (.int j), e2) => if c1 i j = true then match fc e2 with
        | some (.pd (.int k), e3) => some (.pd (.bool (c2 j k)), e3)
        | _ => none
      else some (.pd (.bool false), e2)
    | _ => none
  | _ => none
theorem rd_chain {K : PySem.W.Frag} {c1 c2 : Int → Int → Bool} {fa fb fc : EE} {σ : St} {H : Hp} {Q : VK} (h : tE K (eCh c1 c2 fa fb fc) σ H Q) : tChain (rI0 fun i j => .bl (c1 i j)) (rI0 fun i j => .bl (c2 i j)) (tE K fa) (tE K fb) (tE K fc) σ H Q := by
  obtain ⟨B, env, d, env', en, ev, q⟩ := h
  unfold eCh at ev
  split at ev
  · rename_i i e1 h1
    split at ev
    · rename_i j e2 h2
      refine ⟨B, env, _, _, en, h1, fun B1 H1 v a1 r1 => ⟨B1, e1, _, _, a1.en, h2, fun B2 H2 w a2 r2 => ?_⟩⟩
      have r1 : Rp K B1 H1 v (.int i) := r1
      have r2 : Rp K B2 H2 w (.int j) := r2
      cases r1
      cases r2
      have a12 := a1.trans en a2
      refine ⟨i, j, rfl, rfl, c1 i j, rfl, ?_⟩
      split at ev
      · rename_i hc
        rw [if_pos hc]
        split at ev
        · rename_i k e3 h3
          cases ev
          refine ⟨B2, e2, _, _, a2.en, h3, fun B3 H3 u a3 r3 => ?_⟩
          have r3 : Rp K B3 H3 u (.int k) := r3
          cases r3
          exact ⟨j, k, rfl, rfl, q _ _ _ (a12.trans en a3) (.bl _)⟩
        · cases ev
      · rename_i hc
        rw [if_neg hc]
        cases ev
        exact q _ _ _ a12 (.bl _)
    · cases ev
  · cases ev
inductive Cm where | lt | le | gt | ge
def Cm.op : Cm → CmpOp
  | .lt => .Lt
  | .le => .LtE
  | .gt => .Gt
  | .ge => .GtE
def Cm.f : Cm → Int → Int → Bool
  | .lt => fun i j => decide (i < j)
  | .le => fun i j => decide (i ≤ j)
  | .gt => fun i j => decide (j < i)
  | .ge => fun i j => decide (j ≤ i)
theorem Cm.ok {X : Cx} (c : Cm) : OpR X (compareOp c.op) (rI0 fun i j => .bl (c.f i j)) := by
  cases c
  · exact op_lt
  · exact op_le
  · exact op_gt
  · exact op_ge
theorem e_chain {X : Cx} {a b c : Expr} {fa fb fc : EE} {pos : Pos} (o1 o2 : Cm) (ha : PE X a (tE X.K fa)) (hb : PE X b (tE X.K fb)) (hc : PE X c (tE X.K fc)) (hm : lastMarks [o1.op, o2.op] [b, c] = false := by with_unfolding_all rfl) :
    PE X (.Compare a [o1.op, o2.op] [b, c] pos) (tE X.K (eCh o1.f o2.f fa fb fc)) := PE.imp (pe_chain o1.ok o2.ok ha hb hc hm) fun _ _ _ t => rd_chain t
theorem b_chain {X : Cx} {a b c : Expr} {fa fb fc : EE} {pos : Pos} (o1 o2 : Cm) (ha : PE X a (tE X.K fa)) (hb : PE X b (tE X.K fb)) (hc : PE X c (tE X.K fc)) (hm : lastMarks [o1.op, o2.op] [b, c] = false := by with_unfolding_all rfl) :
    PT X (.Compare a [o1.op, o2.op] [b, c] pos) (tT X.K (bT (eCh o1.f o2.f fa fb fc))) := b_of (pt_chain o1.ok o2.ok ha hb hc hm) fun _ _ _ t => rd_chain t
theorem b_truth {X : Cx} {a : Expr} {f : EE} (h : PE X a (tE X.K f)) (he : ∀ whole, isTrue a X.env whole = (do let v ← whole; standAt a.pos; holding [v] (truthy v)) := by exact fun _ => rfl) : PT X a (tT X.K (bT f)) :=
  PT.imp (pt_truth h he) fun σ H Q t => by
    obtain ⟨B, env, d, env', en, ev, q⟩ := rd_test t
    refine ⟨B, env, d, env', en, ev, fun B' H' v a r => ?_⟩
    obtain ⟨k, e, h⟩ := q B' H' v a r
    subst e
    exact ⟨k, rfl, h⟩
section
variable {X : Cx} {st : Stmt} {rest : List Stmt} {e : Expr} {pos : Pos} {f g : SS} {fe : EE} {c : EB}
theorem ss_nil : PSs X [] (tS X.K sPass) := PSs.imp pss_nil fun _ _ _ t => rd_pass t
theorem ss_cons (h1 : PS X st (tS X.K f)) (h2 : PSs X rest (tS X.K g)) : PSs X (st :: rest) (tS X.K (sSeq f g)) := PSs.imp (pss_cons h1 h2) fun _ _ _ t => rd_seq t
theorem ss_one (h1 : PS X st (tS X.K f)) : PSs X [st] (tS X.K f) := pss_one h1
theorem s_never : PS X st (tS X.K sNever) := PS.imp ps_never fun _ _ _ t => rd_never t
theorem s_if {t : Expr} {a b : List Stmt} (hc : PT X t (tT X.K c)) (ha : PSs X a (tS X.K f)) (hb : PSs X b (tS X.K g)) : PS X (.If t a b pos) (tS X.K (sIf c f g)) := PS.imp (ps_if hc ha hb) fun _ _ _ t => rd_ifS t
theorem s_ret (h : PE X e (tE X.K fe)) : PS X (.Return (some e) pos) (tS X.K (sRet fe)) := PS.imp (ps_ret h) fun _ _ _ t => rd_ret t
theorem s_expr (h : PE X e (tE X.K fe)) (hs : swapsWith e none pos.line X.env = pure false := by rfl) : PS X (.Expr e pos) (tS X.K (sExpr fe)) := PS.imp (ps_expr h hs) fun _ _ _ t => rd_expr t
theorem s_set {i : Nat} {x : Str} {pos' : Pos} (hN : X.N.Nodup) (hi : X.N[i]? = some x) (hx : Loc X.env.scope x) (he : PE X e (tE X.K fe)) (hs : swapsWith e (some (.Name x pos')) pos.line X.env = pure false := by rfl) (hf : X.fn x = true ∨ X.env.scope.names.lookup x = some .local := by first | exact .inl rfl | exact .inr rfl | assumption) :
    PS X (.Assign [.Name x pos'] e pos) (tS X.K (sSet i fe)) := PS.imp (ps_set hN hi hx he hs hf) fun _ _ _ t => rd_set t
theorem s_while {t : Expr} {body : List Stmt} (hp : PassesOwn (model X.prog X.w) X.A X.env X.xe) (hc : PT X t (tT X.K c)) (hb : PSs X body (tS X.K f)) : PS X (.While t body [] pos) (tS X.K (sWhile c f)) := PS.imp (ps_while hp hc hb) fun _ _ _ t => rd_while t
end
theorem PG.imp {X : Cx} {e : Expr} {t t' : TG} (h : PG X e t) (i : ∀ v σ H Q, t' v σ H Q → t v σ H Q) : PG X e t' := ⟨fun pins s σ H v u Q I r q => h.run pins s σ H v u Q I r (i v σ H Q q)⟩
theorem PGs.imp {X : Cx} {e : List Expr} {t t' : TGs} (h : PGs X e t) (i : ∀ v σ H Q, t' v σ H Q → t v σ H Q) : PGs X e t' := ⟨fun pins s σ H v u Q I r q => h.run pins s σ H v u Q I r (i v σ H Q q)⟩
section
variable {X : Cx} {K : PySem.W.Frag} {pos : Pos} {g : GG} {gs : GGs} {e : Expr} {es : List Expr}
theorem g_name {i : Nat} {x : Str} (hN : X.N.Nodup) (hi : X.N[i]? = some x) (hx : Loc X.env.scope x) (hf : X.fn x = true ∨ X.env.scope.names.lookup x = some .local := by first | exact .inl rfl | exact .inr rfl | assumption) : PG X (.Name x pos) (tG K (gN i)) := PG.imp (pg_name hN hi hx hf) fun _ _ _ _ t => rd_gN t
theorem gs_nil : PGs X [] (tGs K gNl) := PGs.imp pgs_nil fun _ _ _ _ t => rd_gNl t
theorem gs_cons (h1 : PG X e (tG K g)) (h2 : PGs X es (tGs K gs)) (hs : (assignEach (e :: es) X.env).map (·.2) = assign e X.env :: (assignEach es X.env).map (·.2) := by rfl) : PGs X (e :: es) (tGs K (gCn g gs)) := PGs.imp (pgs_cons h1 h2 hs) fun _ _ _ _ t => rd_gCn t
theorem g_tup {k n : Nat} (hc : X.calm = true) (h : PGs X es (tGs X.K gs)) (hn : (assignEach es X.env).length = n := by rfl) (hst : (assignEach es X.env).findIdx? (·.1) = none := by rfl) : PG X (.Tuple es k pos) (tG X.K (gT n gs)) := PG.imp (pg_tup hc h hn hst) fun _ _ _ _ t => rd_gT t
theorem v_name {i : Nat} {x : Str} {vs : List Nat} (hv : i ∈ vs) (hN : X.N.Nodup) (hi : X.N[i]? = some x) (hx : Loc X.env.scope x) (hf : X.fn x = true ∨ X.env.scope.names.lookup x = some .local := by first | exact .inl rfl | exact .inr rfl | assumption) : PG X (.Name x pos) (tGv K (gN i) vs) := PG.imp (pg_name hN hi hx hf) fun _ _ _ _ t => rd_gNv hv t
theorem vs_nil {vs : List Nat} : PGs X [] (tGsv K gNl vs) := PGs.imp pgs_nil fun _ _ _ _ t => rd_gNlv t
theorem vs_cons {vs : List Nat} (h1 : PG X e (tGv K g vs)) (h2 : PGs X es (tGsv K gs vs)) (hs : (assignEach (e :: es) X.env).map (·.2) = assign e X.env :: (assignEach es X.env).map (·.2) := by rfl) : PGs X (e :: es) (tGsv K (gCn g gs) vs) := PGs.imp (pgs_cons h1 h2 hs) fun _ _ _ _ t => rd_gCnv t
theorem v_tup {k n : Nat} {vs : List Nat} (hc : X.calm = true) (h : PGs X es (tGsv X.K gs vs)) (hn : (assignEach es X.env).length = n := by rfl) (hst : (assignEach es X.env).findIdx? (·.1) = none := by rfl) : PG X (.Tuple es k pos) (tGv X.K (gT n gs) vs) := PG.imp (pg_tup hc h hn hst) fun _ _ _ _ t => rd_gTv t
end
theorem s_for {X : Cx} {tg iter : Expr} {body : List Stmt} {pos : Pos} {it : EI} {g : GG} {f : SS} (hp : PassesOwn (model X.prog X.w) X.A X.env X.xe) (hc : X.calm = true) (hi : PI X tg iter (tI X.K it)) (hg : PG X tg (tG X.K g)) (hb : PSs X body (tS X.K f)) (hs : ∀ x, foldedSetIterable iter X.env x = pure x := by intro _; rfl) : PS X (.For tg iter body [] pos) (tS X.K (sFor it g f)) :=
  PS.imp (ps_for hp hc hi hg hb hs) fun _ _ _ t => rd_for t
def sAsg (f : EE) (g : GG) : SS := fun env => match f env with
  | some (.pd x, e) => match g x e with
    | none => none
    | some e2 => some (.nx, e2)
  | some (.nt xs, e) => match g (.tuple xs) e with
    | none => none
    | some e2 => some (.nx, e2)
  | _ => none
theorem rd_asg {K : PySem.W.Frag} {f : EE} {g : GG} {D : Ends} {σ : St} {H : Hp} (h : tS K (sAsg f g) D σ H) : tAsg (tE K f) (tG K g) D σ H := by
  obtain ⟨B, env, fl, env', en, ev, q⟩ := h
  unfold sAsg at ev
  split at ev
  · rename_i x e1 h1
    split at ev
    · cases ev
    rename_i e2 h2
    cases ev
    exact ⟨B, env, _, _, en, h1, fun B1 H1 v a1 r1 => ⟨B1, e1, x, _, a1.en, r1, h2, fun B2 σ2 H2 a2 => q B2 σ2 H2 (a1.s.trans en a2)⟩⟩
  · rename_i x e1 h1
    split at ev
    · cases ev
    rename_i e2 h2
    cases ev
    refine ⟨B, env, _, _, en, h1, fun B1 H1 v a1 r1 => ?_⟩
    obtain ⟨p, rfl, r1⟩ := r1
    exact ⟨B1, e1, _, _, a1.en, r1.rp, h2, fun B2 σ2 H2 a2 => q B2 σ2 H2 (a1.s.trans en a2)⟩
  · cases ev
theorem s_asg {X : Cx} {tg e : Expr} {pos : Pos} {f : EE} {g : GG} (he : PE X e (tE X.K f)) (hg : PG X tg (tG X.K g)) (hs : swapsWithSole [tg] e pos.line X.env = pure false := by rfl) (hw : swappedStores [tg] e X.env = pure none := by rfl)
    (h1 : (assignEach [tg] X.env).map (·.2) = [assign tg X.env] := by rfl) : PS X (.Assign [tg] e pos) (tS X.K (sAsg f g)) := PS.imp (ps_asg he hg hs hw h1) fun _ _ _ t => rd_asg t
def sPar (i j : Nat) (f : EA) : SS := fun env => match f env with
  | some ([d1, d2], e) => match setR i d1 e with
    | none => none
    | some e2 => match setR j d2 e2 with
      | none => none
      | some e3 => some (.nx, e3)
  | _ => none
theorem setR_slots {i : Nat} {d : R} {e e2 : Sl} (h : setR i d e = some e2) : ∀ (k : Nat) m c, e2[k]? = some (some (S.mu m c)) → (k = i ∧ ∃ c, d = .tmp c) ∨ (i ≠ k ∧ e[k]? = some (some (.mu m c))) := by
  intro k m c hk
  unfold setR at h
  split at h
  · cases d with
    | var _ => cases h
    | pd x =>
      cases h
      rcases get_set hk with ⟨_, z⟩ | ⟨z, hk⟩
      · cases z
      · exact .inr ⟨z, hk⟩
    | nt x =>
      cases h
      rcases get_set hk with ⟨_, z⟩ | ⟨z, hk⟩
      · cases z
      · exact .inr ⟨z, hk⟩
    | tmp t =>
      cases h
      rcases get_set hk with ⟨z, _⟩ | ⟨z, hk⟩
      · exact .inl ⟨z.symm, t, rfl⟩
      · exact .inr ⟨z, hk⟩
  · cases h
theorem RA.set {K : PySem.W.Frag} {H₀ : Hp} {σ : St} {B : Mset} {H : Hp} {e e2 : Sl} {i : Nat} {v w : V} {d d' : R} (hs : setR i d e = some e2) (hl : i < σ.length) (r : RA K H₀ B H σ e w d') (ap : ∀ c c', d = .tmp c → d' = .tmp c' → v ≠ w) (nv : ∀ k, d' ≠ .var k) : RA K H₀ B H (σ.set i (some v)) e2 w d' := by
  cases d' with
  | pd x => exact r
  | nt x => exact r
  | var k => exact absurd rfl (nv k)
  | tmp t =>
    obtain ⟨p, rfl, h1, h2, h3, h4⟩ := r
    refine ⟨p, rfl, h1, h2, h3, fun k m c hk hσ => ?_⟩
    rcases setR_slots hs k m c hk with ⟨z, t', z2⟩ | ⟨z, hk⟩
    · subst z
      rw [List.getElem?_set_self hl] at hσ
      cases hσ
      exact ap t' t z2 rfl rfl
    · rw [List.getElem?_set_ne z] at hσ
      exact h4 k m c hk hσ
theorem setR_nv {i : Nat} {d : R} {e e2 : Sl} (h : setR i d e = some e2) : ∀ k, d ≠ .var k := by
  intro k z
  subst z
  unfold setR at h
  split at h <;> cases h
theorem setR_lt {i : Nat} {d : R} {e e2 : Sl} (h : setR i d e = some e2) : i < e.length := by
  unfold setR at h
  split at h
  · rename_i hf; exact (free_ne hf).1
  · cases h
theorem rd_par {K : PySem.W.Frag} {i j : Nat} {f : EA} {D : Ends} {σ : St} {H : Hp} (h : tS K (sPar i j f) D σ H) : tPar i j (tA K f) D σ H := by
  obtain ⟨B, env, fl, env', en, ev, q⟩ := h
  unfold sPar at ev
  split at ev
  · rename_i d1 d2 e1 h1
    split at ev
    · cases ev
    rename_i e2 h2
    split at ev
    · cases ev
    rename_i e3 h3
    cases ev
    refine ⟨B, env, _, _, en, h1, fun B1 H1 vs a1 rr => ?_⟩
    match vs, rr with
    | [v, w], rr =>
      refine ⟨v, w, rfl, ?_⟩
      have s1 := AtS.set en a1.s (rr.each 0 v d1 rfl rfl) h2
      have r2 : RA K H B1 H1 (σ.set i (some v)) e2 w d2 := RA.set h2 (by rw [← a1.en.len]; exact setR_lt h2) (rr.each 1 w d2 rfl rfl) (fun c c' z1 z2 z3 => rr.apart 0 1 c c' v (by decide) (by simp [z1]) (by simp [z2]) rfl (by simp [z3])) (setR_nv h3)
      -- the second store over the first
      have s2 : AtS K σ B H env ((σ.set i (some v)).set j (some w)) B1 H1 env' := AtS.set en s1 r2 h3
      exact q B1 _ H1 s2
    | [], rr => have := rr.len; simp at this
    | [_], rr => have := rr.len; simp at this
    | _ :: _ :: _ :: _, rr => have := rr.len; simp at this
  · cases ev
end T3

end
section
set_option linter.all false
set_option autoImplicit false
set_option Elab.async false
namespace T3
open PySem L2
variable [TabL]

section
variable {X : Cx}
theorem s_par {i j : Nat} {x y : Str} {a b : Expr} {f : EA} {px py pt pos : Pos} {kt k2 : Nat} {pt2 : Pos} (hc : X.calm = true) (hN : X.N.Nodup) (hi : X.N[i]? = some x) (hj : X.N[j]? = some y) (hij : i ≠ j)
    (hx : X.env.scope.names.lookup x = some .local) (hy : X.env.scope.names.lookup y = some .local) (ha : PA X [a, b] (tA X.K f))
    (hw : swappedStores [.Tuple [.Name x px, .Name y py] kt pt] (.Tuple [a, b] k2 pt2) X.env = pure (some [x, y]))
    (hs : swapsWithSole [.Tuple [.Name x px, .Name y py] kt pt] (.Tuple [a, b] k2 pt2) pos.line X.env = pure false := by rfl) :
    PS X (.Assign [.Tuple [.Name x px, .Name y py] kt pt] (.Tuple [a, b] k2 pt2) pos) (tS X.K (sPar i j f)) := PS.imp (ps_par hc hN hi hj hij hx hy ha hw hs) fun _ _ _ t => rd_par t
theorem ts_yes {K : PySem.W.Frag} : PTs X [] (tT K bYes) := ⟨fun pins s σ H Q I h => (pts_nil (X := X)).run pins s σ H Q I (rd_yes h)⟩
theorem ts_one {K : PySem.W.Frag} {c : Expr} {t : EB} (h : PT X c (tT K t)) : PTs X [c] (tT K t) := pts_one h
theorem e_lc {elt tg iter : Expr} {ifs : List Expr} {scope : Scope} {own : List (Str × Nat)} {pos : Pos} {it : EI} {g : GG} {t : EB} {f : EE} (hc : X.calm = true) (hN : X.N.Nodup) (hi : PI X tg iter (tI X.K it)) (ok : BlkOk X.N X.env.scope scope own) (ho : Only g (own.map (·.2)))
    (hg : ∀ (s : Shared) (H : Hp) (C : Addr) (cl : List (Str × Addr)) (fp : List Addr), PG (X.blk s H scope (compEnvC scope cl C X.env) fp) tg (tGv X.K g (own.map (·.2)))) (ht : ∀ (s : Shared) (H : Hp) (C : Addr) (cl : List (Str × Addr)) (fp : List Addr), PTs (X.blk s H scope (compEnvC scope cl C X.env) fp) ifs (tT X.K t))
    (he : ∀ (s : Shared) (H : Hp) (C : Addr) (cl : List (Str × Addr)) (fp : List Addr), PE (X.blk s H scope (compEnvC scope cl C X.env) fp) elt (tE X.K f)) (hs : ∀ x, foldedSetIterable iter X.env x = pure x := by intro _; rfl) :
    PE X (.ListComp elt [⟨tg, iter, ifs, 0⟩] scope pos) (tE X.K (eLc it g t f (own.map (·.2)))) := PE.imp (pe_lc hc hN hi ok hg ht he hs) fun _ _ _ q => rd_lc ho q
theorem s_setLc {i : Nat} {y : Str} {py : Pos} {elt tg iter : Expr} {ifs : List Expr} {scope : Scope} {own : List (Str × Nat)} {pos spos : Pos} {it : EI} {g : GG} {t : EB} {f : EE} (hc : X.calm = true) (hN : X.N.Nodup) (hy : X.N[i]? = some y) (hyl : X.env.scope.names.lookup y = some .local)
    (hsw : swapsWith (.ListComp elt [⟨tg, iter, ifs, 0⟩] scope pos) (some (.Name y py)) spos.line X.env = pure true) (hi : PI X tg iter (tI X.K it)) (ok : BlkOk X.N X.env.scope scope own) (ho : Only g (own.map (·.2)))
    (hg : ∀ (s : Shared) (H : Hp) (C : Addr) (cl : List (Str × Addr)) (fp : List Addr), PG (X.blk s H scope (compEnvC scope cl C X.env) fp) tg (tGv X.K g (own.map (·.2)))) (ht : ∀ (s : Shared) (H : Hp) (C : Addr) (cl : List (Str × Addr)) (fp : List Addr), PTs (X.blk s H scope (compEnvC scope cl C X.env) fp) ifs (tT X.K t))
    (he : ∀ (s : Shared) (H : Hp) (C : Addr) (cl : List (Str × Addr)) (fp : List Addr), PE (X.blk s H scope (compEnvC scope cl C X.env) fp) elt (tE X.K f)) (hs : ∀ x, foldedSetIterable iter X.env x = pure x := by intro _; rfl) :
    PS X (.Assign [.Name y py] (.ListComp elt [⟨tg, iter, ifs, 0⟩] scope pos) spos) (tS X.K (sSet i (eLc it g t f (own.map (·.2))))) :=
  PS.imp (ps_setLc hc hN hy hyl hsw hi ok hg ht he hs) fun _ _ _ q => rd_lc ho (rd_set q)
end
def lenA : EA → Nat → Prop := fun f n => ∀ ds e e', f e = some (ds, e') → ds.length = n
theorem lenA_nil : lenA eNil 0 := by
  intro ds e e' h
  cases h
  rfl
theorem lenA_cons {fa : EE} {fr : EA} {n : Nat} (h : lenA fr n) : lenA (eCons fa fr) (n + 1) := by
  intro ds e e' he
  unfold eCons at he
  split at he
  · cases he
  split at he
  · cases he
  rename_i h2
  cases he
  simp [h _ _ _ h2]
section
variable {X : Cx} {k : Nat} {f : Addr} {fd : FuncData} {ps : List Str} {F : FnD} {x : Str} {p pos : Pos} {e : Expr} {es : List Expr} {fa : EA} {n : Nat}
theorem e_call (G : FnOk X.prog X.w X.K X.mg X.base CX0 k f fd ps (spF X.K F n)) (hr : Room k X.A) (hg : Gl X x) (hm : X.mg x = some (.ref f)) (hk : PySem.W.keepIn X.K (.ref f) = true) (hb : Binds X.K fd ps []) (hn : lenA fa n)
    (ha : PA X (e :: es) (tA X.K fa)) (hdb : (x == ("__debug__" : Str)) = false := by decide) (he : starEach (e :: es) X.env = (false, eval e X.env) :: starEach es X.env := by rfl) (hpl : (backTo pos (starEach es X.env)).any (·.1) = false := by rfl) :
    PE X (.Call (.Name x p) (e :: es) [] pos) (tE X.K (eCall F fa)) := PE.imp (pe_call G hr hg hm hk hb .nil pass0 ha hdb he hpl) fun _ _ _ t => rd_call hn t
end
theorem fn_ok {P : Program} {w : World} {K : PySem.W.Frag} {mg : Str → Option Value} {base : Heap} {x qual : Str} {st : Stmt} {f : Addr} {fd : FuncData} {N ps : List Str} {k n : Nat} {b : SS} (Fn : Fun K x qual st f fd) (Sc : FnScope N ps (defScope st)) (hn : n = ps.length)
    (hbody : ∀ (cdv : Value) (A : Around) (outer : List Env) (s : Shared) (H : Hp) (E : XK), Room k (A.deeper (PyProof.Rows.envOfC qual (defScope st) s.heap.objs.size f cdv)) →
      PSs (cxOf CX0 P w K mg base N qual (defScope st) f cdv A outer s H E).nox (defBody st) (tS K b)) : FnOk P w K mg base CX0 (k + 1) f fd ps (spF K (runFn N.length b) n) := by
  refine Fn.ok Sc (spF_len hn) fun cdv A outer s H vs Q E hr h => ⟨_, hbody cdv A outer s H E hr, fn_body h⟩

def gS (fo fi : EE) : GG := fun x env => match fo env with
  | some (.var j, e1) => match fi e1 with
    | some (.pd (.int k), e2) => putL j k x e2
    | _ => none
  | _ => none
theorem rd_gS {K : PySem.W.Frag} {fo fi : EE} {v : V} {σ : St} {H : Hp} {Q : St → Hp → Prop} (h : tG K (gS fo fi) v σ H Q) : gSub (tE K fo) (tE K fi) rSetL v σ H Q := by
  obtain ⟨B, env, x, env', en, r, ev, q⟩ := h
  unfold gS at ev
  split at ev
  · rename_i j e1 h1
    split at ev
    · rename_i k e2 h2
      refine ⟨B, env, _, _, en, h1, fun B1 H1 o a1 r1 => ⟨B1, e1, _, _, a1.en, h2, fun B2 H2 w a2 r2 => ?_⟩⟩
      have r2 : Rp K B2 H2 w (.int k) := r2
      cases r2
      have a12 := a1.trans en a2
      unfold putL at ev
      split at ev
      · rename_i m xs hm
        split at ev
        · cases ev
        rename_i hf
        split at ev
        · cases ev
        rename_i i hi
        cases ev
        have hx : σ[j]? = some (some o) := r1.1
        obtain ⟨p, g1, g2, us, g3, g4⟩ := a12.en.mu j _ _ hm
        rw [hx] at g1
        cases g1
        have rv : Rp K B2 H2 v x := r.grow (a12.grow en)
        refine ⟨p, us, k, i, rfl, rfl, g3, by rw [g4.length]; exact hi, ?_⟩
        obtain ⟨gw, aw⟩ := AtS.write (o := .lst (us.set i v)) (c' := .ls (xs.set i x)) a12.en hm hf hx (fun o' h' im => by rw [g3] at h'; cases h'; exact im) (fun H' _ h1 g' => ⟨_, h1, (g4.set rv i).grow g'⟩)
        exact q _ _ _ ((a12.trans en aw).s)
      · cases ev
    · cases ev
  · cases ev
theorem g_sub {X : Cx} {o i : Expr} {pos : Pos} {fo fi : EE} (ho : PE X o (tE X.K fo)) (hi : PE X i (tE X.K fi))
    (ha : ∀ v, assign (.Subscript o i pos) X.env v = (do
      let ov ← holding [v] (eval o X.env)
      let iv ← holding [v, ov] (eval i X.env)
      standAt pos
      holding [v, ov, iv] (setItem ov iv v)
      release [v, ov, iv] []) := by intro _; rfl) : PG X (.Subscript o i pos) (tG X.K (gS fo fi)) := PG.imp (pg_sub ho hi set_list ha) fun _ _ _ _ t => rd_gS t
def ItES (x : Str) : It := ⟨fun i _ => i < x.cps.size, fun i H v H' => ∃ T c, v = .ref T ∧ H T = none ∧ x.cps[i]? = some c ∧ H' = upd H T (.tup [.int (i : Nat), .str ⟨#[c]⟩]), fun i _ => i = x.cps.size⟩
def enumD (xs : List PyData) : Nat → List PyData
  | i => (List.range xs.length).map fun k => .tuple [.int ((i + k : Nat) : Int), xs.getD k .none]
theorem wk_es {K : PySem.W.Frag} {s : Str} : Wk K (ItES s) (fun _ => False) (fun _ _ => True) (enumD (signs s) 0) where
  go i B H g hi := by simp [enumD, signs_len] at hi; exact hi
  stop B H g := by simp [enumD, signs_len, ItES]
  yld i B H x H' d g hd hy := by
    obtain ⟨T, c, rfl, nT, hc, rfl⟩ := hy
    refine ⟨.inr (.inl ⟨T, _, nT, rfl⟩), ?_⟩
    have hi : i < (signs s).length := by
      rw [signs_len]
      exact (Array.getElem?_eq_some_iff.mp hc).1
    simp only [enumD, List.getElem?_map, List.getElem?_range hi, Option.map_some] at hd
    cases hd
    have : (signs s).getD i .none = .str ⟨#[c]⟩ := by
      rw [List.getD_eq_getElem?_getD]
      simp [signs, hc]
    rw [this, Nat.zero_add]
    exact .tup (.inl (.inl upd_same)) (.cons (.int _) (.cons (.str _) .nil))
  keep W B H W' B' H' g s wb hp := trivial
theorem turn_es {P : Program} {w : World} {K : PySem.W.Frag} {elts : List Expr} {kk : Nat} {tpos : Pos} (e it : Addr) (x : Str) (t : Tok) :
    Turn P w K (.Tuple elts kk tpos) (ItES x) [e, it] e (fun i h => (∃ old, IsEnum h e it ((i : Nat) : Int) old) ∧ h.IsStrIter it (strIterType x) x t i ∧ e ≠ it) where
  mem := by simp
  obj i h q b hb := by
    obtain ⟨⟨old, he⟩, ⟨o, ho, hc, hd⟩, _⟩ := q
    rcases (show b = e ∨ b = it by simpa using hb) with rfl | rfl
    · exact ⟨_, he, fun v z => nomatch z⟩
    · exact ⟨o, ho, fun v z => by rw [hd] at z; cases z⟩
  keep i h h' q k := by
    obtain ⟨⟨old, he⟩, ⟨o, ho, r⟩, hne⟩ := q
    exact ⟨⟨old, k e (by simp) _ he⟩, ⟨o, k it (by simp) _ ho, r⟩, hne⟩
  item := by
    intro X hP hw hK hc i pins s σ H E I hf q hg
    subst hP hw hK
    obtain ⟨⟨old, he⟩, hit, hne⟩ := q
    have hel : e < s.heap.objs.size := Heap.lt_size he
    have hil : it < s.heap.objs.size := by obtain ⟨_, z, _⟩ := hit; exact Heap.lt_size z
    have Dr := Draws.text (prog := X.prog) (w := X.w) (A := X.A.in1) (I.ok.hd hc) it x t
    refine wpAny_pyNext_enum_itemD Dr he hit hg hne (by simpa using hne) fun u h' tk hu ho hit' hT hsz hk => ?_
    obtain ⟨c, t2, hx, rfl⟩ := hu
    refine ⟨_, rfl, wpAny_letOwnedTupleGo_enum (s := { s with heap := h', toks := tk + 1 }) ho fun h'' he' sb => ?_⟩
    have new : ObjOk X.prog X.w (upd H s.heap.objs.size (.tup [.int (i : Nat), .str ⟨#[c]⟩])) h'' s.heap.objs.size (.tup [.int (i : Nat), .str ⟨#[c]⟩]) :=
      ⟨by rw [sizeLine_eq]; simp, [.int i tk, .str ⟨#[c]⟩ t2], .cons ⟨_, rfl⟩ (.cons ⟨_, rfl⟩ .nil), ⟨_, (sb.2 _ (Nat.ne_of_gt hel)).trans hT, rfl, _, rfl⟩⟩
    have I1 : Inv X pins σ (upd H s.heap.objs.size (.tup [.int (i : Nat), .str ⟨#[c]⟩])) { s with heap := h'', toks := tk + 1 } :=
      I.turnedNew (ch := [e, it]) (fun b ob hb z => (sb.2 b (fun y => hb (by simp [y]))).trans (hk b ob (fun y => hb (by simp [y])) (fun y => hb (by simp [y])) z)) hf (Nat.le_refl _) new
    obtain ⟨oi, hoi, ri⟩ := hit'
    refine ⟨.ref s.heap.objs.size, _, I1, rfl, ⟨_, c, rfl, I.hok.fresh (Nat.le_refl _), hx, rfl⟩, ⟨⟨.str ⟨#[c]⟩ t2, ?_⟩, ⟨oi, (sb.2 it (Ne.symm hne)).trans hoi, ri⟩, hne⟩, fun b hb => ?_⟩
    · have e1 : ((i + 1 : Nat) : Int) = (i : Int) + 1 := by omega
      rw [e1]; exact he'
    · have hb' : b < s.heap.objs.size := by
        rcases (show b = e ∨ b = it by simpa using hb) with z | z
        · rw [z]; exact hel
        · rw [z]; exact hil
      rw [upd_ne (Nat.ne_of_lt hb')]
      exact (hf b hb).1
  done := by
    intro X hP hw hK hc i pins s σ H E I hf q hg
    subst hP hw hK
    obtain ⟨⟨old, he⟩, hit, hne⟩ := q
    obtain ⟨f0, f1, f2, f3, f4, f5⟩ := hf it (by simp)
    have Dr := Draws.text (prog := X.prog) (w := X.w) (A := X.A.in1) (I.ok.hd hc) it x t
    have hi : i = x.cps.size := hg
    subst hi
    exact wpAny_pyNext_enum_endD Dr he hit fun h' eb => ⟨rfl, I.turned (t' := s.toks) (fun b o hb z => eb b o hb z) f0 f1 f3 f4 f5⟩
  self A i s Q E q h := by
    obtain ⟨⟨old, he⟩, _⟩ := q
    exact wpAny_pyIter_enum he h
def iES (te : TE) : TI := fun σ H R => te σ H fun v H1 => ∃ x, v = .str x ∧ R (ItES x) H1
theorem pi_es {X : Cx} {e : Expr} {te : TE} {p pos tpos : Pos} {elts : List Expr} {kk : Nat} (hg : Gl X "enumerate") (hm : X.mg "enumerate" = none) (he : PE X e te) (hs : starEach [e] X.env = (false, eval e X.env) :: starEach [] X.env := by rfl) :
    PI X (.Tuple elts kk tpos) (.Call (.Name "enumerate" p) [e] [] pos) (iES te) := by
  refine ⟨fun pins s σ H R I h => ?_⟩
  refine PyProof.Rows.Call_ (ld_blt I hg hm (by decide +kernel : bootBuiltins "enumerate" = some (.type "enumerate")) (PyProof.Rows.callWith_type1 (one_arg he I h (fun v s2 x H2 I2 r q => ?_) hs) hs))
  obtain ⟨z, rfl, q⟩ := q
  obtain ⟨t, rfl⟩ := r
  refine call_enumerate_str fun h' he' hit hsz hk => wpAny_pyIter_enum he' ?_
  refine ⟨s2.heap.objs.size + 1, [s2.heap.objs.size + 1, s2.heap.objs.size], _, _, H2, rfl, I2.kept (t' := s2.toks) hk, turn_es (s2.heap.objs.size + 1) s2.heap.objs.size z t, ⟨⟨.none, he'⟩, hit, Nat.succ_ne_self _⟩, fun b hb => ?_, q⟩
  have hle : s2.heap.objs.size ≤ b := by
    rcases (show b = s2.heap.objs.size + 1 ∨ b = s2.heap.objs.size by simpa using hb) with y | y
    · rw [y]; exact Nat.le_add_right _ _
    · rw [y]; exact Nat.le_refl _
  exact I2.fpOk hle (I2.hok.fresh hle)
def iEn (f : EE) : EI := fun env => match f env with
  | some (.pd (.str s), e) => some (enumD (signs s) 0, none, e)
  | _ => none
theorem i_en {X : Cx} {e : Expr} {f : EE} {p pos tpos : Pos} {elts : List Expr} {kk : Nat} (hg : Gl X "enumerate") (hm : X.mg "enumerate" = none) (he : PE X e (tE X.K f)) (hs : starEach [e] X.env = (false, eval e X.env) :: starEach [] X.env := by rfl) :
    PI X (.Tuple elts kk tpos) (.Call (.Name "enumerate" p) [e] [] pos) (tI X.K (iEn f)) := PI.imp (pi_es hg hm he hs) fun σ H R h => by
  obtain ⟨B, env, xs, lk, env', en, ev, q⟩ := h
  unfold iEn at ev
  split at ev
  · rename_i s e1 h1
    cases ev
    refine ⟨B, env, _, _, en, h1, fun B1 H1 v a1 r1 => ?_⟩
    have r1 : Rp X.K B1 H1 v (.str s) := r1
    cases r1
    exact ⟨s, rfl, q B1 H1 _ _ _ _ a1 rfl wk_es trivial (fun _ z => z.elim)⟩
  · cases ev
end T3

end
section
set_option linter.all false
set_option autoImplicit false
set_option Elab.async false
namespace T3
open PySem L2
variable [TabL]

def zipD (xs ys : List PyData) : List PyData := List.zipWith (fun x y => .tuple [x, y]) xs ys
theorem wk_zt {K : PySem.W.Frag} {a b : Addr} {xs ys : List PyData} : Wk K (RZ.ItzT K a b) (fun _ => False) (fun B H => Rp K B H (.ref a) (.tuple xs) ∧ Rp K B H (.ref b) (.tuple ys)) (zipD xs ys) where
  go i B H g hi := by
    obtain ⟨g1, g2⟩ := g
    obtain ⟨_, us, e, h1, h2⟩ := Cn.tuple (.rp g1)
    cases e
    obtain ⟨_, ws, e, h3, h4⟩ := Cn.tuple (.rp g2)
    cases e
    simp only [zipD, List.length_zipWith] at hi
    have l1 := h2.length
    have l2 := h4.length
    exact ⟨us, ws, us[i]'(by omega), ws[i]'(by omega), h1, h3, by simp, by simp⟩
  stop B H g := by
    obtain ⟨g1, g2⟩ := g
    obtain ⟨_, us, e, h1, h2⟩ := Cn.tuple (.rp g1)
    cases e
    obtain ⟨_, ws, e, h3, h4⟩ := Cn.tuple (.rp g2)
    cases e
    refine ⟨us, ws, h1, h3, ?_⟩
    simp only [zipD, List.length_zipWith]
    have l1 := h2.length
    have l2 := h4.length
    omega
  yld i B H x H' d g hd hy := by
    obtain ⟨g1, g2⟩ := g
    obtain ⟨_, us, e, h1, h2⟩ := Cn.tuple (.rp g1)
    cases e
    obtain ⟨_, ws, e, h3, h4⟩ := Cn.tuple (.rp g2)
    cases e
    obtain ⟨T, u, w, rfl, nT, rfl, f1, f2⟩ := hy
    refine ⟨.inr (.inl ⟨T, _, nT, rfl⟩), ?_⟩
    simp only [zipD, List.getElem?_zipWith] at hd
    have k1 := f1 us h1
    have k2 := f2 ws h3
    obtain ⟨x, m1, m2⟩ := h2.getV k1
    obtain ⟨y, m3, m4⟩ := h4.getV k2
    rw [m1, m3] at hd
    cases hd
    have gr : Grow B H B (upd H T (.tup [u, w])) := ⟨fun q o h _ => keep_upd nT q o h, fun q h => .inl h⟩
    exact .tup (.inl (.inl upd_same)) (.cons (m2.grow gr) (.cons (m4.grow gr) .nil))
  keep W B H W' B' H' g s wb _ := ⟨g.1.grow (s.grow wb), g.2.grow (s.grow wb)⟩
def tupOf : R → Option (List PyData)
  | .pd (.tuple xs) => some xs
  | .nt xs => some xs
  | _ => none
theorem tupOf_at {K : PySem.W.Frag} {H₀ : Hp} {B : Mset} {H : Hp} {σ : St} {env : Sl} {v : V} {d : R} {xs : List PyData} (h : RA K H₀ B H σ env v d) (c : tupOf d = some xs) : Rp K B H v (.tuple xs) := by
  unfold tupOf at c
  split at c
  · cases c; exact h
  · cases c; obtain ⟨a, rfl, h⟩ := h; exact h.rp
  · cases c
def iZt (f : EA) : EI := fun env => match f env with
  | some ([d1, d2], e) => match tupOf d1 with
    | none => none
    | some xs => match tupOf d2 with
      | none => none
      | some ys => some (zipD xs ys, none, e)
  | _ => none
theorem i_zip {X : Cx} {e e2 : Expr} {f : EA} {p pos tpos : Pos} {elts : List Expr} {kk : Nat} (hg : Gl X "zip") (hm : X.mg "zip" = none) (ha : PA X [e, e2] (tA X.K f))
    (hs : starEach [e, e2] X.env = (false, eval e X.env) :: starEach [e2] X.env := by rfl) (hpl : (backTo pos (starEach [e2] X.env)).any (·.1) = false := by rfl) :
    PI X (.Tuple elts kk tpos) (.Call (.Name "zip" p) [e, e2] [] pos) (tI X.K (iZt f)) := PI.imp (RZ.pi_zipA hg hm ha hs hpl) fun σ H R h => by
  obtain ⟨B, env, xs, lk, env', en, ev, q⟩ := h
  unfold iZt at ev
  split at ev
  · rename_i d1 d2 e1 h1
    split at ev
    · cases ev
    rename_i xs h2
    split at ev
    · cases ev
    rename_i ys h3
    cases ev
    refine ⟨B, env, _, _, en, h1, fun B1 H1 vs a1 rr => ?_⟩
    match vs, rr with
    | [v, w], rr =>
      have r1 := tupOf_at (rr.each 0 v d1 rfl rfl) h2
      have r2 := tupOf_at (rr.each 1 w d2 rfl rfl) h3
      obtain ⟨a, us, rfl, g1, _⟩ := Cn.tuple (.rp r1)
      obtain ⟨b, ws, rfl, g3, _⟩ := Cn.tuple (.rp r2)
      exact ⟨a, b, us, ws, rfl, .inr ⟨g1, g3, q B1 H1 _ _ _ _ a1 rfl wk_zt ⟨r1, r2⟩ (fun _ z => z.elim)⟩⟩
    | [], rr => have := rr.len; simp at this
    | [_], rr => have := rr.len; simp at this
    | _ :: _ :: _ :: _, rr => have := rr.len; simp at this
  · cases ev
def rgT (i j : Int) : List PyData := (List.range (j - i).toNat).map fun k => .int (i + (k : Nat))
theorem rg_rp {K : PySem.W.Frag} {B : Mset} {H : Hp} {i j : Int} : RpA K B H (rgV i j) (rgT i j) := by
  have : ∀ l : List Nat, RpA K B H (l.map fun k => V.int (i + (k : Nat))) (l.map fun k => PyData.int (i + (k : Nat))) := by
    intro l
    induction l with
    | nil => exact .nil
    | cons x l ih => exact .cons (.int _) ih
  exact this _
def KdOk (K : PySem.W.Frag) (w : World) (d : Addr) (kvs : List (Str × PyData)) : Prop := ∀ z x, kvs.lookup z = some x → ∃ v0, KDct K w d z v0 ∧ ∀ B H, Rp K B H v0 x
def eKd (kvs : List (Str × PyData)) (f : EE) : EE := fun env => match f env with
  | some (.pd (.str z), e) => match kvs.lookup z with
    | some x => some (.pd x, e)
    | none => none
  | _ => none
theorem e_kd {X : Cx} {a b : Expr} {d : Addr} {kvs : List (Str × PyData)} {f : EE} {pos : Pos} (D : KdOk X.K X.w d kvs) (ha : PE X a (tC (.ref d))) (hb : PE X b (tE X.K f)) (hs : PlainIx b := by exact fun _ _ => rfl) : PE X (.Subscript a b pos) (tE X.K (eKd kvs f)) := by
  refine PE.imp (pe_ix ix_kdict ha hb hs) fun σ H Q t => ?_
  obtain ⟨B, env, r, env', en, ev, q⟩ := t
  unfold eKd at ev
  split at ev
  · rename_i z e1 h1
    split at ev
    · rename_i x hx
      cases ev
      refine ⟨B, env, _, _, en, h1, fun B1 H1 v a1 r1 => ?_⟩
      have r1 : Rp X.K B1 H1 v (.str z) := r1
      cases r1
      obtain ⟨v0, g1, g3⟩ := D z x hx
      exact ⟨d, z, v0, rfl, rfl, g1, q B1 H1 v0 a1 (g3 B1 H1)⟩
    · cases ev
  · cases ev
end T3

end
section
set_option linter.all false
set_option autoImplicit false
set_option Elab.async false
namespace T3
open PySem L2
variable [TabL]

theorem u65 {k : Nat} {A : Around} (r : Room k A) : A.units + 65 < cLine := by have := r.un; omega
theorem u64 {k : Nat} {A : Around} (r : Room k A) : A.units + 64 < cLine := by have := r.un; omega
theorem u0 {k : Nat} {A : Around} (r : Room k A) : A.units < cLine := by have := r.un; omega
theorem u1 {k : Nat} {A : Around} (r : Room k A) : A.units + 1 < cLine := by have := r.un; omega
def At0 (K : PySem.W.Frag) (mg : Str → Option Value) (x : Str) (st : Stmt) (ps : List Str) : Prop := ∃ f fd, Fun K x x st f fd ∧ mg x = some (.ref f) ∧ Binds K fd ps []
def Has (P : Program) (w : World) (K : PySem.W.Frag) (mg : Str → Option Value) (base : Heap) (x : Str) (n : Nat) (F : FnD) (k : Nat) : Prop := ∃ f fd ps, FnOk P w K mg base CX0 k f fd ps (spF K F n) ∧ mg x = some (.ref f) ∧ PySem.W.keepIn K (.ref f) = true ∧ Binds K fd ps []
theorem has_of {P : Program} {w : World} {K : PySem.W.Frag} {mg : Str → Option Value} {base : Heap} {x : Str} {st : Stmt} {N ps : List Str} {k n : Nat} {b : SS} (h : At0 K mg x st ps) (Sc : FnScope N ps (defScope st)) (hn : n = ps.length)
    (hbody : ∀ (f : Addr) (cdv : Value) (A : Around) (outer : List Env) (s : Shared) (H : Hp) (E : XK), Room k (A.deeper (PyProof.Rows.envOfC x (defScope st) s.heap.objs.size f cdv)) →
      PSs (cxOf CX0 P w K mg base N x (defScope st) f cdv A outer s H E).nox (defBody st) (tS K b)) : Has P w K mg base x n (runFn N.length b) (k + 1) := by
  obtain ⟨f, fd, h1, h2, h3⟩ := h
  exact ⟨f, fd, ps, fn_ok h1 Sc hn fun cdv A outer s H E hr => hbody f cdv A outer s H E hr, h2, h1.kp, h3⟩
section
variable {X : Cx} {k n : Nat} {F : FnD} {x : Str} {p pos : Pos} {e : Expr} {es : List Expr} {fa : EA}
theorem e_fn (h : Has X.prog X.w X.K X.mg X.base x n F k) (hr : Room k X.A) (hn : lenA fa n) (ha : PA X (e :: es) (tA X.K fa)) (hg : Gl X x := by rfl) (hdb : (x == ("__debug__" : Str)) = false := by decide) (he : starEach (e :: es) X.env = (false, eval e X.env) :: starEach es X.env := by rfl) (hpl : (backTo pos (starEach es X.env)).any (·.1) = false := by rfl) :
    PE X (.Call (.Name x p) (e :: es) [] pos) (tE X.K (eCall F fa)) := by
  obtain ⟨f, fd, ps, h1, h2, h3, h4⟩ := h
  exact e_call h1 hr hg h2 h3 h4 hn ha hdb he hpl
end
def KC (K : PySem.W.Frag) (mg : Str → Option Value) (x : Str) (d : PyData) : Prop := ∃ v u, mg x = some u ∧ RelV v u ∧ ∀ B H, Rp K B H v d
theorem e_glob {X : Cx} {x : Str} {d : PyData} {pos : Pos} (h : KC X.K X.mg x d) (hg : Gl X x := by rfl) (hd : (x == ("__debug__" : Str)) = false := by decide) : PE X (.Name x pos) (tE X.K (eC d)) := by
  obtain ⟨v, u, h1, h2, h3⟩ := h
  exact e_c (pe_glob hg h1 h2 hd) h3
def KD (K : PySem.W.Frag) (w : World) (mg : Str → Option Value) (x : Str) (kvs : List (Str × PyData)) : Prop := ∃ d, mg x = some (.ref d) ∧ KdOk K w d kvs
theorem e_kdn {X : Cx} {x : Str} {b : Expr} {kvs : List (Str × PyData)} {f : EE} {p pos : Pos} (h : KD X.K X.w X.mg x kvs) (hb : PE X b (tE X.K f)) (hg : Gl X x := by rfl) (hd : (x == ("__debug__" : Str)) = false := by decide) (hs : PlainIx b := by exact fun _ _ => rfl) : PE X (.Subscript (.Name x p) b pos) (tE X.K (eKd kvs f)) := by
  obtain ⟨d, h1, h2⟩ := h
  exact e_kd h2 (pe_glob (v := .ref d) hg h1 rfl hd) hb hs
section
variable {X : Cx} {pos : Pos}
theorem k_int {i : Int} {j : Nat} : PE X (.Constant (.int i) j pos) (tE X.K (eC (.int i))) := e_c pe_int fun _ _ => .int _
theorem k_str {i : Str} {j : Nat} : PE X (.Constant (.str i) j pos) (tE X.K (eC (.str i))) := e_c pe_str fun _ _ => .str _
theorem k_bl {i : Bool} {j : Nat} : PE X (.Constant (.bool i) j pos) (tE X.K (eC (.bool i))) := e_c pe_bl fun _ _ => .bl _
theorem k_non {j : Nat} : PE X (.Constant .none j pos) (tE X.K (eC .none)) := e_c pe_non fun _ _ => .non
variable {a b : Expr} {fa fb : EE}
def eAdd (fa fb : EE) : EE := eThen (eTwo fa fb) kAdd
def eSub (fa fb : EE) : EE := eThen (eTwo fa fb) kSub
noncomputable def eMul (fa fb : EE) : EE := eThen (eTwo fa fb) kMul
noncomputable def eFdiv (fa fb : EE) : EE := eThen (eTwo fa fb) kFdiv
def eMod (fa fb : EE) : EE := eThen (eTwo fa fb) kMod
noncomputable def ePow (fa fb : EE) : EE := eThen (eTwo fa fb) kPow
def eNeg (fa : EE) : EE := eThen (eOne fa) kNeg
def eEq (fa fb : EE) : EE := eThen (eTwo fa fb) (kE oEq)
def eNe (fa fb : EE) : EE := eThen (eTwo fa fb) (kE oNe)
def eLt (fa fb : EE) : EE := eThen (eTwo fa fb) kLt
def eGt (fa fb : EE) : EE := eThen (eTwo fa fb) kGt
def eIn (fa fb : EE) : EE := eThen (eTwo fa fb) (kE (oIn false))
def eNin (fa fb : EE) : EE := eThen (eTwo fa fb) (kE (oIn true))
def eIs (fa fb : EE) : EE := eThen (eTwo fa fb) (kE (oIsN false))
def eIsn (fa fb : EE) : EE := eThen (eTwo fa fb) (kE (oIsN true))
def eIx (fa fb : EE) : EE := eThen (eTwo fa fb) (kE oIx)
theorem x_add (ha : PE X a (tE X.K fa)) (hb : PE X b (tE X.K fb)) : PE X (.BinOp a .Add b pos) (tE X.K (eAdd fa fb)) :=
  e_op (OpR.or op_add (OpR.or op_add_str (OpR.or op_catA op_cat))) (con_or2 (con_E ok_I0) (con_or2 (con_E ok_catS) (con_or2 (con_T ok_catT) c_catL))) ha hb
theorem x_sub (ha : PE X a (tE X.K fa)) (hb : PE X b (tE X.K fb)) : PE X (.BinOp a .Sub b pos) (tE X.K (eSub fa fb)) := e_op op_sub (con_E ok_I0) ha hb
theorem x_mul (ha : PE X a (tE X.K fa)) (hb : PE X b (tE X.K fb)) : PE X (.BinOp a .Mult b pos) (tE X.K (eMul fa fb)) := e_op (OpR.or op_mul op_repT) (con_or2 (con_E ok_I) (con_T ok_repT)) ha hb
theorem x_fdiv (ha : PE X a (tE X.K fa)) (hb : PE X b (tE X.K fb)) : PE X (.BinOp a .FloorDiv b pos) (tE X.K (eFdiv fa fb)) := e_op op_fdivW (con_E ok_I) ha hb
theorem x_mod (ha : PE X a (tE X.K fa)) (hb : PE X b (tE X.K fb)) : PE X (.BinOp a .Mod b pos) (tE X.K (eMod fa fb)) := e_op op_mod (con_E ok_I) ha hb
theorem x_pow (ha : PE X a (tE X.K fa)) (hb : PE X b (tE X.K fb)) : PE X (.BinOp a .Pow b pos) (tE X.K (ePow fa fb)) := e_op op_pow (con_E ok_I) ha hb
theorem x_neg (ha : PE X a (tE X.K fa)) : PE X (.UnaryOp .USub a pos) (tE X.K (eNeg fa)) := e_un un_neg c_neg ha
theorem x_ix (ha : PE X a (tE X.K fa)) (hb : PE X b (tE X.K fb)) (hs : PlainIx b := by exact fun _ _ => rfl) : PE X (.Subscript a b pos) (tE X.K (eIx fa fb)) := e_ix ix_seq (con_E ok_ix) ha hb hs
variable {k : Nat}
structure Cmp2 (X : Cx) (op : CmpOp) (kk : KK) : Prop where
  ex : ∃ r : R2, OpR X (compareOp op) r ∧ Con X.K kk (l2 r)
theorem q_eq (hr : Room k X.A) : Cmp2 X .Eq (kE oEq) := ⟨_, op_eqD (u64 hr), con_E ok_eq⟩
theorem q_ne (hr : Room k X.A) : Cmp2 X .NotEq (kE oNe) := ⟨_, op_neD (u64 hr), con_E ok_ne⟩
theorem q_lt (hr : Room k X.A) : Cmp2 X .Lt kLt := ⟨_, OpR.or op_lt (OpR.or (op_ltT (u0 hr)) (op_ltG (u64 hr))), con_or2 (con_E ok_B0) (con_or2 (con_E ok_ltT) (con_E ok_ltG))⟩
theorem q_gt (hr : Room k X.A) : Cmp2 X .Gt kGt := ⟨_, OpR.or op_gt (op_gtG (u64 hr)), con_or2 (con_E ok_B0) (con_E ok_gtG)⟩
theorem q_in (hr : Room k X.A) : Cmp2 X .In (kE (oIn false)) := ⟨_, OpR.or (op_inD (u65 hr)) (op_inT (u65 hr)), con_E ok_in⟩
theorem q_nin (hr : Room k X.A) : Cmp2 X .NotIn (kE (oIn true)) := ⟨_, OpR.or (op_notInD (u65 hr)) (op_notInT (u65 hr)), con_E ok_notin⟩
theorem q_is (hr : Room k X.A) : Cmp2 X .Is (kE (oIsN false)) := ⟨_, op_isN, con_E ok_isN⟩
theorem q_isn (hr : Room k X.A) : Cmp2 X .IsNot (kE (oIsN true)) := ⟨_, op_notN, con_E ok_notN⟩
theorem x_cmp {op : CmpOp} {kk : KK} (q : Cmp2 X op kk) (ha : PE X a (tE X.K fa)) (hb : PE X b (tE X.K fb)) (hm : behindInMarks op b = false := by rfl) : PE X (.Compare a [op] [b] pos) (tE X.K (eThen (eTwo fa fb) kk)) := by
  obtain ⟨r, h1, h2⟩ := q.ex
  exact e_cmp h1 h2 ha hb hm
theorem y_cmp {op : CmpOp} {kk : KK} (q : Cmp2 X op kk) (ha : PE X a (tE X.K fa)) (hb : PE X b (tE X.K fb)) (hm : behindInMarks op b = false := by rfl) : PT X (.Compare a [op] [b] pos) (tT X.K (bT (eThen (eTwo fa fb) kk))) := by
  obtain ⟨r, h1, h2⟩ := q.ex
  exact b_cmp h1 h2 ha hb hm
end
section
variable {X : Cx} {p pos : Pos} {e : Expr} {es : List Expr} {f : EA} {k : Nat}
structure Blt (X : Cx) (x : Str) (kk : KK) : Prop where
  ex : ∃ (id : String) (r : List V → Hp → VK → Prop), CallR X (.builtin id) r ∧ Con X.K kk r ∧ bootBuiltins x = some (.builtin id)
structure Bty (X : Cx) (x : Str) (kk : KK) : Prop where
  ex : ∃ (id : String) (r : List V → Hp → VK → Prop), CallR X (.type id) r ∧ Con X.K kk r ∧ bootBuiltins x = some (.type id)
theorem x_blt {x : Str} {kk : KK} (B : Blt X x kk) (hm : X.mg x = none) (ha : PA X (e :: es) (tA X.K f)) (hg : Gl X x := by rfl) (hn : x ≠ "__name__" := by decide) (hdb : (x == ("__debug__" : Str)) = false := by decide) (he : starEach (e :: es) X.env = (false, eval e X.env) :: starEach es X.env := by rfl) (hpl : (backTo pos (starEach es X.env)).any (·.1) = false := by rfl) :
    PE X (.Call (.Name x p) (e :: es) [] pos) (tE X.K (eThen f kk)) := by
  obtain ⟨id, r, h1, h2, h3⟩ := B.ex
  exact e_callB h1 h2 hg hm h3 ha hn hdb he hpl
theorem x_bty {x : Str} {kk : KK} (B : Bty X x kk) (hm : X.mg x = none) (ha : PA X (e :: es) (tA X.K f)) (hg : Gl X x := by rfl) (hn : x ≠ "__name__" := by decide) (hdb : (x == ("__debug__" : Str)) = false := by decide) (he : starEach (e :: es) X.env = (false, eval e X.env) :: starEach es X.env := by rfl) (hpl : (backTo pos (starEach es X.env)).any (·.1) = false := by rfl) :
    PE X (.Call (.Name x p) (e :: es) [] pos) (tE X.K (eThen f kk)) := by
  obtain ⟨id, r, h1, h2, h3⟩ := B.ex
  exact e_callTy h1 h2 hg hm h3 ha hn hdb he hpl
theorem w_len (hc : X.calm = true) (hr : Room k X.A) : Blt X "len" (kE oLen) := ⟨_, _, cr_len, c_len, PySem.boot_len⟩
theorem w_all (hc : X.calm = true) (hr : Room k X.A) : Blt X "all" (kE oAll) := ⟨_, _, cr_all hc, c_all, by decide +kernel⟩
theorem w_max (hc : X.calm = true) (hr : Room k X.A) : Blt X "max" (kE oMax) := ⟨_, _, cr_mx hc (u64 hr), c_mx, by decide +kernel⟩
theorem w_min (hc : X.calm = true) (hr : Room k X.A) : Blt X "min" (kE oMin) := ⟨_, _, cr_mn hc (u64 hr), c_mn, by decide +kernel⟩
theorem w_int (hc : X.calm = true) (hr : Room k X.A) : Bty X "int" (kE oInt1) := ⟨_, _, call_int1, c_int1, by decide +kernel⟩
theorem w_tuple (hc : X.calm = true) (hr : Room k X.A) : Bty X "tuple" kTupN := ⟨_, _, cr_tupN, c_tupN, by decide +kernel⟩
theorem w_list (hc : X.calm = true) (hr : Room k X.A) : Bty X "list" (kL oList) := ⟨_, _, call_list_of, c_list, by decide +kernel⟩
end
section
variable {X : Cx} {o e : Expr} {es : List Expr} {fo : EE} {fa : EA} {apos cpos : Pos} {k : Nat}
theorem m_append (ho : PE X o (tE X.K fo)) (ha : PA X [e] (tA X.K fa)) (hbase : attributeBase o "append" X.env (eval o X.env) = eval o X.env := by rfl)
    (hfew : ((backTo cpos (starEach [e] X.env)).all (fun x => !x.1) && (backToKw cpos (keywordEach [] X.env)).all (fun x => x.1.isSome)
      && decide (([e] : List Expr).length + ([] : List Keyword).length + (if ([] : List Keyword).isEmpty then 0 else 1) < 30)) = true := by rfl)
    (hline : (apos.endLine == cpos.line) = true := by rfl) (hs : starEach [e] X.env = (false, eval e X.env) :: starEach [] X.env := by rfl) (hplain : (backTo cpos (starEach [] X.env)).any (·.1) = false := by rfl) :
    PE X (.Call (.Attribute o "append" apos) [e] [] cpos) (tE X.K (eBM isL fo fa kAppend)) :=
  PE.imp (pe_bm PySem.F.plainAttrs_list PySem.F.slot_list_append PySem.F.type_list_append mt_append ho ha hbase hfew hline hs hplain) fun _ _ _ t => rd_bm ty_L c_append t
end
section
variable {X : Cx}
theorem x_lc {elt tg iter : Expr} {ifs : List Expr} {scope : Scope} {pos : Pos} {it : EI} {g : GG} {t : EB} {f : EE} {vs : List Nat} (own : List (Str × Nat)) (hc : X.calm = true) (hN : X.N.Nodup) (hv : own.map (·.2) = vs) (hi : PI X tg iter (tI X.K it)) (ok : BlkOk X.N X.env.scope scope own) (ho : Only g vs)
    (hg : ∀ (s : Shared) (H : Hp) (C : Addr) (cl : List (Str × Addr)) (fp : List Addr), PG (X.blk s H scope (compEnvC scope cl C X.env) fp) tg (tGv X.K g vs)) (ht : ∀ (s : Shared) (H : Hp) (C : Addr) (cl : List (Str × Addr)) (fp : List Addr), PTs (X.blk s H scope (compEnvC scope cl C X.env) fp) ifs (tT X.K t))
    (he : ∀ (s : Shared) (H : Hp) (C : Addr) (cl : List (Str × Addr)) (fp : List Addr), PE (X.blk s H scope (compEnvC scope cl C X.env) fp) elt (tE X.K f)) (hs : ∀ x, foldedSetIterable iter X.env x = pure x := by intro _; rfl) :
    PE X (.ListComp elt [⟨tg, iter, ifs, 0⟩] scope pos) (tE X.K (eLc it g t f vs)) := by
  subst hv
  exact e_lc hc hN hi ok ho hg ht he hs
theorem x_setLc {i : Nat} {y : Str} {py : Pos} {elt tg iter : Expr} {ifs : List Expr} {scope : Scope} {pos spos : Pos} {it : EI} {g : GG} {t : EB} {f : EE} {vs : List Nat} (own : List (Str × Nat)) (hc : X.calm = true) (hN : X.N.Nodup) (hv : own.map (·.2) = vs) (hy : X.N[i]? = some y) (hyl : X.env.scope.names.lookup y = some .local)
    (hsw : swapsWith (.ListComp elt [⟨tg, iter, ifs, 0⟩] scope pos) (some (.Name y py)) spos.line X.env = pure true) (hi : PI X tg iter (tI X.K it)) (ok : BlkOk X.N X.env.scope scope own) (ho : Only g vs)
    (hg : ∀ (s : Shared) (H : Hp) (C : Addr) (cl : List (Str × Addr)) (fp : List Addr), PG (X.blk s H scope (compEnvC scope cl C X.env) fp) tg (tGv X.K g vs)) (ht : ∀ (s : Shared) (H : Hp) (C : Addr) (cl : List (Str × Addr)) (fp : List Addr), PTs (X.blk s H scope (compEnvC scope cl C X.env) fp) ifs (tT X.K t))
    (he : ∀ (s : Shared) (H : Hp) (C : Addr) (cl : List (Str × Addr)) (fp : List Addr), PE (X.blk s H scope (compEnvC scope cl C X.env) fp) elt (tE X.K f)) (hs : ∀ x, foldedSetIterable iter X.env x = pure x := by intro _; rfl) :
    PS X (.Assign [.Name y py] (.ListComp elt [⟨tg, iter, ifs, 0⟩] scope pos) spos) (tS X.K (sSet i (eLc it g t f vs))) := by
  subst hv
  exact s_setLc hc hN hy hyl hsw hi ok ho hg ht he hs
end
end T3

end
section
set_option linter.all false
set_option autoImplicit false
set_option Elab.async false
namespace T3
open PySem PyProof.Rows
variable [TabL]
theorem collect_tup {prog : Program} {w : World} {A : Around} {E : Value → Shared → Prop} {s : Shared} {l : Addr} {vs : List Value} {Q : List Value → Shared → Prop} (hl : IsTup s.heap l vs.toArray)
    (h : Q vs { s with heap := (s.heap.push (seqObj "list" #[] 0)).update s.heap.objs.size (Obj.mapSeq (· ++ vs.toArray)) }) (hsz : vs.length ≤ sizeLine) : wpAny (model prog w) A (collect (.ref l)) Q E s := by
  obtain ⟨o, ho, hc, n, hd⟩ := hl
  have eL : (s.heap.push (seqObj "list" #[] 0)).get? s.heap.objs.size = some (seqObj "list" #[] 0) := Heap.get?_push_size _ rfl
  have eO : (s.heap.push (seqObj "list" #[] 0)).get? l = some o := Heap.get?_push_of_some _ ho
  unfold collect
  refine wpAny_bind (wpAny_runValue (codeAny_builtin entry_proto_collect' ?_))
  show wpAny (model prog w) _ (do again (.builtin "list.__iadd__" ⟨[← newList [], .ref l], []⟩)) _ _ s
  refine wpAny_bind (wpAny_newList (wpAny_pure
    ⟨Code.quiet_builtin _ (by decide +kernel), codeAny_builtin entry_list_iadd' ?_⟩))
  show wpAny (model prog w) _ (Builtin.List.listExtendWith (.ref s.heap.objs.size) (.ref l) (.ref s.heap.objs.size)) _ _ { s with heap := s.heap.push (seqObj "list" #[] 0) }
  unfold Builtin.List.listExtendWith
  refine wpAny_bind (wpAny_typeOf (T := "tuple") ⟨o, eO, hc⟩ ?_)
  have ht : (Value.type "tuple" == Value.type "tuple") = true := rfl
  rw [if_pos (by rw [ht]; simp)]
  refine wpAny_bind (listItems_at eO hd (wpAny_bind (listItems_at (xs := #[]) (n := 0) eL rfl ?_)))
  have hsz' : ((#[] : Array Value) ++ vs.toArray).size ≤ sizeLine + 1 := by simp; omega
  rw [if_neg (by simp)]
  refine wpAny_bind (listUpdate_at (xs := #[]) (n := 0) eL rfl (wpAny_pure ?_) (Nat.zero_le _) hsz')
  refine wpAny_bind (wpAny_load (get?_update_seq eL _) ?_)
  show wpAny (model prog w) A (pure ((#[] : Array Value) ++ vs.toArray).toList) Q E _
  have e0 : ((#[] : Array Value) ++ vs.toArray).toList = vs := by simp
  rw [e0]
  exact wpAny_pure h
end T3
namespace T3
open PySem PyProof.Rows SrtO Srt
variable [TabL]
theorem sorted_tup {prog : Program} {w : World} {A : Around} {E : Value → Shared → Prop} {s : Shared} {l : Addr} {vs : List Value} {ltv : Value → Value → Bool} {Q : Value → Shared → Prop} (O : Swo ltv) (hl : IsTup s.heap l vs.toArray) (hz : vs.length ≤ sizeLine)
    (hS : 2 ≤ vs.length → ∀ (h₁ : Heap) (a : Addr), h₁.get? a = some (seqObj "list" vs.toArray 0) → (∀ b o, s.heap.get? b = some o → b ≠ a ∧ h₁.get? b = some o) → SortableO prog w A.in1.in1 { s with heap := h₁ } a vs ltv)
    (h : ∀ out : List Value, Srtd ltv out → Stb ltv out vs → Q (.ref (s.heap.objs.size + 1)) { s with heap := sortedAll s.heap vs out.toArray }) : wpAny (model prog w) A (call (.builtin "sorted") [.ref l]) Q E s := by
  refine Calls.call_function_entry kind_sorted plain_sorted entry_sorted (args_sorted1 _) ?_
  unfold Builtin.«sorted»
  refine wpAny_bind (m := checkCount "sorted" 1 1 _) (wpAny_pure (wpAny_bind (collect_tup hl (wpAny_bind (wpAny_newList ?_ hz)) hz)))
  generalize eg : (s.heap.push (seqObj "list" #[] 0)).update s.heap.objs.size (Obj.mapSeq (· ++ vs.toArray)) = g
  have hg : g.objs.size = s.heap.objs.size + 1 := by rw [← eg, Heap.size_update, size_push']
  have new : (g.push (seqObj "list" vs.toArray 0)).get? (s.heap.objs.size + 1) = some (seqObj "list" vs.toArray 0) := by rw [← hg]; exact Heap.get?_push_size _ rfl
  have keep : ∀ b o, s.heap.get? b = some o → b ≠ s.heap.objs.size + 1 ∧ (g.push (seqObj "list" vs.toArray 0)).get? b = some o := fun b o q => by
    have hb : b < s.heap.objs.size := Heap.lt_size q
    refine ⟨Nat.ne_of_lt (Nat.lt_succ_of_lt hb), Heap.get?_push_of_some _ ?_⟩
    rw [← eg, Heap.get?_update_ne _ _ _ _ (Nat.ne_of_lt hb)]
    exact Heap.get?_push_of_some _ q
  show wpAny (model prog w) _ _ _ _ { s with heap := g.push (seqObj "list" vs.toArray 0) }
  rw [hg]
  refine wpAny_bind (wpAny_holding (wpAny_call_entry slot_list_sort ⟨_, new, rfl⟩ entry_list_sort
    (list_sort_ord O new hz (fun h2 => hS h2 _ _ new keep) fun out a1 a2 => ⟨_, rfl, wpAny_pure ⟨_, rfl, ?_⟩⟩) (args_list_sort _)))
  subst eg
  exact h out a1 a2
end T3

namespace T3
open PySem L2
variable [TabL]
def rSrtT (K : PySem.W.Frag) : List V → Hp → VK → Prop := fun vs H Q => ∃ (a : Addr) (ns : List Int), vs = [V.ref a] ∧ SqT K H a (ns.map V.int) ∧
  ∀ (ns' : List Int) (p : Addr), ns'.Perm ns → ns'.Pairwise (· ≤ ·) → H p = none → Q (.ref p) (upd H p (.lst (ns'.map V.int)))
theorem cr_srtT {X : Cx} : CallR X (.builtin "sorted") (rSrtT X.K) := by
  intro pins s σ H vs us Q I r h
  obtain ⟨a, ns, rfl, hs, q⟩ := h
  obtain ⟨its, rv, hl, hz⟩ := I.tuple hs
  rw [Vals.ref1 r]
  have hi := rv.ints
  have hz' : its.length ≤ sizeLine := by rw [← rv.length]; exact hz
  refine sorted_tup SrtO.swo_int hl hz' (fun h2 h₁ a' _ _ => SrtO.ints_sortable hi h2) fun out h1 h2 => ?_
  obtain ⟨k1, k2, k3⟩ := SrtO.ints_out hi h1 h2
  obtain ⟨ep, he'⟩ := PyProof.Rows.sortedAll_at s.heap its out.toArray
  have hlen : ((out.map SrtO.iv).map V.int).length ≤ sizeLine := by
    rw [List.length_map] at hz ⊢
    rw [k2.length_eq]
    exact hz
  refine ⟨.ref _, upd H (s.heap.objs.size + 1) (.lst ((out.map SrtO.iv).map V.int)), ?_, rfl, q _ _ k2 k3 (I.hok.fresh (Nat.le_succ _))⟩
  exact I.laid (t' := s.toks) (fun _ _ => PyProof.Rows.sortedAll_old) (Nat.le_succ _)
    ⟨hlen, out, ep, vals_of_ints k1, he'⟩
def pair? : PyData → Option (Int × Int)
  | .tuple [.int i, .int j] => if 0 ≤ i ∧ i < 64 ∧ 0 ≤ j ∧ j < 64 then some (i, j) else none
  | _ => none
def pairs? : List PyData → Option (List (Int × Int))
  | [] => some []
  | x :: xs => match pair? x with
    | none => none
    | some p => match pairs? xs with
      | none => none
      | some ps => some (p :: ps)
def clD (p : Int × Int) : PyData := .tuple [.int p.1, .int p.2]
theorem pair_eq {x : PyData} {p : Int × Int} (h : pair? x = some p) : x = clD p ∧ 0 ≤ p.1 ∧ p.1 < 64 ∧ 0 ≤ p.2 ∧ p.2 < 64 := by
  unfold pair? at h
  split at h
  · split at h
    · rename_i hc; cases h; exact ⟨rfl, hc⟩
    · cases h
  · cases h
theorem pairs_eq : ∀ {xs : List PyData} {ps : List (Int × Int)}, pairs? xs = some ps → xs = ps.map clD ∧ ∀ p ∈ ps, 0 ≤ p.1 ∧ p.1 < 64 ∧ 0 ≤ p.2 ∧ p.2 < 64
  | [], ps, h => by cases h; exact ⟨rfl, fun p hp => by simp at hp⟩
  | x :: xs, ps, h => by
    unfold pairs? at h
    split at h
    · cases h
    rename_i p hp
    split at h
    · cases h
    rename_i qs hq
    cases h
    obtain ⟨h1, h2⟩ := pair_eq hp
    obtain ⟨h3, h4⟩ := pairs_eq hq
    refine ⟨by rw [h1, h3]; rfl, fun z hz => ?_⟩
    rcases List.mem_cons.mp hz with e | e
    · rw [e]; exact h2
    · exact h4 z e
def prLe (p q : Int × Int) : Bool := decide (p.1 * 64 + p.2 ≤ q.1 * 64 + q.2)
def kSorted : KK := fun ds env => match ds with
  | [d] => match ctn env d with
    | some (.list xs) => match ints? xs with
      | some ns => some (.tmp (.ls ((ns.mergeSort fun a b => decide (a ≤ b)).map .int)), env)
      | none => if xs.length < 64 then match pairs? xs with
          | some ps => some (.tmp (.ls ((ps.mergeSort prLe).map clD)), env)
          | none => none
        else none
    | some (.tuple xs) => match ints? xs with
      | some ns => some (.tmp (.ls ((ns.mergeSort fun a b => decide (a ≤ b)).map .int)), env)
      | none => none
    | _ => none
  | _ => none
def rSort3 (K : PySem.W.Frag) : List V → Hp → VK → Prop := cOr (rSortedI K) (cOr (rSrtT K) (rSortU K 2 64))
theorem cr_sort3 {X : Cx} : CallR X (.builtin "sorted") (rSort3 X.K) := CallR.or cr_sortedI (CallR.or cr_srtT (cr_sortT (by decide)))
theorem ms_int {ns ns' : List Int} (h1 : ns'.Perm ns) (h2 : ns'.Pairwise (· ≤ ·)) : ns' = ns.mergeSort fun a b => decide (a ≤ b) := by
  refine List.Perm.eq_of_pairwise (le := (· ≤ ·)) (fun a b _ _ x y => Int.le_antisymm x y) h2 ?_ (h1.trans (List.mergeSort_perm _ _).symm)
  have := List.pairwise_mergeSort (le := fun a b : Int => decide (a ≤ b)) (fun a b c h1 h2 => by simp at h1 h2 ⊢; omega) (fun a b => by simp; omega) ns
  exact this.imp (by intro a b h; simpa using h)
theorem RpA.perm {K : PySem.W.Frag} {B : Mset} {H : Hp} {us ys : List V} (h : ys.Perm us) : ∀ {xs : List PyData}, RpA K B H us xs → ∃ zs, RpA K B H ys zs ∧ zs.Perm xs := by
  induction h with
  | nil => intro xs r; cases r; exact ⟨[], .nil, .nil⟩
  | cons x _ ih =>
    intro xs r
    cases r with
    | cons r1 r2 => obtain ⟨zs, h1, h2⟩ := ih r2; exact ⟨_, .cons r1 h1, h2.cons _⟩
  | swap x y l =>
    intro xs r
    cases r with
    | cons r1 r2 =>
      cases r2 with
      | cons r3 r4 => exact ⟨_, .cons r3 (.cons r1 r4), .swap _ _ _⟩
  | trans _ _ ih1 ih2 =>
    intro xs r
    obtain ⟨zs, h1, h2⟩ := ih2 r
    obtain ⟨ws, h3, h4⟩ := ih1 h1
    exact ⟨ws, h3, h4.trans h2⟩
theorem code_pr (p : Int × Int) : TS.code 64 [p.1, p.2] = p.1 * 64 + p.2 := code_pair p.1 p.2
theorem tupI_of {K : PySem.W.Frag} {B : Mset} {H : Hp} {v : V} {p : Int × Int} (h : Rp K B H v (clD p)) : TupI K H v [p.1, p.2] := by
  cases h with
  | tup h r =>
    have e := RpA.ints (ns := [p.1, p.2]) r
    rw [e] at h
    exact ⟨_, rfl, h⟩
theorem clD_inj {p q : Int × Int} (h : clD p = clD q) : p = q := by
  unfold clD at h
  simp at h
  exact Prod.ext h.1 h.2
theorem map_perm_clD {zs : List PyData} {ps : List (Int × Int)} (h : zs.Perm (ps.map clD)) : ∃ qs : List (Int × Int), zs = qs.map clD ∧ qs.Perm ps := by
  have hz : ∀ z ∈ zs, ∃ p ∈ ps, clD p = z := fun z hz => List.mem_map.mp (h.mem_iff.mp hz)
  have : ∃ qs : List (Int × Int), zs = qs.map clD := by
    clear h
    induction zs with
    | nil => exact ⟨[], rfl⟩
    | cons z zs ih =>
      obtain ⟨p, _, e⟩ := hz z (by simp)
      obtain ⟨qs, e2⟩ := ih (fun y hy => hz y (by simp [hy]))
      exact ⟨p :: qs, by rw [e2, ← e]; rfl⟩
  obtain ⟨qs, rfl⟩ := this
  refine ⟨qs, rfl, ?_⟩
  let un : PyData → Int × Int := fun d => match d with
    | .tuple [.int i, .int j] => (i, j)
    | _ => (0, 0)
  have hu : ∀ l : List (Int × Int), (l.map clD).map un = l := fun l => by
    rw [List.map_map]
    exact List.map_id'' (fun p => rfl) l
  have := h.map un
  rw [hu, hu] at this
  exact this
theorem c_sorted {K : PySem.W.Frag} : Con K kSorted (rSort3 K) := by
  intro σ H B env B1 H1 env1 vs ds d e2 Q en a rr hk q
  unfold kSorted at hk
  split at hk
  · rename_i d1
    match vs, rr with
    | [v], rr =>
      split at hk
      · rename_i xs hx
        obtain ⟨p, us, rfl, h1, h2⟩ := (Cn.of a.en (rr.each 0 v d1 rfl rfl) hx).list
        split at hk
        · rename_i ns hn
          cases hk
          rw [ints_map hn] at h2
          have e := h2.ints
          subst e
          refine .inl ⟨p, ns, rfl, h1, fun ns' r k1 k2 nr => ?_⟩
          rw [ms_int k1 k2]
          exact con_new en a nr (RpA.of_ints _) q
        · split at hk
          · rename_i hl
            split at hk
            · rename_i ps hp
              cases hk
              obtain ⟨e, hb⟩ := pairs_eq hp
              subst e
              refine .inr (.inr ⟨p, us, rfl, h1, by rw [h2.length]; exact hl, fun x hx => ?_, fun ys r k1 k2 nr => ?_⟩)
              · obtain ⟨i, hi, e⟩ := List.getElem_of_mem hx
                obtain ⟨dd, g1, g2⟩ := h2.getV (i := i) (v := x) (by rw [← e]; exact List.getElem?_eq_getElem hi)
                rw [List.getElem?_map] at g1
                cases hpi : ps[i]? with
                | none => rw [hpi] at g1; cases g1
                | some pp =>
                  rw [hpi] at g1
                  cases g1
                  have hbb := hb pp (List.mem_of_getElem? hpi)
                  refine ⟨[pp.1, pp.2], tupI_of g2, rfl, fun m hm => ?_⟩
                  simp only [List.mem_cons, List.not_mem_nil, or_false] at hm
                  rcases hm with e | e
                  · rw [e]; exact ⟨hbb.1, hbb.2.1⟩
                  · rw [e]; exact hbb.2.2
              · obtain ⟨zs, g1, g2⟩ := h2.perm k1
                obtain ⟨qs, rfl, g3⟩ := map_perm_clD g2
                have ord : qs.Pairwise (fun x y => x.1 * 64 + x.2 ≤ y.1 * 64 + y.2) := by
                  have : ∀ {ys : List V} {qs : List (Int × Int)}, RpA K B1 H1 ys (qs.map clD) → ys.Pairwise (fun x y => ∀ n m, TupI K H1 x n → TupI K H1 y m → TS.code 64 n ≤ TS.code 64 m) → qs.Pairwise (fun x y => x.1 * 64 + x.2 ≤ y.1 * 64 + y.2) := by
                    intro ys qs
                    induction qs generalizing ys with
                    | nil => intro _ _; exact .nil
                    | cons c qs ih =>
                      intro r pw
                      cases r with
                      | cons r1 r2 =>
                        cases pw with
                        | cons w1 w2 =>
                          refine .cons (fun y hy => ?_) (ih r2 w2)
                          obtain ⟨j, hj, e⟩ := List.getElem_of_mem hy
                          obtain ⟨vv, z1, z2⟩ := r2.get (i := j) (d := clD y) (by rw [List.getElem?_map, List.getElem?_eq_getElem hj, e]; rfl)
                          have := w1 vv (List.mem_of_getElem? z1) _ _ (tupI_of r1) (tupI_of z2)
                          rw [code_pr, code_pr] at this
                          exact this
                  exact this g1 k2
                have eq : qs = ps.mergeSort prLe := by
                  have hbq : ∀ z : Int × Int, z ∈ qs → 0 ≤ z.1 ∧ z.1 < 64 ∧ 0 ≤ z.2 ∧ z.2 < 64 := fun z hz => hb z (g3.mem_iff.mp hz)
                  refine List.Perm.eq_of_pairwise (le := fun x y : Int × Int => x.1 * 64 + x.2 ≤ y.1 * 64 + y.2) (fun x y hx hy l1 l2 => ?_) ord ?_ (g3.trans (List.mergeSort_perm _ _).symm)
                  · have b1 := hbq x hx
                    have b2 := hb y ((List.mergeSort_perm ps prLe).mem_iff.mp hy)
                    exact Prod.ext (by omega) (by omega)
                  · have := List.pairwise_mergeSort (le := prLe) (fun a b c h1 h2 => by simp [prLe] at h1 h2 ⊢; omega) (fun a b => by simp [prLe]; omega) ps
                    exact this.imp (by intro a b h; simpa [prLe] using h)
                rw [← eq] at q
                exact con_new en a nr g1 q
            · cases hk
          · cases hk
      · rename_i xs hx
        obtain ⟨p, us, rfl, h1, h2⟩ := (Cn.of a.en (rr.each 0 v d1 rfl rfl) hx).tuple
        split at hk
        · rename_i ns hn
          cases hk
          rw [ints_map hn] at h2
          have e := h2.ints
          subst e
          refine .inr (.inl ⟨p, ns, rfl, h1, fun ns' r k1 k2 nr => ?_⟩)
          rw [ms_int k1 k2]
          exact con_new en a nr (RpA.of_ints _) q
        · cases hk
      · cases hk
    | [], rr => have := rr.len; simp at this
    | _ :: _ :: _, rr => have := rr.len; simp at this
  · cases hk
theorem w_sorted {X : Cx} {k : Nat} (hc : X.calm = true) (hr : Room k X.A) : Blt X "sorted" kSorted := ⟨_, _, cr_sort3, c_sorted, by decide +kernel⟩
end T3

end
section
set_option linter.all false
set_option autoImplicit false
set_option Elab.async false
namespace T3
open PySem L2
variable [TabL]

noncomputable instance (a b : Int) : Decidable (RgOk a b) := Classical.propDecidable _
def rgN (n : Nat) (i c : Int) : List PyData := (List.range n).map fun k => .int (i + (k : Nat) * c)
def dnOk (i j : Int) : Prop := -(2 ^ 62) ≤ i ∧ i < 2 ^ 62 ∧ -(2 ^ 62) ≤ j ∧ j < 2 ^ 62 ∧ (i - j).toNat ≤ 1000000
noncomputable instance (a b : Int) : Decidable (dnOk a b) := Classical.propDecidable _
noncomputable def kTrg : KK := fun ds env => match ds with
  | [.pd (.int n)] => if RgOk 0 n then some (.pd (.tuple (rgT 0 n)), env) else none
  | [.pd (.int i), .pd (.int j)] => if RgOk i j then some (.pd (.tuple (rgT i j)), env) else none
  | [.pd (.int i), .pd (.int j), .pd (.int c)] => if c = -1 ∧ dnOk i j then some (.pd (.tuple (rgN (i - j).toNat i (-1))), env) else none
  | _ => none
noncomputable def eTrg (f : EA) : EE := eThen f kTrg
section
variable {X : Cx} {a b c : Expr} {fa fb fc : EE} {p p2 pos pos2 : Pos}
theorem rg_fin {K : PySem.W.Frag} {σ : St} {B B1 : Mset} {H H1 : Hp} {env env1 : Sl} {q : Addr} {ws : List V} {xs : List PyData} {Q : VK} (en : EnvR K B H σ env) (a : At K σ B H env B1 H1 env1) (np : H1 q = none) (hw : ∀ B H, RpA K B H ws xs)
    (k : ∀ B' H' v, At K σ B H env B' H' env1 → RR K H B' H' σ env1 v (.pd (.tuple xs)) → Q v H') : Q (.ref q) (upd H1 q (.tup ws)) := by
  obtain ⟨g, a2⟩ := a.alloc en np (.tup ws) False (fun _ => False) (fun _ f => f.elim)
  exact k _ _ _ a2 (.tup (.inl (.inl upd_same)) (hw _ _))
theorem x_trg1 (zt : X.mg "tuple" = none) (zr : X.mg "range" = none) (ha : PE X a (tE X.K fa)) (hc : X.calm = true := by rfl) (hg : Gl X "tuple" := by rfl) (hg2 : Gl X "range" := by rfl) (na : starEach [a] X.env = (false, eval a X.env) :: starEach [] X.env := by rfl)
    (nt : starEach [.Call (.Name "range" p2) [a] [] pos2] X.env = (false, eval (.Call (.Name "range" p2) [a] [] pos2) X.env) :: starEach [] X.env := by rfl) : PE X (.Call (.Name "tuple" p) [.Call (.Name "range" p2) [a] [] pos2] [] pos) (tE X.K (eTrg (eCons fa eNil))) :=
  PE.imp (pe_tupRg hc hg zt (prg_1 hg2 zr ha na) nt) fun σ H Q t => by
    have c : Con X.K kTrg (l1 fun x H Q => ∃ n, x = .int n ∧ RgOk 0 n ∧ ∀ q, H q = none → Q (.ref q) (upd H q (.tup (rgV 0 n)))) := by
      intro σ H B env B1 H1 env1 vs ds d e2 Q en a rr hk q x e
      subst e
      match ds, rr, hk with
      | [.pd (.int n)], rr, hk =>
        have e1 := rr.int1
        cases e1
        simp only [kTrg] at hk
        split at hk
        · rename_i ok
          cases hk
          exact ⟨n, rfl, ok, fun r nr => rg_fin en a nr (fun _ _ => rg_rp) q⟩
        · cases hk
      | [], rr, hk => have := rr.len; simp at this
      | _ :: _ :: _, rr, hk => have := rr.len; simp at this
      | [.pd .none], _, hk => cases hk
      | [.pd (.bool _)], _, hk => cases hk
      | [.pd (.str _)], _, hk => cases hk
      | [.pd (.list _)], _, hk => cases hk
      | [.pd (.tuple _)], _, hk => cases hk
      | [.pd (.dict _)], _, hk => cases hk
      | [.nt _], _, hk => cases hk
      | [.tmp _], _, hk => cases hk
      | [.var _], _, hk => cases hk
    have h := rd_one c t
    obtain ⟨B, env, d, env', en, ev, q⟩ := h
    refine ⟨B, env, d, env', en, ev, fun B1 H1 v a1 r1 => ?_⟩
    obtain ⟨n, e, ok, z⟩ := q B1 H1 v a1 r1
    exact ⟨n, e, ok, z⟩
end
section
variable {X : Cx} {a b c : Expr} {ta tb tc : TE} {p p2 pos pos2 : Pos}
end
def key? : PyData → Option Key
  | .int i => some (.inl i)
  | .str s => some (.inr s)
  | _ => none
theorem key_v {K : PySem.W.Frag} {B : Mset} {H : Hp} {v : V} {x : PyData} {k : Key} (h : Rp K B H v x) (e : key? x = some k) : v = kV k := by
  cases h <;> cases e <;> rfl
def putD (kvs : List (Key × PyData)) (k : Key) (x : PyData) : List (Key × PyData) :=
  if (kvs.any fun kv => decide (kv.1 = k)) = true then kvs.map (fun kv => if kv.1 = k then (kv.1, x) else kv) else kvs ++ [(k, x)]
def valD (kvs : List (Key × PyData)) (k : Key) : Option PyData := (kvs.find? fun kv => decide (kv.1 = k)).map (·.2)
theorem KvR.len {K : PySem.W.Frag} {B : Mset} {H : Hp} {ws : List (Key × V)} {kvs : List (Key × PyData)} (h : KvR K B H ws kvs) : ws.length = kvs.length := Paired.length h
theorem KvR.any {K : PySem.W.Frag} {B : Mset} {H : Hp} {k : Key} : ∀ {ws : List (Key × V)} {kvs : List (Key × PyData)}, KvR K B H ws kvs → (ws.any fun kv => decide (kv.1 = k)) = (kvs.any fun kv => decide (kv.1 = k))
  | _, _, .nil => rfl
  | _, _, .cons r t => by
    simp only [List.any_cons, r.1, KvR.any t]
theorem KvR.val {K : PySem.W.Frag} {B : Mset} {H : Hp} {k : Key} : ∀ {ws : List (Key × V)} {kvs : List (Key × PyData)}, KvR K B H ws kvs → (∃ v x, valV ws k = some v ∧ valD kvs k = some x ∧ Rp K B H v x) ∨ (valV ws k = none ∧ valD kvs k = none)
  | _, _, .nil => .inr ⟨rfl, rfl⟩
  | _, _, .cons (a := p) (b := q) r t => by
    by_cases e : q.1 = k
    · refine .inl ⟨p.2, q.2, ?_, ?_, r.2⟩
      · simp [valV, r.1, e]
      · simp [valD, e]
    · have e' : ¬ p.1 = k := by rw [r.1]; exact e
      rcases KvR.val (k := k) t with ⟨v, x, h1, h2, h3⟩ | ⟨h1, h2⟩
      · exact .inl ⟨v, x, by simpa [valV, e'] using h1, by simpa [valD, e] using h2, h3⟩
      · exact .inr ⟨by simpa [valV, e'] using h1, by simpa [valD, e] using h2⟩
theorem KvR.mapPut {K : PySem.W.Frag} {B : Mset} {H : Hp} {k : Key} {v : V} {x : PyData} (r : Rp K B H v x) : ∀ {ws : List (Key × V)} {kvs : List (Key × PyData)}, KvR K B H ws kvs → KvR K B H (ws.map fun kv => if kv.1 = k then (kv.1, v) else kv) (kvs.map fun kv => if kv.1 = k then (kv.1, x) else kv)
  | _, _, .nil => .nil
  | _, _, .cons (a := p) (b := q) h t => by
    refine .cons ?_ (KvR.mapPut r t)
    by_cases e : q.1 = k
    · have e' : p.1 = k := by rw [h.1]; exact e
      dsimp only
      rw [if_pos e, if_pos e']
      exact ⟨h.1, r⟩
    · have e' : ¬ p.1 = k := by rw [h.1]; exact e
      dsimp only
      rw [if_neg e, if_neg e']
      exact h
theorem KvR.app {K : PySem.W.Frag} {B : Mset} {H : Hp} {k : Key} {v : V} {x : PyData} (r : Rp K B H v x) : ∀ {ws : List (Key × V)} {kvs : List (Key × PyData)}, KvR K B H ws kvs → KvR K B H (ws ++ [(k, v)]) (kvs ++ [(k, x)])
  | _, _, .nil => .cons ⟨rfl, r⟩ .nil
  | _, _, .cons h t => .cons h (KvR.app r t)
theorem KvR.put {K : PySem.W.Frag} {B : Mset} {H : Hp} {k : Key} {v : V} {x : PyData} {ws : List (Key × V)} {kvs : List (Key × PyData)} (h : KvR K B H ws kvs) (r : Rp K B H v x) : KvR K B H (putK ws k v) (putD kvs k x) := by
  unfold putK putD
  rw [h.any]
  split
  · exact h.mapPut r
  · exact h.app r
def eDnew : EE := fun env => some (.tmp (.dk []), env)
theorem x_dnew {X : Cx} {pos : Pos} : PE X (.Dict [] [] pos) (tE X.K eDnew) := PE.imp pe_dnewK fun σ H Q t => by
  obtain ⟨B, env, d, env', en, ev, q⟩ := t
  cases ev
  intro p np
  obtain ⟨g, a2⟩ := (At.refl en).alloc en np (.dK []) True (fun _ => False) (fun _ f => f.elim)
  refine q _ _ _ a2 ⟨p, rfl, np, .inr ⟨trivial, rfl⟩, ⟨[], upd_same, .nil⟩, fun i m d h1 h2 => ?_⟩
  obtain ⟨b, h3, h4, _⟩ := en.mu i m d h1
  rw [h3] at h2
  cases h2
  obtain ⟨o', ho⟩ := en.dom _ h4
  rw [np] at ho; cases ho
def sDp (fd fk fv : EE) : SS := fun env => match fv env with
  | some (.pd x, e1) => match fd e1 with
    | some (.var j, e2) => match fk e2 with
      | some (.pd y, e3) => match key? y with
        | none => none
        | some k => match e3[j]? with
          | some (some (.mu m (.dk kvs))) => if m ≠ .fro ∧ kvs.length ≤ 1000000 then some (.nx, e3.set j (some (.mu m (.dk (putD kvs k x))))) else none
          | _ => none
      | _ => none
    | _ => none
  | _ => none
section
variable {X : Cx} {i o : Expr} {fk fd : EE} {pos : Pos}
end
def sPar3 (i j l : Nat) (f : EA) : SS := fun env => match f env with
  | some ([d1, d2, d3], e) => match setR i d1 e with
    | none => none
    | some e2 => match setR j d2 e2 with
      | none => none
      | some e3 => match setR l d3 e3 with
        | none => none
        | some e4 => some (.nx, e4)
  | _ => none
theorem rd_par3 {K : PySem.W.Frag} {i j l : Nat} {f : EA} {D : Ends} {σ : St} {H : Hp} (h : tS K (sPar3 i j l f) D σ H) : tPar3 i j l (tA K f) D σ H := by
  obtain ⟨B, env, fl, env', en, ev, q⟩ := h
  unfold sPar3 at ev
  split at ev
  · rename_i d1 d2 d3 e1 h1
    split at ev
    · cases ev
    rename_i e2 h2
    split at ev
    · cases ev
    rename_i e3 h3
    split at ev
    · cases ev
    rename_i e4 h4
    cases ev
    refine ⟨B, env, _, _, en, h1, fun B1 H1 vs a1 rr => ?_⟩
    match vs, rr with
    | [u, v, w], rr =>
      refine ⟨u, v, w, rfl, ?_⟩
      have li : i < σ.length := by rw [← a1.en.len]; exact setR_lt h2
      have s1 := AtS.set en a1.s (rr.each 0 u d1 rfl rfl) h2
      have lj : j < (σ.set i (some u)).length := by rw [← s1.en.len]; exact setR_lt h3
      have r2 : RA K H B1 H1 (σ.set i (some u)) e2 v d2 := RA.set h2 li (rr.each 1 v d2 rfl rfl) (fun c c' z1 z2 z3 => rr.apart 0 1 c c' u (by decide) (by simp [z1]) (by simp [z2]) rfl (by simp [z3])) (setR_nv h3)
      have s2 := AtS.set en s1 r2 h3
      have r3 : RA K H B1 H1 (σ.set i (some u)) e2 w d3 := RA.set h2 li (rr.each 2 w d3 rfl rfl) (fun c c' z1 z2 z3 => rr.apart 0 2 c c' u (by decide) (by simp [z1]) (by simp [z2]) rfl (by simp [z3])) (setR_nv h4)
      have r3' : RA K H B1 H1 ((σ.set i (some u)).set j (some v)) e3 w d3 := RA.set h3 lj r3 (fun c c' z1 z2 z3 => rr.apart 1 2 c c' v (by decide) (by simp [z1]) (by simp [z2]) rfl (by simp [z3])) (setR_nv h4)
      exact q B1 _ H1 (AtS.set en s2 r3' h4)
    | [], rr => have := rr.len; simp at this
    | [_], rr => have := rr.len; simp at this
    | [_, _], rr => have := rr.len; simp at this
    | _ :: _ :: _ :: _ :: _, rr => have := rr.len; simp at this
  · cases ev
theorem s_par3 {X : Cx} {i j l : Nat} {x y z : Str} {a b c : Expr} {f : EA} {px py pz pt pos : Pos} {kt k2 : Nat} {pt2 : Pos} (hc : X.calm = true) (hN : X.N.Nodup) (hi : X.N[i]? = some x) (hj : X.N[j]? = some y) (hl : X.N[l]? = some z) (hij : i ≠ j) (hil : i ≠ l) (hjl : j ≠ l)
    (hx : X.env.scope.names.lookup x = some .local) (hy : X.env.scope.names.lookup y = some .local) (hz : X.env.scope.names.lookup z = some .local) (ha : PA X [a, b, c] (tA X.K f))
    (hw : swappedStores [.Tuple [.Name x px, .Name y py, .Name z pz] kt pt] (.Tuple [a, b, c] k2 pt2) X.env = pure (some [x, y, z]))
    (hs : swapsWithSole [.Tuple [.Name x px, .Name y py, .Name z pz] kt pt] (.Tuple [a, b, c] k2 pt2) pos.line X.env = pure false := by rfl) :
    PS X (.Assign [.Tuple [.Name x px, .Name y py, .Name z pz] kt pt] (.Tuple [a, b, c] k2 pt2) pos) (tS X.K (sPar3 i j l f)) := PS.imp (ps_par3 hc hN hi hj hl hij hil hjl hx hy hz ha hw hs) fun _ _ _ t => rd_par3 t
end T3

end
section
set_option linter.all false
set_option autoImplicit false
set_option Elab.async false
namespace T3
open PySem L2
variable [TabL]
def l3 (r : V → V → V → Hp → VK → Prop) : List V → Hp → VK → Prop := fun vs H Q => ∀ x y z, vs = [x, y, z] → r x y z H Q
end T3

end
section
set_option linter.all false
set_option autoImplicit false
set_option Elab.async false
namespace T3
open PySem L2
variable [TabL]
theorem at0_mk {K : PySem.W.Frag} {h : Heap} {mg : Str → Option Value} {x : Str} {st : Stmt} {ps : List Str} {f : Addr} {oc : Value} {od an : Option Addr} {osl : Array (Option Value)} {kV doc pm cdv ct : Value} (X : K.In h) (G : h.Ns mainGlobals mg)
    (a : PySem.W.nsIn K mainGlobals x = some (some (.ref f))) (l : K.lookup f = some ⟨oc, od, .func (PySem.W.fnOf x x (defArgs st) (defBody st) (defScope st) .none kV doc pm an cdv ct), osl⟩) (c : PySem.W.codeIn K cdv x = true) (k : PySem.W.keepIn K (.ref f) = true)
    (hb : ∀ (kV doc pm : Value) (an : Option Addr) (cdv ct : Value) (us : List Value), us.length = ps.length → bindArgs (PySem.W.fnOf x x (defArgs st) (defBody st) (defScope st) .none kV doc pm an cdv ct) ⟨us, []⟩ = pure (ps.zip us)) : At0 K mg x st ps := by
  have F := fun_mk (st := st) l c k
  exact ⟨f, _, F, PySem.W.mg_of X G a, F.binds hb⟩
inductive KV1 (K : PySem.W.Frag) : Value → PyData → Prop
  | none : KV1 K .none .none
  | bool (b : Bool) : KV1 K (.bool b) (.bool b)
  | int (i : Int) (t : Tok) : KV1 K (.int i t) (.int i)
  | str (x : Str) (t : Tok) : KV1 K (.str x t) (.str x)
def kvB (K : PySem.W.Frag) : Nat → Value → PyData → Bool
  | 0, _, _ => false
  | _ + 1, .none, .none => true
  | _ + 1, .bool b, .bool c => b == c
  | _ + 1, .int i _, .int j => i == j
  | _ + 1, .str x _, .str y => decide (x = y)
  | n + 1, .ref a, .tuple ds => match K.lookup a with
    | some o => match o.cls, o.data with
      | .type t, .seq its _ => t == "tuple" && decide (its.size ≤ 1000) && decide (its.size = ds.length) && (its.toList.zip ds).all fun p => kvB K n p.1 p.2
      | _, _ => false
    | none => false
  | _ + 1, _, _ => false
theorem kv_rp {K : PySem.W.Frag} : ∀ (n : Nat) (u : Value) (d : PyData), kvB K n u d = true → ∃ v, RelV v u ∧ ∀ B H, Rp K B H v d
  | 0, _, _, h => by cases h
  | n + 1, u, d, h => by
    unfold kvB at h
    split at h
    · cases h
    · exact ⟨.non, rfl, fun _ _ => .non⟩
    · rename_i b c _
      have e : b = c := by simpa using h
      subst e
      exact ⟨.bl b, rfl, fun _ _ => .bl b⟩
    · rename_i i t j _
      have e : i = j := by simpa using h
      subst e
      exact ⟨.int i, ⟨t, rfl⟩, fun _ _ => .int i⟩
    · rename_i x t y _
      have e : x = y := by simpa using h
      subst e
      exact ⟨.str x, ⟨t, rfl⟩, fun _ _ => .str x⟩
    · rename_i m a ds hm
      cases hm
      split at h
      · rename_i o ho
        split at h
        · rename_i t its k hc hd
          simp only [Bool.and_eq_true, beq_iff_eq, decide_eq_true_eq, List.all_eq_true] at h
          obtain ⟨⟨⟨ht, hs⟩, hl⟩, ha⟩ := h
          have go : ∀ (us : List Value) (ds : List PyData), us.length = ds.length → (∀ p ∈ us.zip ds, kvB K n p.1 p.2 = true) → ∃ vs, Vals vs us ∧ ∀ B H, RpA K B H vs ds := by
            intro us
            induction us with
            | nil =>
              intro ds hl _
              cases ds with
              | nil => exact ⟨[], .nil, fun _ _ => .nil⟩
              | cons _ _ => simp at hl
            | cons u us ih =>
              intro ds hl hz
              cases ds with
              | nil => simp at hl
              | cons d ds =>
                obtain ⟨v, r1, r2⟩ := kv_rp n u d (hz (u, d) (by simp))
                obtain ⟨vs, q1, q2⟩ := ih ds (by simpa using hl) (fun p hp => hz p (by simp [hp]))
                exact ⟨v :: vs, .cons r1 q1, fun B H => .cons (r2 B H) (q2 B H)⟩
          obtain ⟨vs, q1, q2⟩ := go its.toList ds (by simpa using hl) ha
          subst ht
          exact ⟨.ref a, rfl, fun B H => .tup (.inr ⟨o, its, k, ho, hc, hd, Nat.le_of_lt (small1000 hs), q1⟩) (q2 B H)⟩
        · cases h
      · cases h
    · cases h
theorem kc_by {K : PySem.W.Frag} {h : Heap} {mg : Str → Option Value} {x : Str} {u : Value} {d : PyData} {n : Nat} (X : K.In h) (G : h.Ns mainGlobals mg) (a : PySem.W.nsIn K mainGlobals x = some (some u)) (q : kvB K n u d = true) : KC K mg x d := by
  obtain ⟨v, r, q⟩ := kv_rp n u d q
  exact ⟨v, u, PySem.W.mg_of X G a, r, q⟩
def kdB (K : PySem.W.Frag) (d : Addr) (kvs : List (Str × PyData)) : Bool := kvs.all fun p => match PySem.W.nsIn K d p.1 with
  | some (some u) => kvB K 9 u p.2
  | _ => false
theorem lookup_mem {α : Type} : ∀ {l : List (Str × α)} {z : Str} {x : α}, l.lookup z = some x → (z, x) ∈ l
  | [], z, x, h => by simp at h
  | (y, b) :: l, z, x, h => by
    rw [List.lookup_cons] at h
    split at h
    · rename_i e
      cases h
      have : z = y := by simpa using e
      subst this
      simp
    · simp [lookup_mem h]
theorem kd_mk {K : PySem.W.Frag} {w : World} {h : Heap} {mg : Str → Option Value} {x : Str} {d : Addr} {es : Array DictEntry} {n : Nat} {kvs : List (Str × PyData)} (X : K.In h) (G : h.Ns mainGlobals mg) (a : PySem.W.nsIn K mainGlobals x = some (some (.ref d)))
    (l : K.lookup d = some ⟨.type "dict", none, .dict es n, #[]⟩) (k : PySem.W.KeysLit w.params es.toList) (q : kdB K d kvs = true) : KD K w mg x kvs := by
  refine ⟨d, PySem.W.mg_of X G a, fun z y hz => ?_⟩
  have hm := lookup_mem hz
  have := List.all_eq_true.mp q _ hm
  dsimp only at this
  split at this
  · rename_i u hu
    obtain ⟨v, r, q⟩ := kv_rp 9 u y this
    exact ⟨v, ⟨es, n, u, l, k, hu, r⟩, q⟩
  · cases this
theorem law_spT {K : PySem.W.Frag} {F : FnD} {H : Hp} {a : Addr} {ns : List Int} (hF : ∃ as, F [.pd (.list (ns.map .int))] = some (.pd (.bool true), as)) (tb : TbB (fun _ => False) H) (hS : SqL K H a (ns.map V.int)) : spF K F 1 [.ref a] H (fun v _ => v = .bl true) fun _ _ _ => False := by
  obtain ⟨as, hF⟩ := hF
  have rp : Rp K (fun _ => False) H (.ref a) (.list (ns.map .int)) := by
    rcases hS with (h | ⟨o, h⟩) | ⟨o, its, n, h1, h2, h3, h4, h5, h6⟩
    · exact .lst h (fun z => z) (RpA.of_ints _)
    · exact .frz h (RpA.of_ints _)
    · exact .kls h1 h2 h3 h4 h5 h6 (RpA.of_ints _)
  refine ⟨rfl, fun _ => False, [.pd (.list (ns.map .int))], _, as, ⟨rfl, fun i x h => ?_, fun i x h => ?_, fun i m c h => ?_, fun i j m n c d b h => ?_, fun b h => h.elim, tb⟩, hF, fun B' H' v _ r _ => ?_⟩
  · cases i with
    | zero => simp at h; subst h; exact ⟨_, rfl, rp⟩
    | succ i => simp at h
  · cases i with
    | zero => simp at h
    | succ i => simp at h
  · cases i with
    | zero => simp at h
    | succ i => simp at h
  · cases i with
    | zero => simp at h
    | succ i => simp at h
  · have r : Rp K B' H' v (.bool true) := r
    cases r
    rfl
end T3
namespace T3
open PySem L2
theorem law_sp {K : PySem.W.Frag} {F : FnD} {H : Hp} {a : Addr} {ns : List Int} (hF : ∃ as, F [.pd (.list (ns.map .int))] = some (.pd (.bool true), as)) (O : L2.Only H) (hS : SqL K H a (ns.map V.int)) : spF K F 1 [.ref a] H (fun v _ => v = .bl true) fun _ _ _ => False :=
  law_spT hF (fun p hp => nomatch (show p ∈ ([] : List (Addr × Str)) from hp)) hS
end T3

end
section
set_option linter.all false
set_option autoImplicit false
set_option Elab.async false
namespace T3
open PySem L2
variable [TabL]
section
variable (env : Sl) (i j n : Nat) (fa fb fc : EE) (f g : EA) (s1 s2 : SS) (b1 b2 : EB) (k k1 k2 : KK) (d : R) (ds : List R) (x : PyData) (xs : List PyData)
@[simp] theorem z_var : eVar i env = (match env[i]? with
  | some (some (.pd x)) => some (.pd x, env)
  | some (some (.nt x)) => some (.nt x, env)
  | some (some (.mu _ _)) => some (.var i, env)
  | _ => none) := rfl
@[simp] theorem z_c : eC x env = some (.pd x, env) := rfl
@[simp] theorem z_nil : eNil env = some ([], env) := rfl
@[simp] theorem z_cons : eCons fa f env = (match fa env with
  | none => none
  | some (d, e1) => match f e1 with
    | none => none
    | some (ds, e2) => some (d :: ds, e2)) := rfl
@[simp] theorem z_then : eThen f k env = (match f env with
  | none => none
  | some (ds, e1) => k ds e1) := rfl
@[simp] theorem z_two : eTwo fa fb = eCons fa (eCons fb eNil) := rfl
@[simp] theorem z_one : eOne fa = eCons fa eNil := rfl
@[simp] theorem z_ctn1 : ctn env (.pd x) = some x := rfl
@[simp] theorem z_ctn2 : ctn env (.nt xs) = some (.tuple xs) := rfl
@[simp] theorem z_ctn3 : ctn env (.tmp (.ls xs)) = some (.list xs) := rfl
@[simp] theorem z_ctn4 : ctn env (.var i) = (match env[i]? with
    | some (some (.mu _ (.ls xs))) => some (.list xs)
    | _ => none) := rfl
@[simp] theorem z_ctns0 : ctns env [] = some [] := rfl
@[simp] theorem z_ctns1 : ctns env (d :: ds) = (match ctn env d with
    | none => none
    | some x => match ctns env ds with
      | none => none
      | some xs => some (x :: xs)) := rfl
@[simp] theorem z_kE (o : List PyData → Option PyData) : kE o ds env = (match ctns env ds with
  | none => none
  | some xs => match o xs with
    | none => none
    | some z => some (.pd z, env)) := rfl
@[simp] theorem z_kT (o : List PyData → Option (List PyData)) : kT o ds env = (match ctns env ds with
  | none => none
  | some xs => match o xs with
    | none => none
    | some z => some (.pd (.tuple z), env)) := rfl
@[simp] theorem z_kL (o : List PyData → Option (List PyData)) : kL o ds env = (match ctns env ds with
  | none => none
  | some xs => match o xs with
    | none => none
    | some z => some (.tmp (.ls z), env)) := rfl
@[simp] theorem z_kOr : kOr k1 k2 ds env = (match k1 ds env with
  | some r => some r
  | none => k2 ds env) := rfl
@[simp] theorem z_bT : bT fa env = (match fa env with
  | some (.pd (.bool b), e) => some (b, e)
  | _ => none) := rfl
@[simp] theorem z_bAnd : bAnd b1 b2 env = (match b1 env with
  | none => none
  | some (b, e) => if b = true then b2 e else some (false, e)) := rfl
@[simp] theorem z_bOr : bOr b1 b2 env = (match b1 env with
  | none => none
  | some (b, e) => if b = true then some (true, e) else b2 e) := rfl
@[simp] theorem z_bNot : bNot b1 env = (match b1 env with
  | none => none
  | some (b, e) => some (!b, e)) := rfl
@[simp] theorem z_eB : eB b1 env = (match b1 env with
  | none => none
  | some (b, e) => some (.pd (.bool b), e)) := rfl
@[simp] theorem z_eIf : eIf b1 fa fb env = (match b1 env with
  | none => none
  | some (b, e) => if b = true then fa e else fb e) := rfl
@[simp] theorem z_pass : sPass env = some (.nx, env) := rfl
@[simp] theorem z_seq : sSeq s1 s2 env = (match s1 env with
  | none => none
  | some (.nx, e1) => s2 e1
  | some (fl, e1) => some (fl, e1)) := rfl
@[simp] theorem z_if : sIf b1 s1 s2 env = (match b1 env with
  | none => none
  | some (b, e) => if b = true then s1 e else s2 e) := rfl
@[simp] theorem z_ret : sRet fa env = (match fa env with
  | none => none
  | some (d, e) => some (.rt d, e)) := rfl
@[simp] theorem z_expr : sExpr fa env = (match fa env with
  | none => none
  | some (_, e) => some (.nx, e)) := rfl
@[simp] theorem z_never : sNever env = none := rfl
@[simp] theorem z_free : free env i = (match env[i]? with
  | some (some (.mu .own _)) => true
  | some (some (.pd _)) => true
  | some (some (.nt _)) => true
  | some none => true
  | _ => false) := rfl
@[simp] theorem z_setR : setR i d env = (if free env i = true then match d with
    | .pd x => some (env.set i (some (.pd x)))
    | .nt x => some (env.set i (some (.nt x)))
    | .tmp c => some (env.set i (some (.mu .own c)))
    | .var _ => none
  else none) := rfl
@[simp] theorem z_set : sSet i fa env = (match fa env with
  | none => none
  | some (d, e) => match setR i d e with
    | none => none
    | some e2 => some (.nx, e2)) := rfl
@[simp] theorem z_gN : gN i x env = setR i (.pd x) env := rfl
@[simp] theorem z_gNl : gNl [] env = some env := rfl
@[simp] theorem z_gCn (g1 : GG) (gs : GGs) : gCn g1 gs (x :: xs) env = (match g1 x env with
    | none => none
    | some e => gs xs e) := rfl
@[simp] theorem z_gT (gs : GGs) : gT n gs (.tuple xs) env = (if xs.length = n then gs xs env else none) := rfl
@[simp] theorem z_asg (g1 : GG) : sAsg fa g1 env = (match fa env with
  | some (.pd x, e) => match g1 x e with
    | none => none
    | some e2 => some (.nx, e2)
  | some (.nt xs, e) => match g1 (.tuple xs) e with
    | none => none
    | some e2 => some (.nx, e2)
  | _ => none) := rfl
@[simp] theorem z_data1 : data1 (.pd x) = some x := rfl
@[simp] theorem z_data2 : data1 (.nt xs) = some (.tuple xs) := rfl
@[simp] theorem z_data3 : data1 (.tmp (.ls xs)) = some (.list xs) := rfl
@[simp] theorem z_data4 : data1 (.var i) = none := rfl
@[simp] theorem z_datas0 : datas [] = some [] := rfl
@[simp] theorem z_datas1 : datas (d :: ds) = (match data1 d with
    | none => none
    | some x => match datas ds with
      | none => none
      | some xs => some (x :: xs)) := rfl
@[simp] theorem z_kTup : kTup ds env = (match datas ds with
  | none => none
  | some xs => if xs.length ≤ 1000 then some (.pd (.tuple xs), env) else none) := rfl
@[simp] theorem z_kLst : kLst ds env = (match datas ds with
  | none => none
  | some xs => if xs.length ≤ 1000 then some (.tmp (.ls xs), env) else none) := rfl
@[simp] theorem z_for (it : EI) (g1 : GG) : sFor it g1 s1 env = (match it env with
  | none => none
  | some (xs, lk, e1) => match forL g1 s1 xs e1 with
    | none => none
    | some (fl, e2) => some (fl, unlock lk e2)) := rfl
@[simp] theorem z_unl : unlock none env = env := rfl
@[simp] theorem z_call (F : FnD) : eCall F f env = (match f env with
  | none => none
  | some (ds, e1) => match toArgs e1 ds with
    | none => none
    | some as => if varsApart ds = true then match F as with
        | none => none
        | some (.var _, _) => none
        | some (d, as') => some (d, back ds as' e1)
      else none) := rfl
@[simp] theorem z_arg1 : toArg env (.pd x) = some (.pd x) := rfl
@[simp] theorem z_arg2 : toArg env (.nt xs) = some (.nt xs) := rfl
@[simp] theorem z_arg3 (c : Ct) : toArg env (.tmp c) = some (.mu .bor c) := rfl
@[simp] theorem z_arg4 : toArg env (.var i) = (match env[i]? with
    | some (some (.mu .fro c)) => some (.mu .fro c)
    | some (some (.mu _ c)) => some (.mu .bor c)
    | _ => none) := rfl
@[simp] theorem z_args0 : toArgs env [] = some [] := rfl
@[simp] theorem z_args1 : toArgs env (d :: ds) = (match toArg env d with
    | none => none
    | some a => match toArgs env ds with
      | none => none
      | some as => some (a :: as)) := rfl
@[simp] theorem z_va0 : varsApart [] = true := rfl
@[simp] theorem z_va1 : varsApart (.pd x :: ds) = varsApart ds := rfl
@[simp] theorem z_va2 : varsApart (.nt xs :: ds) = varsApart ds := rfl
@[simp] theorem z_va3 (c : Ct) : varsApart (.tmp c :: ds) = varsApart ds := rfl
@[simp] theorem z_va4 : varsApart (.var i :: ds) = (!hasVar i ds && varsApart ds) := rfl
@[simp] theorem z_hv0 : hasVar i [] = false := rfl
@[simp] theorem z_hv1 : hasVar i (.pd x :: ds) = hasVar i ds := rfl
@[simp] theorem z_hv2 : hasVar i (.nt xs :: ds) = hasVar i ds := rfl
@[simp] theorem z_hv3 (c : Ct) : hasVar i (.tmp c :: ds) = hasVar i ds := rfl
@[simp] theorem z_hv4 : hasVar i (.var j :: ds) = (decide (i = j) || hasVar i ds) := rfl
variable (s : S) (as : List S)
@[simp] theorem z_bk0 : back [] [] env = env := rfl
@[simp] theorem z_bk1 : back (.pd x :: ds) (s :: as) env = back ds as env := rfl
@[simp] theorem z_bk2 : back (.nt xs :: ds) (s :: as) env = back ds as env := rfl
@[simp] theorem z_bk3 (c : Ct) : back (.tmp c :: ds) (s :: as) env = back ds as env := rfl
@[simp] theorem z_bk4 (m : Md) (c : Ct) : back (.var i :: ds) (.mu m c :: as) env = (match env[i]? with
    | some (some (.mu m _)) => back ds as (env.set i (some (.mu m c)))
    | _ => back ds as env) := rfl
@[simp] theorem z_out1 : outR env (.pd x) = some (.pd x) := rfl
@[simp] theorem z_out2 : outR env (.nt xs) = some (.nt xs) := rfl
@[simp] theorem z_out3 (c : Ct) : outR env (.tmp c) = some (.tmp c) := rfl
@[simp] theorem z_out4 : outR env (.var i) = (match env[i]? with
    | some (some (.mu .own c)) => some (.tmp c)
    | _ => none) := rfl
variable (e0 : Option S)
@[simp] theorem z_fin0 : finals [] env = some [] := by cases env <;> rfl
@[simp] theorem z_fin1 : finals (.pd x :: as) (e0 :: env) = (match finals as env with
    | none => none
    | some l => some (.pd x :: l)) := rfl
@[simp] theorem z_fin2 : finals (.nt xs :: as) (e0 :: env) = (match finals as env with
    | none => none
    | some l => some (.nt xs :: l)) := rfl
@[simp] theorem z_fin3 (m m' : Md) (c c' : Ct) : finals (.mu m c :: as) (some (.mu m' c') :: env) = (if m = m' ∧ m ≠ .own then match finals as env with
      | none => none
      | some l => some (.mu m c' :: l)
    else none) := rfl
theorem run_of {n : Nat} {b : SS} {as : List S} {e : Sl} (h : startE n as = e) : runFn n b as = (match b e with
  | some (.rt d, e) => match outR e d with
    | none => none
    | some d' => match finals as e with
      | none => none
      | some as' => some (d', as')
  | some (.nx, e) => match finals as e with
    | none => none
    | some as' => some (.pd .none, as')
  | _ => none) := by rw [← h]; rfl
end
end T3

end
section
set_option linter.all false
set_option autoImplicit false
set_option Elab.async false
namespace T3
open PySem L2
variable [TabL]
section
variable (env : Sl) (fa fb fc : EE) (f : EA) (g : GG) (t : EB) (it : EI) (vs : List Nat) (x : PyData)
@[simp] theorem z_add : eAdd fa fb env = eThen (eCons fa (eCons fb eNil)) kAdd env := rfl
@[simp] theorem z_sub : eSub fa fb env = eThen (eCons fa (eCons fb eNil)) kSub env := rfl
@[simp] theorem z_mul : eMul fa fb env = eThen (eCons fa (eCons fb eNil)) kMul env := rfl
@[simp] theorem z_fdiv : eFdiv fa fb env = eThen (eCons fa (eCons fb eNil)) kFdiv env := rfl
@[simp] theorem z_mod : eMod fa fb env = eThen (eCons fa (eCons fb eNil)) kMod env := rfl
@[simp] theorem z_pow : ePow fa fb env = eThen (eCons fa (eCons fb eNil)) kPow env := rfl
@[simp] theorem z_neg : eNeg fa env = eThen (eCons fa eNil) kNeg env := rfl
@[simp] theorem z_eq : eEq fa fb env = eThen (eCons fa (eCons fb eNil)) (kE oEq) env := rfl
@[simp] theorem z_ne : eNe fa fb env = eThen (eCons fa (eCons fb eNil)) (kE oNe) env := rfl
@[simp] theorem z_lt : eLt fa fb env = eThen (eCons fa (eCons fb eNil)) kLt env := rfl
@[simp] theorem z_gt : eGt fa fb env = eThen (eCons fa (eCons fb eNil)) kGt env := rfl
@[simp] theorem z_in : eIn fa fb env = eThen (eCons fa (eCons fb eNil)) (kE (oIn false)) env := rfl
@[simp] theorem z_nin : eNin fa fb env = eThen (eCons fa (eCons fb eNil)) (kE (oIn true)) env := rfl
@[simp] theorem z_is : eIs fa fb env = eThen (eCons fa (eCons fb eNil)) (kE (oIsN false)) env := rfl
@[simp] theorem z_isn : eIsn fa fb env = eThen (eCons fa (eCons fb eNil)) (kE (oIsN true)) env := rfl
@[simp] theorem z_ix : eIx fa fb env = eThen (eCons fa (eCons fb eNil)) (kE oIx) env := rfl
@[simp] theorem z_trg : eTrg f env = eThen f kTrg env := rfl
@[simp] theorem z_lc : eLc it g t fa vs env = (match it env with
  | none => none
  | some (xs, lk, e1) => if xs.length ≤ 1000000 then match lcL g t fa vs xs e1 [] with
      | none => none
      | some (acc, e2) => some (.tmp (.ls acc), unlock lk e2)
    else none) := rfl
@[simp] theorem z_seqI : iSeq fa env = (match fa env with
  | some (.pd (.tuple xs), e) => some (xs, none, e)
  | some (.nt xs, e) => some (xs, none, e)
  | some (.pd (.list xs), e) => some (xs, none, e)
  | some (.pd (.str s), e) => some (signs s, none, e)
  | some (.tmp (.ls xs), e) => some (xs, none, e)
  | some (.var i, e) => match e[i]? with
    | some (some (.mu m (.ls xs))) => some (xs, some (i, m), e.set i (some (.mu .fro (.ls xs))))
    | _ => none
  | _ => none) := rfl
@[simp] theorem z_bm (ty : Sl → R → Bool) (k : KK) : eBM ty fa f k env = (match fa env with
  | none => none
  | some (d, e1) => if ty e1 d = true then match f e1 with
      | none => none
      | some (ds, e2) => k (d :: ds) e2
    else none) := rfl
@[simp] theorem z_dnew : eDnew env = some (.tmp (.dk []), env) := rfl
@[simp] theorem z_gS : gS fa fb x env = (match fa env with
  | some (.var j, e1) => match fb e1 with
    | some (.pd (.int k), e2) => putL j k x e2
    | _ => none
  | _ => none) := rfl
@[simp] theorem z_sl (lo hi : EO) : eSl fa lo hi env = (match fa env with
  | none => none
  | some (d, e1) => match lo e1 with
    | none => none
    | some (l, e2) => match hi e2 with
      | none => none
      | some (h, e3) => kSl l h [d] e3) := rfl
@[simp] theorem z_par (i j : Nat) : sPar i j f env = (match f env with
  | some ([d1, d2], e) => match setR i d1 e with
    | none => none
    | some e2 => match setR j d2 e2 with
      | none => none
      | some e3 => some (.nx, e3)
  | _ => none) := rfl
@[simp] theorem z_par3 (i j l : Nat) : sPar3 i j l f env = (match f env with
  | some ([d1, d2, d3], e) => match setR i d1 e with
    | none => none
    | some e2 => match setR j d2 e2 with
      | none => none
      | some e3 => match setR l d3 e3 with
        | none => none
        | some e4 => some (.nx, e4)
  | _ => none) := rfl
@[simp] theorem z_oNo : oNo env = some (none, env) := rfl
@[simp] theorem z_unl1 (i : Nat) (m : Md) : unlock (some (i, m)) env = (match env[i]? with
  | some (some (.mu _ c)) => env.set i (some (.mu m c))
  | _ => env) := by rfl
end
end T3

end
section
set_option linter.all false
set_option autoImplicit false
set_option Elab.async false
namespace T3
open PySem PySem.Spec PyProof.Rows L2
variable [TabL]
structure FnG (P : Program) (w : World) (K : PySem.W.Frag) (mg : Str → Option Value) (base : Heap) (k : Nat) (f : Addr) (fd : FuncData) (ps : List Str) (sp : Sp) : Prop where
  sizes : ∀ xs H Q E, sp xs H Q E → xs.length = ps.length
  go : ∀ (A : Around) (out : List Env) (s : Shared) (H : Hp) (ar : Args) (us : List Value) (xs : List V) (Q : VK) (E : XK), Room k A → A.guards = some [] → Env0 P w K mg base A out s H → BindsTo s fd ar (ps.zip us) → Vals xs us → sp xs H Q E →
    codeAny (model P w) A (.call (.ref f) ar) (CR CX0 out P w H s Q E) s
section
variable {P : Program} {w : World} {K : PySem.W.Frag} {mg : Str → Option Value} {base : Heap} {k : Nat} {f : Addr} {fd : FuncData} {ps : List Str} {sp : Sp}
theorem ce_of {X : Cx} {out : List Env} {H₀ : Hp} {s₀ : Shared} {Q : VK} {τ : L2.St} {H2 : Hp} {z : V} {u : Value} {s2 : Shared} (J : Inv X [] τ H2 s2) (ho : s2.os = s₀.os) (hu : Un (frs out) [] H₀ H2 s₀.heap s2.heap) (rv : RelV z u) (q : Q z H2) : CE out X.prog X.w H₀ s₀ Q u s2 := ⟨z, H2, ho, J.bare, hu, J.hok, rv, q⟩
theorem fnG_of {nm qu : Str} {pr : Arguments} {bd : List Stmt} {sc : Scope} {dV kV doc pm cdv ct oc : Value} {an od : Option Addr} {osl : Array (Option Value)} {N : List Str}
    (at_ : K.lookup f = some ⟨oc, od, .func (PySem.W.fnOf nm qu pr bd sc dV kV doc pm an cdv ct), osl⟩) (cod : PySem.W.codeIn K cdv qu = true) (Sc : FnScope N ps sc) (sizes : ∀ xs H Q E, sp xs H Q E → xs.length = ps.length)
    (hb : ∀ (A : Around) (out : List Env) (s : Shared) (H : Hp) (xs : List V) (Q : VK) (E : XK), Room k (A.deeper (envOfC qu sc s.heap.objs.size f cdv)) → A.guards = some [] → sp xs H Q E →
      ∃ t, PSs (cxOf CX0 P w K mg base N qu sc f cdv A out s H E) bd t ∧ t { nx := fun _ H' => Q .non H', rt := Q } (L2.start N xs) H) :
    FnG P w K mg base (k + 1) f (PySem.W.fnOf nm qu pr bd sc dV kV doc pm an cdv ct) ps sp := by
  constructor
  · exact sizes
  intro A out s H ar us xs Q E rm gd ev bi vl hs
  have kin : K.In s.heap := ev.mod.kin.keeps fun a o h => (ev.bs a o h).1
  have nolim : s.heap.NoLimit := ev.mod.nolimit.keeps fun a o h => (ev.bs a o h).1
  have kinds : ∀ y ∈ ps.zip us, sc.names.lookup y.1 = some .local ∨ (sc.names.lookup y.1 = some .cell ∧ ((cellsFrom (s.heap.objs.size + 1) sc.names []).lookup y.1).isSome = true) := by
    rintro ⟨a, b⟩ hy
    refine (Sc.par a (List.of_mem_zip hy).1).imp id fun q => ⟨q, ?_⟩
    exact PySem.W.cellsFrom_some _ _ _ (.inl q)
  refine codeAny_call_function rm.depth (kin _ _ at_) rfl Sc.co Sc.gen rfl (PySem.W.codeRec_of kin cod) ?_
  refine bi _ _ _ _ (wpAny_newFunctionEnv_cells Sc.kind kinds fun env ee s1 ic => ?_)
  subst ee
  refine ⟨nolim.keeps ic.toInCall.keep, codeAny_func ?_⟩
  obtain ⟨t, h1, h2⟩ := hb A out s H xs Q E (rm.deeper _) gd hs
  have J := inv_start (CX := CX0) (P := P) (w := w) (E := E) Sc rm.hd ev (sizes _ _ _ _ hs) vl ic
  refine wpAny_mono (h1.run [] s1 (L2.start N xs) H _ J h2) (fun fl s2 hf => ?_) fun _ _ hx => hx
  match fl, hf with
  | .ret u, ⟨z, τ, H2, J2, rv, q⟩ => exact ce_of J2 J2.os J2.base rv q
  | .next, ⟨τ, H2, J2, q⟩ => exact ce_of (z := .non) (u := .none) J2 J2.os J2.base rfl q
  | .brk, ⟨_, _, _, q⟩ => exact q.elim
  | .cont, ⟨_, _, _, q⟩ => exact q.elim
end
end T3

end
section
set_option linter.all false
set_option autoImplicit false
set_option Elab.async false
namespace T3
open PySem PySem.Spec PyProof.Rows L2
variable [TabL]
section
variable {X : Cx} {k n : Nat} {f : Addr} {fd : FuncData} {ps : List Str} {sp : Sp} {x : Str} {p pos : Pos} {e : Expr} {es : List Expr} {t : TA} {F : FnD} {fa : EA}
end
section
variable {X : Cx} {k n : Nat} {F : FnD} {x : Str} {p pos : Pos} {e : Expr} {es : List Expr} {fa : EA}
end
end T3

end
section
set_option linter.all false
set_option autoImplicit false
set_option Elab.async false
namespace T3
open PySem PySem.Spec PyProof.Rows L2
variable [TabL]
section
variable {P : Program} {w : World} {K : PySem.W.Frag} {mg mb : Str → Option Value} {k : Nat} {fa a : Addr} {fd : FuncData} {x : Str} {sp : Sp} {s : Shared} {vs : List Value} {ns : List Int}
structure Scr (K : PySem.W.Frag) (s : Shared) (a : Addr) (H : Hp) : Prop where
  only : L2.Only H
  one : ∀ b, H b ≠ none → b = a
  kn : H a ≠ none → K.lookup a = none
theorem Scr.nd {H : Hp} (c : Scr K s a H) (ha : s.heap.get? a = some { cls := .type "list", data := .seq vs.toArray }) {b : Addr} {o : Obj} {es : Array DictEntry} {m : Nat} (h : s.heap.get? b = some o) (d : o.data = .dict es m) : H b = none := by
  apply Classical.byContradiction
  intro z
  have e := c.one b z
  rw [e, ha] at h
  injection h with h
  rw [← h] at d
  cases d
theorem Scr.spc {H : Hp} (c : Scr K s a H) (ha : s.heap.get? a = some { cls := .type "list", data := .seq vs.toArray }) {b : Addr} {m : Str → Option Value} (h : s.heap.Ns b m) : (hidT s.heap H).Ns b m := by
  obtain ⟨o, es, n, h1, h2, h3⟩ := h
  exact ⟨o, es, n, hidT_get h1 (c.nd ha h1 h2), h2, h3⟩
theorem Scr.kin {H : Hp} (c : Scr K s a H) (KX : K.In s.heap) : K.In (hidT s.heap H) := by
  intro b o h
  refine hidT_get (KX b o h) (Classical.byContradiction fun z => ?_)
  have e := c.one b z
  subst e
  rw [c.kn z] at h
  cases h
theorem Scr.run {H : Hp} (c : Scr K s a H) (ha : s.heap.get? a = some { cls := .type "list", data := .seq vs.toArray }) (KX : K.In s.heap) (hm : s.heap.Ns mainGlobals mg) (hb : s.heap.Ns builtinsNs mb) (hbb : ∀ x : Str, x ≠ "__name__" → mb x = bootBuiltins x) (nl : s.heap.NoLimit) (hg : s.gens = #[])
    (hr : Room k callerA) (F : ∀ base : Heap, K.In base → base.Ns mainGlobals mg → FnG P w K mg base k fa fd [x] sp) (bi : ∀ (s : Shared) (u : Value), BindsTo s fd ⟨[u], []⟩ [(x, u)]) (hok : HOk P w H s.heap)
    (hs : sp [.ref a] H (fun v _ => v = .bl true) fun _ _ _ => False) :
    codeAny (model P w) callerA (.call (.ref fa) ⟨[.ref a], []⟩) (fun r s2 => r = .ok (.ret (.bool true)) ∧ OldK s.heap s2.heap ∧ s2.os = s.os ∧ AllBare s2.gens) s := by
  obtain ⟨mc, n1, n2⟩ := nl
  have md : Mod K mg (hidT s.heap H) := ⟨c.kin KX, c.spc ha hm, ⟨mb, c.spc ha hb, hbb⟩, mc, c.spc ha n1, n2⟩
  have ev : Env0 P w K mg (hidT s.heap H) callerA [] s H := {
    frames := rfl
    mod := md
    bs := fun b o h => of_hidT h
    bsz := Nat.le_of_eq (hidT_size _ _)
    funs := trivial
    frf := fun b h => nomatch (show b ∈ ([] : List Addr) from h)
    hok := hok
    bare := .of_eq hg }
  have cc := (F _ md.kin (c.spc ha hm)).go callerA [] s H ⟨[.ref a], []⟩ [.ref a] [.ref a] _ _ hr rfl ev (bi s (.ref a)) (.cons rfl .nil) hs
  refine codeAny_mono cc ?_
  intro r s2 h
  match r, h with
  | .ok .next, h => exact h.elim
  | .ok .brk, h => exact h.elim
  | .ok .cont, h => exact h.elim
  | .error _, h => exact h.elim
  | .ok (.ret u), ⟨v, H2, os, br, un, hok2, rv, q⟩ =>
    have q : v = .bl true := q
    subst q
    have eu : u = .bool true := rv
    subst eu
    refine ⟨rfl, OldK.of_keep ?_, os, br⟩
    intro b o h
    rcases c.only b with z | ⟨ob, ys, z⟩
    · exact un.keep b o h z (fun y => nomatch (show b ∈ ([] : List Addr) from y)) (by simp)
    · have h1 := (hok b _ z).1
      rw [h] at h1
      cases h1
      exact (hok2 b _ (un.frzs b o _ z)).1
theorem lawG (KX : K.In s.heap) (hm : s.heap.Ns mainGlobals mg) (hb : s.heap.Ns builtinsNs mb) (hbb : ∀ x : Str, x ≠ "__name__" → mb x = bootBuiltins x) (nl : s.heap.NoLimit) (hg : s.gens = #[])
    (ha : s.heap.get? a = some { cls := .type "list", data := .seq vs.toArray }) (hi : IntsAre vs ns) (hl : ns.length ≤ sizeLine) (hr : Room k callerA)
    (F : ∀ base : Heap, K.In base → base.Ns mainGlobals mg → FnG P w K mg base k fa fd [x] sp) (bi : ∀ (s : Shared) (u : Value), BindsTo s fd ⟨[u], []⟩ [(x, u)])
    (hs : ∀ H : Hp, L2.Only H → SqL K H a (ns.map V.int) → sp [.ref a] H (fun v _ => v = .bl true) fun _ _ _ => False) :
    codeAny (model P w) callerA (.call (.ref fa) ⟨[.ref a], []⟩) (fun r s2 => r = .ok (.ret (.bool true)) ∧ OldK s.heap s2.heap ∧ s2.os = s.os ∧ AllBare s2.gens) s := by
  have vi := vals_ints hi
  have vl := hi.length
  cases hk : K.lookup a with
  | some o =>
    have e := KX a o hk
    rw [ha] at e
    injection e with e
    subst e
    have hO : L2.Only (fun _ => none) := fun _ => .inl rfl
    refine Scr.run (H := fun _ => none) ⟨hO, fun b z => absurd rfl z, fun z => absurd rfl z⟩ ha KX hm hb hbb nl hg hr F bi ?_ (hs _ hO (.inr ⟨_, vs.toArray, 0, hk, rfl, rfl, rfl, ?_, by simpa using vi⟩))
    · intro b u z
      cases (show (none : Option HO) = some u from z)
    · rw [List.size_toArray, vl]
      exact hl
  | none =>
    let Hs : Hp := fun b => if b = a then some (.frz { cls := .type "list", data := .seq vs.toArray } (.lst (ns.map V.int))) else none
    have at_a : Hs a = some (.frz { cls := .type "list", data := .seq vs.toArray } (.lst (ns.map V.int))) := if_pos rfl
    have off_a : ∀ b, b ≠ a → Hs b = none := fun b h => if_neg h
    have hO : L2.Only Hs := fun b => by
      by_cases e : b = a
      · subst e; exact .inr ⟨_, _, at_a⟩
      · exact .inl (off_a b e)
    refine Scr.run (H := Hs) ⟨hO, fun b z => Classical.byContradiction fun e => z (off_a b e), fun _ => hk⟩ ha KX hm hb hbb nl hg hr F bi ?_ (hs _ hO (.inl (.inr ⟨_, at_a⟩)))
    intro b u z
    by_cases e : b = a
    · subst e
      rw [at_a] at z
      cases z
      exact ⟨ha, by rw [List.length_map]; exact hl, vs, 0, vi, ha⟩
    · rw [off_a b e] at z
      cases z
end
theorem walkG {l : PySem.W.OpenLaw} {n k : Nat} {q : Program} {loose : List Str} {XP : (Str → Option Value) → Heap → Prop} {YP : World → Heap → Prop} {d : DefRec} {K : Params → PySem.W.Frag} {sp : World → Sp} {x : Str}
    (hn : l.most = some n) (hn2 : n ≤ sizeLine) (nd : d.params.defaults = []) (hr : Room k callerA) (hY : ∀ (w : World) (h : Heap), YP w h → (K w.params).In h)
    (F : ∀ (w : World) (mg : Str → Option Value) (fa : Addr) (h : Heap), (K w.params).In h → h.Ns mainGlobals mg → mg d.name = some (.ref fa) →
      ∃ fd : FuncData, (∀ (s : Shared) (u : Value), BindsTo s fd ⟨[u], []⟩ [(x, u)]) ∧ ∀ base : Heap, (K w.params).In base → base.Ns mainGlobals mg → FnG l.prog w (K w.params) mg base k fa fd [x] (sp w))
    (hs : ∀ (w : World) (H : Hp) (a : Addr) (ns : List Int), ns.length ≤ n → L2.Only H → SqL (K w.params) H a (ns.map V.int) → sp w [.ref a] H (fun v _ => v = .bl true) fun _ _ _ => False) :
    PySem.W.WalkO q loose XP YP l.row.toRowW d [] (fun f vs => PySem.call f vs) := by
  refine Att.attach_call hn nd ?_
  intro w s₀ s mg mb fa o pm cd doc a vs ns G Y _ _ _ em ho hi hl hg
  have kx := hY w _ Y
  obtain ⟨fd, b, f⟩ := F w mg fa _ kx G.T.g em
  exact lawG kx G.T.g G.T.b G.T.builtins G.T.nolimit hg ho hi (Nat.le_trans hl hn2) hr f b fun H h1 h2 => hs w H a ns hl h1 h2
end T3

end
section
set_option linter.all false
set_option autoImplicit false
set_option Elab.async false
namespace T3
open PySem PySem.Spec PyProof.Rows L2
variable [TabL]
def ShOk (d : PyData) : Prop := SeqAt.shaped d = true ∧ d.showable = true ∧ d.shown.length ≤ 1000000
noncomputable instance (d : PyData) : Decidable (ShOk d) := Classical.propDecidable _
noncomputable def oRepr : List PyData → Option PyData
  | [.tuple xs] => if ShOk (.tuple xs) then some (.str (PyData.tuple xs).shown) else none
  | [.list xs] => if ShOk (.list xs) then some (.str (PyData.list xs).shown) else none
  | _ => none
def rRepr (K : PySem.W.Frag) : List V → Hp → VK → Prop := fun vs H Q => ∃ (a : Addr) (d : PyData), vs = [V.ref a] ∧ Dp K H (.ref a) d ∧ ShOk d ∧ Q (.str d.shown) H
theorem cr_repr {X : Cx} (gd : X.A.guards = some []) (hu : X.A.units + 66 < cLine) : CallR X (.builtin "repr") (rRepr X.K) := by
  intro pins s σ H xs us Q J r h
  obtain ⟨a, d, rfl, dp, ⟨sh, sw, sz⟩, q⟩ := h
  obtain ⟨u, rfl, rv⟩ := vals1 r
  have eu : u = .ref a := rv
  subst eu
  obtain ⟨as, rd⟩ := Dp.reads J d _ _ dp rfl
  have cl : d.canLay0 = true := SeqAt.canLay_of_shaped sh
  have dd := SeqAt.depth_of_shaped sh
  refine repr_of_reads' rd sw (PyData.noDict_hsm (PyData.hasDict_of_canLay d cl)) gd (by omega) (fun _ _ e => e) (fun h' t tk hk => ?_) (Nat.le_of_lt (small sz))
  exact ⟨.str d.shown, H, Inv.turnedL (ch := []) J (fun b o _ e => hk b o e) (fun b z => nomatch z), ⟨t, rfl⟩, q⟩
def oEqS : List PyData → Option PyData
  | [.str a, .str b] => some (.bool (decide (a = b)))
  | _ => none
def oNeS : List PyData → Option PyData
  | [.str a, .str b] => some (.bool (!decide (a = b)))
  | _ => none
def kEqx : KK := kOr (kE oEqS) (kE oEq)
def kNex : KK := kOr (kE oNeS) (kE oNe)
theorem ok_eqS {K : PySem.W.Frag} : OkE K oEqS (l2 rEq) := by
  intro B H vs xs z Q cn ho q x y e
  unfold oEqS at ho
  split at ho
  · rename_i a b
    cases ho
    obtain ⟨v, w, e2, c1, c2⟩ := cn.two
    rw [e] at e2
    cases e2
    have e1 := c1.str
    have e3 := c2.str
    subst e1 e3
    refine ⟨rfl, ?_⟩
    have : decide (V.str a = V.str b) = decide (a = b) := by by_cases h : a = b <;> simp [h]
    rw [this]
    exact q _ (.bl _)
  · cases ho
theorem ok_neS {K : PySem.W.Frag} : OkE K oNeS (l2 rNe) := by
  intro B H vs xs z Q cn ho q x y e
  unfold oNeS at ho
  split at ho
  · rename_i a b
    cases ho
    obtain ⟨v, w, e2, c1, c2⟩ := cn.two
    rw [e] at e2
    cases e2
    have e1 := c1.str
    have e3 := c2.str
    subst e1 e3
    refine ⟨rfl, ?_⟩
    have : decide (V.str a = V.str b) = decide (a = b) := by by_cases h : a = b <;> simp [h]
    rw [this]
    exact q _ (.bl _)
  · cases ho
section
variable {X : Cx} {k : Nat}
theorem q_eqx (hr : Room k X.A) : Cmp2 X .Eq kEqx := ⟨_, OpR.or op_eq (op_eqD (u64 hr)), con_or2 (con_E ok_eqS) (con_E ok_eq)⟩
theorem q_nex (hr : Room k X.A) : Cmp2 X .NotEq kNex := ⟨_, OpR.or op_ne (op_neD (u64 hr)), con_or2 (con_E ok_neS) (con_E ok_ne)⟩
end
end T3
namespace T3
open PySem PySem.Spec PyProof.Rows L2
variable [TabL]
def eEqx (fa fb : EE) : EE := eThen (eTwo fa fb) kEqx
def eNex (fa fb : EE) : EE := eThen (eTwo fa fb) kNex
@[simp] theorem z_eqx (env : Sl) (fa fb : EE) : eEqx fa fb env = eThen (eCons fa (eCons fb eNil)) kEqx env := rfl
@[simp] theorem z_nex (env : Sl) (fa fb : EE) : eNex fa fb env = eThen (eCons fa (eCons fb eNil)) kNex env := rfl
theorem fn_okG {P : Program} {w : World} {K : PySem.W.Frag} {mg : Str → Option Value} {base : Heap} {x : Str} {st : Stmt} {f : Addr} {fd : FuncData} {N ps : List Str} {k n : Nat} {b : SS} (Fn : Fun K x x st f fd) (Sc : FnScope N ps (defScope st)) (hn : n = ps.length)
    (hb : ∀ (cdv : Value) (A : Around) (out : List Env) (s : Shared) (H : Hp) (E : XK), Room k (A.deeper (envOfC x (defScope st) s.heap.objs.size f cdv)) → (A.deeper (envOfC x (defScope st) s.heap.objs.size f cdv)).guards = some [] →
      PSs (cxOf CX0 P w K mg base N x (defScope st) f cdv A out s H E).nox (defBody st) (tS K b)) : FnG P w K mg base (k + 1) f fd ps (spF K (runFn N.length b) n) := by
  obtain ⟨oc, od, kV, doc, pm, an, cdv, ct, osl, rfl, lk, hcd⟩ := Fn.ex
  exact fnG_of lk hcd Sc (spF_len hn) fun A out s H xs Q E rm gd hs => ⟨_, (hb cdv A out s H E rm gd).nox, fn_body hs⟩
end T3

end
section
set_option linter.all false
set_option autoImplicit false
set_option Elab.async false
namespace T3
open PySem PySem.Spec PyProof.Rows L2
variable [TabL]
def revS (z : Str) : Str := ⟨z.cps.toList.reverse.toArray⟩
theorem rev_len (z : Str) : (revS z).length = z.length := by
  show (revS z).cps.size = z.cps.size
  simp [revS]
theorem rev_pick (z : Str) : (⟨((Builtin.Str.strSliceIndices none none (-1) z.length).filterMap (z.cps[·]?)).toArray⟩ : Str) = revS z := by
  have h : Builtin.Str.strSliceIndices none none (-1) z.length = (List.range z.cps.size).reverse := by
    show sliceRange ((z.cps.size : Int) - 1) (-1) (-1) = _
    rw [PySem.W.krv_sliceRange, PySem.W.krv_range]
  rw [h, List.filterMap_reverse, PySem.W.krv_all]
  rfl
theorem pe_revS {X : Cx} {e : Expr} {te : TE} {k : Nat} {p1 p2 p3 pos : Pos} (he : PE X e te) : PE X (.Subscript e (.Slice none none (some (.UnaryOp .USub (.Constant (.int 1) k p1) p2)) p3) pos) (fun σ H Q => te σ H fun x H1 => ∃ z : Str, x = .str z ∧ z.length ≤ 1000000 ∧ Q (.str (revS z)) H1) := by
  constructor
  intro pins s σ H Q J h
  refine Subscript_ (thn (he.run pins s σ H _ J h) ?_)
  rintro v s1 ⟨x, H1, J1, rx, z, rfl, hz, q⟩
  obtain ⟨t, rfl⟩ := rx
  have step : PO X (some (.UnaryOp .USub (.Constant (.int 1) k p1) p2)) (tPart (tUn (rU fun i => .int (-i)) (tC (.int 1)))) := po_some (pe_un un_neg pe_int)
  refine wpAny_Slice (thn (po_none.run pins s1 σ H1 (fun a Ha => a = none ∧ Ha = H1) J1 ⟨rfl, rfl⟩) ?_)
  rintro va sa ⟨a, Ha, Ja, pa, ea, eb⟩
  subst ea eb
  refine thn (po_none.run pins sa σ Ha (fun b Hb => b = none ∧ Hb = Ha) Ja ⟨rfl, rfl⟩) ?_
  rintro vb sb ⟨b, Hb, Jb, pb, ec, ed⟩
  subst ec ed
  refine thn (step.run pins sb σ Hb (fun c Hc => c = some (-1) ∧ Hc = Hb) Jb ⟨1, rfl, -1, rfl, rfl, rfl⟩) ?_
  rintro vc sc ⟨c, Hc, Jc, pc, ee, ef⟩
  subst ee ef
  obtain ⟨la, rfl, ga⟩ := IsPart.raw pa
  obtain ⟨lb, rfl, gb⟩ := IsPart.raw pb
  obtain ⟨lc, rfl, gc⟩ := IsPart.raw pc
  have J5 := Jc.kept (h' := sc.heap.push { cls := .type "slice", data := .fields #[partValue la, partValue lb, partValue lc] }) (t' := sc.toks) fun b ob q => Heap.get?_push_of_some _ q
  show wpAny (model X.prog X.w) X.A (subscriptTail e (.Slice none none (some (.UnaryOp .USub (.Constant (.int 1) k p1) p2)) p3) (.str z t) (.ref sc.heap.objs.size)) (EP X pins σ Q) X.xe { sc with heap := sc.heap.push { cls := .type "slice", data := .fields #[partValue la, partValue lb, partValue lc] } }
  refine tail_any (ops := [.str z t, .ref sc.heap.objs.size]) (typeIs_str _ z t) F.slot_str_getitem.lookup ?_ (by with_unfolding_all rfl)
  have ea : la = none := by cases la with | none => rfl | some _ => cases ga
  have eb : lb = none := by cases lb with | none => rfl | some _ => cases gb
  obtain ⟨tc, ec⟩ : ∃ tc, lc = some (-1, tc) := by
    cases lc with
    | none => cases gc
    | some y =>
      obtain ⟨y1, y2⟩ := y
      cases gc
      exact ⟨y2, rfl⟩
  subst ea eb ec
  refine wpAny_getItem_str_slice (l := none) (u := none) (st := some (-1, tc)) ⟨_, Heap.get?_push_size _ rfl, rfl, rfl⟩ rfl ?_
  show Made.post (if ((-1 : Int) == 1 && (Builtin.Str.strSliceIndices none none (-1) z.length).length == z.length) = true then Made.val (.str z t) else Made.str ⟨((Builtin.Str.strSliceIndices none none (-1) z.length).filterMap (z.cps[·]?)).toArray⟩) (EP X pins σ Q) _
  rw [if_neg (by simp), rev_pick]
  exact ⟨by rw [rev_len]; exact Nat.le_of_lt (small hz), .str _, _, J5.tok _, ⟨_, rfl⟩, q⟩
def eRevS (f : EE) : EE := fun env => match f env with
  | some (.pd (.str z), e) => if z.length ≤ 1000000 then some (.pd (.str (revS z)), e) else none
  | _ => none
theorem e_revS {X : Cx} {e : Expr} {f : EE} {k : Nat} {p1 p2 p3 pos : Pos} (he : PE X e (tE X.K f)) : PE X (.Subscript e (.Slice none none (some (.UnaryOp .USub (.Constant (.int 1) k p1) p2)) p3) pos) (tE X.K (eRevS f)) := PE.imp (pe_revS he) fun σ H Q t => by
  obtain ⟨B, env, d, env', en, ev, q⟩ := t
  unfold eRevS at ev
  split at ev
  · rename_i z e1 h1
    split at ev
    · rename_i hz
      cases ev
      refine ⟨B, env, _, _, en, h1, fun B1 H1 v a1 r1 => ?_⟩
      have r1 : Rp X.K B1 H1 v (.str z) := r1
      cases r1
      exact ⟨z, rfl, hz, q _ _ _ a1 (.str _)⟩
    · cases ev
  · cases ev
end T3

end
section
set_option linter.all false
set_option autoImplicit false
set_option Elab.async false
namespace T3
open PySem PySem.Spec PyProof.Rows L2
variable [TabL]
def strs? : List PyData → Option (List Str)
  | [] => some []
  | .str s :: xs => match strs? xs with
    | none => none
    | some ys => some (s :: ys)
  | _ => none
theorem strs_map : ∀ {xs : List PyData} {ys : List Str}, strs? xs = some ys → xs = ys.map .str
  | [], ys, h => by cases h; rfl
  | .str s :: xs, ys, h => by
    unfold strs? at h
    split at h
    · cases h
    · rename_i zs hz
      cases h
      rw [strs_map hz]
      rfl
  | .int _ :: _, _, h => by cases h
  | .bool _ :: _, _, h => by cases h
  | .none :: _, _, h => by cases h
  | .list _ :: _, _, h => by cases h
  | .tuple _ :: _, _, h => by cases h
  | .dict _ :: _, _, h => by cases h
def JoOk (a : Str) (ys : List Str) : Prop := (ys.map (·.length)).sum + ys.length * a.length ≤ 16777216
noncomputable instance (a : Str) (ys : List Str) : Decidable (JoOk a ys) := Classical.propDecidable _
noncomputable def oJoin : List PyData → Option PyData
  | [.str a, .list xs] => match strs? xs with
    | some ys => if JoOk a ys then some (.str (Txt.join a ys)) else none
    | none => none
  | _ => none
theorem c_join {K : PySem.W.Frag} : Con K (kE oJoin) (lm fun x xs H Q => ∃ a p, ∃ ys : List Str, x = .str a ∧ xs = [.ref p] ∧ (SqL K H p (ys.map V.str) ∨ SqT K H p (ys.map V.str)) ∧
    (ys.map (·.length)).sum + ys.length * a.length ≤ 16777216 ∧ Q (.str (Txt.join a ys)) H) := con_E <| by
  intro B H vs xs z Q cn ho q x us e
  unfold oJoin at ho
  split at ho
  · rename_i a zs
    split at ho
    · rename_i ys hy
      split at ho
      · rename_i hj
        cases ho
        obtain ⟨v, w, e2, c1, c2⟩ := cn.two
        rw [e] at e2
        cases e2
        have e1 := c1.str
        subst e1
        obtain ⟨p, ws, rfl, h1, h2⟩ := c2.list
        rw [strs_map hy] at h2
        have := h2.strs
        subst this
        exact ⟨a, p, ys, rfl, rfl, .inl h1, hj, q _ (.str _)⟩
      · cases ho
    · cases ho
  · cases ho
def oSix : List PyData → Option PyData
  | [.str a, .str b] => match Builtin.Str.occurrences a b 0 a.length 1 with
    | i :: _ => some (.int (i : Nat))
    | [] => none
  | _ => none
theorem c_six {K : PySem.W.Frag} : Con K (kE oSix) (lm fun x xs H Q => ∃ a b i rest, x = .str a ∧ xs = [.str b] ∧ Builtin.Str.occurrences a b 0 a.length 1 = i :: rest ∧ Q (.int (i : Nat)) H) := con_E <| by
  intro B H vs xs z Q cn ho q x us e
  unfold oSix at ho
  split at ho
  · rename_i a b
    split at ho
    · rename_i i rest hi
      cases ho
      obtain ⟨v, w, e2, c1, c2⟩ := cn.two
      rw [e] at e2
      cases e2
      have e1 := c1.str
      have e3 := c2.str
      subst e1 e3
      exact ⟨a, b, i, rest, rfl, rfl, hi, q _ (.int _)⟩
    · cases ho
  · cases ho
section
variable {X : Cx} {o e : Expr} {fo : EE} {fa : EA} {apos cpos : Pos}
theorem m_join (ho : PE X o (tE X.K fo)) (ha : PA X [e] (tA X.K fa)) (hbase : attributeBase o "join" X.env (eval o X.env) = eval o X.env := by rfl)
    (hfew : ((backTo cpos (starEach [e] X.env)).all (fun x => !x.1) && (backToKw cpos (keywordEach [] X.env)).all (fun x => x.1.isSome)
      && decide (([e] : List Expr).length + ([] : List Keyword).length + (if ([] : List Keyword).isEmpty then 0 else 1) < 30)) = true := by rfl)
    (hline : (apos.endLine == cpos.line) = true := by rfl) (hs : starEach [e] X.env = (false, eval e X.env) :: starEach [] X.env := by rfl) (hplain : (backTo cpos (starEach [] X.env)).any (·.1) = false := by rfl) :
    PE X (.Call (.Attribute o "join" apos) [e] [] cpos) (tE X.K (eBM isS fo fa (kE oJoin))) :=
  PE.imp (pe_bm PySem.F.plainAttrs_str PySem.F.slot_str_join PySem.F.type_str_join mt_join ho ha hbase hfew hline hs hplain) fun _ _ _ t => rd_bm ty_S c_join t
theorem m_six (ho : PE X o (tE X.K fo)) (ha : PA X [e] (tA X.K fa)) (hbase : attributeBase o "index" X.env (eval o X.env) = eval o X.env := by rfl)
    (hfew : ((backTo cpos (starEach [e] X.env)).all (fun x => !x.1) && (backToKw cpos (keywordEach [] X.env)).all (fun x => x.1.isSome)
      && decide (([e] : List Expr).length + ([] : List Keyword).length + (if ([] : List Keyword).isEmpty then 0 else 1) < 30)) = true := by rfl)
    (hline : (apos.endLine == cpos.line) = true := by rfl) (hs : starEach [e] X.env = (false, eval e X.env) :: starEach [] X.env := by rfl) (hplain : (backTo cpos (starEach [] X.env)).any (·.1) = false := by rfl) :
    PE X (.Call (.Attribute o "index" apos) [e] [] cpos) (tE X.K (eBM isS fo fa (kE oSix))) :=
  PE.imp (pe_bm PySem.F.plainAttrs_str PySem.F.slot_str_index PySem.F.type_str_index mt_sindex ho ha hbase hfew hline hs hplain) fun _ _ _ t => rd_bm ty_S c_six t
end
end T3

end
section
set_option linter.all false
set_option autoImplicit false
set_option Elab.async false
namespace T3
open PySem L2
variable [TabL]

mutual
def nk? : PyData → Option NestedKey
  | .none => some .none
  | .int i => some (.num i)
  | .tuple xs => match nks? xs with
    | some ks => some (.tup ks)
    | none => none
  | .bool _ => none
  | .str _ => none
  | .list _ => none
  | .dict _ => none
def nks? : List PyData → Option (List NestedKey)
  | [] => some []
  | x :: xs => match nk? x with
    | some k => match nks? xs with
      | some ks => some (k :: ks)
      | none => none
    | none => none
end
mutual
theorem nk_ok : ∀ (x : PyData) (k : NestedKey), nk? x = some k → k.data = x ∧ ∀ w w', NestedKey.hash w k = NestedKey.hash w' k
  | .none, k, h => by simp only [nk?, Option.some.injEq] at h; subst h; exact ⟨by simp only [NestedKey.data], fun _ _ => by simp only [NestedKey.hash]⟩
  | .int i, k, h => by simp only [nk?, Option.some.injEq] at h; subst h; exact ⟨by simp only [NestedKey.data], fun _ _ => by simp only [NestedKey.hash]⟩
  | .tuple xs, k, h => by
    rw [nk?] at h
    cases e : nks? xs with
    | none => rw [e] at h; cases h
    | some ks =>
      rw [e] at h
      cases h
      obtain ⟨h1, h2⟩ := nks_ok xs ks e
      exact ⟨by rw [NestedKey.data, h1], fun w w' => by rw [NestedKey.hash, NestedKey.hash, h2 w w']⟩
  | .bool _, k, h => by simp [nk?] at h
  | .str _, k, h => by simp [nk?] at h
  | .list _, k, h => by simp [nk?] at h
  | .dict _, k, h => by simp [nk?] at h
theorem nks_ok : ∀ (xs : List PyData) (ks : List NestedKey), nks? xs = some ks → NestedKey.datas ks = xs ∧ ∀ w w', NestedKey.hashes w ks = NestedKey.hashes w' ks
  | [], ks, h => by simp only [nks?, Option.some.injEq] at h; subst h; exact ⟨by simp only [NestedKey.datas], fun _ _ => by simp only [NestedKey.hashes]⟩
  | x :: xs, ks, h => by
    rw [nks?] at h
    cases e : nk? x with
    | none => rw [e] at h; cases h
    | some k =>
      cases e2 : nks? xs with
      | none => rw [e, e2] at h; cases h
      | some ks' =>
        rw [e, e2] at h
        cases h
        obtain ⟨h1, h2⟩ := nk_ok x k e
        obtain ⟨h3, h4⟩ := nks_ok xs ks' e2
        exact ⟨by rw [NestedKey.datas, h1, h3], fun w w' => by rw [NestedKey.hashes, NestedKey.hashes, h2 w w', h4 w w']⟩
end
def tk? (x : PyData) : Option NestedKey := match nk? x with
  | some (.tup ks) => if (NestedKey.tup ks).depth ≤ 8 then some (.tup ks) else none
  | _ => none
theorem tk_ok {x : PyData} {k : NestedKey} (h : tk? x = some k) : NkOk k ∧ k.data = x := by
  unfold tk? at h
  split at h
  · rename_i ks e
    split at h
    · rename_i hd
      cases h
      obtain ⟨h1, h2⟩ := nk_ok _ _ e
      exact ⟨⟨hd, h2, ks, rfl⟩, h1⟩
    · cases h
  · cases h

def valN (kvs : List (NestedKey × PyData)) (k : NestedKey) : Option PyData := (kvs.find? fun q => decide (q.1 = k)).map (·.2)
def putN (kvs : List (NestedKey × PyData)) (k : NestedKey) (x : PyData) : List (NestedKey × PyData) :=
  if (valN kvs k).isSome = true then kvs.map (fun q => if q.1 = k then (q.1, x) else q) else kvs ++ [(k, x)]

def DnAt (K : PySem.W.Frag) (B : Mset) (H : Hp) (a : Addr) (kvs : List (NestedKey × PyData)) : Prop :=
  (kvs = [] ∧ H a = some (.dK [])) ∨ ∃ es, H a = some (DnO a es) ∧ DnR K B H es kvs

def KnE (K : PySem.W.Frag) (B : Mset) (H : Hp) (q : NestedKey × PyData) (x : NestedKey × Addr × Value) : Prop :=
  x.1 = q.1 ∧ NkOk q.1 ∧ Rp K B H (.ref x.2.1) q.1.data ∧ ∃ v, RelV v x.2.2 ∧ Rp K B H v q.2
abbrev Kn (K : PySem.W.Frag) (B : Mset) (H : Hp) : List (NestedKey × PyData) → List (NestedKey × Addr × Value) → Prop := Paired (KnE K B H)

section
variable {K : PySem.W.Frag} {B : Mset} {H : Hp}
theorem Kn.val {k : NestedKey} : ∀ {kvs : List (NestedKey × PyData)} {xs : List (NestedKey × Addr × Value)}, Kn K B H kvs xs → (∃ p v z, atKey xs k = some p ∧ valN kvs k = some z ∧ RelV v p.2 ∧ Rp K B H v z) ∨ (atKey xs k = none ∧ valN kvs k = none)
  | _, _, .nil => .inr ⟨rfl, rfl⟩
  | _, _, .cons (a := q) (b := x) r t => by
    obtain ⟨e1, _, _, v, rv, rp⟩ := r
    by_cases e : q.1 = k
    · have e' : x.1 = k := by rw [e1]; exact e
      exact .inl ⟨x.2, v, q.2, by simp [atKey, e'], by simp [valN, e], rv, rp⟩
    · have e' : ¬ x.1 = k := by rw [e1]; exact e
      rcases Kn.val (k := k) t with ⟨p, v, z, h1, h2, h3⟩ | ⟨h1, h2⟩
      · exact .inl ⟨p, v, z, by simpa [atKey, e'] using h1, by simpa [valN, e] using h2, h3⟩
      · exact .inr ⟨by simpa [atKey, e'] using h1, by simpa [valN, e] using h2⟩
theorem Kn.map {k : NestedKey} {v : V} {u : Value} {z : PyData} (rv : RelV v u) (rp : Rp K B H v z) : ∀ {kvs : List (NestedKey × PyData)} {xs : List (NestedKey × Addr × Value)}, Kn K B H kvs xs → Kn K B H (kvs.map fun q => if q.1 = k then (q.1, z) else q) (xs.map (putAt k u))
  | _, _, .nil => .nil
  | _, _, .cons (a := q) (b := x) r t => by
    refine .cons ?_ (Kn.map rv rp t)
    obtain ⟨e1, e2, e3, e4⟩ := r
    by_cases e : q.1 = k
    · have e' : x.1 = k := by rw [e1]; exact e
      unfold putAt
      dsimp only
      rw [if_pos e, if_pos e']
      exact ⟨e1, e2, e3, v, rv, rp⟩
    · have e' : ¬ x.1 = k := by rw [e1]; exact e
      unfold putAt
      dsimp only
      rw [if_neg e, if_neg e']
      exact ⟨e1, e2, e3, e4⟩
theorem Kn.snoc {q : NestedKey × PyData} {x : NestedKey × Addr × Value} (r : KnE K B H q x) : ∀ {kvs : List (NestedKey × PyData)} {xs : List (NestedKey × Addr × Value)}, Kn K B H kvs xs → Kn K B H (kvs ++ [q]) (xs ++ [x])
  | _, _, .nil => .cons r .nil
  | _, _, .cons h t => .cons h (Kn.snoc r t)
theorem Kn.put {k : NestedKey} {b : Addr} {v : V} {u : Value} {z : PyData} {kvs : List (NestedKey × PyData)} {xs : List (NestedKey × Addr × Value)} (h : Kn K B H kvs xs) (hk : NkOk k) (rk : Rp K B H (.ref b) k.data) (rv : RelV v u) (rp : Rp K B H v z) : Kn K B H (putN kvs k z) (storedH xs k b u) := by
  unfold putN storedH
  rcases h.val (k := k) with ⟨p, v', z', h1, h2, _⟩ | ⟨h1, h2⟩
  · rw [h1, h2]
    exact h.map rv rp
  · rw [h1, h2]
    exact h.snoc ⟨rfl, hk, rk, v, rv, rp⟩
theorem Kn.dn {P : Program} {w : World} : ∀ {kvs : List (NestedKey × PyData)} {xs : List (NestedKey × Addr × Value)}, Kn K B H kvs xs → Paired (DnE K B H) (xs.map (entryOfKey (nestedKind P w))) kvs
  | _, _, .nil => .nil
  | _, _, .cons (a := q) (b := x) r t => by
    obtain ⟨e1, e2, e3, e4⟩ := r
    refine .cons ⟨e2, fun w' => ?_, ⟨x.2.1, rfl, e3⟩, e4⟩ (Kn.dn t)
    show _ = NestedKey.hash w x.1
    rw [e1]
    exact e2.2.1 w' w
theorem Kn.of {P : Program} {w : World} : ∀ {es : List DictEntry} {kvs : List (NestedKey × PyData)}, Paired (DnE K B H) es kvs → ∃ xs, Kn K B H kvs xs ∧ es = xs.map (entryOfKey (nestedKind P w))
  | _, _, .nil => ⟨[], .nil, rfl⟩
  | _, _, .cons (a := e) (b := q) r t => by
    obtain ⟨xs, h1, h2⟩ := Kn.of (P := P) (w := w) t
    obtain ⟨e1, e2, ⟨b, e3, e4⟩, e5⟩ := r
    refine ⟨(q.1, b, e.val) :: xs, .cons ⟨rfl, e1, e4, e5⟩ h1, ?_⟩
    rw [List.map_cons, ← h2]
    congr 1
    show e = ⟨NestedKey.hash w q.1, .ref b, e.val⟩
    rw [e2 w, ← e3]
theorem Kn.len {kvs : List (NestedKey × PyData)} {xs : List (NestedKey × Addr × Value)} (h : Kn K B H kvs xs) : kvs.length = xs.length := Paired.length h
theorem Kn.keys : ∀ {kvs : List (NestedKey × PyData)} {xs : List (NestedKey × Addr × Value)}, Kn K B H kvs xs → xs.map (·.1) = kvs.map (·.1)
  | _, _, .nil => rfl
  | _, _, .cons r t => by rw [List.map_cons, List.map_cons, r.1, Kn.keys t]
end

mutual
theorem nk_is {P : Program} {w : World} {K : PySem.W.Frag} {B : Mset} {H : Hp} {h : Heap} (hok : HOk P w H h) (KX : K.In h) : ∀ (k : NestedKey) (v : V) (u : Value), Rp K B H v k.data → RelV v u → NestedIs h k u
  | .none, v, u, r, q => by
    rw [NestedKey.data] at r
    cases r
    cases (show u = Value.none from q)
    exact .none
  | .num i, v, u, r, q => by
    rw [NestedKey.data] at r
    cases r
    obtain ⟨t, rfl⟩ := (show ∃ t, u = Value.int i t from q)
    exact .int i t
  | .text x, v, u, r, q => by
    rw [NestedKey.data] at r
    cases r
    obtain ⟨t, rfl⟩ := (show ∃ t, u = Value.str x t from q)
    exact .text x t
  | .tup ks, v, u, r, q => by
    rw [NestedKey.data] at r
    cases r with
    | @tup a xs ds h1 h2 =>
      cases (show u = Value.ref a from q)
      obtain ⟨its, o, n, rv, ho, hc, hd⟩ := sqT_at hok KX h1
      exact .tup ho hc hd (nks_is hok KX ks xs its h2 rv)
theorem nks_is {P : Program} {w : World} {K : PySem.W.Frag} {B : Mset} {H : Hp} {h : Heap} (hok : HOk P w H h) (KX : K.In h) : ∀ (ks : List NestedKey) (vs : List V) (us : List Value), RpA K B H vs (NestedKey.datas ks) → Vals vs us → NestedAll h ks us
  | [], vs, us, r, q => by
    rw [NestedKey.datas] at r
    cases r
    cases q
    exact .nil
  | k :: ks, vs, us, r, q => by
    rw [NestedKey.datas] at r
    cases r with
    | cons r1 r2 =>
      cases q with
      | cons q1 q2 => exact .cons (nk_is hok KX k _ _ r1 q1) (nks_is hok KX ks _ _ r2 q2)
end

section
variable {X : Cx} {pins : List (Addr × Obj)} {σ : St} {H : Hp} {s : Shared} {a : Addr} {A : Around} {E : Value → Shared → Prop} {B : Mset} {kvs : List (NestedKey × PyData)} {k : NestedKey}
theorem room9 (hu : A.units + 9 < cLine) : (nestedKind X.prog X.w).room A.in1 := by
  show A.units + 1 + 8 < cLine
  omega
theorem nk_key (I : Inv X pins σ H s) (hk : NkOk k) {b : Addr} (r : Rp X.K B H (.ref b) k.data) : (nestedKind X.prog X.w).is s.heap k b := ⟨nk_is I.hok I.kIn k _ _ r rfl, hk.1⟩
theorem nk_ref (hk : NkOk k) {y : V} {K : PySem.W.Frag} (r : Rp K B H y k.data) : ∃ b, y = .ref b := by
  obtain ⟨_, _, ks, rfl⟩ := hk
  rw [NestedKey.data] at r
  cases r
  exact ⟨_, rfl⟩
theorem dn_open (I : Inv X pins σ H s) (d : DnAt X.K B H a kvs) : (a == sysModules) = false ∧ kvs.length ≤ sizeLine ∧ (kvs.map (·.1)).Nodup ∧ ∃ xs, s.heap.DictOfH (nestedKind X.prog X.w) a xs ∧ Kn X.K B H kvs xs := by
  rcases d with ⟨rfl, d⟩ | ⟨es, d, r⟩
  · obtain ⟨z, y, vs, r, o, es, ep, e1, e2, e3, e4, e5, e6⟩ := dk_of I.hok d
    refine ⟨y, Nat.zero_le _, List.nodup_nil, [], ⟨o, es, ep, e1, e2, e3, ?_, fun _ h => by simp at h, List.nodup_nil⟩, .nil⟩
    cases r
    cases h : es.toList with
    | nil => rfl
    | cons a b => rw [h] at e5; cases e5
  · obtain ⟨⟨y, z, e1, e2, e3⟩, _⟩ := I.hok a _ d
    obtain ⟨xs, x1, x2⟩ := Kn.of (P := X.prog) (w := X.w) r.ent
    refine ⟨y, by rw [← Paired.length r.ent]; exact z, r.nd, xs, ⟨es.o, es.es.toArray, es.ep, e1, e2, e3, by simpa using x2, ?_, by rw [x1.keys]; exact r.nd⟩, x1⟩
    intro x hx
    have all : ∀ {kvs : List (NestedKey × PyData)} {xs : List (NestedKey × Addr × Value)}, Kn X.K B H kvs xs → ∀ x ∈ xs, NkOk x.1 ∧ Rp X.K B H (.ref x.2.1) x.1.data := by
      intro kvs xs h
      induction h with
      | nil => intro x hx; simp at hx
      | cons r t ih =>
        intro x hx
        rcases List.mem_cons.mp hx with rfl | hx
        · obtain ⟨e1, e2, e3, _⟩ := r
          rw [e1]; exact ⟨e2, e3⟩
        · exact ih x hx
    obtain ⟨h1, h2⟩ := all x1 x hx
    exact nk_key I h1 h2
end

def DGt (K : PySem.W.Frag) (B : Mset) (H : Hp) (a : Addr) (y : V) (o : Option PyData) : Prop :=
  (∃ kvs ws k, H a = some (.dK ws) ∧ KvR K B H ws kvs ∧ y = kV k ∧ o = valD kvs k) ∨ ∃ kvs k, DnAt K B H a kvs ∧ NkOk k ∧ Rp K B H y k.data ∧ o = valN kvs k
section
variable {X : Cx} {pins : List (Addr × Obj)} {σ : St} {H : Hp} {s : Shared} {a : Addr} {A : Around} {E : Value → Shared → Prop} {B : Mset} {y : V} {u : Value} {o : Option PyData}
theorem dg_type (I : Inv X pins σ H s) (g : DGt X.K B H a y o) : s.TypeIs (.ref a) "dict" := by
  rcases g with ⟨kvs, ws, k, e, _⟩ | ⟨kvs, k, e, _⟩
  · obtain ⟨_, _, vs, _, dd⟩ := dk_of I.hok e
    exact dd.typeIs
  · obtain ⟨_, _, _, xs, dd, _⟩ := dn_open I e
    exact dd.typeIs
theorem dg_getItem {z : PyData} {Q : Value → Shared → Prop} (hu : A.units + 9 < cLine) (I : Inv X pins σ H s) (g : DGt X.K B H a y (some z)) (ry : RelV y u)
    (h : ∀ w' s' v, Inv X pins σ H s' → RelV v w' → Rp X.K B H v z → Q w' s') : wpAny (model X.prog X.w) A (getItem (.ref a) u) Q E s := by
  rcases g with ⟨kvs, ws, k, e, r, rfl, l⟩ | ⟨kvs, k, e, hk, rk, l⟩
  · rcases r.val (k := k) with ⟨v, x, h1, h2, h3⟩ | ⟨h1, h2⟩
    · rw [h2] at l; cases l
      exact d_getItem (by omega) I (.inl ⟨ws, k, .inl e, rfl, h1.symm⟩) ry fun w' s' I' rv => h w' s' v I' rv h3
    · rw [h2] at l; cases l
  · obtain ⟨b, rfl⟩ := nk_ref hk rk
    cases (show u = Value.ref b from ry)
    obtain ⟨_, _, _, xs, dd, kn⟩ := dn_open I e
    rcases kn.val (k := k) with ⟨p, v, z', h1, h2, h3, h4⟩ | ⟨h1, h2⟩
    · rw [h2] at l; cases l
      exact wpAny_getItem_heap (room9 hu) (nk_key I hk rk) dd h1 (h _ _ v (I.tok _) h3 h4)
    · rw [h2] at l; cases l
theorem dg_notIn {Q : Value → Shared → Prop} (hu : A.units + 9 < cLine) (I : Inv X pins σ H s) (g : DGt X.K B H a y o) (ry : RelV y u) (h : ∀ s', Inv X pins σ H s' → Q (.bool (!o.isSome)) s') :
    wpAny (model X.prog X.w) A (compareOp .NotIn u (.ref a)) Q E s := by
  rcases g with ⟨kvs, ws, k, e, r, rfl, l⟩ | ⟨kvs, k, e, hk, rk, l⟩
  · refine d_notIn (o := valV ws k) (by omega) I (.inl ⟨ws, k, .inl e, rfl, rfl⟩) ry fun s' I' => ?_
    have e : (valV ws k).isSome = o.isSome := by
      rcases r.val (k := k) with ⟨v, x, z1, z2, _⟩ | ⟨z1, z2⟩
      · rw [l, z1, z2]; rfl
      · rw [l, z1, z2]; rfl
    rw [e]
    exact h s' I'
  · obtain ⟨b, rfl⟩ := nk_ref hk rk
    cases (show u = Value.ref b from ry)
    obtain ⟨ns, _, _, xs, dd, kn⟩ := dn_open I e
    refine PyProof.Rows.wpAny_notIn_heap (room9 hu) (nk_key I hk rk) ns dd ?_
    have e : (atKey xs k).isSome = o.isSome := by
      rcases kn.val (k := k) with ⟨p, v, z', h1, h2, _⟩ | ⟨h1, h2⟩
      · rw [l, h1, h2]; rfl
      · rw [l, h1, h2]; rfl
    rw [e]
    exact h _ (I.tok _)
end
end T3

end
section
set_option linter.all false
set_option autoImplicit false
set_option Elab.async false
namespace T3
open PySem L2
variable [TabL]

def pdOf : R → Option PyData
  | .pd x => some x
  | .nt xs => some (.tuple xs)
  | .tmp _ => none
  | .var _ => none
theorem pdOf_rp {K : PySem.W.Frag} {H₀ : Hp} {B : Mset} {H : Hp} {σ : St} {env : Sl} {v : V} {d : R} {x : PyData} (h : RR K H₀ B H σ env v d) (e : pdOf d = some x) : Rp K B H v x := by
  cases d with
  | pd y => cases e; exact h
  | nt y => cases e; obtain ⟨a, rfl, h⟩ := h; exact h.rp
  | tmp t => cases e
  | var i => cases e
def cGet : Ct → PyData → Option (Option PyData)
  | .dk kvs, y => match key? y with
    | some k => some (valD kvs k)
    | none => match tk? y with
      | some _ => match kvs with
        | [] => some none
        | _ :: _ => none
      | none => none
  | .dn kvs, y => match tk? y with
    | some k => some (valN kvs k)
    | none => none
  | .ls _, _ => none
theorem cGet_ok {K : PySem.W.Frag} {B : Mset} {H : Hp} {a : Addr} {c : Ct} {v : V} {y : PyData} {o : Option PyData} (hc : CtR K B H a c) (r : Rp K B H v y) (e : cGet c y = some o) : DGt K B H a v o := by
  cases c with
  | ls xs => cases e
  | dk kvs =>
    obtain ⟨ws, h1, h2⟩ := hc
    dsimp only [cGet] at e
    split at e
    · rename_i k hk
      cases e
      exact .inl ⟨kvs, ws, k, h1, h2, key_v r hk, rfl⟩
    · split at e
      · rename_i k hk
        split at e
        · cases e
          obtain ⟨k1, k2⟩ := tk_ok hk
          refine .inr ⟨[], k, .inl ⟨rfl, ?_⟩, k1, by rw [k2]; exact r, rfl⟩
          cases h2
          exact h1
        · cases e
      · cases e
  | dn kvs =>
    obtain ⟨es, h1, h2⟩ := hc
    dsimp only [cGet] at e
    split at e
    · rename_i k hk
      cases e
      obtain ⟨k1, k2⟩ := tk_ok hk
      exact .inr ⟨kvs, k, .inr ⟨es, h1, h2⟩, k1, by rw [k2]; exact r, rfl⟩
    · cases e
def dGet (env : Sl) (j : Nat) (y : PyData) : Option (Option PyData) := match env[j]? with
  | some (some (.mu _ c)) => cGet c y
  | _ => none
theorem dGet_ok {K : PySem.W.Frag} {B : Mset} {H : Hp} {σ : St} {env : Sl} {j : Nat} {w v : V} {y : PyData} {o : Option PyData} (en : EnvR K B H σ env) (hx : σ[j]? = some (some w)) (r : Rp K B H v y) (e : dGet env j y = some o) : ∃ a, w = .ref a ∧ DGt K B H a v o := by
  unfold dGet at e
  split at e
  · rename_i m c hm
    obtain ⟨p, g1, g2, g3⟩ := en.mu j _ _ hm
    rw [hx] at g1
    cases g1
    exact ⟨p, rfl, cGet_ok g3 r e⟩
  · cases e
def eDg (fd fk : EE) : EE := fun env => match fd env with
  | some (.var j, e1) => match fk e1 with
    | some (d, e2) => match pdOf d with
      | some y => match dGet e2 j y with
        | some (some z) => some (.pd z, e2)
        | _ => none
      | none => none
    | none => none
  | _ => none
def tDg (K : PySem.W.Frag) (td ty : TE) : TE := fun σ H Q => td σ H fun x H1 => ty σ H1 fun y H2 => ∃ B a z, x = .ref a ∧ DGt K B H2 a y (some z) ∧ ∀ v, Rp K B H2 v z → Q v H2
theorem pe_dg {X : Cx} {o i : Expr} {pos : Pos} {td ty : TE} (hu : X.A.units + 9 < cLine) (ho : PE X o td) (hi : PE X i ty) (hs : NoSl i) : PE X (.Subscript o i pos) (tDg X.K td ty) := by
  refine ⟨fun pins s σ H Q I h => ?_⟩
  refine subD_of PySem.F.slot_dict_getitem.lookup hs (thn (ho.run pins s σ H _ I h) fun u s1 ⟨x, H1, I1, rx, q1⟩ => thn (hi.run pins s1 σ H1 _ I1 q1) fun iv s2 ⟨y, H2, I2, ry, B, a, z, ex, g, q2⟩ => ?_)
  subst ex
  obtain rfl : u = Value.ref a := rx
  exact ⟨dg_type I2 g, dg_getItem hu I2 g ry fun w' s3 v I3 rw' rz => ⟨v, H2, I3, rw', q2 v rz⟩⟩
theorem e_dg {X : Cx} {o i : Expr} {pos : Pos} {fd fk : EE} (hu : X.A.units + 9 < cLine) (ho : PE X o (tE X.K fd)) (hi : PE X i (tE X.K fk)) (hs : NoSl i := by intro _ _; rfl) : PE X (.Subscript o i pos) (tE X.K (eDg fd fk)) := PE.imp (pe_dg hu ho hi hs) fun σ H Q t => by
  obtain ⟨B, env, d, env', en, ev, q⟩ := t
  unfold eDg at ev
  split at ev
  · rename_i j e1 h1
    split at ev
    · rename_i d' e2 h2
      split at ev
      · rename_i y hy
        split at ev
        · rename_i z hz
          cases ev
          refine ⟨B, env, _, _, en, h1, fun B1 H1 w a1 r1 => ⟨B1, e1, _, _, a1.en, h2, fun B2 H2 v a2 r2 => ?_⟩⟩
          obtain ⟨a, rfl, g⟩ := dGet_ok a2.en r1.1 (pdOf_rp r2 hy) hz
          exact ⟨B2, a, z, rfl, g, fun v r => q B2 H2 v (a1.trans en a2) r⟩
        · cases ev
      · cases ev
    · cases ev
  · cases ev
def eDi (neg : Bool) (fk fd : EE) : EE := fun env => match fk env with
  | some (d, e1) => match pdOf d with
    | some y => match fd e1 with
      | some (.var j, e2) => match dGet e2 j y with
        | some o => some (.pd (.bool (if neg = true then !o.isSome else o.isSome)), e2)
        | none => none
      | _ => none
    | none => none
  | none => none
def tDi (K : PySem.W.Frag) (neg : Bool) (ty td : TE) : TE := fun σ H Q => ty σ H fun y H1 => td σ H1 fun x H2 => ∃ B a o, x = .ref a ∧ DGt K B H2 a y o ∧ Q (.bl (if neg = true then !o.isSome else o.isSome)) H2
theorem pc_dni {X : Cx} {i o : Expr} {td ty : TE} (hu : X.A.units + 9 < cLine) (hi : PE X i ty) (ho : PE X o td) : PC X .NotIn i o (tDi X.K true ty td) := by
  refine ⟨fun pins s σ H Q I h => ?_⟩
  refine thn (hi.run pins s σ H _ I h) fun iv s1 ⟨y, H1, I1, ry, q1⟩ => thn (ho.run pins s1 σ H1 _ I1 q1) fun u s2 ⟨x, H2, I2, rx, B, a, ov, ex, g, q2⟩ => ?_
  subst ex
  obtain rfl : u = Value.ref a := rx
  exact dg_notIn hu I2 g ry fun s3 I3 => ⟨.bl (!ov.isSome), H2, I3, rfl, q2⟩
theorem rd_di {K : PySem.W.Frag} {fk fd : EE} {neg : Bool} {σ : St} {H : Hp} {Q : VK} (t : tE K (eDi neg fk fd) σ H Q) : tDi K neg (tE K fk) (tE K fd) σ H Q := by
  obtain ⟨B, env, d, env', en, ev, q⟩ := t
  unfold eDi at ev
  split at ev
  · rename_i d' e1 h1
    split at ev
    · rename_i y hy
      split at ev
      · rename_i j e2 h2
        split at ev
        · rename_i o ho
          cases ev
          refine ⟨B, env, _, _, en, h1, fun B1 H1 v a1 r1 => ⟨B1, e1, _, _, a1.en, h2, fun B2 H2 w a2 r2 => ?_⟩⟩
          obtain ⟨a, rfl, g⟩ := dGet_ok a2.en r2.1 ((pdOf_rp r1 hy).grow (a2.grow a1.en)) ho
          exact ⟨B2, a, o, rfl, g, q B2 H2 _ (a1.trans en a2) (.bl _)⟩
        · cases ev
      · cases ev
    · cases ev
  · cases ev
section
variable {X : Cx} {i o : Expr} {fk fd : EE} {pos : Pos}
theorem y_dni (hu : X.A.units + 9 < cLine) (hi : PE X i (tE X.K fk)) (ho : PE X o (tE X.K fd)) (h1 : behindInMarks .NotIn o = false := by rfl) : PT X (.Compare i [.NotIn] [o] pos) (tT X.K (bT (eDi true fk fd))) := b_of (pt_cmp (pc_dni hu hi ho) h1) fun σ H Q t => rd_di t
end

def cPut : Ct → PyData → PyData → Option Ct
  | .dk kvs, y, x => if kvs.length ≤ 1000000 then match key? y with
    | some k => some (.dk (putD kvs k x))
    | none => match tk? y with
      | some k => match kvs with
        | [] => some (.dn [(k, x)])
        | _ :: _ => none
      | none => none
    else none
  | .dn kvs, y, x => if kvs.length ≤ 1000000 then match tk? y with
    | some k => some (.dn (putN kvs k x))
    | none => none
    else none
  | .ls _, _, _ => none
def rSetD (K : PySem.W.Frag) : TSet := fun o i v H Q => ∃ B a x, o = .ref a ∧ Rp K B H v x ∧
  ((∃ kvs ws k, H a = some (.dK ws) ∧ KvR K B H ws kvs ∧ ws.length < sizeLine ∧ i = kV k ∧ Q (upd H a (.dK (putK ws k v)))) ∨
   ∃ kvs k, DnAt K B H a kvs ∧ NkOk k ∧ Rp K B H i k.data ∧ kvs.length < sizeLine ∧ ∀ es, DnR K B H es (putN kvs k x) → Q (upd H a (DnO a es)))
theorem valN_nd {kvs : List (NestedKey × PyData)} {k : NestedKey} (h : valN kvs k = none) : k ∉ kvs.map (·.1) := by
  unfold valN at h
  rw [Option.map_eq_none_iff, List.find?_eq_none] at h
  intro hm
  obtain ⟨q, h1, h2⟩ := List.mem_map.mp hm
  exact h q h1 (by simp [h2])
theorem putN_nd {kvs : List (NestedKey × PyData)} {k : NestedKey} {x : PyData} (h : (kvs.map (·.1)).Nodup) : ((putN kvs k x).map (·.1)).Nodup := by
  unfold putN
  split
  · have e : (kvs.map fun q => if q.1 = k then (q.1, x) else q).map (·.1) = kvs.map (·.1) := by
      rw [List.map_map]
      refine List.map_congr_left fun q _ => ?_
      show (if q.1 = k then (q.1, x) else q).1 = q.1
      split <;> rfl
    rw [e]; exact h
  · rename_i hn
    have hn' : valN kvs k = none := by
      cases e : valN kvs k with
      | none => rfl
      | some z => rw [e] at hn; exact absurd rfl hn
    rw [List.map_append, List.nodup_append]
    refine ⟨h, by simp, fun a ha b hb => ?_⟩
    simp only [List.map_cons, List.map_nil, List.mem_singleton] at hb
    subst hb
    intro e
    subst e
    exact valN_nd hn' ha
theorem putN_len (kvs : List (NestedKey × PyData)) (k : NestedKey) (x : PyData) : (putN kvs k x).length ≤ kvs.length + 1 := by
  unfold putN
  split <;> simp
theorem dn_put {X : Cx} {pins : List (Addr × Obj)} {σ : St} {H : Hp} {s : Shared} {a : Addr} {A : Around} {E : Value → Shared → Prop} {B : Mset} {kvs : List (NestedKey × PyData)} {k : NestedKey} {i v : V} {iv u : Value} {x : PyData} {Q : Unit → Shared → Prop}
    (hu : A.units + 9 < cLine) (I : Inv X pins σ H s) (d : DnAt X.K B H a kvs) (hk : NkOk k) (rk : Rp X.K B H i k.data) (hl : kvs.length < sizeLine) (ri : RelV i iv) (rv : RelV v u) (rp : Rp X.K B H v x)
    (h : ∀ es s', DnR X.K B H es (putN kvs k x) → Inv X pins σ (upd H a (DnO a es)) s' → Q () s') : wpAny (model X.prog X.w) A (setItem (.ref a) iv u) Q E s := by
  obtain ⟨b, rfl⟩ := nk_ref hk rk
  cases (show iv = Value.ref b from ri)
  obtain ⟨ns, _, nd, xs, dd, kn⟩ := dn_open I d
  have mu : Mut (H a) := by
    rcases d with ⟨_, d⟩ | ⟨es, d, _⟩
    · rw [d]; exact True.intro
    · rw [d]; exact True.intro
  refine wpAny_setItem_heap (hsz := by rw [← kn.len]; omega) (room9 hu) (nk_key I hk rk) dd fun h' dd' hs => ?_
  have kn' := kn.put hk rk rv rp
  obtain ⟨q, es, ep, hq, h2, h3, h4, _, h5⟩ := dd'
  refine h ⟨q, ep, (storedH xs k b u).map (entryOfKey (nestedKind X.prog X.w))⟩ _ ⟨kn'.dn, putN_nd nd⟩ (d_write I mu hs ⟨q, hq⟩ ⟨⟨ns, ?_, hq, h2, ?_⟩, ⟨q, hq⟩, fun h1 h2 ⟨z1, z2, z3, z4, z5⟩ st => ⟨z1, z2, st _ z3, z4, z5⟩⟩)
  · dsimp only
    rw [List.length_map, ← kn'.len]
    have := putN_len kvs k x
    omega
  · dsimp only
    rw [← h4, Array.toArray_toList]; exact h3
theorem set_dict {X : Cx} (hu : X.A.units + 9 < cLine) : PSet X (rSetD X.K) := by
  intro pins s σ H o i v ov iv u Q I ro ri rv h
  obtain ⟨B, a, x, rfl, rp, h⟩ := h
  cases (show ov = Value.ref a from ro)
  rcases h with ⟨kvs, ws, k, h1, h2, h3, rfl, q⟩ | ⟨kvs, k, h1, h2, h3, h4, q⟩
  · exact d_setItem (by omega) I (.inl ⟨ws, k, h1, rfl, h3, rfl⟩) ri rv fun s4 I4 => ⟨_, I4, q⟩
  · exact dn_put hu I h1 h2 h3 h4 ri rv rp fun es s' r I' => ⟨_, I', q es r⟩
def dPut (env : Sl) (j : Nat) (y x : PyData) : Option Sl := match env[j]? with
  | some (some (.mu m c)) => if m = .fro then none else match cPut c y x with
    | some c' => some (env.set j (some (.mu m c')))
    | none => none
  | _ => none
theorem lt_line {n : Nat} (h : n ≤ 1000000) : n < sizeLine := small h
theorem dPut_ok {K : PySem.W.Frag} {B : Mset} {H : Hp} {σ : St} {env env' : Sl} {j : Nat} {w v i : V} {y x : PyData} {Q : Hp → Prop} (en : EnvR K B H σ env) (hx : σ[j]? = some (some w)) (ry : Rp K B H i y) (rx : Rp K B H v x) (e : dPut env j y x = some env')
    (q : ∀ B' H', At K σ B H env B' H' env' → Q H') : rSetD K w i v H Q := by
  unfold dPut at e
  split at e
  · rename_i m c hm
    split at e
    · cases e
    rename_i hf
    split at e
    · rename_i c' hc
      cases e
      obtain ⟨p, g1, g2, g3⟩ := en.mu j _ _ hm
      rw [hx] at g1
      cases g1
      refine ⟨B, p, x, rfl, rx, ?_⟩
      cases c with
      | ls xs => cases hc
      | dk kvs =>
        obtain ⟨ws, g4, g5⟩ := g3
        dsimp only [cPut] at hc
        split at hc
        · rename_i hl
          split at hc
          · rename_i k hk
            cases hc
            refine .inl ⟨kvs, ws, k, g4, g5, by rw [g5.len]; exact lt_line hl, key_v ry hk, ?_⟩
            obtain ⟨gw, aw⟩ := AtS.write (o := .dK (putK ws k v)) (c' := .dk (putD kvs k x)) en hm hf hx (fun o' h' im => by rw [g4] at h'; cases h'; exact im) (fun H' _ h1 g' => ⟨_, h1, (g5.put rx).grow g'⟩)
            exact q _ _ aw
          · split at hc
            · rename_i k hk
              split at hc
              · cases hc
                cases g5
                obtain ⟨k1, k2⟩ := tk_ok hk
                refine .inr ⟨[], k, .inl ⟨rfl, g4⟩, k1, by rw [k2]; exact ry, by simpa using lt_line (n := 0) (by omega), fun es r => ?_⟩
                obtain ⟨gw, aw⟩ := AtS.write (o := DnO p es) (c' := .dn [(k, x)]) en hm hf hx (fun o' h' im => by rw [g4] at h'; cases h'; exact im) (fun H' _ h1 g' => ⟨es, h1, DnR.grow g' r⟩)
                exact q _ _ aw
              · cases hc
            · cases hc
        · cases hc
      | dn kvs =>
        obtain ⟨es, g4, g5⟩ := g3
        dsimp only [cPut] at hc
        split at hc
        · rename_i hl
          split at hc
          · rename_i k hk
            cases hc
            obtain ⟨k1, k2⟩ := tk_ok hk
            refine .inr ⟨kvs, k, .inr ⟨es, g4, g5⟩, k1, by rw [k2]; exact ry, lt_line hl, fun es' r => ?_⟩
            obtain ⟨gw, aw⟩ := AtS.write (o := DnO p es') (c' := .dn (putN kvs k x)) en hm hf hx (fun o' h' im => by rw [g4] at h'; cases h'; exact im) (fun H' _ h1 g' => ⟨es', h1, DnR.grow g' r⟩)
            exact q _ _ aw
          · cases hc
        · cases hc
    · cases e
  · cases e
def gDs (fo fi : EE) : GG := fun x env => match fo env with
  | some (.var j, e1) => match fi e1 with
    | some (d, e2) => match pdOf d with
      | some y => dPut e2 j y x
      | none => none
    | none => none
  | _ => none
theorem rd_gDs {K : PySem.W.Frag} {fo fi : EE} {v : V} {σ : St} {H : Hp} {Q : St → Hp → Prop} (h : tG K (gDs fo fi) v σ H Q) : gSub (tE K fo) (tE K fi) (rSetD K) v σ H Q := by
  obtain ⟨B, env, x, env', en, r, ev, q⟩ := h
  unfold gDs at ev
  split at ev
  · rename_i j e1 h1
    split at ev
    · rename_i d e2 h2
      split at ev
      · rename_i y hy
        refine ⟨B, env, _, _, en, h1, fun B1 H1 o a1 r1 => ⟨B1, e1, _, _, a1.en, h2, fun B2 H2 w a2 r2 => ?_⟩⟩
        have a12 := a1.trans en a2
        exact dPut_ok a2.en r1.1 (pdOf_rp r2 hy) (r.grow (a12.grow en)) ev fun B' H' a => q _ _ _ ((a12.trans en a).s)
      · cases ev
    · cases ev
  · cases ev
theorem g_dsub {X : Cx} {o i : Expr} {pos : Pos} {fo fi : EE} (hu : X.A.units + 9 < cLine) (ho : PE X o (tE X.K fo)) (hi : PE X i (tE X.K fi))
    (ha : ∀ v, assign (.Subscript o i pos) X.env v = (do
      let ov ← holding [v] (eval o X.env)
      let iv ← holding [v, ov] (eval i X.env)
      standAt pos
      holding [v, ov, iv] (setItem ov iv v)
      release [v, ov, iv] []) := by intro _; rfl) : PG X (.Subscript o i pos) (tG X.K (gDs fo fi)) := PG.imp (pg_sub ho hi (set_dict hu) ha) fun _ _ _ _ t => rd_gDs t
theorem u9 {k : Nat} {A : Around} (r : Room k A) : A.units + 9 < cLine := by have := r.un; omega
end T3

end
section
set_option linter.all false
set_option autoImplicit false
set_option Elab.async false
set_option maxRecDepth 100000
set_option maxHeartbeats 2000000
namespace ZL
open PySem
section
variable {P : Program} {w : World} {A : Around} {E : Value → Shared → Prop} {s : Shared} {z TI TO T i1 i2 l1 l2 : Addr} {f : Bool} {oT : Obj} {m n : Nat} {xs ys : Array Value} {x y : Value}
theorem ZS.keep {k : Nat} {S : Addr} {h h' : Heap} (g : ZS z TI TO i1 i2 l1 l2 S xs ys k h) (d : S ≠ z ∧ S ≠ TI ∧ S ≠ TO ∧ S ≠ i1 ∧ S ≠ i2 ∧ S ≠ l1 ∧ S ≠ l2) (kp : ∀ b o, b ≠ S → h.get? b = some o → h'.get? b = some o) : ZS z TI TO i1 i2 l1 l2 S xs ys k h' := by
  obtain ⟨g1, g2, g3, g4, g5, g6⟩ := g
  obtain ⟨d1, d2, d3, d4, d5, d6, d7⟩ := d
  refine ⟨kp _ _ d2.symm g1, g2.at fun o e => kp _ o d4.symm e, g3.at fun o e => kp _ o d5.symm e, g4.at fun o e => kp _ o d6.symm e, g5.at fun o e => kp _ o d7.symm e, ?_⟩
  rcases g6 with ⟨h1, a, b, h2⟩ | ⟨T, f, oT, h1, h2, r1, r2, r3, r4⟩
  · exact .inl ⟨kp _ _ d1.symm h1, a, b, kp _ _ d3.symm h2⟩
  · exact .inr ⟨T, f, oT, kp _ _ d1.symm h1, kp _ _ r4 h2, r1, r2, r3, r4⟩
end

structure Mk (xs ys : Array Value) (lo : Addr) (h : Heap) (as : List Addr) : Prop where
  rise : as.Pairwise (· < ·)
  above : ∀ a ∈ as, lo < a
  pairs : ∀ (j : Nat) (a : Addr), as[j]? = some a → ∃ x y, xs[j]? = some x ∧ ys[j]? = some y ∧ IsPair h a x y
section
variable {P : Program} {w : World} {A : Around} {s : Shared} {R : Result → Shared → Prop} {z TI TO i1 i2 l1 l2 S : Addr} {xs ys : Array Value}
end
section
variable {P : Program} {w : World} {A : Around} {E : Value → Shared → Prop} {s : Shared} {z TI TO i1 i2 l1 l2 : Addr} {xs ys : Array Value}
end
end ZL

end
section
set_option linter.all false
set_option autoImplicit false
set_option Elab.async false
set_option maxRecDepth 100000
namespace T3
open PySem L2
variable [TabL]
end T3

end
section
set_option linter.all false
set_option autoImplicit false
set_option Elab.async false
set_option maxRecDepth 100000
namespace T3
open PySem L2
variable [TabL]
def allN (kvs : List (NestedKey × PyData)) : List (NestedKey × PyData) := kvs.foldl (fun acc q => putN acc q.1 q.2) []
theorem Kn.all {K : PySem.W.Frag} {B : Mset} {H : Hp} : ∀ {more : List (NestedKey × PyData)} {rs : List (NestedKey × Addr × Value)} {kvs : List (NestedKey × PyData)} {xs : List (NestedKey × Addr × Value)}, Kn K B H more rs → Kn K B H kvs xs → (kvs.map (·.1)).Nodup →
    Kn K B H (more.foldl (fun acc q => putN acc q.1 q.2) kvs) (storedAllH xs rs) ∧ ((more.foldl (fun acc q => putN acc q.1 q.2) kvs).map (·.1)).Nodup
  | _, _, _, _, .nil, k, nd => ⟨k, nd⟩
  | _, _, _, _, .cons (a := q) (b := x) r t, k, nd => by
    obtain ⟨e1, e2, e3, v, e4, e5⟩ := r
    have k' := k.put e2 e3 e4 e5
    rw [← e1] at k'
    have := Kn.all t (by rw [e1] at k'; exact k') (putN_nd (k := q.1) (x := q.2) nd)
    unfold storedAllH at this ⊢
    rw [List.foldl_cons, List.foldl_cons, e1]
    exact this
theorem putAll_len : ∀ (more kvs : List (NestedKey × PyData)), (more.foldl (fun acc q => putN acc q.1 q.2) kvs).length ≤ kvs.length + more.length
  | [], kvs => by simp
  | q :: more, kvs => by
    have h1 := putAll_len more (putN kvs q.1 q.2)
    have h2 := putN_len kvs q.1 q.2
    rw [List.foldl_cons, List.length_cons]
    omega
end T3

end
section
set_option linter.all false
set_option autoImplicit false
set_option Elab.async false
namespace T3
open PySem L2
variable [TabL]
def setAll : List Nat → List R → Sl → Option Sl
  | [], [], e => some e
  | i :: is, d :: ds, e => match setR i d e with
    | none => none
    | some e2 => setAll is ds e2
  | _, _, _ => none
def sParN (is : List Nat) (f : EA) : SS := fun env => match f env with
  | none => none
  | some (ds, e) => if ds.length ≤ 1000 then match setAll is ds e with
      | none => none
      | some e2 => some (.nx, e2)
    else none
@[simp] theorem z_setAll0 (e : Sl) : setAll [] [] e = some e := rfl
@[simp] theorem z_setAll1 (i : Nat) (is : List Nat) (d : R) (ds : List R) (e : Sl) : setAll (i :: is) (d :: ds) e = (match setR i d e with
    | none => none
    | some e2 => setAll is ds e2) := rfl
@[simp] theorem z_parN (is : List Nat) (f : EA) (env : Sl) : sParN is f env = (match f env with
  | none => none
  | some (ds, e) => if ds.length ≤ 1000 then match setAll is ds e with
      | none => none
      | some e2 => some (.nx, e2)
    else none) := rfl
def gNs : List Nat → TGs
  | [] => gNil
  | i :: is => gCons (gName i) (gNs is)
theorem setAll_nv : ∀ {is : List Nat} {ds : List R} {e e' : Sl}, setAll is ds e = some e' → ds.length = is.length ∧ ∀ d ∈ ds, ∀ k, d ≠ .var k
  | [], [], _, _, _ => ⟨rfl, fun d h => by simp at h⟩
  | [], _ :: _, _, _, h => by cases h
  | _ :: _, [], _, _, h => by cases h
  | i :: is, d :: ds, e, e', h => by
    rw [z_setAll1] at h
    split at h
    · cases h
    rename_i e2 h2
    obtain ⟨l, n⟩ := setAll_nv h
    refine ⟨by simp [l], fun x hx k => ?_⟩
    rcases List.mem_cons.mp hx with rfl | hx
    · exact setR_nv h2 k
    · exact n x hx k
theorem rd_names {K : PySem.W.Frag} {σ₀ : St} {B₀ B1 : Mset} {H₀ H1 : Hp} {env e' : Sl} {Q : St → Hp → Prop} (en : EnvR K B₀ H₀ σ₀ env) : ∀ {is : List Nat} {ds : List R} {vs : List V} {e : Sl} {σ : St}, AtS K σ₀ B₀ H₀ env σ B1 H1 e → RRA K H₀ B1 H1 σ e vs ds → setAll is ds e = some e' →
    (∀ σ', AtS K σ₀ B₀ H₀ env σ' B1 H1 e' → Q σ' H1) → gNs is vs σ H1 Q
  | [], [], vs, e, σ, a, r, h, q => by
    cases h
    have := r.len
    cases vs with
    | nil => exact ⟨rfl, q σ a⟩
    | cons _ _ => simp at this
  | [], _ :: _, _, _, _, _, _, h, _ => by cases h
  | _ :: _, [], _, _, _, _, _, h, _ => by cases h
  | i :: is, d :: ds, vs, e, σ, a, r, h, q => by
    rw [z_setAll1] at h
    split at h
    · cases h
    rename_i e2 h2
    have nv := (setAll_nv h).2
    cases vs with
    | nil => have := r.len; simp at this
    | cons v vs =>
      have hl : i < σ.length := by rw [← a.en.len]; exact setR_lt h2
      refine ⟨v, vs, rfl, ?_⟩
      show gNs is vs (σ.set i (some v)) H1 Q
      refine rd_names en (AtS.set en a (r.each 0 v d rfl rfl) h2) ⟨by have := r.len; simpa using this, fun k w d' hw hd => ?_, fun k l c c' w h0 h1 h2 h3 h4 => r.apart (k + 1) (l + 1) c c' w (by omega) (by simpa using h1) (by simpa using h2) (by simpa using h3) (by simpa using h4)⟩ h q
      refine RA.set h2 hl (r.each (k + 1) w d' (by simpa using hw) (by simpa using hd)) (fun c c' z1 z2 z3 => ?_) (nv d' (List.mem_of_getElem? hd))
      subst z1 z2 z3
      exact r.apart 0 (k + 1) c c' v (by omega) rfl (by simpa using hd) rfl (by simpa using hw)
theorem rd_parN {K : PySem.W.Frag} {is : List Nat} {f : EA} {D : Ends} {σ : St} {H : Hp} (h : tS K (sParN is f) D σ H) : tAsg (tTup (tA K f)) (gTup K is.length (gNs is)) D σ H := by
  obtain ⟨B, env, fl, env', en, ev, q⟩ := h
  unfold sParN at ev
  split at ev
  · cases ev
  rename_i ds e1 h1
  split at ev
  · rename_i hl
    split at ev
    · cases ev
    rename_i e2 h2
    cases ev
    refine ⟨B, env, ds, e1, en, h1, fun B1 H1 vs a1 r1 => ⟨by rw [r1.len]; exact Nat.le_of_lt (small1000 hl), fun p np => ?_⟩⟩
    obtain ⟨g, a2⟩ := a1.alloc en np (.tup vs) False (fun _ => False) (fun _ f => f.elim)
    obtain ⟨_, a3⟩ := (At.refl a1.en).alloc a1.en np (.tup vs) False (fun _ => False) (fun _ f => f.elim)
    refine ⟨p, vs, rfl, .inl (.inl upd_same), by rw [r1.len]; exact (setAll_nv h2).1, ?_⟩
    refine rd_names en a2.s ⟨r1.len, fun k v d hv hd => (r1.each k v d hv hd).later a1.en a3, r1.apart⟩ h2 fun σ' a' => q _ _ _ a'
  · cases ev
section
variable {X : Cx} {es : List Expr} {pos : Pos}
theorem ns_nil : PGs X [] (gNs []) := pgs_nil
theorem ns_cons {e : Expr} {i : Nat} {is : List Nat} (h1 : PG X e (gName i)) (h2 : PGs X es (gNs is)) (hs : (assignEach (e :: es) X.env).map (·.2) = assign e X.env :: (assignEach es X.env).map (·.2) := by rfl) : PGs X (e :: es) (gNs (i :: is)) := pgs_cons h1 h2 hs
theorem s_parN {ts : List Expr} {k k2 : Nat} {p p2 : Pos} {is : List Nat} {f : EA} (hc : X.calm = true) (ha : PA X es (tA X.K f)) (hg : PGs X ts (gNs is)) (hn : (assignEach ts X.env).length = is.length := by rfl) (hst : (assignEach ts X.env).findIdx? (·.1) = none := by rfl)
    (hs : swapsWithSole [.Tuple ts k p] (.Tuple es k2 p2) pos.line X.env = pure false := by rfl) (hw : swappedStores [.Tuple ts k p] (.Tuple es k2 p2) X.env = pure none := by rfl)
    (h1 : (assignEach [.Tuple ts k p] X.env).map (·.2) = [assign (.Tuple ts k p) X.env] := by rfl) : PS X (.Assign [.Tuple ts k p] (.Tuple es k2 p2) pos) (tS X.K (sParN is f)) :=
  PS.imp (ps_asg (pe_tup ha) (pg_tup hc hg hn hst) hs hw h1) fun _ _ _ t => rd_parN t
end
end T3

end
section
set_option linter.all false
set_option autoImplicit false
set_option Elab.async false
set_option maxRecDepth 100000
namespace T3
open PySem L2
variable [TabL]
abbrev EPs := List (EE × EE)
def ePairs : EPs → Sl → Option (List (PyData × PyData) × Sl)
  | [], env => some ([], env)
  | p :: r, env => match p.1 env with
    | none => none
    | some (dk, e1) => match pdOf dk with
      | none => none
      | some k => match p.2 e1 with
        | none => none
        | some (dv, e2) => match pdOf dv with
          | none => none
          | some v => match ePairs r e2 with
            | none => none
            | some (ps, e3) => some ((k, v) :: ps, e3)
@[simp] theorem z_ePairs0 (env : Sl) : ePairs [] env = some ([], env) := rfl
@[simp] theorem z_ePairs1 (p : EE × EE) (r : EPs) (env : Sl) : ePairs (p :: r) env = (match p.1 env with
    | none => none
    | some (dk, e1) => match pdOf dk with
      | none => none
      | some k => match p.2 e1 with
        | none => none
        | some (dv, e2) => match pdOf dv with
          | none => none
          | some v => match ePairs r e2 with
            | none => none
            | some (ps, e3) => some ((k, v) :: ps, e3)) := rfl
def PrR (K : PySem.W.Frag) (B : Mset) (H : Hp) : List (V × V) → List (PyData × PyData) → Prop := Paired fun p q => Rp K B H p.1 q.1 ∧ Rp K B H p.2 q.2
def trsOf (K : PySem.W.Frag) (ps : EPs) : List (TE × TE) := ps.map fun p => (tE K p.1, tE K p.2)
theorem rd_pairs {K : PySem.W.Frag} : ∀ {ps : EPs} {σ : St} {H : Hp} {B : Mset} {env env' : Sl} {ds : List (PyData × PyData)} {Q : List (V × V) → Hp → Prop}, EnvR K B H σ env → ePairs ps env = some (ds, env') →
    (∀ B' H' vs, At K σ B H env B' H' env' → PrR K B' H' vs ds → Q vs H') → tPairs (trsOf K ps) σ H Q
  | [], σ, H, B, env, env', ds, Q, en, ev, q => by
    cases ev
    exact q B H [] (.refl en) .nil
  | p :: r, σ, H, B, env, env', ds, Q, en, ev, q => by
    rw [z_ePairs1] at ev
    split at ev
    · cases ev
    rename_i dk e1 h1
    split at ev
    · cases ev
    rename_i k hk
    split at ev
    · cases ev
    rename_i dv e2 h2
    split at ev
    · cases ev
    rename_i v hv
    split at ev
    · cases ev
    rename_i ps' e3 h3
    cases ev
    refine ⟨B, env, dk, e1, en, h1, fun B1 H1 x a1 r1 => ⟨B1, e1, dv, e2, a1.en, h2, fun B2 H2 y a2 r2 => ?_⟩⟩
    have a12 := a1.trans en a2
    refine rd_pairs a2.en h3 fun B3 H3 vs a3 r3 => q B3 H3 _ (a12.trans en a3) (.cons ⟨?_, ?_⟩ r3)
    · exact ((pdOf_rp r1 hk).grow (a2.grow a1.en)).grow (a3.grow a2.en)
    · exact (pdOf_rp r2 hv).grow (a3.grow a2.en)
theorem At.put {K : PySem.W.Frag} {σ : St} {B B2 : Mset} {H H2 : Hp} {env env2 : Sl} {p : Addr} {o0 o : HO} (en : EnvR K B H σ env) (a : At K σ B H env B2 H2 env2) (hp : H p = none) (bp : B2 p) (h0 : H2 p = some o0) (ni : ¬ Imm o0)
    (ns : ∀ (i : Nat) m d, env2[i]? = some (some (S.mu m d)) → σ[i]? ≠ some (some (V.ref p))) : Grow B2 H2 B2 (upd H2 p o) ∧ At K σ B H env B2 (upd H2 p o) env2 := by
  have g : Grow B2 H2 B2 (upd H2 p o) := ⟨fun q o' h n => by
    by_cases e : q = p
    · subst e
      rcases n with n | n
      · exact absurd bp n.1
      · rw [h0] at h; cases h; exact absurd n ni
    · rw [upd_ne e]; exact h, fun q h => .inl h⟩
  refine ⟨g, ⟨fun q o' h n => ?_, a.st.new, a.st.old, a.st.sub, fun q h => ?_⟩, ⟨a.en.len, fun i x h => ?_, fun i x h => ?_, fun i m d h => ?_, a.en.inj, fun q h => ?_, a.en.tb.on (fun q o' h n => by rw [upd_ne (fun e => n (by rw [e]; exact bp))]; exact h) g.new⟩, a.sm, a.ks⟩
  · have e : q ≠ p := fun z => by rw [z, hp] at h; cases h
    rw [upd_ne e]; exact a.st.keep q o' h n
  · by_cases e : q = p
    · rw [e]; exact hp
    · rw [upd_ne e] at h; exact a.st.liv q h
  · obtain ⟨v, h1, h2⟩ := a.en.pd i x h
    exact ⟨v, h1, h2.grow g⟩
  · obtain ⟨v, h1, h2⟩ := a.en.nt i x h
    exact ⟨v, h1, h2.grow g⟩
  · obtain ⟨b, h1, h2, h3⟩ := a.en.mu i m d h
    have nb : b ≠ p := fun z => ns i m d h (z ▸ h1)
    refine ⟨b, h1, h2, ?_⟩
    cases d with
    | ls xs => obtain ⟨vs, h4, h5⟩ := h3; exact ⟨vs, by rw [upd_ne nb]; exact h4, h5.grow g⟩
    | dk xs => obtain ⟨vs, h4, h5⟩ := h3; exact ⟨vs, by rw [upd_ne nb]; exact h4, h5.grow g⟩
    | dn xs => obtain ⟨vs, h4, h5⟩ := h3; exact ⟨vs, by rw [upd_ne nb]; exact h4, h5.grow g⟩
  · by_cases e : q = p
    · subst e; exact ⟨o, upd_same⟩
    · rw [upd_ne e]; exact a.en.dom q h
def keysK : List (PyData × PyData) → Option (List (Key × PyData))
  | [] => some []
  | p :: ps => match key? p.1 with
    | none => none
    | some k => match keysK ps with
      | none => none
      | some r => some ((k, p.2) :: r)
def keysN : List (PyData × PyData) → Option (List (NestedKey × PyData))
  | [] => some []
  | p :: ps => match tk? p.1 with
    | none => none
    | some k => match keysN ps with
      | none => none
      | some r => some ((k, p.2) :: r)
def allK (kvs : List (Key × PyData)) : List (Key × PyData) := kvs.foldl (fun acc q => putD acc q.1 q.2) []
theorem KvR.merge {K : PySem.W.Frag} {B : Mset} {H : Hp} : ∀ {more : List (Key × V)} {ms : List (Key × PyData)} {ws : List (Key × V)} {kvs : List (Key × PyData)}, KvR K B H more ms → KvR K B H ws kvs → KvR K B H (mergeK ws more) (ms.foldl (fun acc q => putD acc q.1 q.2) kvs)
  | _, _, _, _, .nil, r => r
  | _, _, _, _, .cons (a := p) (b := q) h t, r => by
    have := r.put (k := q.1) h.2
    unfold mergeK
    rw [List.foldl_cons, List.foldl_cons, h.1]
    exact KvR.merge t this
theorem keysK_ok {K : PySem.W.Frag} {B : Mset} {H : Hp} : ∀ {vs : List (V × V)} {ds : List (PyData × PyData)} {kvs : List (Key × PyData)}, PrR K B H vs ds → keysK ds = some kvs → ∃ ws : List (Key × V), vs = ws.map (fun kv => (kV kv.1, kv.2)) ∧ KvR K B H ws kvs
  | _, _, kvs, .nil, e => by cases e; exact ⟨[], rfl, .nil⟩
  | _, _, kvs, .cons (a := p) (b := q) r t, e => by
    unfold keysK at e
    split at e
    · cases e
    rename_i k hk
    split at e
    · cases e
    rename_i r' hr
    cases e
    obtain ⟨ws, h1, h2⟩ := keysK_ok t hr
    refine ⟨(k, p.2) :: ws, ?_, .cons ⟨rfl, r.2⟩ h2⟩
    rw [List.map_cons, ← h1, ← key_v r.1 hk]
theorem keysN_ok {K : PySem.W.Frag} {B : Mset} {H : Hp} : ∀ {vs : List (V × V)} {ds : List (PyData × PyData)} {kvs : List (NestedKey × PyData)}, PrR K B H vs ds → keysN ds = some kvs → Paired (fun (p : V × V) (q : NestedKey × PyData) => NkOk q.1 ∧ Rp K B H p.1 q.1.data ∧ Rp K B H p.2 q.2) vs kvs
  | _, _, kvs, .nil, e => by cases e; exact .nil
  | _, _, kvs, .cons (a := p) (b := q) r t, e => by
    unfold keysN at e
    split at e
    · cases e
    rename_i k hk
    split at e
    · cases e
    rename_i r' hr
    cases e
    obtain ⟨h1, h2⟩ := tk_ok hk
    exact .cons ⟨h1, by rw [h2]; exact r.1, r.2⟩ (keysN_ok t hr)
def tDispN (K : PySem.W.Frag) (trs : List (TE × TE)) : TE := fun σ H Q => ∀ p, H p = none → tPairs trs σ (upd H p (.dK [])) fun ps H2 => H2 p = some (.dK []) ∧ ∃ B kvs, Paired (fun (p : V × V) (q : NestedKey × PyData) => NkOk q.1 ∧ Rp K B H2 p.1 q.1.data ∧ Rp K B H2 p.2 q.2) ps kvs ∧ kvs.length ≤ 15 ∧
  ∀ es, DnR K B H2 es (allN kvs) → Q (.ref p) (upd H2 p (DnO p es))
theorem carr_of {X : Cx} {pins : List (Addr × Obj)} {σ : St} {H : Hp} {s : Shared} {B : Mset} (I : Inv X pins σ H s) : ∀ {ps : List (V × V)} {ws : List (Value × Value)} {kvs : List (NestedKey × PyData)}, VV ps ws → Paired (fun (p : V × V) (q : NestedKey × PyData) => NkOk q.1 ∧ Rp X.K B H p.1 q.1.data ∧ Rp X.K B H p.2 q.2) ps kvs →
    ∃ xs, CarriesH (nestedKind X.prog X.w) s.heap ws xs ∧ Kn X.K B H kvs xs
  | _, _, _, .nil, .nil => ⟨[], True.intro, .nil⟩
  | _, _, _, .cons (a := p) (b := u) r t, .cons (b := q) h t' => by
    obtain ⟨xs, h1, h2⟩ := carr_of I t t'
    obtain ⟨k1, k2, k3⟩ := h
    obtain ⟨b, eb⟩ := nk_ref k1 k2
    obtain ⟨u1, u2⟩ := u
    have e1 : u1 = Value.ref b := by have := r.1; rw [eb] at this; exact this
    subst e1
    rw [eb] at k2
    exact ⟨(q.1, b, u2) :: xs, ⟨rfl, rfl, nk_key I k1 k2, h1⟩, .cons ⟨rfl, k1, k2, p.2, r.2, k3⟩ h2⟩
theorem pe_dispN {X : Cx} {pos : Pos} {keys : List (Option Expr)} {values : List Expr} {trs : List (TE × TE)} (hu : X.A.units + 9 < cLine) (h : PPs X pos keys values trs) (hall : keys.all (·.isSome) = true) (hl : keys.length = values.length) (h0 : keys ≠ [])
    (h15 : keys.length ≤ 15) : PE X (.Dict keys values pos) (tDispN X.K trs) := by
  refine ⟨fun pins s σ H Q I q => ?_⟩
  have hn := I.hok.fresh (Nat.le_refl s.heap.objs.size)
  have I1 := I.laid (a := s.heap.objs.size) (o := .dK []) (h' := s.heap.push { cls := .type "dict", data := .dict #[] }) (t' := s.toks) (fun _ _ q => Heap.get?_push_of_some _ q) (Nat.le_refl _) (dk_empty s.heap I.big)
  have hlen := pairTrees_length keys values X.env pos hall hl
  have hne : pairTrees keys values X.env pos ≠ [] := fun he => by
    rw [he] at hlen
    exact h0 (List.length_eq_zero_iff.mp hlen.symm)
  rw [arm_eval_Dict, zip_pairTrees keys values X.env pos hall hl, dictDisplay_pairs _ hne (by rw [hlen]; omega)]
  refine wpAny_bind (wpAny_standAt (wpAny_bind (wpAny_subDictH (knd := nestedKind X.prog X.w) (show X.A.units + 8 < cLine by omega) (by rw [hlen]; exact h15) (thn (h.run pins _ σ _ _ I1 (q _ hn)) fun ws s2 ⟨ps, H2, I2, rel, e, B, kvs, hp, h16, q2⟩ => ?_))))
  obtain ⟨xs, hc, hk⟩ := carr_of I2 rel hp
  obtain ⟨ns, _, _, xs0, dd, kn0⟩ := dn_open I2 (.inl ⟨rfl, e⟩ : DnAt X.K B H2 s.heap.objs.size [])
  cases kn0
  refine ⟨xs, hc, dd, fun h' tk dd' hs => wpAny_pure ?_⟩
  obtain ⟨kn, nd⟩ := Kn.all hk (.nil : Kn X.K B H2 [] []) (by simp)
  obtain ⟨q', es, ep, hq', h2, h3, h4, _, h5⟩ := dd'
  refine ⟨.ref s.heap.objs.size, _, d_write (t' := tk) (ob := DnO s.heap.objs.size ⟨q', ep, (storedAllH [] xs).map (entryOfKey (nestedKind X.prog X.w))⟩) I2 (by rw [e]; exact True.intro) hs ⟨q', hq'⟩ ⟨⟨ns, ?_, hq', h2, ?_⟩, ⟨q', hq'⟩, fun g1 g2 ⟨z1, z2, z3, z4, z5⟩ st => ⟨z1, z2, st _ z3, z4, z5⟩⟩, rfl, q2 _ ⟨kn.dn, nd⟩⟩
  · dsimp only
    rw [List.length_map, ← kn.len]
    have h1 := putAll_len kvs []
    simp only [List.length_nil, Nat.zero_add] at h1
    rw [sizeLine_eq]
    omega
  · dsimp only
    rw [← h4, Array.toArray_toList]; exact h3
def eDisp (ps : EPs) : EE := fun env => match ePairs ps env with
  | none => none
  | some (ds, e1) => if ds.length ≤ 15 then match keysK ds with
      | some kvs => some (.tmp (.dk (allK kvs)), e1)
      | none => match keysN ds with
        | some kvs => some (.tmp (.dn (allN kvs)), e1)
        | none => none
    else none
@[simp] theorem z_disp (ps : EPs) (env : Sl) : eDisp ps env = (match ePairs ps env with
  | none => none
  | some (ds, e1) => if ds.length ≤ 15 then match keysK ds with
      | some kvs => some (.tmp (.dk (allK kvs)), e1)
      | none => match keysN ds with
        | some kvs => some (.tmp (.dn (allN kvs)), e1)
        | none => none
    else none) := rfl
theorem keysK_len : ∀ {ds : List (PyData × PyData)} {kvs : List (Key × PyData)}, keysK ds = some kvs → kvs.length = ds.length
  | [], _, e => by cases e; rfl
  | p :: ds, kvs, e => by
    unfold keysK at e
    split at e
    · cases e
    split at e
    · cases e
    rename_i r hr
    cases e
    simp [keysK_len hr]
theorem keysN_len : ∀ {ds : List (PyData × PyData)} {kvs : List (NestedKey × PyData)}, keysN ds = some kvs → kvs.length = ds.length
  | [], _, e => by cases e; rfl
  | p :: ds, kvs, e => by
    unfold keysN at e
    split at e
    · cases e
    split at e
    · cases e
    rename_i r hr
    cases e
    simp [keysN_len hr]
theorem e_disp {X : Cx} {pos : Pos} {keys : List (Option Expr)} {values : List Expr} {ps : EPs} (hu : X.A.units + 9 < cLine) (h : PPs X pos keys values (trsOf X.K ps)) (hall : keys.all (·.isSome) = true := by rfl) (hl : keys.length = values.length := by rfl) (h0 : keys ≠ [] := by decide)
    (h15 : keys.length ≤ 15 := by decide) : PE X (.Dict keys values pos) (tE X.K (eDisp ps)) := by
  refine ⟨fun pins s σ H Q I t => ?_⟩
  obtain ⟨B, env, d, env', en, ev, q⟩ := t
  unfold eDisp at ev
  split at ev
  · cases ev
  rename_i ds e1 h1
  split at ev
  · rename_i hl15
    split at ev
    · rename_i kvs hk
      cases ev
      refine (pe_disp h hall hl h0 h15).run pins s σ H Q I fun p np => ?_
      obtain ⟨g, a1⟩ := (At.refl en).alloc en np (.dK []) True (fun _ => False) (fun _ f => f.elim)
      refine rd_pairs a1.en h1 fun B2 H2 vs a2 r2 => ?_
      have a12 := a1.trans en a2
      have wp : ¬ Wof σ env p := fun w => by
        obtain ⟨o, ho⟩ := en.dom p (en.wb p w)
        rw [np] at ho; cases ho
      have k2 : H2 p = some (.dK []) := a2.st.keep p _ upd_same (.inl ⟨wp, fun _ z => nomatch z⟩)
      have b2 : B2 p := a2.st.old p (.inr ⟨trivial, rfl⟩) wp
      have ns : ∀ (i : Nat) m d, env'[i]? = some (some (S.mu m d)) → σ[i]? ≠ some (some (V.ref p)) := fun i m d z1 z2 => by
        obtain ⟨c', z3⟩ := a2.sm i m d z1
        obtain ⟨b, z4, z5, _⟩ := en.mu i m c' z3
        rw [z4] at z2
        cases z2
        obtain ⟨o, ho⟩ := en.dom _ z5
        rw [np] at ho; cases ho
      obtain ⟨ws, e1, r3⟩ := keysK_ok r2 hk
      refine ⟨k2, ws, e1, by rw [Paired.length r3, keysK_len hk]; exact hl15, ?_⟩
      obtain ⟨g3, a3⟩ := At.put (o := .dK (mergeK [] ws)) en a12 np b2 k2 (fun z => z) ns
      exact q _ _ _ a3 ⟨p, rfl, np, b2, ⟨_, upd_same, (KvR.merge r3 (.nil : KvR X.K B2 H2 [] [])).grow g3⟩, ns⟩
    · split at ev
      · rename_i kvs hk
        cases ev
        refine (pe_dispN hu h hall hl h0 h15).run pins s σ H Q I fun p np => ?_
        obtain ⟨g, a1⟩ := (At.refl en).alloc en np (.dK []) True (fun _ => False) (fun _ f => f.elim)
        refine rd_pairs a1.en h1 fun B2 H2 vs a2 r2 => ?_
        have a12 := a1.trans en a2
        have wp : ¬ Wof σ env p := fun w => by
          obtain ⟨o, ho⟩ := en.dom p (en.wb p w)
          rw [np] at ho; cases ho
        have k2 : H2 p = some (.dK []) := a2.st.keep p _ upd_same (.inl ⟨wp, fun _ z => nomatch z⟩)
        have b2 : B2 p := a2.st.old p (.inr ⟨trivial, rfl⟩) wp
        have ns : ∀ (i : Nat) m d, env'[i]? = some (some (S.mu m d)) → σ[i]? ≠ some (some (V.ref p)) := fun i m d z1 z2 => by
          obtain ⟨c', z3⟩ := a2.sm i m d z1
          obtain ⟨b, z4, z5, _⟩ := en.mu i m c' z3
          rw [z4] at z2
          cases z2
          obtain ⟨o, ho⟩ := en.dom _ z5
          rw [np] at ho; cases ho
        refine ⟨k2, B2, kvs, keysN_ok r2 hk, by rw [keysN_len hk]; exact hl15, fun es r => ?_⟩
        obtain ⟨g3, a3⟩ := At.put (o := DnO p es) en a12 np b2 k2 (fun z => z) ns
        exact q _ _ _ a3 ⟨p, rfl, np, b2, ⟨es, upd_same, DnR.grow g3 r⟩, ns⟩
      · cases ev
  · cases ev
section
variable {X : Cx} {pos : Pos}
theorem ds_nil : PPs X pos [] [] (trsOf X.K []) := pps_nil
theorem ds_cons {k v : Expr} {ks : List (Option Expr)} {vs : List Expr} {fk fv : EE} {ps : EPs} (hk : PE X k (tE X.K fk)) (hv : PE X v (tE X.K fv)) (hr : PPs X pos ks vs (trsOf X.K ps)) : PPs X pos (some k :: ks) (v :: vs) (trsOf X.K ((fk, fv) :: ps)) := pps_cons hk hv hr
end
mutual
def unK : PyData → Option NestedKey
  | .none => some .none
  | .int i => some (.num i)
  | .str x => some (.text x)
  | .tuple xs => match unKs xs with
    | some ks => some (.tup ks)
    | none => none
  | .bool _ => none
  | .list _ => none
  | .dict _ => none
def unKs : List PyData → Option (List NestedKey)
  | [] => some []
  | x :: xs => match unK x with
    | some k => match unKs xs with
      | some ks => some (k :: ks)
      | none => none
    | none => none
end
mutual
theorem unK_data : ∀ k : NestedKey, unK k.data = some k
  | .none => by rw [NestedKey.data, unK]
  | .num i => by rw [NestedKey.data, unK]
  | .text x => by rw [NestedKey.data, unK]
  | .tup ks => by rw [NestedKey.data, unK, unKs_datas ks]
theorem unKs_datas : ∀ ks : List NestedKey, unKs (NestedKey.datas ks) = some ks
  | [] => by rw [NestedKey.datas, unKs]
  | k :: ks => by rw [NestedKey.datas, unKs, unK_data k, unKs_datas ks]
end
def decN : List (PyData × PyData) → Option (List (NestedKey × PyData))
  | [] => some []
  | q :: r => match unK q.1 with
    | some n => match decN r with
      | some t => some ((n, q.2) :: t)
      | none => none
    | none => none
theorem decN_of : ∀ kvs : List (NestedKey × PyData), decN (kvs.map fun q => (q.1.data, q.2)) = some kvs
  | [] => rfl
  | q :: r => by
    simp only [List.map_cons, decN, unK_data, decN_of r]
def decK : List (PyData × PyData) → Option (List (Key × PyData))
  | [] => some []
  | q :: r => match key? q.1 with
    | some n => match decK r with
      | some t => some ((n, q.2) :: t)
      | none => none
    | none => none
theorem key_data : ∀ k : Key, key? (keyD k) = some k
  | .inl _ => rfl
  | .inr _ => rfl
theorem decK_of : ∀ kvs : List (Key × PyData), decK (kvs.map fun q => (keyD q.1, q.2)) = some kvs
  | [] => rfl
  | q :: r => by
    simp only [List.map_cons, decK, key_data, decK_of r]
def dcOf : PyData → Option Ct
  | .dict ((.list [], .none) :: r) => match decN r with
    | some kvs => some (.dn kvs)
    | none => none
  | .dict ((.list [.none], .none) :: r) => match decK r with
    | some kvs => some (.dk kvs)
    | none => none
  | _ => none
theorem dcOf_dn (kvs : List (NestedKey × PyData)) : dcOf (ctD (.dn kvs)) = some (.dn kvs) := by
  show (match decN (kvs.map fun q => (q.1.data, q.2)) with
    | some kvs => some (Ct.dn kvs)
    | none => none) = _
  rw [decN_of]
theorem dcOf_dk (kvs : List (Key × PyData)) : dcOf (ctD (.dk kvs)) = some (.dk kvs) := by
  show (match decK (kvs.map fun q => (keyD q.1, q.2)) with
    | some kvs => some (Ct.dk kvs)
    | none => none) = _
  rw [decK_of]
theorem dcOf_ok {K : PySem.W.Frag} {B : Mset} {H : Hp} {v : V} {x : PyData} {c : Ct} (r : Rp K B H v x) (e : dcOf x = some c) : ∃ a, v = .ref a ∧ CtR K B H a c := by
  cases r with
  | dct h nb h4 nd r1 r2 =>
    have e := (dcOf_dn _).symm.trans e
    cases e
    exact ⟨_, rfl, _, h, dn_join h4 r1 r2, nd⟩
  | dck h nb hk r =>
    have e := (dcOf_dk _).symm.trans e
    cases e
    exact ⟨_, rfl, _, h, kv_join hk r⟩
  | _ => simp [dcOf] at e
def rGet (env : Sl) : R → PyData → Option (Option PyData)
  | .var j, y => dGet env j y
  | .tmp c, y => cGet c y
  | .pd x, y => match dcOf x with
    | some c => cGet c y
    | none => none
  | .nt _, _ => none
theorem rGet_ok {K : PySem.W.Frag} {H₀ : Hp} {B : Mset} {H : Hp} {σ : St} {env : Sl} {w v : V} {d : R} {y : PyData} {o : Option PyData} (en : EnvR K B H σ env) (h : RA K H₀ B H σ env w d) (r : Rp K B H v y) (e : rGet env d y = some o) : ∃ a, w = .ref a ∧ DGt K B H a v o := by
  cases d with
  | pd x =>
    have e : (match dcOf x with
      | some c => cGet c y
      | none => none) = some o := e
    split at e
    · rename_i c hc
      obtain ⟨a, rfl, hc⟩ := dcOf_ok h hc
      exact ⟨a, rfl, cGet_ok hc r e⟩
    · cases e
  | nt x => cases e
  | var j => exact dGet_ok en h r e
  | tmp c =>
    obtain ⟨a, rfl, _, _, hc, _⟩ := h
    exact ⟨a, rfl, cGet_ok hc r e⟩
@[simp] theorem z_rGet1 (env : Sl) (j : Nat) (y : PyData) : rGet env (.var j) y = dGet env j y := rfl
@[simp] theorem z_rGet3 (env : Sl) (x : PyData) (y : PyData) : rGet env (.pd x) y = (match dcOf x with
    | some c => cGet c y
    | none => none) := rfl
@[simp] theorem z_rGet2 (env : Sl) (c : Ct) (y : PyData) : rGet env (.tmp c) y = cGet c y := rfl
end T3

end
section
set_option linter.all false
set_option autoImplicit false
set_option Elab.async false
set_option maxRecDepth 100000
namespace T3
open PySem L2
variable [TabL]
def IsDD (H : Hp) (a : Addr) : Prop := (∃ ws, H a = some (.dK ws)) ∨ ∃ es, H a = some (DnO a es)
theorem isDD_at {X : Cx} {pins : List (Addr × Obj)} {σ : St} {H : Hp} {s : Shared} {a : Addr} (I : Inv X pins σ H s) (d : IsDD H a) :
    s.TypeIs (.ref a) "dict" ∧ (∀ b, Value.ref a = .ref b → ∃ ob, s.heap.get? b = some ob ∧ ob.dict = none) := by
  rcases d with ⟨kvs, e⟩ | ⟨es, e⟩
  · obtain ⟨t1, t2, _⟩ := isD_at I (.inl ⟨kvs, .inl e⟩)
    exact ⟨t1, t2⟩
  · obtain ⟨⟨y, z, e1, e2, e3⟩, _⟩ := I.hok a _ e
    exact ⟨⟨_, e1, e2.1⟩, fun b q => by cases q; exact ⟨_, e1, e2.2.1⟩⟩
section
variable {X : Cx} {pins : List (Addr × Obj)} {σ : St} {H : Hp} {s : Shared} {a : Addr} {A : Around} {E : Value → Shared → Prop} {B : Mset} {y d : V} {u r : Value} {o : Option PyData} {x : PyData}
theorem dg_get2 {Q : Value → Shared → Prop} (hu : A.units + 9 < cLine) (I : Inv X pins σ H s) (g : DGt X.K B H a y o) (ry : RelV y u) (rd : RelV d r) (rp : Rp X.K B H d x)
    (h : ∀ w' s' v, Inv X pins σ H s' → RelV v w' → Rp X.K B H v (o.getD x) → Q w' s') : wpAny (model X.prog X.w) A (call (.builtin "dict.get") [.ref a, u, r]) Q E s := by
  rcases g with ⟨kvs, ws, k, e, rr, rfl, l⟩ | ⟨kvs, k, e, hk, rk, l⟩
  · refine d_get2 (o := valV ws k) (by omega) I (.inl ⟨ws, k, .inl e, rfl, rfl⟩) ry rd fun w' s' I' rv => h w' s' _ I' rv ?_
    rcases rr.val (k := k) with ⟨v, z, h1, h2, h3⟩ | ⟨h1, h2⟩
    · rw [l, h1, h2]; exact h3
    · rw [l, h1, h2]; exact rp
  · obtain ⟨b, rfl⟩ := nk_ref hk rk
    cases (show u = Value.ref b from ry)
    obtain ⟨ns, _, _, xs, dd, kn⟩ := dn_open I e
    refine call_meetsIn PySem.F.slot_dict_get dd.typeIs PySem.F.entry_dict_get (PySem.F.args_dict_get_3 _ _ _) (meetsH_dict_get_default (nestedKind X.prog X.w) a b ns r) ⟨room9 hu, k, xs, nk_key I hk rk, dd, ?_⟩
    rcases kn.val (k := k) with ⟨p, v, z, h1, h2, h3, h4⟩ | ⟨h1, h2⟩
    · rw [h1]
      exact h _ _ v (I.tok _) h3 (by rw [l, h2]; exact h4)
    · rw [h1]
      exact h _ _ d (I.tok _) rd (by rw [l, h2]; exact rp)
end
def tGt2 (K : PySem.W.Frag) (td ty tx : TE) : TE := fun σ H Q => td σ H fun v H1 => ∃ a, v = .ref a ∧ IsDD H1 a ∧ ty σ H1 fun y H2 => tx σ H2 fun z H3 => ∃ B o x, DGt K B H3 a y o ∧ Rp K B H3 z x ∧ ∀ w, Rp K B H3 w (o.getD x) → Q w H3
section
variable {X : Cx} {o e f : Expr} {apos cpos : Pos} {td ty tx : TE}
theorem pe_gt2 (hu : X.A.units + 9 < cLine) (ho : PE X o td) (he : PE X e ty) (hf : PE X f tx) (m : M2 X o "get" apos e f cpos) : PE X (.Call (.Attribute o "get" apos) [e, f] [] cpos) (tGt2 X.K td ty tx) := by
  refine ⟨fun pins s σ H Q I h => ?_⟩
  refine wpAny_Call_method m.base m.few m.line PySem.F.plainAttrs_dict PySem.F.slot_dict_get PySem.F.type_dict_get (thn (ho.run pins s σ H _ I h) fun u s1 ⟨x, H1, I1, rx, a, ex, d, q1⟩ => ?_)
  subst ex
  obtain rfl : u = Value.ref a := rx
  obtain ⟨t1, t2⟩ := isDD_at I1 d
  refine ⟨t1, t2, ?_⟩
  rw [m.trees]
  refine Calls.callWith_builtin rfl (Calls.evalArgs_plain (Calls.spliced_cons (thn (he.run pins s1 σ H1 _ I1 q1) fun iv s2 ⟨y, H2, I2, ry, q2⟩ => Calls.spliced_cons (thn (hf.run pins s2 σ H2 _ I2 q2) fun fv s3 ⟨z, H3, I3, rz, B, ov, xx, g, rp, q3⟩ => Calls.spliced_nil ?_))))
  exact dg_get2 hu I3 g ry rz rp fun w' s4 v I4 rw' rpv => ⟨v, H3, I4, rw', q3 v rpv⟩
end
def isDc (env : Sl) : R → Bool
  | .var j => match env[j]? with
    | some (some (.mu _ (.dk _))) => true
    | some (some (.mu _ (.dn _))) => true
    | _ => false
  | .tmp (.dk _) => true
  | .tmp (.dn _) => true
  | _ => false
theorem isDc_ok {K : PySem.W.Frag} {H₀ : Hp} {B : Mset} {H : Hp} {σ : St} {env : Sl} {w : V} {d : R} (en : EnvR K B H σ env) (h : RA K H₀ B H σ env w d) (e : isDc env d = true) : ∃ a, w = .ref a ∧ IsDD H a := by
  cases d with
  | pd x => cases e
  | nt x => cases e
  | var j =>
    dsimp only [isDc] at e
    split at e
    · rename_i m kvs hm
      obtain ⟨a, h1, _, ws, h2, _⟩ := en.mu _ _ _ hm
      have h : σ[j]? = some (some w) := h
      rw [h] at h1
      cases h1
      exact ⟨a, rfl, .inl ⟨ws, h2⟩⟩
    · rename_i m kvs hm
      obtain ⟨a, h1, _, es, h2, _⟩ := en.mu _ _ _ hm
      have h : σ[j]? = some (some w) := h
      rw [h] at h1
      cases h1
      exact ⟨a, rfl, .inr ⟨es, h2⟩⟩
    · cases e
  | tmp c =>
    obtain ⟨a, rfl, _, _, hc, _⟩ := h
    cases c with
    | ls xs => cases e
    | dk kvs => obtain ⟨ws, h2, _⟩ := hc; exact ⟨a, rfl, .inl ⟨ws, h2⟩⟩
    | dn kvs => obtain ⟨es, h2, _⟩ := hc; exact ⟨a, rfl, .inr ⟨es, h2⟩⟩
def eGt2 (fd fk fx : EE) : EE := fun env => match fd env with
  | none => none
  | some (d0, e1) => if isDc e1 d0 = true then match fk e1 with
      | none => none
      | some (d, e2) => match pdOf d with
        | none => none
        | some y => match fx e2 with
          | none => none
          | some (d', e3) => match pdOf d' with
            | none => none
            | some x => match rGet e3 d0 y with
              | some o => some (.pd (o.getD x), e3)
              | none => none
    else none
@[simp] theorem z_gt2 (fd fk fx : EE) (env : Sl) : eGt2 fd fk fx env = (match fd env with
  | none => none
  | some (d0, e1) => if isDc e1 d0 = true then match fk e1 with
      | none => none
      | some (d, e2) => match pdOf d with
        | none => none
        | some y => match fx e2 with
          | none => none
          | some (d', e3) => match pdOf d' with
            | none => none
            | some x => match rGet e3 d0 y with
              | some o => some (.pd (o.getD x), e3)
              | none => none
    else none) := rfl
section
variable {X : Cx} {o e f : Expr} {apos cpos : Pos} {fd fk fx : EE}
theorem e_gt2 (hu : X.A.units + 9 < cLine) (ho : PE X o (tE X.K fd)) (he : PE X e (tE X.K fk)) (hf : PE X f (tE X.K fx)) (m : M2 X o "get" apos e f cpos := by exact ⟨by rfl, by rfl, by rfl, by rfl⟩) : PE X (.Call (.Attribute o "get" apos) [e, f] [] cpos) (tE X.K (eGt2 fd fk fx)) := PE.imp (pe_gt2 hu ho he hf m) fun σ H Q t => by
  obtain ⟨B, env, d, env', en, ev, q⟩ := t
  unfold eGt2 at ev
  split at ev
  · cases ev
  rename_i d0 e1 h1
  split at ev
  · rename_i hd
    split at ev
    · cases ev
    rename_i d1 e2 h2
    split at ev
    · cases ev
    rename_i y hy
    split at ev
    · cases ev
    rename_i d2 e3 h3
    split at ev
    · cases ev
    rename_i x hx
    split at ev
    · rename_i ov hg
      cases ev
      refine ⟨B, env, _, _, en, h1, fun B1 H1 w a1 r1 => ?_⟩
      obtain ⟨a, rfl, dd⟩ := isDc_ok a1.en r1.ra hd
      refine ⟨a, rfl, dd, B1, e1, _, _, a1.en, h2, fun B2 H2 v a2 r2 => ⟨B2, e2, _, _, a2.en, h3, fun B3 H3 z a3 r3 => ?_⟩⟩
      have a23 := a2.trans a1.en a3
      obtain ⟨a', e', g⟩ := rGet_ok a3.en (r1.ra.later a1.en a23) ((pdOf_rp r2 hy).grow (a3.grow a2.en)) hg
      cases e'
      exact ⟨B3, ov, x, g, pdOf_rp r3 hx, fun w r => q B3 H3 w ((a1.trans en a2).trans en a3) r⟩
    · cases ev
  · cases ev
end
end T3

end
section
set_option linter.all false
set_option autoImplicit false
set_option Elab.async false
set_option maxRecDepth 100000
namespace T3
open PySem L2
variable [TabL]
noncomputable def kLrg : KK := fun ds env => match ds with
  | [.pd (.int n)] => if RgOk 0 n then some (.tmp (.ls (rgT 0 n)), env) else none
  | [.pd (.int i), .pd (.int j)] => if RgOk i j then some (.tmp (.ls (rgT i j)), env) else none
  | _ => none
section
variable {X : Cx} {a b : Expr} {fa fb : EE} {p p2 pos pos2 : Pos}
end
def ddp : List (Int × Int) → List (Int × Int)
  | [] => []
  | p :: r => if p ∈ r then ddp r else p :: ddp r
theorem mem_ddp {q : Int × Int} : ∀ {ps : List (Int × Int)}, q ∈ ddp ps ↔ q ∈ ps
  | [] => Iff.rfl
  | p :: r => by
    unfold ddp
    split
    · rename_i h
      rw [mem_ddp, List.mem_cons]
      exact ⟨fun z => .inr z, fun z => z.elim (fun e => e ▸ h) id⟩
    · rw [List.mem_cons, List.mem_cons, mem_ddp]
theorem nd_ddp : ∀ ps : List (Int × Int), (ddp ps).Nodup
  | [] => List.nodup_nil
  | p :: r => by
    unfold ddp
    split
    · exact nd_ddp r
    · rename_i h
      exact List.nodup_cons.mpr ⟨fun z => h (mem_ddp.mp z), nd_ddp r⟩
theorem perm_nd : ∀ {xs ys : List (Int × Int)}, xs.Nodup → ys.Nodup → (∀ q, q ∈ xs ↔ q ∈ ys) → xs.Perm ys
  | [], ys, _, _, h => by
    cases ys with
    | nil => exact .nil
    | cons y ys => exact absurd ((h y).mpr (by simp)) (by simp)
  | x :: xs, ys, h1, h2, h => by
    have hx : x ∈ ys := (h x).mp (by simp)
    obtain ⟨a, b, rfl⟩ := List.append_of_mem hx
    have h1' := List.nodup_cons.mp h1
    have h2' : (x :: (a ++ b)).Nodup := (List.perm_middle.nodup_iff).mp h2
    have h3' := List.nodup_cons.mp h2'
    refine (List.Perm.cons x (perm_nd h1'.2 h3'.2 fun q => ?_)).trans List.perm_middle.symm
    constructor
    · intro z
      have := (h q).mp (by simp [z])
      rcases List.mem_append.mp this with u | u
      · simp [u]
      · rcases List.mem_cons.mp u with rfl | u
        · exact absurd z h1'.1
        · simp [u]
    · intro z
      have : q ∈ x :: xs := (h q).mpr (by rcases List.mem_append.mp z with u | u <;> simp [u])
      rcases List.mem_cons.mp this with rfl | u
      · exact absurd z h3'.1
      · exact u
theorem ms_pair {ps qs : List (Int × Int)} (hb : ∀ p ∈ qs, 0 ≤ p.1 ∧ p.1 < 64 ∧ 0 ≤ p.2 ∧ p.2 < 64) (h1 : ps.Perm qs) (h2 : ps.Pairwise (fun p q => p.1 * 64 + p.2 ≤ q.1 * 64 + q.2)) : ps = qs.mergeSort prLe := by
  have hb' : ∀ p ∈ ps, 0 ≤ p.1 ∧ p.1 < 64 ∧ 0 ≤ p.2 ∧ p.2 < 64 := fun p hp => hb p (h1.mem_iff.mp hp)
  refine List.Perm.eq_of_pairwise (le := fun p q : Int × Int => p.1 * 64 + p.2 ≤ q.1 * 64 + q.2) (fun a b ha hb2 x y => ?_) h2 ?_ (h1.trans (List.mergeSort_perm _ _).symm)
  · have a1 := hb' a ha
    have b1 := hb b ((List.mergeSort_perm qs prLe).mem_iff.mp hb2)
    exact Prod.ext (by omega) (by omega)
  · have := List.pairwise_mergeSort (le := prLe) (fun a b c h1 h2 => by unfold prLe at *; simp at h1 h2 ⊢; omega) (fun a b => by unfold prLe; simp; omega) qs
    exact this.imp (by intro a b h; unfold prLe at h; simpa using h)

theorem refs_of {K : PySem.W.Frag} {B : Mset} {H : Hp} : ∀ {us : List V} {ps : List (Int × Int)}, RpA K B H us (ps.map clD) → ∃ ks : List (Addr × (Int × Int)), us = ks.map (fun p => V.ref p.1) ∧ ks.map (·.2) = ps ∧ ∀ p ∈ ks, Rp K B H (.ref p.1) (clD p.2)
  | _, [], .nil => ⟨[], rfl, rfl, fun p hp => by simp at hp⟩
  | _, p :: ps, .cons r t => by
    obtain ⟨ks, h1, h2, h3⟩ := refs_of t
    obtain ⟨b, rfl, _⟩ := tupI_of r
    refine ⟨(b, p) :: ks, by rw [h1]; rfl, by rw [List.map_cons, h2], fun q hq => ?_⟩
    rcases List.mem_cons.mp hq with e | e
    · rw [e]; exact r
    · exact h3 q e
theorem refs_to {K : PySem.W.Frag} {B : Mset} {H : Hp} : ∀ {L : List (Addr × List Int)}, (∀ q ∈ L, ∃ k : Addr × (Int × Int), Rp K B H (.ref k.1) (clD k.2) ∧ q = (k.1, [k.2.1, k.2.2])) → ∃ M : List (Int × Int), RpA K B H (L.map fun q => V.ref q.1) (M.map clD) ∧ L.map (·.2) = M.map fun p => [p.1, p.2]
  | [], _ => ⟨[], .nil, rfl⟩
  | q :: L, h => by
    obtain ⟨M, h1, h2⟩ := refs_to (fun x hx => h x (List.mem_cons_of_mem _ hx))
    obtain ⟨k, h3, h4⟩ := h q (List.mem_cons_self ..)
    refine ⟨k.2 :: M, ?_, ?_⟩
    · rw [h4]; exact .cons h3 h1
    · rw [List.map_cons, List.map_cons, h2, h4]
def kSrtSet : KK := fun ds env => match ds with
  | [d] => match ctn env d with
    | some (.list xs) => if xs.length < 64 then match pairs? xs with
        | some ps => some (.tmp (.ls (((ddp ps).mergeSort prLe).map clD)), env)
        | none => none
      else none
    | _ => none
  | _ => none
theorem c_srtSet {K : PySem.W.Frag} {P : Program} {w : World} : Con K kSrtSet (fun vs H1 Q => rSetOfT K P w vs H1 (fun v H2 => rSortedT K P w [v] H2 Q)) := by
  intro σ H B env B1 H1 env1 vs ds d e2 Q en a rr hk q
  unfold kSrtSet at hk
  split at hk
  · rename_i d1
    match vs, rr with
    | [v], rr =>
      split at hk
      · rename_i xs hx
        obtain ⟨p, us, rfl, h1, h2⟩ := (Cn.of a.en (rr.each 0 v d1 rfl rfl) hx).list
        split at hk
        · rename_i hl
          split at hk
          · rename_i ps hp
            cases hk
            obtain ⟨e, hb⟩ := pairs_eq hp
            subst e
            obtain ⟨ks, e1, e2, h3⟩ := refs_of h2
            subst e1
            have kb : ∀ k ∈ ks, 0 ≤ k.2.1 ∧ k.2.1 < 64 ∧ 0 ≤ k.2.2 ∧ k.2.2 < 64 := fun k hk => hb _ (by rw [← e2]; exact List.mem_map_of_mem hk)
            have sq : ∀ k ∈ ks, SqT K H1 k.1 [V.int k.2.1, V.int k.2.2] := fun k hk => by
              obtain ⟨b, e, t⟩ := tupI_of (h3 k hk)
              cases e; exact t
            refine ⟨p, ks.map (fun k => (k.1, [k.2.1, k.2.2])), rfl, ?_, ?_, ?_, fun s L ns hL1 hL2 => ?_⟩
            · rw [List.map_map]; exact h1
            · intro z hz
              obtain ⟨k, hk, rfl⟩ := List.mem_map.mp hz
              exact sq k hk
            · rw [List.length_map]
              have := congrArg List.length e2
              rw [List.length_map] at this hl
              omega
            have hm : ∀ z ∈ L, ∃ k ∈ ks, z = (k.1, [k.2.1, k.2.2]) := fun z hz => by
              obtain ⟨k, hk, e⟩ := List.mem_map.mp (hL1 z hz)
              exact ⟨k, hk, e.symm⟩
            obtain ⟨g, a2⟩ := a.alloc en ns (SetTO P w s L) False (fun _ => False) (fun _ f => f.elim)
            refine ⟨s, L, 2, 64, rfl, upd_same, fun z hz => ?_, by omega, fun z hz => ?_, fun L' r pm nd hf pw nr => ?_⟩
            · obtain ⟨k, hk, rfl⟩ := hm z hz
              exact SqT.grow g (sq k hk)
            · obtain ⟨k, hk, rfl⟩ := hm z hz
              refine ⟨rfl, fun m hm => ?_⟩
              have := kb k hk
              simp only [List.mem_cons, List.not_mem_nil, or_false] at hm
              rcases hm with e | e
              · rw [e]; exact ⟨this.1, this.2.1⟩
              · rw [e]; exact this.2.2
            obtain ⟨M, m1, m2⟩ := refs_to (K := K) (B := B1) (H := H1) (L := L') (fun z hz => by
              obtain ⟨k, hk, e⟩ := hm z (pm.mem_iff.mp hz)
              exact ⟨k, h3 k hk, e⟩)
            have mi : ∀ q : Int × Int, q ∈ M ↔ q ∈ ps := fun q => by
              have i1 : q ∈ M ↔ [q.1, q.2] ∈ L'.map (·.2) := by
                rw [m2]
                refine ⟨fun h => List.mem_map.mpr ⟨q, h, rfl⟩, fun h => ?_⟩
                obtain ⟨q', h', e⟩ := List.mem_map.mp h
                have : q' = q := by
                  simp at e
                  exact Prod.ext e.1 e.2
                rw [← this]; exact h'
              rw [i1, (pm.map (·.2)).mem_iff, ← e2]
              constructor
              · intro h
                obtain ⟨z, hz, e⟩ := List.mem_map.mp h
                obtain ⟨k, hk, rfl⟩ := hm z hz
                have : k.2 = q := by
                  simp at e
                  exact Prod.ext e.1 e.2
                rw [← this]
                exact List.mem_map_of_mem hk
              · intro h
                obtain ⟨k, hk, rfl⟩ := List.mem_map.mp h
                exact hL2 (k.1, [k.2.1, k.2.2]) (List.mem_map.mpr ⟨k, hk, rfl⟩)
            have mn : M.Nodup := by
              rw [m2] at nd
              exact List.Pairwise.imp (fun h e => h (by rw [e])) (List.pairwise_map.mp nd)
            have mo : M.Pairwise (fun x y => x.1 * 64 + x.2 ≤ y.1 * 64 + y.2) := by
              have h5 : (L'.map (·.2)).Pairwise (fun x y => TS.code 64 x ≤ TS.code 64 y) := List.pairwise_map.mpr pw
              rw [m2] at h5
              refine List.Pairwise.imp (fun h => ?_) (List.pairwise_map.mp h5)
              rw [code_pr, code_pr] at h
              exact h
            have eq : M = (ddp ps).mergeSort prLe := ms_pair (fun z hz => hb z (mem_ddp.mp hz)) (perm_nd mn (nd_ddp ps) fun q => (mi q).trans mem_ddp.symm) mo
            rw [← eq] at q
            exact con_new en a2 nr (m1.grow g) q
          · cases hk
        · cases hk
      · cases hk
  · cases hk
theorem x_srtSet {X : Cx} {e : Expr} {fe : EE} {p p2 pos pos2 : Pos} (hu : X.A.units + 64 < cLine) (hm : X.mg "sorted" = none) (hm2 : X.mg "set" = none) (ha : PE X e (tE X.K fe)) (hc : X.calm = true := by rfl) (hg : Gl X "sorted" := by rfl) (hg2 : Gl X "set" := by rfl)
    (he : starEach [e] X.env = (false, eval e X.env) :: starEach [] X.env := by rfl) (nt : starEach [.Call (.Name "set" p2) [e] [] pos2] X.env = (false, eval (.Call (.Name "set" p2) [e] [] pos2) X.env) :: starEach [] X.env := by rfl) :
    PE X (.Call (.Name "sorted" p) [.Call (.Name "set" p2) [e] [] pos2] [] pos) (tE X.K (eThen (eOne fe) kSrtSet)) := by
  have h1 := pe_callTy (pos := pos2) (p := p2) (L2.cr_setOfT hc hu) hg2 hm2 (by decide +kernel) (a_cons ha a_nil he) (by decide) (by decide) he (by rfl)
  have h2 := pe_callB (pos := pos) (p := p) (L2.cr_sortedT (X := X) hc) hg hm (by decide +kernel) (pa_cons h1 pa_nil nt) (by decide) (by decide) nt (by rfl)
  exact PE.imp h2 fun σ H Q t => rd_then c_srtSet t
end T3

end
section
set_option linter.all false
set_option autoImplicit false
set_option Elab.async false
set_option maxRecDepth 100000
namespace T3
open PySem L2
variable [TabL]
def kRepL : KK := fun ds env => match ds with
  | [d, .pd (.int k)] => match lsOf env d with
    | none => none
    | some xs => if 0 ≤ k ∧ k ≤ 1000 ∧ xs.length ≤ 1000 then some (.tmp (.ls (List.replicate k.toNat xs).flatten), env) else none
  | _ => none
theorem c_repL {K : PySem.W.Frag} : Con K kRepL (l2 rRep) := by
  intro σ H B env B1 H1 env1 vs ds d e2 Q en a rr hk q x y e
  unfold kRepL at hk
  split at hk
  · rename_i d1 k
    split at hk
    · cases hk
    rename_i xs hx
    split at hk
    · rename_i hl
      cases hk
      subst e
      obtain ⟨p, us, rfl, h1, h2⟩ := lsOf_at a.en (rr.each 0 x d1 rfl rfl) hx
      have h3 : Rp K B1 H1 y (.int k) := rr.each 1 y (.pd (.int k)) rfl rfl
      cases h3
      have hm : xs.length * k.toNat ≤ 1000 * 1000 := Nat.mul_le_mul hl.2.2 (by omega)
      exact ⟨p, k, us, rfl, rfl, h1, by omega, by omega, by rw [h2.length]; exact Nat.le_of_lt (small hm), fun r nr => con_new en a nr (h2.rep _) q⟩
    · cases hk
  · cases hk
def oRepS : List PyData → Option PyData
  | [.str s, .int k] => if 0 ≤ k ∧ k ≤ 1000 ∧ s.length ≤ 1000 then some (.str (Txt.mul s k)) else none
  | _ => none
def rRepS : R2 := fun x y H Q => ∃ s k, x = .str s ∧ y = .int k ∧ 0 ≤ k ∧ k ≤ 1000 ∧ s.length ≤ 1000 ∧ Q (.str (Txt.mul s k)) H
theorem mulOk_of {s : Str} {k : Int} (h1 : 0 ≤ k) (h2 : k ≤ 1000) (h3 : s.length ≤ 1000) : MulOk s k := by
  have hm : s.length * k.toNat ≤ 1000 * 1000 := Nat.mul_le_mul h3 (by omega)
  refine ⟨?_, fun h4 _ => ?_, fun h4 _ => ?_⟩
  · rw [Bool.or_eq_false_iff, decide_eq_false_iff_not, decide_eq_false_iff_not]
    omega
  · have : ((2 : Int) ^ 63 - 1) / 1000 ≤ (2 ^ 63 - 1) / k := by
      refine Int.le_ediv_of_mul_le (by omega) ?_
      have : ((2 : Int) ^ 63 - 1) / 1000 * k ≤ ((2 : Int) ^ 63 - 1) / 1000 * 1000 := Int.mul_le_mul_of_nonneg_left h2 (by decide)
      have h5 : ((2 : Int) ^ 63 - 1) / 1000 * 1000 ≤ 2 ^ 63 - 1 := by decide
      omega
    have h6 : (1000 : Int) ≤ (2 ^ 63 - 1) / 1000 := by decide
    omega
  · show decide (s.length * k.toNat > sizeLine) = false
    rw [decide_eq_false_iff_not]
    have := small hm
    omega
theorem op_repS {X : Cx} : OpR X (binaryOp .Mult) rRepS := by
  intro pins s σ H x y v u Q I rx ry h
  obtain ⟨i, k, rfl, rfl, h1, h2, h3, q⟩ := h
  obtain ⟨t, rfl⟩ := rx
  obtain ⟨t', rfl⟩ := ry
  exact SB.mul (mulOk_of h1 h2 h3) (fun t' tk => ⟨.str _, H, I.tok _, ⟨_, rfl⟩, q⟩)
theorem ok_repS {K : PySem.W.Frag} : OkE K oRepS (l2 rRepS) := by
  intro B H vs xs z Q cn ho q x y e
  unfold oRepS at ho
  split at ho
  · split at ho
    · rename_i hl
      cases ho
      obtain ⟨v, w, e2, c1, c2⟩ := cn.two
      rw [e] at e2
      cases e2
      exact ⟨_, _, c1.str, c2.int, hl.1, hl.2.1, hl.2.2, q _ (Rp.str _)⟩
    · cases ho
  · cases ho
noncomputable def kMul2 : KK := kOr kRepL (kE oRepS)
noncomputable def eMul2 (fa fb : EE) : EE := eThen (eTwo fa fb) kMul2
@[simp] theorem z_mul2 (fa fb : EE) (env : Sl) : eMul2 fa fb env = eThen (eCons fa (eCons fb eNil)) kMul2 env := rfl
theorem x_mul2 {X : Cx} {a b : Expr} {fa fb : EE} {pos : Pos} (ha : PE X a (tE X.K fa)) (hb : PE X b (tE X.K fb)) : PE X (.BinOp a .Mult b pos) (tE X.K (eMul2 fa fb)) := e_op (OpR.or op_rep op_repS) (con_or2 c_repL (con_E ok_repS)) ha hb
end T3

end
section
set_option linter.all false
set_option autoImplicit false
set_option Elab.async false
set_option maxRecDepth 100000
namespace T3
open PySem L2
variable [TabL]
end T3

end
section
set_option linter.all false
set_option autoImplicit false
set_option Elab.async false
namespace T3
open PySem L2
variable [TabL]
def sAug (i : Nat) (f : EE) : SS := fun env => match env[i]? with
  | some (some (.pd (.int a))) => match f env with
    | some (.pd (.int b), e) => match setR i (.pd (.int (a + b))) e with
      | none => none
      | some e2 => some (.nx, e2)
    | _ => none
  | _ => none
@[simp] theorem z_aug (i : Nat) (f : EE) (env : Sl) : sAug i f env = (match env[i]? with
  | some (some (.pd (.int a))) => match f env with
    | some (.pd (.int b), e) => match setR i (.pd (.int (a + b))) e with
      | none => none
      | some e2 => some (.nx, e2)
    | _ => none
  | _ => none) := rfl
theorem rd_aug {K : PySem.W.Frag} {i : Nat} {f : EE} {D : Ends} {σ : St} {H : Hp} (h : tS K (sAug i f) D σ H) : tAug i (tE K f) (ipI fun i j => i + j) D σ H := by
  obtain ⟨B, env, fl, env', en, ev, q⟩ := h
  unfold sAug at ev
  split at ev
  · rename_i a h0
    split at ev
    · rename_i b e1 h1
      split at ev
      · cases ev
      rename_i e2 h2
      cases ev
      obtain ⟨v, hv, hr⟩ := en.pd i _ h0
      cases hr
      refine ⟨_, hv, B, env, _, _, en, h1, fun B1 H1 v a1 r1 => ?_⟩
      cases r1
      exact ⟨a, b, rfl, rfl, q B1 _ H1 (AtS.set en a1.s (d := .pd (.int (a + b))) (.int _) h2)⟩
    · cases ev
  · cases ev
theorem s_aug {X : Cx} {e : Expr} {pos : Pos} {f : EE} {i : Nat} {x : Str} {pos' : Pos} (hN : X.N.Nodup) (hi : X.N[i]? = some x) (hx : Loc X.env.scope x) (he : PE X e (tE X.K f)) (hf : X.fn x = true ∨ X.env.scope.names.lookup x = some .local := by first | exact .inl rfl | exact .inr rfl | assumption) :
    PS X (.AugAssign (.Name x pos') .Add e pos) (tS X.K (sAug i f)) := PS.imp (ps_aug hN hi hx he ip_add hf) fun _ _ _ t => rd_aug t
end T3

end
section
set_option linter.all false
set_option autoImplicit false
set_option Elab.async false
set_option maxRecDepth 100000
namespace T3
open PySem L2
open Sem (wp)
open AutoSeq1 (wpAny_loadPart')
variable [TabL]
abbrev eT1 (h : Heap) (t : Addr) : Heap := h.push { cls := .type "tuple_iterator", data := .fields #[.ref t, .int 0 0] }
abbrev eT2 (h : Heap) (t : Addr) : Heap := (eT1 h t).push { cls := .type "enumerate", data := .fields #[.none, .bool false, .ref h.objs.size, rawInt 0, .none, .none] }
theorem meets_enT (t : Addr) (us : Array Value) (k : Nat) (dd : Option Addr) (sl : Array (Option Value)) :
    Meets (Builtin.«enumerate.__new__» ⟨[.type "enumerate", .ref t], []⟩) (fun _ R s =>
      s.heap.get? t = some { cls := .type "tuple", dict := dd, data := .seq us k, slots := sl } ∧ R (.ok (.ret (.ref (eT1 s.heap t).objs.size))) { s with heap := eT2 s.heap t }) :=
  .of_wp fun prog w A R s q => by
    obtain ⟨h0, g, d, tk, os⟩ := s
    obtain ⟨ht, q⟩ := q
    have hsub := sub_enumerate
    have hT : Heap.IsTuple (Shared.heap ⟨h0, g, d, tk, os⟩) t us := ⟨_, ht, rfl, k, rfl⟩
    wp_walk using wpAny_loadPart' ht
    refine wpAny_stack_any fun z => wpAny_pure ?_
    split
    · rename_i c _ _ _ _ _
      cases (c == Value.type "enumerate") <;>
      · wp_walk using wpAny_loadPart' ht, wpAny_pyIter_tuple hT
        exact ⟨_, rfl, q⟩
    · wp_walk using wpAny_loadPart' ht, wpAny_pyIter_tuple hT
      exact ⟨_, rfl, q⟩
theorem call_enT {prog : Program} {w : World} {A : Around} {E : Value → Shared → Prop} {s : Shared} {t : Addr} {us : Array Value} {Q : Value → Shared → Prop} (hT : s.heap.IsTuple t us)
    (q : ∀ h', IsEnum h' (s.heap.objs.size + 1) s.heap.objs.size 0 .none → h'.IsTupleIter s.heap.objs.size t 0 → (∀ b o, s.heap.get? b = some o → h'.get? b = some o) → Q (.ref (s.heap.objs.size + 1)) { s with heap := h' }) :
    wpAny (model prog w) A (call (.type "enumerate") [.ref t]) Q E s := by
  obtain ⟨⟨c, dct, dt, sl⟩, ht, hc, n, hd⟩ := hT
  replace hc : c = .type "tuple" := hc
  replace hd : dt = .seq us n := hd
  subst hc hd
  refine callType_new F.called_enumerate (by decide) (F.typeCall_enumerate_1 _) (F.newCall_enumerate_1 _) (fun o => F.args_object_init_2 o _) F.entry_enumerate_new (meets_enT t us n dct sl) ⟨ht, ?_⟩
  have hz : (eT1 s.heap t).objs.size = s.heap.objs.size + 1 := Heap.size_push ..
  show _ ∧ _
  rw [hz]
  have he : IsEnum (eT2 s.heap t) (s.heap.objs.size + 1) s.heap.objs.size 0 .none := by
    have := Heap.get?_push_size (eT1 s.heap t) (o := { cls := .type "enumerate", data := .fields #[.none, .bool false, .ref s.heap.objs.size, rawInt 0, .none, .none] }) rfl
    rw [hz] at this
    exact this
  exact ⟨⟨_, he, rfl⟩, q _ he ⟨_, Heap.get?_push_of_some _ (Heap.get?_push_size _ rfl), rfl, rfl⟩ fun b o x => Heap.get?_push_of_some _ (Heap.get?_push_of_some _ x)⟩
def ItET (K : PySem.W.Frag) (a : Addr) : It :=
  ⟨fun i H => ∃ (xs : List V) (x : V), SqT K H a xs ∧ xs[i]? = some x,
   fun i H v H' => ∃ T x, v = .ref T ∧ H T = none ∧ H' = upd H T (.tup [.int (i : Nat), x]) ∧ ∀ xs, SqT K H a xs → xs[i]? = some x,
   fun i H => ∃ xs : List V, SqT K H a xs ∧ i = xs.length⟩
theorem turn_et {P : Program} {w : World} {K : PySem.W.Frag} {elts : List Expr} {kk : Nat} {tpos : Pos} (a e it : Addr) (n1 : e ≠ it) (n2 : e ≠ a) (n3 : a ≠ it) :
    Turn P w K (.Tuple elts kk tpos) (ItET K a) [e, it] e (fun i h => (∃ old, IsEnum h e it ((i : Nat) : Int) old) ∧ h.IsTupleIter it a i) where
  mem := by simp
  obj i h q b hb := by
    obtain ⟨⟨old, he⟩, ⟨o, ho, hc, hd⟩⟩ := q
    rcases (show b = e ∨ b = it by simpa using hb) with rfl | rfl
    · exact ⟨_, he, fun v z => nomatch z⟩
    · exact ⟨o, ho, fun v z => by rw [hd] at z; cases z⟩
  keep i h h' q k := by
    obtain ⟨⟨old, he⟩, ⟨o, ho, r⟩⟩ := q
    exact ⟨⟨old, k e (by simp) _ he⟩, ⟨o, k it (by simp) _ ho, r⟩⟩
  item := by
    intro X hP hw hK hc i pins s σ H E I hf q hg
    subst hP hw hK
    obtain ⟨⟨old, he⟩, hit⟩ := q
    obtain ⟨xs, x, hq, hx⟩ := hg
    obtain ⟨its, rv, p, hz⟩ := I.tuple hq
    obtain ⟨u, hu, ru⟩ := rv.get hx
    have hel : e < s.heap.objs.size := Heap.lt_size he
    have hil : it < s.heap.objs.size := by obtain ⟨_, z, _⟩ := hit; exact Heap.lt_size z
    have Dr := Draws.tuple (prog := X.prog) (w := X.w) (A := X.A.in1) (I.ok.hd hc) it a n3 its.toArray
    have hi : i < its.toArray.size := by
      have := (List.getElem?_eq_some_iff.mp hu).1
      simpa using this
    refine wpAny_pyNext_enum_itemD Dr he ⟨hit, p⟩ hi n1 (by simp [n1, n2]) fun u' h' tk hu' ho hit' hT hsz hk => ?_
    have eu : u' = u := by
      have z : its.toArray[i]? = some u := by simpa using hu
      rw [z] at hu'
      exact (Option.some.inj hu').symm
    subst eu
    refine ⟨_, rfl, wpAny_letOwnedTupleGo_enum (s := { s with heap := h', toks := tk + 1 }) ho fun h'' he' sb => ?_⟩
    have new : ObjOk X.prog X.w (upd H s.heap.objs.size (.tup [.int (i : Nat), x])) h'' s.heap.objs.size (.tup [.int (i : Nat), x]) :=
      ⟨by rw [sizeLine_eq]; simp, [.int i tk, u'], .cons ⟨_, rfl⟩ (.cons ru .nil), ⟨_, (sb.2 _ (Nat.ne_of_gt hel)).trans hT, rfl, _, rfl⟩⟩
    have I1 : Inv X pins σ (upd H s.heap.objs.size (.tup [.int (i : Nat), x])) { s with heap := h'', toks := tk + 1 } :=
      I.turnedNew (ch := [e, it]) (fun b ob hb z => (sb.2 b (fun y => hb (by simp [y]))).trans (hk b ob (fun y => hb (by simp [y])) (fun y => hb (by simp [y])) z)) hf (Nat.le_refl _) new
    obtain ⟨⟨oi, hoi, ri⟩, _⟩ := hit'
    refine ⟨.ref s.heap.objs.size, _, I1, rfl, ⟨_, x, rfl, I.hok.fresh (Nat.le_refl _), rfl, fun ys hy => by rw [I.tuple_inj hy hq]; exact hx⟩, ⟨⟨u', ?_⟩, ⟨oi, (sb.2 it (Ne.symm n1)).trans hoi, ri⟩⟩, fun b hb => ?_⟩
    · have e1 : ((i + 1 : Nat) : Int) = (i : Int) + 1 := by omega
      rw [e1]; exact he'
    · have hb' : b < s.heap.objs.size := by
        rcases (show b = e ∨ b = it by simpa using hb) with z | z
        · rw [z]; exact hel
        · rw [z]; exact hil
      rw [upd_ne (Nat.ne_of_lt hb')]
      exact (hf b hb).1
  done := by
    intro X hP hw hK hc i pins s σ H E I hf q hg
    subst hP hw hK
    obtain ⟨⟨old, he⟩, hit⟩ := q
    obtain ⟨xs, hq, hx⟩ := hg
    obtain ⟨its, rv, p, hz⟩ := I.tuple hq
    obtain ⟨f0, f1, f2, f3, f4, f5⟩ := hf it (by simp)
    have hl := rv.length
    have Dr := Draws.tuple (prog := X.prog) (w := X.w) (A := X.A.in1) (I.ok.hd hc) it a n3 its.toArray
    have hi : i = its.toArray.size := by rw [hx, hl]; simp
    subst hi
    exact wpAny_pyNext_enum_endD Dr he ⟨hit, p⟩ fun h' eb => ⟨rfl, I.turned (t' := s.toks) (fun b o hb z => eb b o hb z) f0 f1 f3 f4 f5⟩
  self A i s Q E q h := by
    obtain ⟨⟨old, he⟩, _⟩ := q
    exact wpAny_pyIter_enum he h
def iET (K : PySem.W.Frag) (te : TE) : TI := fun σ H R => te σ H fun v H1 => ∃ a xs, v = .ref a ∧ SqT K H1 a xs ∧ R (ItET K a) H1
theorem pi_et {X : Cx} {e : Expr} {te : TE} {p pos tpos : Pos} {elts : List Expr} {kk : Nat} (hg : Gl X "enumerate") (hm : X.mg "enumerate" = none) (he : PE X e te) (hs : starEach [e] X.env = (false, eval e X.env) :: starEach [] X.env := by rfl) :
    PI X (.Tuple elts kk tpos) (.Call (.Name "enumerate" p) [e] [] pos) (iET X.K te) := by
  refine ⟨fun pins s σ H R I h => ?_⟩
  refine PyProof.Rows.Call_ (ld_blt I hg hm (by decide +kernel : bootBuiltins "enumerate" = some (.type "enumerate")) (PyProof.Rows.callWith_type1 (one_arg he I h (fun v s2 x H2 I2 r q => ?_) hs) hs))
  obtain ⟨a, xs, rfl, hq, q⟩ := q
  cases r
  obtain ⟨its, rv, pt, hz⟩ := I2.tuple hq
  have hal : a < s2.heap.objs.size := by obtain ⟨_, z, _⟩ := pt; exact Heap.lt_size z
  refine call_enT pt fun h' he' hit hk => wpAny_pyIter_enum he' ?_
  refine ⟨s2.heap.objs.size + 1, [s2.heap.objs.size + 1, s2.heap.objs.size], _, _, H2, rfl, I2.kept (t' := s2.toks) hk, turn_et a (s2.heap.objs.size + 1) s2.heap.objs.size (Nat.succ_ne_self _) (Nat.ne_of_gt (Nat.lt_succ_of_lt hal)) (Nat.ne_of_lt hal), ⟨⟨.none, he'⟩, hit⟩, fun b hb => ?_, q⟩
  have hle : s2.heap.objs.size ≤ b := by
    rcases (show b = s2.heap.objs.size + 1 ∨ b = s2.heap.objs.size by simpa using hb) with y | y
    · rw [y]; exact Nat.le_add_right _ _
    · rw [y]; exact Nat.le_refl _
  exact I2.fpOk hle (I2.hok.fresh hle)
theorem wk_et {K : PySem.W.Frag} {a : Addr} {xs : List PyData} : Wk K (ItET K a) (fun _ => False) (fun B H => Rp K B H (.ref a) (.tuple xs)) (enumD xs 0) where
  go i B H g hi := by
    obtain ⟨_, us, e, h1, h2⟩ := Cn.tuple (.rp g)
    cases e
    simp only [enumD, List.length_map, List.length_range] at hi
    have l1 := h2.length
    exact ⟨us, us[i]'(by omega), h1, by simp⟩
  stop B H g := by
    obtain ⟨_, us, e, h1, h2⟩ := Cn.tuple (.rp g)
    cases e
    refine ⟨us, h1, ?_⟩
    simp only [enumD, List.length_map, List.length_range]
    exact h2.length.symm
  yld i B H x H' d g hd hy := by
    obtain ⟨_, us, e, h1, h2⟩ := Cn.tuple (.rp g)
    cases e
    obtain ⟨T, u, rfl, nT, rfl, f1⟩ := hy
    refine ⟨.inr (.inl ⟨T, _, nT, rfl⟩), ?_⟩
    obtain ⟨x, m1, m2⟩ := h2.getV (f1 us h1)
    have hi : i < xs.length := (List.getElem?_eq_some_iff.mp m1).1
    simp only [enumD, List.getElem?_map, List.getElem?_range hi, Option.map_some] at hd
    cases hd
    have : xs.getD i .none = x := by
      rw [List.getD_eq_getElem?_getD, m1]
      rfl
    rw [this, Nat.zero_add]
    have gr : Grow B H B (upd H T (.tup [.int (i : Nat), u])) := ⟨fun q o h _ => keep_upd nT q o h, fun q h => .inl h⟩
    exact .tup (.inl (.inl upd_same)) (.cons (.int _) (.cons (m2.grow gr) .nil))
  keep W B H W' B' H' g s wb _ := g.grow (s.grow wb)
def iEnT (f : EE) : EI := fun env => match f env with
  | some (d, e) => match tupOf d with
    | none => none
    | some xs => some (enumD xs 0, none, e)
  | _ => none
theorem i_enT {X : Cx} {e : Expr} {f : EE} {p pos tpos : Pos} {elts : List Expr} {kk : Nat} (hg : Gl X "enumerate") (hm : X.mg "enumerate" = none) (he : PE X e (tE X.K f)) (hs : starEach [e] X.env = (false, eval e X.env) :: starEach [] X.env := by rfl) :
    PI X (.Tuple elts kk tpos) (.Call (.Name "enumerate" p) [e] [] pos) (tI X.K (iEnT f)) := PI.imp (pi_et hg hm he hs) fun σ H R h => by
  obtain ⟨B, env, xs, lk, env', en, ev, q⟩ := h
  unfold iEnT at ev
  split at ev
  · rename_i d e1 h1
    split at ev
    · cases ev
    rename_i xs h2
    cases ev
    refine ⟨B, env, _, _, en, h1, fun B1 H1 v a1 r1 => ?_⟩
    have r2 := tupOf_at r1.ra h2
    obtain ⟨a, us, rfl, g1, _⟩ := Cn.tuple (.rp r2)
    exact ⟨a, us, rfl, g1, q B1 H1 _ _ _ _ a1 rfl wk_et r2 (fun _ z => z.elim)⟩
  · cases ev
@[simp] theorem z_enT (f : EE) (env : Sl) : iEnT f env = (match f env with
  | some (d, e) => match tupOf d with
    | none => none
    | some xs => some (enumD xs 0, none, e)
  | _ => none) := rfl
end T3

end
section
set_option linter.all false
set_option autoImplicit false
set_option Elab.async false
namespace T3
open PySem L2 PyProof.Rows
variable [TabL]
theorem len_same {a b : List Int} (h1 : a.Nodup) (h2 : b.Nodup) (h : ∀ x, x ∈ a ↔ x ∈ b) : a.length = b.length :=
  Nat.le_antisymm (h1.length_le_of_subset fun x hx => (h x).mp hx) (h2.length_le_of_subset fun x hx => (h x).mpr hx)
def tLST (K : PySem.W.Frag) (ta : TE) : TE := fun σ H Q => ta σ H fun x H1 => ∃ (t : Addr) (ns : List Int), x = V.ref t ∧ SqT K H1 t (ns.map V.int) ∧ ns.length < 64 ∧ ns.Nodup ∧ Q (.int ns.length) H1
theorem pe_lst {X : Cx} {a : Expr} {ta : TE} {p p2 q pos : Pos} (hc : X.calm = true) (hg : Gl X "len") (hm : X.mg "len" = none) (hg2 : Gl X "set") (hm2 : X.mg "set" = none) (ha : PE X a ta)
    (na : starEach [a] X.env = (false, eval a X.env) :: starEach [] X.env := by rfl) : PE X (.Call (.Name "len" p) [.Call (.Name "set" p2) [a] [] q] [] pos) (tLST X.K ta) := by
  refine ⟨fun pins s σ H Q I h => Call_ (ld_blt I hg hm PySem.boot_len ?_)⟩
  refine PyProof.Rows.callWith_builtin1 (PyProof.Rows.args_cons (Call_ (ld_blt I hg2 hm2 PyProof.Rows.boot_set ?_)) rfl) rfl rfl
  refine PyProof.Rows.callWith_type1 (PyProof.Rows.args_cons (thn (ha.run pins s σ H _ I h) fun v s1 ⟨x, H1, I1, r1, k1⟩ => PyProof.Rows.args_nil ?_) na) na rfl
  obtain ⟨t, ns, rfl, hq, b, nd, k1⟩ := k1
  cases r1
  obtain ⟨its, r, pt, hz⟩ := I1.tuple hq
  refine call_set_tupI ns (I1.ok.hd hc) (show s1.heap.IsTuple t its.toArray from pt) (by simpa using r.ints) (by unfold scanBound; omega) fun h' tk c R1 hcn hk => ?_
  obtain ⟨o, es, ep, z, ho, hex, hd, g, nk, hm3, hb, hf, hn, _, _⟩ := R1
  have ec : c = ns.length := by
    have := len_same nk nd fun x => by rw [← hm3 x]; simp
    rw [List.length_map, Array.length_toList, hn] at this
    exact this
  subst ec
  refine PyProof.Rows.args_nil ?_
  have I2 : Inv X pins σ H1 { s1 with heap := h', toks := tk } := I1.kept fun b o e => hk b o e
  exact call_len_set ho hex hd hf (by rw [hn]; omega) ⟨.int ns.length, H1, I2.tok _, ⟨_, by rw [hn]⟩, k1⟩
end T3

end
section
set_option linter.all false
set_option autoImplicit false
set_option Elab.async false
namespace T3
open PySem L2
variable [TabL]
end T3

end
section
set_option linter.all false
set_option autoImplicit false
set_option Elab.async false
namespace T3
open PySem PyProof.Rows
variable [TabL]
end T3
namespace T3
open PySem L2
variable [TabL]
end T3

end
section
set_option linter.all false
set_option autoImplicit false
set_option Elab.async false
namespace T3
open PySem L2
variable [TabL]
end T3

end
section
set_option linter.all false
set_option autoImplicit false
set_option Elab.async false
namespace T3
open PySem PyProof.Rows TS
variable [TabL]
end T3
namespace T3
open PySem L2
variable [TabL]
end T3

end
section
set_option linter.all false
set_option autoImplicit false
set_option Elab.async false
namespace T3
open PySem L2
variable [TabL]
end T3

end
section
set_option linter.all false
set_option autoImplicit false
set_option Elab.async false
namespace T3
open PySem PySem.Spec PySem.W L2 PyProof.Rows
variable [TabL]
def keyV (e : DictEntry) : V := bkV e.key
def rSrtD (K : PySem.W.Frag) (d : Nat) (B : Int) : List V → Hp → VK → Prop := fun vs H Q => ∃ (a : Addr) (es : DEs), vs = [V.ref a] ∧ H a = some (DnO a es) ∧ es.es.length < 64 ∧ (∀ e ∈ es.es, ∃ b ns, e.key = .ref b ∧ TupI K H (.ref b) ns ∧ ns.length = d ∧ TS.Bd B ns) ∧
  ∀ (ys : List V) (p : Addr), ys.Perm (es.es.map keyV) → ys.Pairwise (fun x y => ∀ n m, TupI K H x n → TupI K H y m → TS.code B n ≤ TS.code B m) → H p = none → Q (.ref p) (upd H p (.lst ys))
theorem cr_srtD {X : Cx} {d : Nat} {B : Int} (hc : X.calm = true) (hd : 1 ≤ d) : CallR X (.builtin "sorted") (rSrtD X.K d B) := by
  intro pins s σ H vs us Q I r h
  obtain ⟨a, ⟨o, ep, es⟩, rfl, ha, h64, hk, q⟩ := h
  rw [Vals.ref1 r]
  dsimp only at h64 hk q
  obtain ⟨lo, hz, ho, hx, hda⟩ : (a == sysModules) = false ∧ es.length ≤ sizeLine ∧ s.heap.get? a = some o ∧ o.ExactDict ∧ o.data = .dict es.toArray ep := (I.hok a _ ha).1
  refine Calls.call_function_entry PyProof.Rows.kind_sorted PyProof.Rows.plain_sorted PyProof.Rows.entry_sorted (PyProof.Rows.args_sorted1 _) ?_
  unfold Builtin.«sorted»
  refine wpAny_bind (m := checkCount "sorted" 1 1 _) (wpAny_pure (wpAny_bind (PySem.W.kdu_collect (A := X.A.in1) (KdlSrc.rawDict (es := es.toArray) (ep := ep) lo) (I.ok.hd hc) ⟨o, ho, hx, hda⟩ (by simpa using hz) fun h' tk acc hk' hacc => ?_)))
  have el : acc.toList = es.map (·.key) := by
    apply List.ext_getElem?
    intro i
    obtain ⟨h1, h2⟩ := hacc
    by_cases hi : i < es.length
    · have hi' : i < acc.size := by rw [h1]; simpa using hi
      obtain ⟨_, e⟩ := h2 i acc[i] (Array.getElem?_eq_getElem hi')
      rw [Array.getElem?_toList, Array.getElem?_eq_getElem hi', e]
      simp [hi]
    · rw [Array.getElem?_toList, Array.getElem?_eq_none (by rw [h1]; simpa using hi)]
      simp [hi]
  have I1 : Inv X pins σ H { s with heap := h', toks := tk } := I.kept hk'
  have vlen : acc.toList.length < 64 := by rw [el, List.length_map]; exact h64
  refine wpAny_bind (wpAny_newList ?_ (by rw [sizeLine_eq]; omega))
  have hoL : (h'.push (seqObj "list" acc.toList.toArray 0)).get? h'.objs.size = some (seqObj "list" acc.toList.toArray 0) := Heap.get?_push_size _ rfl
  show wpAny _ _ _ _ _ { s with heap := h'.push (seqObj "list" acc.toList.toArray 0), toks := tk }
  have tups : TS.TupsOk h' d B acc.toList := fun v hv => by
    rw [el] at hv
    obtain ⟨e, he, rfl⟩ := List.mem_map.mp hv
    obtain ⟨b, ns, e1, ⟨t, e2, ht⟩, hn, hb⟩ := hk e he
    cases e2
    rw [e1]
    exact ⟨ns, tupI_raw I1 ht, hn, hb⟩
  have keep : ∀ b u, h'.get? b = some u → u.cls = .type "tuple" → (h'.push (seqObj "list" acc.toList.toArray 0)).get? b = some u := fun b u e _ => Heap.get?_push_of_some _ e
  refine wpAny_bind (wpAny_holding (wpAny_call_entry PyProof.Rows.slot_list_sort ⟨_, hoL, rfl⟩ PyProof.Rows.entry_list_sort
    (TS.sort_tups (s := { s with heap := h'.push (seqObj "list" acc.toList.toArray 0), toks := tk }) hoL vlen hd (tups.keeps keep) (fun v => TS.code B (TS.intsOf h' v)) (fun v hv ns t => ?_) fun out a1 a2 => ⟨_, rfl, ?_⟩) (PyProof.Rows.args_list_sort _)))
  · obtain ⟨ns0, t0, _⟩ := tups v hv
    have e : ns = ns0 := t.ints.symm.trans (t0.keeps keep).ints
    rw [e, t0.ints]
  · obtain ⟨e', he'⟩ := PyProof.Rows.sortedHeap_at (vs := acc.toList) (out := out) hoL
    have h3 : ∀ u ∈ out.toList, ∃ b, u = Value.ref b := fun u hu => by
      have := a1.mem_iff.mp hu
      rw [el] at this
      obtain ⟨e, he, rfl⟩ := List.mem_map.mp this
      obtain ⟨b, ns, e1, _⟩ := hk e he
      exact ⟨b, e1⟩
    have hp : (out.toList.map bkV).Perm (es.map keyV) := by
      have := a1.map bkV
      rw [el, List.map_map] at this
      exact this
    have hlen : (out.toList.map bkV).length ≤ sizeLine := by rw [hp.length_eq, List.length_map]; exact hz
    refine wpAny_pure ⟨_, rfl, .ref h'.objs.size, upd H h'.objs.size (.lst (out.toList.map bkV)), I1.laid (t' := tk) (fun b u e => ?_) (Nat.le_refl _)
      (show ObjOk X.prog X.w _ _ _ (.lst (out.toList.map bkV)) from ⟨hlen, out.toList, e', bkV_vals h3, by rw [Array.toArray_toList]; exact he'⟩), rfl, q _ _ hp ?_ (I1.hok.fresh (Nat.le_refl _))⟩
    · have hb : b < h'.objs.size := Heap.lt_size e
      rw [PyProof.Rows.sortedHeap_old (Nat.ne_of_lt hb) (by rw [size_push']; exact Nat.lt_succ_of_lt hb)]
      exact Heap.get?_push_of_some _ e
    · rw [List.pairwise_map]
      refine List.Pairwise.imp (fun {u v} huv n m hn hm => ?_) a2
      obtain ⟨t, et, ht⟩ := hn
      obtain ⟨t', et', ht'⟩ := hm
      rw [← (show TS.intsOf h' u = n by rw [bkV_ref et]; exact (tupI_raw I1 ht).ints), ← (show TS.intsOf h' v = m by rw [bkV_ref et']; exact (tupI_raw I1 ht').ints)]
      exact huv
end T3
namespace T3
open PySem L2
variable [TabL]
def kSrtD : KK := fun ds env => match ds with
  | [.var i] => match env[i]? with
    | some (some (.mu _ (.dn kvs))) => if kvs.length < 64 then match pairs? (kvs.map fun q => q.1.data) with
        | some ps => some (.tmp (.ls ((ps.mergeSort prLe).map clD)), env)
        | none => none
      else none
    | _ => none
  | _ => none
theorem DnR.keys {K : PySem.W.Frag} {B : Mset} {H : Hp} : ∀ {es : List DictEntry} {kvs : List (NestedKey × PyData)}, Paired (DnE K B H) es kvs → RpA K B H (es.map keyV) (kvs.map fun q => q.1.data)
  | _, _, .nil => .nil
  | _, _, .cons h r => by
    obtain ⟨_, _, ⟨b, e, hr⟩, _⟩ := h
    refine .cons ?_ (DnR.keys r)
    unfold keyV
    rw [e]
    exact hr
theorem srt_pairs {K : PySem.W.Frag} {B1 : Mset} {H1 : Hp} {ys : List V} {ps qs : List (Int × Int)} (hb : ∀ z ∈ ps, 0 ≤ z.1 ∧ z.1 < 64 ∧ 0 ≤ z.2 ∧ z.2 < 64) (g3 : qs.Perm ps) (g1 : RpA K B1 H1 ys (qs.map clD)) (k2 : ys.Pairwise (fun x y => ∀ n m, TupI K H1 x n → TupI K H1 y m → TS.code 64 n ≤ TS.code 64 m)) : qs = ps.mergeSort prLe := by
  have ord : ∀ {ys : List V} {qs : List (Int × Int)}, RpA K B1 H1 ys (qs.map clD) → ys.Pairwise (fun x y => ∀ n m, TupI K H1 x n → TupI K H1 y m → TS.code 64 n ≤ TS.code 64 m) → qs.Pairwise (fun x y => x.1 * 64 + x.2 ≤ y.1 * 64 + y.2) := by
    intro ys qs
    induction qs generalizing ys with
    | nil => intro _ _; exact .nil
    | cons c qs ih =>
      intro r pw
      cases r with
      | cons r1 r2 =>
        cases pw with
        | cons w1 w2 =>
          refine .cons (fun y hy => ?_) (ih r2 w2)
          obtain ⟨j, hj, e⟩ := List.getElem_of_mem hy
          obtain ⟨vv, z1, z2⟩ := r2.get (i := j) (d := clD y) (by rw [List.getElem?_map, List.getElem?_eq_getElem hj, e]; rfl)
          have := w1 vv (List.mem_of_getElem? z1) _ _ (tupI_of r1) (tupI_of z2)
          rw [code_pr, code_pr] at this
          exact this
  have hbq : ∀ z : Int × Int, z ∈ qs → 0 ≤ z.1 ∧ z.1 < 64 ∧ 0 ≤ z.2 ∧ z.2 < 64 := fun z hz => hb z (g3.mem_iff.mp hz)
  refine List.Perm.eq_of_pairwise (le := fun x y : Int × Int => x.1 * 64 + x.2 ≤ y.1 * 64 + y.2) (fun x y hx hy l1 l2 => ?_) (ord g1 k2) ?_ (g3.trans (List.mergeSort_perm _ _).symm)
  · have b1 := hbq x hx
    have b2 := hb y ((List.mergeSort_perm ps prLe).mem_iff.mp hy)
    exact Prod.ext (by omega) (by omega)
  · have := List.pairwise_mergeSort (le := prLe) (fun a b c h1 h2 => by simp [prLe] at h1 h2 ⊢; omega) (fun a b => by simp [prLe]; omega) ps
    exact this.imp (by intro a b h; simpa [prLe] using h)
theorem c_srtD {K : PySem.W.Frag} : Con K kSrtD (rSrtD K 2 64) := by
  intro σ H B env B1 H1 env1 vs ds d e2 Q en a rr hk q
  unfold kSrtD at hk
  split at hk
  · rename_i i
    match vs, rr with
    | [v], rr =>
      split at hk
      · rename_i m kvs hi
        split at hk
        · rename_i h64
          split at hk
          · rename_i ps hp
            cases hk
            obtain ⟨p, hσ, hB, es, he, hR⟩ := a.en.mu i _ _ hi
            have hv : v = .ref p := by
              have h1 : σ[i]? = some (some v) := rr.each 0 v _ rfl rfl
              rw [hσ] at h1
              cases h1
              rfl
            subst hv
            have h2 := DnR.keys hR.ent
            have hl : es.es.length = kvs.length := by have := h2.length; simpa using this
            obtain ⟨ep, hb⟩ := pairs_eq hp
            rw [ep] at h2
            refine ⟨p, es, rfl, he, by rw [hl]; exact h64, fun e hm => ?_, fun ys r k1 k2 nr => ?_⟩
            · obtain ⟨j, hj, ej⟩ := List.getElem_of_mem hm
              obtain ⟨y, z1, z2⟩ := h2.getV (i := j) (v := keyV e) (by rw [List.getElem?_map, List.getElem?_eq_getElem hj, ej]; rfl)
              rw [List.getElem?_map] at z1
              cases hc : ps[j]? with
              | none => rw [hc] at z1; cases z1
              | some c =>
                rw [hc] at z1
                cases z1
                have hbb := hb c (List.mem_of_getElem? hc)
                obtain ⟨t, et, ht⟩ := tupI_of z2
                refine ⟨t, [c.1, c.2], bkV_ref et, ⟨t, rfl, ht⟩, rfl, fun k hk => ?_⟩
                rcases List.mem_cons.mp hk with e | e
                · rw [e]; exact ⟨hbb.1, hbb.2.1⟩
                · rw [List.mem_singleton.mp e]; exact hbb.2.2
            · obtain ⟨zs, g1, g2⟩ := h2.perm k1
              obtain ⟨qs, rfl, g3⟩ := map_perm_clD g2
              rw [show ps.mergeSort prLe = qs from (srt_pairs hb g3 g1 k2).symm] at q
              exact con_new en a nr g1 q
          · cases hk
        · cases hk
      · cases hk
    | [], rr => have := rr.len; simp at this
    | _ :: _ :: _, rr => have := rr.len; simp at this
  · cases hk
theorem w_srtD {X : Cx} {k : Nat} (hc : X.calm = true) (hr : Room k X.A) : Blt X "sorted" kSrtD := ⟨_, _, cr_srtD hc (by decide), c_srtD, by decide +kernel⟩
end T3

end
section
set_option linter.all false
set_option autoImplicit false
set_option Elab.async false
set_option maxRecDepth 100000
set_option maxHeartbeats 1000000
namespace ZM
open PySem RZ
open PySem.Sem (wp)
def Fin (prog : Program) (w : World) (it : Addr) (P : Heap → Prop) : Prop :=
  ∀ {A : Around} {E : Value → Shared → Prop} {Q : Value → Shared → Prop} {s : Shared}, A.handled = none → P s.heap → (∀ h' e, Heap.ExtBut it s.heap h' → (∃ o, h'.get? e = some o ∧ o.cls = .type "StopIteration") → E (.ref e) { s with heap := h' }) → wpAny (model prog w) A (Builtin.SmallTypes.nextOf (.ref it)) Q E s
section
variable {prog : Program} {w : World} {A : Around} {E : Value → Shared → Prop} {s : Shared}
end
end ZM

end
section
set_option linter.all false
set_option autoImplicit false
set_option Elab.async false
set_option maxRecDepth 100000
set_option maxHeartbeats 1000000
namespace ZM
open PySem PySem.Spec PyProof.Rows L2 RZ
end ZM
namespace T3
open PySem L2
variable [TabL]
end T3

end
section
set_option linter.all false
set_option autoImplicit false
set_option Elab.async false
namespace T3
open PySem L2
variable [TabL]
end T3

end
section
set_option linter.all false
set_option autoImplicit false
set_option Elab.async false
namespace T3
open PySem L2
variable [TabL]
def wS (f : SS) (env : Sl) (P : Fl → Sl → Prop) : Prop := match f env with
  | none => False
  | some p => P p.1 p.2
theorem wS_ex {f : SS} {env : Sl} {P : Fl → Sl → Prop} : wS f env P ↔ ∃ fl e, f env = some (fl, e) ∧ P fl e := by
  unfold wS
  constructor
  · intro h
    split at h
    · exact h.elim
    · rename_i p hp
      exact ⟨p.1, p.2, hp, h⟩
  · rintro ⟨fl, e, h1, h2⟩
    rw [h1]
    exact h2
def Go (g : SS) (P : Fl → Sl → Prop) (e : Sl) : Prop := wS g e P
def nxt (K : Sl → Prop) (P : Fl → Sl → Prop) : Fl → Sl → Prop
  | .nx, e => K e
  | .bk, e => P .bk e
  | .ct, e => P .ct e
  | .rt d, e => P (.rt d) e
def wF (F : FnD) (as : List S) (Q : R → List S → Prop) : Prop := ∃ r as', F as = some (r, as') ∧ Q r as'
def retP (as : List S) (Q : R → List S → Prop) : Fl → Sl → Prop
  | .rt d, e => ∃ d' as', outR e d = some d' ∧ finals as e = some as' ∧ Q d' as'
  | .nx, e => ∃ as', finals as e = some as' ∧ Q (.pd .none) as'
  | .bk, _ => False
  | .ct, _ => False
def lpP (I : Sl → Prop) (P : Fl → Sl → Prop) : Fl → Sl → Prop
  | .nx, e => I e
  | .ct, e => I e
  | .bk, e => P .nx e
  | .rt d, e => P (.rt d) e
section
variable {f g : SS} {env : Sl} {P P' : Fl → Sl → Prop} {K : Sl → Prop} {e : Sl}
theorem go : Go g P e ↔ wS g e P := Iff.rfl
@[simp] theorem nxt_nx : nxt K P .nx e = K e := rfl
@[simp] theorem nxt_rt {d : R} : nxt K P (.rt d) e = P (.rt d) e := rfl
@[simp] theorem lpP_nx : lpP K P .nx e = K e := rfl
@[simp] theorem lpP_ct : lpP K P .ct e = K e := rfl
@[simp] theorem lpP_bk : lpP K P .bk e = P .nx e := rfl
@[simp] theorem lpP_rt {d : R} : lpP K P (.rt d) e = P (.rt d) e := rfl
@[simp] theorem retP_rt {as : List S} {Q : R → List S → Prop} {d : R} : retP as Q (.rt d) e = ∃ d' as', outR e d = some d' ∧ finals as e = some as' ∧ Q d' as' := rfl
@[simp] theorem retP_nx {as : List S} {Q : R → List S → Prop} : retP as Q .nx e = ∃ as', finals as e = some as' ∧ Q (.pd .none) as' := rfl
theorem wS.imp (h : wS f env P) (i : ∀ fl e, P fl e → P' fl e) : wS f env P' := let ⟨fl, e, a, b⟩ := wS_ex.mp h; wS_ex.mpr ⟨fl, e, a, i fl e b⟩
theorem wS_of {fl : Fl} (h : f env = some (fl, e)) (q : P fl e) : wS f env P := wS_ex.mpr ⟨fl, e, h, q⟩
theorem wS_seq (h : wS f env (nxt (Go g P) P)) : wS (sSeq f g) env P := by
  rw [wS_ex] at h ⊢
  obtain ⟨fl, e, h1, h2⟩ := h
  cases fl with
  | nx =>
    obtain ⟨fl, e', h3, h4⟩ := wS_ex.mp h2
    exact ⟨fl, e', by simp [h1, h3], h4⟩
  | bk => exact ⟨_, _, by simp [h1], h2⟩
  | ct => exact ⟨_, _, by simp [h1], h2⟩
  | rt d => exact ⟨_, _, by simp [h1], h2⟩
theorem wS_ifW {c : EB} (h : match c env with
  | none => False
  | some p => if p.1 = true then Go f P p.2 else Go g P p.2) : wS (sIf c f g) env P := by
  split at h
  · exact h.elim
  · rename_i p h1
    unfold wS
    rw [z_if, h1]
    split at h
    · rename_i hb
      simp only [hb, if_true]
      exact h
    · rename_i hb
      simp only [hb]
      exact h
def gW (g : GG) (x : PyData) (e : Sl) (K : Sl → Prop) : Prop := match g x e with
  | none => False
  | some e1 => K e1
theorem gW_ex {g : GG} {x : PyData} {e : Sl} {K : Sl → Prop} (h : gW g x e K) : ∃ e1, g x e = some e1 ∧ K e1 := by
  unfold gW at h
  split at h
  · exact h.elim
  · rename_i e1 h1
    exact ⟨e1, h1, h⟩
theorem wS_forL {g : GG} {body : SS} (I : List PyData → Sl → Prop) (hs : ∀ x rest e, I (x :: rest) e → gW g x e (Go body (lpP (I rest) P))) (he : ∀ e, I [] e → P .nx e) : ∀ xs e, I xs e → wS (forL g body xs) e P
  | [], e, h => wS_of (fl := .nx) rfl (he e h)
  | x :: xs, e, h => by
    obtain ⟨e1, h1, hw⟩ := gW_ex (hs x xs e h)
    obtain ⟨fl, e2, h2, h3⟩ := wS_ex.mp hw
    cases fl with
    | nx =>
      obtain ⟨fl, e3, h4, h5⟩ := wS_ex.mp (wS_forL I hs he xs e2 h3)
      exact wS_of (by simp only [forL, h1, h2, h4]) h5
    | ct =>
      obtain ⟨fl, e3, h4, h5⟩ := wS_ex.mp (wS_forL I hs he xs e2 h3)
      exact wS_of (by simp only [forL, h1, h2, h4]) h5
    | bk => exact wS_of (fl := .nx) (by simp only [forL, h1, h2]) h3
    | rt d => exact wS_of (fl := .rt d) (by simp only [forL, h1, h2]) h3
theorem wS_for {it : EI} {g : GG} {body : SS} {xs : List PyData} {lk : Lk} (hi : it env = some (xs, lk, e)) (I : List PyData → Sl → Prop) (h0 : I xs e)
    (hs : ∀ x rest e, I (x :: rest) e → gW g x e (Go body (lpP (I rest) fun fl e => P fl (unlock lk e)))) (he : ∀ e, I [] e → P .nx (unlock lk e)) : wS (sFor it g body) env P := by
  obtain ⟨fl, e', h1, h2⟩ := wS_ex.mp (wS_forL (P := fun fl e => P fl (unlock lk e)) I hs he xs e h0)
  exact wS_of (by simp only [z_for, hi, h1]) h2
def bW (c : EB) (e : Sl) (K L : Sl → Prop) : Prop := match c e with
  | none => False
  | some p => if p.1 = true then K p.2 else L p.2
theorem bW_ex {c : EB} {e : Sl} {K L : Sl → Prop} (h : bW c e K L) : ∃ b e1, c e = some (b, e1) ∧ if b = true then K e1 else L e1 := by
  unfold bW at h
  split at h
  · exact h.elim
  · rename_i p h1
    exact ⟨p.1, p.2, h1, h⟩
theorem wS_whileN {c : EB} {body : SS} (I : Nat → Sl → Prop) (hs : ∀ n e, I n e → bW c e (fun e1 => wS body e1 (lpP (fun e => ∃ m, m < n ∧ I m e) P)) (P .nx)) : ∀ n e, I n e → ∃ N fl e', whileN c body N e = some (fl, e') ∧ P fl e' := by
  intro n
  induction n using Nat.strongRecOn with
  | _ n ih =>
    intro e h
    obtain ⟨b, e1, h1, h2⟩ := bW_ex (hs n e h)
    cases b with
    | false => exact ⟨1, .nx, e1, by simp only [whileN, h1], h2⟩
    | true =>
      obtain ⟨fl, e2, h3, h4⟩ := wS_ex.mp h2
      cases fl with
      | nx =>
        obtain ⟨m, hm, hI⟩ := h4
        obtain ⟨N, fl, e3, h5, h6⟩ := ih m hm e2 hI
        exact ⟨N + 1, fl, e3, by simp only [whileN, h1, h3, h5], h6⟩
      | ct =>
        obtain ⟨m, hm, hI⟩ := h4
        obtain ⟨N, fl, e3, h5, h6⟩ := ih m hm e2 hI
        exact ⟨N + 1, fl, e3, by simp only [whileN, h1, h3, h5], h6⟩
      | bk => exact ⟨1, .nx, e2, by simp only [whileN, h1, h3], h4⟩
      | rt d => exact ⟨1, .rt d, e2, by simp only [whileN, h1, h3], h4⟩
theorem wS_while {c : EB} {body : SS} (I : Nat → Sl → Prop) (n : Nat) (h0 : I n env) (hs : ∀ n e, I n e → bW c e (fun e1 => wS body e1 (lpP (fun e => ∃ m, m < n ∧ I m e) P)) (P .nx)) : wS (sWhile c body) env P := by
  obtain ⟨N, fl, e', h1, h2⟩ := wS_whileN I hs n env h0
  exact wS_of (sWhile_of h1) h2
theorem wF_run {n : Nat} {b : SS} {as : List S} {Q : R → List S → Prop} (h : startE n as = e) (q : wS b e (retP as Q)) : wF (runFn n b) as Q := by
  obtain ⟨fl, e', h1, h2⟩ := wS_ex.mp q
  cases fl with
  | nx =>
    obtain ⟨as', h3, h4⟩ := h2
    exact ⟨_, _, by rw [run_of h, h1]; simp only [h3], h4⟩
  | rt d =>
    obtain ⟨d', as', h3, h4, h5⟩ := h2
    exact ⟨_, _, by rw [run_of h, h1]; simp only [h3, h4], h5⟩
  | bk => exact h2.elim
  | ct => exact h2.elim
end
end T3

end
section
set_option linter.all false
set_option autoImplicit false
set_option Elab.async false
namespace T3
open PySem L2
variable [TabL]
section
variable (env : Sl) (fa fb : EE) (f : EA) (x y : PyData) (j : Nat) (ds : List R) (neg : Bool)
@[simp] theorem z_dg : eDg fa fb env = (match fa env with
  | some (.var j, e1) => match fb e1 with
    | some (d, e2) => match pdOf d with
      | some y => match dGet e2 j y with
        | some (some z) => some (.pd z, e2)
        | _ => none
      | none => none
    | none => none
  | _ => none) := rfl
@[simp] theorem z_di : eDi neg fa fb env = (match fa env with
  | some (d, e1) => match pdOf d with
    | some y => match fb e1 with
      | some (.var j, e2) => match dGet e2 j y with
        | some o => some (.pd (.bool (if neg = true then !o.isSome else o.isSome)), e2)
        | none => none
      | _ => none
    | none => none
  | none => none) := rfl
@[simp] theorem z_pdOf1 : pdOf (.pd x) = some x := rfl
@[simp] theorem z_pdOf2 (xs : List PyData) : pdOf (.nt xs) = some (.tuple xs) := rfl
@[simp] theorem z_dGet : dGet env j y = (match env[j]? with
  | some (some (.mu _ c)) => cGet c y
  | _ => none) := rfl
@[simp] theorem z_dPut : dPut env j y x = (match env[j]? with
  | some (some (.mu m c)) => if m = .fro then none else match cPut c y x with
    | some c' => some (env.set j (some (.mu m c')))
    | none => none
  | _ => none) := rfl
@[simp] theorem z_gDs : gDs fa fb x env = (match fa env with
  | some (.var j, e1) => match fb e1 with
    | some (d, e2) => match pdOf d with
      | some y => dPut e2 j y x
      | none => none
    | none => none
  | _ => none) := rfl
end
end T3

end
section
set_option linter.all false
set_option autoImplicit false
set_option Elab.async false
namespace MM
open PySem L2 T3
abbrev Cell := Int × Int
abbrev Ly := Int × Int × Int
inductive Dir where | n | e | s | w
  deriving DecidableEq
def Dir.code : Dir → Nat
  | .n => 110
  | .e => 101
  | .s => 115
  | .w => 119
def chS (d : Dir) : Str := ⟨#[d.code]⟩
def rowS (ds : List Dir) : Str := ⟨(ds.map Dir.code).toArray⟩
def lyD (l : Ly) : PyData := .tuple [.int l.1, .int l.2.1, .int l.2.2]
def stD (c : Cell) (l : Ly) : PyData := .tuple [clD c, lyD l]
def stepC (c : Cell) : Dir → Cell
  | .n => (c.1, c.2 + 1)
  | .e => (c.1 + 1, c.2)
  | .s => (c.1, c.2 - 1)
  | .w => (c.1 - 1, c.2)
def roll (l : Ly) : Dir → Ly
  | .n => (l.2.1, 5 - l.1, l.2.2)
  | .s => (5 - l.2.1, l.1, l.2.2)
  | .e => (l.2.2, l.2.1, 5 - l.1)
  | .w => (5 - l.2.2, l.2.1, l.1)
def lyings : List Ly := [(0, 1, 2), (0, 2, 4), (0, 3, 1), (0, 4, 3), (1, 0, 3), (1, 2, 0), (1, 3, 5), (1, 5, 2), (2, 0, 1), (2, 1, 5), (2, 4, 0), (2, 5, 4), (3, 0, 4), (3, 1, 0), (3, 4, 5), (3, 5, 1), (4, 0, 2), (4, 2, 5), (4, 3, 0), (4, 5, 3), (5, 1, 3), (5, 2, 1), (5, 3, 4), (5, 4, 2)]
theorem roll_mem : ∀ l ∈ lyings, ∀ d, roll l d ∈ lyings := by
  intro l hl d
  cases d <;> revert l <;> decide
theorem ly_bound : ∀ l ∈ lyings, 0 ≤ l.1 ∧ l.1 ≤ 5 := by decide
theorem signs_row (ds : List Dir) : signs (rowS ds) = ds.map fun d => .str (chS d) := by
  simp [signs, rowS, chS]
theorem chS_n : chS .n = "n" := by decide
theorem chS_e : chS .e = "e" := by decide
theorem chS_s : chS .s = "s" := by decide
theorem chS_w : chS .w = "w" := by decide
theorem chS_inj {a b : Dir} (h : chS a = chS b) : a = b := by
  cases a <;> cases b <;> first | rfl | (exfalso; revert h; decide)
theorem eqv_int (i j : Int) : PyData.eqv (.int i) (.int j) = decide (i = j) := by
  simp only [PyData.eqv]; by_cases h : i = j <;> simp [h]
theorem eqv_cell (c d : Cell) : PyData.eqv (clD c) (clD d) = decide (c = d) := by
  simp only [clD, PyData.eqv, PyData.eqvAll]
  by_cases h1 : c.1 = d.1 <;> by_cases h2 : c.2 = d.2 <;> simp [h1, h2, Prod.ext_iff]
theorem eqv_ly (c d : Ly) : PyData.eqv (lyD c) (lyD d) = decide (c = d) := by
  simp only [lyD, PyData.eqv, PyData.eqvAll]
  by_cases h1 : c.1 = d.1 <;> by_cases h2 : c.2.1 = d.2.1 <;> by_cases h3 : c.2.2 = d.2.2 <;> simp [h1, h2, h3, Prod.ext_iff]
theorem eqv_ch (a b : Dir) : PyData.eqv (.str (chS a)) (.str (chS b)) = decide (a = b) := by
  simp only [PyData.eqv]
  by_cases h : a = b
  · simp [h]
  · simp [h]
    intro z
    exact h (chS_inj z)
theorem sh_int (i : Int) : SeqAt.shaped (.int i) = true := by simp [SeqAt.shaped, PyData.canLay0, PyData.depth]
theorem sh_ch (d : Dir) : SeqAt.shaped (.str (chS d)) = true := by cases d <;> simp [SeqAt.shaped, PyData.canLay0, PyData.depth, PyData.strOk, chS, Dir.code]
theorem sh_cell (c : Cell) : SeqAt.shaped (clD c) = true := by simp [clD, SeqAt.shaped, PyData.canLay0, PyData.canLayAll0, PyData.depth, PyData.depthAll]
theorem sh_ly (c : Ly) : SeqAt.shaped (lyD c) = true := by simp [lyD, SeqAt.shaped, PyData.canLay0, PyData.canLayAll0, PyData.depth, PyData.depthAll]
theorem lay_map {α : Type} (f : α → PyData) (h : ∀ a, (f a).canLay0 = true) : ∀ l : List α, PyData.canLayAll0 (l.map f) = true
  | [] => by simp [PyData.canLayAll0]
  | a :: l => by simp [PyData.canLayAll0, h a, lay_map f h l]
theorem depth_map {α : Type} (f : α → PyData) (k : Nat) (h : ∀ a, (f a).depth ≤ k) : ∀ l : List α, PyData.depthAll (l.map f) ≤ k
  | [] => by simp [PyData.depthAll]
  | a :: l => by
    have h1 := h a
    have h2 := depth_map f k h l
    simp only [List.map_cons, PyData.depthAll]
    omega
theorem sh_tup {α : Type} (f : α → PyData) (h1 : ∀ a, (f a).canLay0 = true) (h2 : ∀ a, (f a).depth ≤ 60) (l : List α) : SeqAt.shaped (.tuple (l.map f)) = true := by
  have a := lay_map f h1 l
  have b := depth_map f 60 h2 l
  simp only [SeqAt.shaped, PyData.canLay0, PyData.depth, a, Bool.true_and, decide_eq_true_eq]
  exact decide_eq_true (by omega)
theorem sh_lst {α : Type} (f : α → PyData) (h1 : ∀ a, (f a).canLay0 = true) (h2 : ∀ a, (f a).depth ≤ 60) (l : List α) : SeqAt.shaped (.list (l.map f)) = true := by
  have a := lay_map f h1 l
  have b := depth_map f 60 h2 l
  simp only [SeqAt.shaped, PyData.canLay0, PyData.depth, a, Bool.true_and, decide_eq_true_eq]
  exact decide_eq_true (by omega)
theorem sh_cells (l : List Cell) : SeqAt.shaped (.tuple (l.map clD)) = true := sh_tup clD (fun c => by simp [clD, PyData.canLay0, PyData.canLayAll0]) (fun c => by simp [clD, PyData.depth, PyData.depthAll]) l
theorem any_cell (c : Cell) (l : List Cell) : ((l.map clD).any fun z => PyData.eqv z (clD c)) = decide (c ∈ l) := by
  induction l with
  | nil => simp
  | cons a l ih =>
    rw [List.map_cons, List.any_cons, ih, eqv_cell]
    by_cases h : a = c
    · simp [h]
    · have h' : ¬ c = a := fun z => h z.symm
      simp [h, h']
theorem lcL_pure {g : GG} {t : EB} {f : EE} {vs : List Nat} {env : Sl} {α : Type} {p : α → Bool} {y : α → PyData} {q : α → PyData} : ∀ (as : List α) (acc : List PyData),
    (∀ a ∈ as, ∃ e1 e2, g (q a) (wipeE env vs) = some e1 ∧ t e1 = some (p a, e2) ∧ (p a = true → ∃ d e3, f e2 = some (d, e3) ∧ data1 d = some (y a) ∧ unwipe env e3 vs = env) ∧ (p a = false → unwipe env e2 vs = env)) →
    lcL g t f vs (as.map q) env acc = some (acc ++ (as.filter p).map y, env)
  | [], acc, _ => by simp [lcL]
  | a :: as, acc, h => by
    obtain ⟨e1, e2, h1, h2, h3, h4⟩ := h a (by simp)
    have ih := fun acc => lcL_pure (g := g) (t := t) (f := f) (vs := vs) (env := env) (p := p) (y := y) (q := q) as acc (fun b hb => h b (by simp [hb]))
    rw [List.map_cons]
    unfold lcL
    rw [h1]
    simp only [h2]
    cases hp : p a with
    | true =>
      obtain ⟨d, e3, k1, k2, k3⟩ := h3 hp
      simp only [k1, k2, k3, if_true, ih, List.filter_cons, hp, List.map_cons, List.append_assoc, List.cons_append, List.nil_append]
    | false =>
      simp only [h4 hp, ih, List.filter_cons, hp]
      simp
theorem lcL_all {g : GG} {f : EE} {vs : List Nat} {env : Sl} {α : Type} {y : α → PyData} {q : α → PyData} (as : List α) 
    (h : ∀ a ∈ as, ∃ e1 d e3, g (q a) (wipeE env vs) = some e1 ∧ f e1 = some (d, e3) ∧ data1 d = some (y a) ∧ unwipe env e3 vs = env) :
    lcL g bYes f vs (as.map q) env [] = some (as.map y, env) := by
  have := lcL_pure (g := g) (t := bYes) (f := f) (vs := vs) (env := env) (p := fun _ => true) (y := y) (q := q) as [] (fun a ha => by
    obtain ⟨e1, d, e3, h1, h2, h3, h4⟩ := h a ha
    exact ⟨e1, e1, h1, rfl, fun _ => ⟨d, e3, h2, h3, h4⟩, fun z => by simp at z⟩)
  rw [this, List.filter_eq_self.mpr (fun _ _ => rfl)]
  rfl
theorem bools_of {α : Type} (f : α → Bool) : ∀ l : List α, bools? (l.map fun a => .bool (f a)) = some (l.map f)
  | [] => rfl
  | a :: l => by simp [bools?, bools_of f l]
end MM

end
section
set_option linter.all false
set_option autoImplicit false
set_option Elab.async false
namespace MM
open PySem L2 T3
structure RD (p k : Nat) (d : PyData) : Prop where
  lay : d.canLay0 = true
  dep : d.depth ≤ p
  shw : d.showable = true
  lvs : d.leavesShort 13 = true
  wt : d.weight ≤ k
theorem RD.int {i : Int} (h1 : -999999999999 ≤ i) (h2 : i ≤ 999999999999) : RD 0 40 (.int i) := by
  have hl : i.natAbs.log2 ≤ 39 := by
    by_cases h0 : i.natAbs = 0
    · rw [h0]; decide
    · have : i.natAbs.log2 < 40 := (Nat.log2_lt h0).mpr (by omega)
      omega
  refine ⟨by simp [PyData.canLay0], by simp [PyData.depth], ?_, ?_, ?_⟩
  · simp only [PyData.showable, decide_eq_true_eq]; omega
  · simp only [PyData.leavesShort, decide_eq_true_eq]; exact PyData.shown_int_le2 h1 h2
  · simp only [PyData.weight]; split <;> omega
theorem RD.none : RD 0 40 .none := ⟨by simp [PyData.canLay0], by simp [PyData.depth], by simp [PyData.showable], by simp [PyData.leavesShort], by simp [PyData.weight]⟩
theorem RD.bool (b : Bool) : RD 0 40 (.bool b) := ⟨by simp [PyData.canLay0], by simp [PyData.depth], by simp [PyData.showable], by simp [PyData.leavesShort], by simp [PyData.weight]⟩
theorem RD.all {p k : Nat} : ∀ {xs : List PyData}, (∀ x ∈ xs, RD p k x) → PyData.canLayAll0 xs = true ∧ PyData.depthAll xs ≤ p ∧ PyData.showableAll xs = true ∧ PyData.leavesShortAll 13 xs = true ∧ PyData.weightAll xs ≤ (k + 1) * xs.length
  | [], _ => by simp [PyData.canLayAll0, PyData.depthAll, PyData.showableAll, PyData.leavesShortAll, PyData.weightAll]
  | x :: xs, h => by
    obtain ⟨a1, a2, a3, a4, a5⟩ := h x (by simp)
    obtain ⟨b1, b2, b3, b4, b5⟩ := RD.all (xs := xs) fun y hy => h y (by simp [hy])
    refine ⟨by simp [PyData.canLayAll0, a1, b1], ?_, by simp [PyData.showableAll, a3, b3], by simp [PyData.leavesShortAll, a4, b4], ?_⟩
    · simp only [PyData.depthAll]; omega
    · simp only [PyData.weightAll, List.length_cons]
      rw [Nat.mul_add]
      omega
theorem RD.tup {p k n : Nat} {xs : List PyData} (h : ∀ x ∈ xs, RD p k x) (hn : xs.length ≤ n) : RD (p + 1) ((k + 1) * n) (.tuple xs) := by
  obtain ⟨b1, b2, b3, b4, b5⟩ := RD.all h
  refine ⟨by simp [PyData.canLay0, b1], ?_, by simp [PyData.showable, b3], by simp [PyData.leavesShort, b4], ?_⟩
  · simp only [PyData.depth]; omega
  · simp only [PyData.weight]
    exact Nat.le_trans b5 (Nat.mul_le_mul_left _ hn)
theorem RD.lst {p k n : Nat} {xs : List PyData} (h : ∀ x ∈ xs, RD p k x) (hn : xs.length ≤ n) : RD (p + 1) ((k + 1) * n) (.list xs) := by
  obtain ⟨b1, b2, b3, b4, b5⟩ := RD.all h
  refine ⟨by simp [PyData.canLay0, b1], ?_, by simp [PyData.showable, b3], by simp [PyData.leavesShort, b4], ?_⟩
  · simp only [PyData.depth]; omega
  · simp only [PyData.weight]
    exact Nat.le_trans b5 (Nat.mul_le_mul_left _ hn)
theorem RD.mono {p k p' k' : Nat} {d : PyData} (h : RD p k d) (h1 : p ≤ p') (h2 : k ≤ k') : RD p' k' d := ⟨h.lay, Nat.le_trans h.dep h1, h.shw, h.lvs, Nat.le_trans h.wt h2⟩
theorem RD.ok {p k : Nat} {d : PyData} (h : RD p k d) (h1 : p ≤ 60) (h2 : k ≤ 60000) : ShOk d := by
  have := h.dep
  have hw := h.wt
  refine ⟨?_, h.shw, ?_⟩
  · unfold SeqAt.shaped
    rw [h.lay, Bool.true_and]
    exact decide_eq_true (by omega)
  · have := PyData.shown_le 13 (by omega) d h.lvs
    omega
theorem RD.cell {c : Cell} (h : -9 ≤ c.1 ∧ c.1 ≤ 9 ∧ -9 ≤ c.2 ∧ c.2 ≤ 9) : RD 1 82 (clD c) := RD.tup (k := 40) (n := 2) (by
  intro x hx
  simp only [List.mem_cons, List.not_mem_nil, or_false] at hx
  rcases hx with rfl | rfl
  · exact RD.int (by omega) (by omega)
  · exact RD.int (by omega) (by omega)) (by simp)
theorem RD.ly {l : Ly} (h : l ∈ lyings) : RD 1 123 (lyD l) := RD.tup (k := 40) (n := 3) (by
  have b : 0 ≤ l.1 ∧ l.1 ≤ 5 ∧ 0 ≤ l.2.1 ∧ l.2.1 ≤ 5 ∧ 0 ≤ l.2.2 ∧ l.2.2 ≤ 5 := by revert l; decide
  intro x hx
  simp only [List.mem_cons, List.not_mem_nil, or_false] at hx
  rcases hx with rfl | rfl | rfl
  · exact RD.int (by omega) (by omega)
  · exact RD.int (by omega) (by omega)
  · exact RD.int (by omega) (by omega)) (by simp)
theorem repr_t {xs : List PyData} (h : ShOk (.tuple xs)) : oRepr [.tuple xs] = some (.str (PyData.tuple xs).shown) := by
  show (if ShOk (.tuple xs) then some (PyData.str (PyData.tuple xs).shown) else none) = _
  exact if_pos h
theorem repr_l {xs : List PyData} (h : ShOk (.list xs)) : oRepr [.list xs] = some (.str (PyData.list xs).shown) := by
  show (if ShOk (.list xs) then some (PyData.str (PyData.list xs).shown) else none) = _
  exact if_pos h
end MM

end
section
set_option linter.all false
set_option autoImplicit false
set_option Elab.async false
namespace MM
open PySem L2 T3
def swp {α : Type} (xs : List α) (p : Int × Int) : List α := match xs[p.1.toNat]?, xs[p.2.toNat]? with
  | some x, some y => (xs.set p.1.toNat y).set p.2.toNat x
  | _, _ => xs
def held {α : Type} (xs : List α) (ps : List (Int × Int)) : List α := ps.foldl swp xs
theorem swp_len {α : Type} (xs : List α) (p : Int × Int) : (swp xs p).length = xs.length := by
  unfold swp
  split <;> simp
theorem held_len {α : Type} (ps : List (Int × Int)) : ∀ xs : List α, (held xs ps).length = xs.length := by
  induction ps with
  | nil => intro xs; rfl
  | cons p ps ih => intro xs; show (held (swp xs p) ps).length = _; rw [ih, swp_len]
theorem swp_map {α β : Type} (f : α → β) (xs : List α) (p : Int × Int) : swp (xs.map f) p = (swp xs p).map f := by
  unfold swp
  simp only [List.getElem?_map]
  cases xs[p.1.toNat]? with
  | none => simp
  | some x =>
    cases xs[p.2.toNat]? with
    | none => simp
    | some y => simp [List.map_set]
theorem held_map {α β : Type} (f : α → β) (ps : List (Int × Int)) : ∀ xs : List α, held (xs.map f) ps = (held xs ps).map f := by
  induction ps with
  | nil => intro xs; rfl
  | cons p ps ih =>
    intro xs
    show held (swp (xs.map f) p) ps = (held (swp xs p) ps).map f
    rw [swp_map, ih]
theorem held_at {α : Type} (xs : List α) (d : α) (ps : List (Int × Int)) : held xs ps = (held (List.range xs.length) ps).map fun i => xs.getD i d := by
  rw [← held_map]
  congr 1
  apply List.ext_getElem?
  intro i
  by_cases h : i < xs.length
  · simp [h]
  · simp [h]
theorem set_set_perm {α : Type} (xs : List α) (a b : Nat) (x y : α) (ha : xs[a]? = some x) (hb : xs[b]? = some y) : ((xs.set a y).set b x).Perm xs := by
  obtain ⟨la, rfl⟩ := List.getElem?_eq_some_iff.mp ha
  obtain ⟨lb, rfl⟩ := List.getElem?_eq_some_iff.mp hb
  have h := Array.swap_perm (xs := xs.toArray) (i := a) (j := b) (by simpa using la) (by simpa using lb)
  have h2 := h.toList
  simpa [Array.swap] using h2
theorem swp_perm {α : Type} (xs : List α) (p : Int × Int) : (swp xs p).Perm xs := by
  unfold swp
  split
  · rename_i x y h1 h2; exact set_set_perm xs _ _ x y h1 h2
  · exact .refl _
theorem held_perm {α : Type} (ps : List (Int × Int)) : ∀ xs : List α, (held xs ps).Perm xs := by
  induction ps with
  | nil => intro xs; exact .refl _
  | cons p ps ih => intro xs; exact (ih (swp xs p)).trans (swp_perm xs p)
def org (n : Nat) (ps : List (Int × Int)) : List Nat := held (List.range n) ps
def mv (n : Nat) (ps : List (Int × Int)) (j : Nat) : Nat := (org n ps).idxOf j
theorem org_len (n : Nat) (ps : List (Int × Int)) : (org n ps).length = n := by unfold org; rw [held_len, List.length_range]
theorem org_perm (n : Nat) (ps : List (Int × Int)) : (org n ps).Perm (List.range n) := held_perm ps _
theorem org_nodup (n : Nat) (ps : List (Int × Int)) : (org n ps).Nodup := (org_perm n ps).nodup_iff.mpr List.nodup_range
theorem org_mem {n : Nat} {ps : List (Int × Int)} {j : Nat} : j ∈ org n ps ↔ j < n := by rw [(org_perm n ps).mem_iff, List.mem_range]
theorem mv_lt {n : Nat} {ps : List (Int × Int)} {j : Nat} (h : j < n) : mv n ps j < n := by
  have := List.idxOf_lt_length_iff.mpr (org_mem (ps := ps).mpr h)
  rw [org_len] at this
  exact this
theorem org_mv {n : Nat} {ps : List (Int × Int)} {j : Nat} (h : j < n) : (org n ps)[mv n ps j]? = some j := by
  have hl : mv n ps j < (org n ps).length := by rw [org_len]; exact mv_lt h
  rw [List.getElem?_eq_getElem hl]
  exact congrArg some (List.getElem_idxOf hl)
theorem mv_inj {n : Nat} {ps : List (Int × Int)} {i j : Nat} (hi : i < n) (hj : j < n) (h : mv n ps i = mv n ps j) : i = j := by
  have h1 := org_mv (ps := ps) hi
  rw [h, org_mv hj] at h1
  exact (Option.some.inj h1).symm
theorem mv_org {n : Nat} {ps : List (Int × Int)} {i j : Nat} (h : (org n ps)[i]? = some j) : mv n ps j = i := by
  obtain ⟨hl, e⟩ := List.getElem?_eq_some_iff.mp h
  have := (org_nodup n ps).idxOf_getElem i hl
  rw [e] at this
  exact this
def itr (m : Nat → Nat) : Nat → Nat → Nat
  | 0, x => x
  | k + 1, x => itr m k (m x)
theorem itr_succ (m : Nat → Nat) : ∀ k x, itr m (k + 1) x = m (itr m k x)
  | 0, x => rfl
  | k + 1, x => by
    show itr m (k + 1) (m x) = m (itr m (k + 1) x)
    rw [itr_succ m k (m x)]
    rfl
theorem itr_add (m : Nat → Nat) : ∀ a b x, itr m (a + b) x = itr m a (itr m b x)
  | a, 0, x => rfl
  | a, b + 1, x => by
    show itr m (a + b) (m x) = itr m a (itr m b (m x))
    exact itr_add m a b (m x)
theorem itr_lt {n : Nat} {m : Nat → Nat} (hm : ∀ j, j < n → m j < n) : ∀ k x, x < n → itr m k x < n
  | 0, x, h => h
  | k + 1, x, h => itr_lt hm k (m x) (hm x h)
theorem itr_inj {n : Nat} {m : Nat → Nat} (hm : ∀ j, j < n → m j < n) (hi : ∀ i j, i < n → j < n → m i = m j → i = j) : ∀ k x y, x < n → y < n → itr m k x = itr m k y → x = y
  | 0, _, _, _, _, h => h
  | k + 1, x, y, hx, hy, h => hi x y hx hy (itr_inj hm hi k (m x) (m y) (hm x hx) (hm y hy) h)
theorem home {n : Nat} {m : Nat → Nat} (hm : ∀ j, j < n → m j < n) (hi : ∀ i j, i < n → j < n → m i = m j → i = j) (x : Nat) (hx : x < n) : ∃ k, 1 ≤ k ∧ k ≤ n ∧ itr m k x = x := by
  apply Classical.byContradiction
  intro hno
  have hno' : ∀ k, 1 ≤ k → k ≤ n → itr m k x ≠ x := fun k h1 h2 h3 => hno ⟨k, h1, h2, h3⟩
  have nd : ((List.range (n + 1)).map fun k => itr m k x).Nodup := by
    rw [List.Nodup, List.pairwise_map]
    have := List.pairwise_lt_range (n := n + 1)
    refine List.Pairwise.imp_of_mem ?_ this
    intro a b ha hb hab he
    have hb' : b ≤ n := by have := List.mem_range.mp hb; omega
    have e1 : itr m a (itr m (b - a) x) = itr m b x := by rw [← itr_add]; congr 1; omega
    have e2 := itr_inj hm hi a x (itr m (b - a) x) hx (itr_lt hm _ x hx) (by rw [e1]; exact he)
    exact hno' (b - a) (by omega) (by omega) e2.symm
  have sub : ((List.range (n + 1)).map fun k => itr m k x) ⊆ List.range n := by
    intro y hy
    obtain ⟨k, _, rfl⟩ := List.mem_map.mp hy
    exact List.mem_range.mpr (itr_lt hm k x hx)
  have := nd.length_le_of_subset sub
  simp at this
  omega
theorem period {n : Nat} {m : Nat → Nat} (hm : ∀ j, j < n → m j < n) (hi : ∀ i j, i < n → j < n → m i = m j → i = j) (x : Nat) (hx : x < n) : ∃ k, 1 ≤ k ∧ k ≤ n ∧ itr m k x = x ∧ ∀ j, 1 ≤ j → j < k → itr m j x ≠ x := by
  obtain ⟨k, h1, h2, h3⟩ := home hm hi x hx
  have : ∀ k, 1 ≤ k → itr m k x = x → ∃ k', 1 ≤ k' ∧ k' ≤ k ∧ itr m k' x = x ∧ ∀ j, 1 ≤ j → j < k' → itr m j x ≠ x := by
    intro k
    induction k using Nat.strongRecOn with
    | ind k ih =>
      intro h1 h3
      by_cases h : ∃ j, 1 ≤ j ∧ j < k ∧ itr m j x = x
      · obtain ⟨j, a, b, c⟩ := h
        obtain ⟨k', p1, p2, p3, p4⟩ := ih j b a c
        exact ⟨k', p1, by omega, p3, p4⟩
      · exact ⟨k, h1, Nat.le_refl _, h3, fun j a b c => h ⟨j, a, b, c⟩⟩
  obtain ⟨k', p1, p2, p3, p4⟩ := this k h1 h3
  exact ⟨k', p1, by omega, p3, p4⟩
end MM

end
section
set_option linter.all false
set_option autoImplicit false
set_option Elab.async false
namespace MM
open PySem L2 T3
def orb (m : Nat → Nat) (k x : Nat) : List Nat := (List.range k).map fun t => itr m t x
def PerP (n : Nat) (m : Nat → Nat) (x k : Nat) : Prop := 1 ≤ k ∧ k ≤ n ∧ itr m k x = x ∧ ∀ j, 1 ≤ j → j < k → itr m j x ≠ x
noncomputable def per (n : Nat) (m : Nat → Nat) (x : Nat) : Nat := Classical.epsilon (PerP n m x)
theorem per_spec {n : Nat} {m : Nat → Nat} (hm : ∀ j, j < n → m j < n) (hi : ∀ i j, i < n → j < n → m i = m j → i = j) {x : Nat} (hx : x < n) : PerP n m x (per n m x) := Classical.epsilon_spec (period hm hi x hx)
theorem orb_succ (m : Nat → Nat) (k x : Nat) : orb m (k + 1) x = orb m k x ++ [itr m k x] := by
  simp [orb, List.range_succ]
theorem orb_mem {m : Nat → Nat} {k x y : Nat} : y ∈ orb m k x ↔ ∃ t, t < k ∧ itr m t x = y := by
  simp [orb]
theorem orb_len (m : Nat → Nat) (k x : Nat) : (orb m k x).length = k := by simp [orb]
theorem orb_all {n : Nat} {m : Nat → Nat} {x k : Nat} (h : PerP n m x k) : ∀ t, itr m t x ∈ orb m k x := by
  have : ∀ t, ∃ s, s < k ∧ itr m s x = itr m t x := by
    intro t
    induction t with
    | zero => exact ⟨0, h.1, rfl⟩
    | succ t ih =>
      obtain ⟨s, h1, h2⟩ := ih
      by_cases e : s + 1 = k
      · exact ⟨0, h.1, by rw [itr_succ, ← h2, ← itr_succ m s x, e, h.2.2.1]; rfl⟩
      · exact ⟨s + 1, by omega, by rw [itr_succ, itr_succ, h2]⟩
  intro t
  exact orb_mem.mpr (this t)
end MM

end
section
set_option linter.all false
set_option autoImplicit false
set_option Elab.async false
namespace MM
open PySem L2 T3
theorem held_get {α : Type} (ms : List α) (T : List (Int × Int)) {n j : Nat} (hn : ms.length = n) (hj : j < n) : (held ms T)[mv n T j]? = ms[j]? := by
  have hd : ms.length ≠ 0 := by omega
  obtain ⟨d, hd⟩ : ∃ d, ms[j]? = some d := ⟨ms[j], List.getElem?_eq_getElem (by omega)⟩
  rw [held_at ms d T, hn]
  have := org_mv (ps := T) hj
  unfold org at this
  rw [List.getElem?_map, this, hd]
  simp [hd]
end MM

end
section
set_option linter.all false
set_option autoImplicit false
set_option Elab.async false
namespace MM
open PySem L2 T3
end MM

end
section
set_option linter.all false
set_option autoImplicit false
set_option Elab.async false
set_option maxRecDepth 10000
namespace MM
open PySem L2 T3
def ck (c : Cell) : NestedKey := .tup [.num c.1, .num c.2]
theorem ck_inj {a b : Cell} (h : ck a = ck b) : a = b := by
  obtain ⟨a1, a2⟩ := a
  obtain ⟨b1, b2⟩ := b
  simp [ck] at h
  simp [h]
theorem tk_cell (c : Cell) : tk? (clD c) = some (ck c) := by
  simp [tk?, clD, nk?, nks?, ck, NestedKey.depth, NestedKey.depthAll]
def lcOk (g : GG) (f : EE) (vs : List Nat) (e : Sl) (x y : PyData) : Prop := match g x (wipeE e vs) with
  | none => False
  | some e1 => match f e1 with
    | none => False
    | some p => data1 p.1 = some y ∧ unwipe e p.2 vs = e
theorem lcOk_ex {g : GG} {f : EE} {vs : List Nat} {e : Sl} {x y : PyData} (h : lcOk g f vs e x y) : ∃ e1, g x (wipeE e vs) = some e1 ∧ ∃ p, f e1 = some p ∧ data1 p.1 = some y ∧ unwipe e p.2 vs = e := by
  unfold lcOk at h
  split at h
  · exact h.elim
  · rename_i e1 h1
    split at h
    · exact h.elim
    · rename_i p h2
      exact ⟨e1, h1, p, h2, h⟩
theorem lc_all {it : EI} {g : GG} {f : EE} {vs : List Nat} {env e : Sl} {lk : Lk} {α : Type} {q y : α → PyData} (as : List α) (hi : it env = some (as.map q, lk, e)) (hl : as.length ≤ 1000000) (h : ∀ a ∈ as, lcOk g f vs e (q a) (y a)) :
    eLc it g bYes f vs env = some (.tmp (.ls (as.map y)), unlock lk e) := by
  have := lcL_all (g := g) (f := f) (vs := vs) (env := e) (y := y) (q := q) as fun a ha => by
    obtain ⟨e1, h1, p, h2, h3, h4⟩ := lcOk_ex (h a ha)
    exact ⟨e1, p.1, p.2, h1, h2, h3, h4⟩
  rw [z_lc, hi]
  simp only [List.length_map, hl, if_true, this]
def lcIf (g : GG) (t : EB) (f : EE) (vs : List Nat) (e : Sl) (x : PyData) (b : Bool) (y : PyData) : Prop := match g x (wipeE e vs) with
  | none => False
  | some e1 => match t e1 with
    | none => False
    | some r => r.1 = b ∧ if b = true then match f r.2 with
        | none => False
        | some p => data1 p.1 = some y ∧ unwipe e p.2 vs = e
      else unwipe e r.2 vs = e
theorem lcIf_ex {g : GG} {t : EB} {f : EE} {vs : List Nat} {e : Sl} {x y : PyData} {b : Bool} (h : lcIf g t f vs e x b y) : ∃ e1, g x (wipeE e vs) = some e1 ∧ ∃ r, t e1 = some r ∧ r.1 = b ∧ if b = true then ∃ q, f r.2 = some q ∧ data1 q.1 = some y ∧ unwipe e q.2 vs = e else unwipe e r.2 vs = e := by
  unfold lcIf at h
  split at h
  · exact h.elim
  · rename_i e1 h1
    split at h
    · exact h.elim
    · rename_i r h2
      refine ⟨e1, h1, r, h2, h.1, ?_⟩
      have h3 := h.2
      split at h3
      · rename_i hb
        rw [if_pos hb]
        split at h3
        · exact h3.elim
        · rename_i p hp
          exact ⟨p, hp, h3⟩
      · rename_i hb
        rw [if_neg hb]
        exact h3
theorem lc_if {it : EI} {g : GG} {t : EB} {f : EE} {vs : List Nat} {env e : Sl} {lk : Lk} {α : Type} {q y : α → PyData} {p : α → Bool} (as : List α) (hi : it env = some (as.map q, lk, e)) (hl : as.length ≤ 1000000) (h : ∀ a ∈ as, lcIf g t f vs e (q a) (p a) (y a)) :
    eLc it g t f vs env = some (.tmp (.ls ((as.filter p).map y)), unlock lk e) := by
  have := lcL_pure (g := g) (t := t) (f := f) (vs := vs) (env := e) (p := p) (y := y) (q := q) as [] fun a ha => by
    obtain ⟨e1, h1, ⟨b, e2⟩, h2, rfl, h3⟩ := lcIf_ex (h a ha)
    refine ⟨e1, e2, h1, h2, fun z => ?_, fun z => ?_⟩
    · rw [if_pos z] at h3
      obtain ⟨q, h4, h5, h6⟩ := h3
      exact ⟨q.1, q.2, h4, h5, h6⟩
    · rw [if_neg (by rw [z]; decide)] at h3; exact h3
  rw [z_lc, hi]
  simp only [List.length_map, hl, if_true, this, List.nil_append]
end MM

end
section
set_option linter.all false
set_option autoImplicit false
set_option Elab.async false
namespace T3
open PySem L2
variable [TabL]
def frS : Option S → Bool
  | some (.mu .own _) => true
  | some (.pd _) => true
  | some (.nt _) => true
  | none => true
  | _ => false
@[simp] theorem frS_n : frS none = true := rfl
@[simp] theorem frS_p (x : PyData) : frS (some (.pd x)) = true := rfl
@[simp] theorem frS_t (x : List PyData) : frS (some (.nt x)) = true := rfl
@[simp] theorem frS_o (c : Ct) : frS (some (.mu .own c)) = true := rfl
theorem free_frS {e : Sl} {i : Nat} {s : Option S} (h : e[i]? = some s) : free e i = frS s := by
  unfold free frS
  rw [h]
  rcases s with _ | s
  · rfl
  · cases s with
    | pd x => rfl
    | nt x => rfl
    | mu m c => cases m <;> rfl
theorem free_ne_set {e : Sl} {i j : Nat} {s : Option S} (h : i ≠ j) : free (e.set i s) j = free e j := by
  unfold free
  rw [List.getElem?_set_ne h]
theorem free_eq_set {e : Sl} {i : Nat} {s : Option S} (h : i < e.length) : free (e.set i s) i = frS s := free_frS (by simp [h])
structure Al (k n : Nat) (e : Sl) : Prop where
  len : e.length = n
  fre : ∀ i, k ≤ i → i < n → free e i = true
theorem Al.set {k n i : Nat} {e : Sl} {s : Option S} (h : Al k n e) (q : frS s = true) : Al k n (e.set i s) := by
  refine ⟨by rw [List.length_set, h.len], fun j h1 h2 => ?_⟩
  by_cases z : i = j
  · subst z
    rw [free_eq_set (by rw [h.len]; exact h2)]
    exact q
  · rw [free_ne_set z]
    exact h.fre j h1 h2
theorem Al.low {k n i : Nat} {e : Sl} {s : Option S} (h : Al k n e) (q : i < k) : Al k n (e.set i s) := by
  refine ⟨by rw [List.length_set, h.len], fun j h1 h2 => ?_⟩
  rw [free_ne_set (by omega)]
  exact h.fre j h1 h2
theorem Al.start {n : Nat} (as : List S) (h : as.length ≤ n) : Al as.length n (startE n as) := by
  refine ⟨by simp [startE]; omega, fun i h1 h2 => ?_⟩
  have : (startE n as)[i]? = some none := by
    unfold startE
    rw [List.getElem?_append_right (by simpa using h1), List.length_map, List.getElem?_replicate, if_pos (by omega)]
  rw [free_frS this]
  rfl
structure Kp (e e' : Sl) (vs : List Nat) : Prop where
  len : e'.length = e.length
  at_ : ∀ i, i ∉ vs → e'[i]? = e[i]?
@[simp] theorem Kp.refl (e : Sl) (vs : List Nat) : Kp e e vs := ⟨rfl, fun _ _ => rfl⟩
theorem Kp.set {e e' : Sl} {vs : List Nat} {v : Nat} {s : Option S} (h : Kp e e' vs) (m : v ∈ vs) : Kp e (e'.set v s) vs :=
  ⟨by rw [List.length_set, h.len], fun i hi => by
    have ne : v ≠ i := fun z => hi (by rw [← z]; exact m)
    rw [List.getElem?_set_ne ne, h.at_ i hi]⟩
@[simp] theorem Kp.wipe (e : Sl) (vs : List Nat) : Kp e (wipeE e vs) vs := ⟨wipeE_len, fun i hi => wipeE_out hi⟩
theorem Kp.un {e e' : Sl} {vs : List Nat} (h : Kp e e' vs) : unwipe e e' vs = e := by
  have key : ∀ ws, unwipe e e' ws = unwipe e e' ws ∧ ∀ i, (unwipe e e' ws)[i]? = if i ∈ ws then e[i]? else e'[i]? := by
    intro ws
    induction ws with
    | nil => exact ⟨rfl, fun i => by simp [unwipe]⟩
    | cons v ws ih =>
      refine ⟨rfl, fun i => ?_⟩
      have l : (unwipe e e' ws).length = e.length := by rw [unwipe_len, h.len]
      unfold unwipe
      rw [List.getElem?_set]
      by_cases z : v = i
      · subst z
        rw [if_pos rfl, l]
        by_cases y : v < e.length
        · simp [y]
        · simp [y, List.getElem?_eq_none (Nat.le_of_not_lt y)]
      · rw [if_neg z, ih.2 i]
        simp only [List.mem_cons]
        by_cases y : i ∈ ws
        · simp [y]
        · rw [if_neg y, if_neg (by simp [y]; exact fun q => z q.symm)]
  refine List.ext_getElem? fun i => ?_
  rw [(key vs).2 i]
  split
  · rfl
  · rename_i q
    exact h.at_ i q
theorem wipe_at (e : Sl) (i : Nat) : ∀ vs : List Nat, (wipeE e vs)[i]? = if i ∈ vs then (if i < e.length then some none else none) else e[i]?
  | [] => by simp [wipeE]
  | v :: vs => by
    unfold wipeE
    rw [List.getElem?_set, wipe_at e i vs, wipeE_len]
    by_cases z : v = i
    · subst z; simp
    · rw [if_neg z]
      have : i ∈ v :: vs ↔ i ∈ vs := ⟨fun q => (List.mem_cons.mp q).elim (fun y => absurd y.symm z) id, List.mem_cons_of_mem _⟩
      simp [this]
theorem wipe_free {e : Sl} {i : Nat} {vs : List Nat} (h : i ∈ vs) (l : i < e.length) : free (wipeE e vs) i = true := by
  rw [free_frS (s := none) (by rw [wipe_at]; simp [h, l])]
  rfl
def lcO (g : GG) (f : EE) (vs : List Nat) (e : Sl) (x y : PyData) : Prop := match g x (wipeE e vs) with
  | none => False
  | some e1 => match f e1 with
    | none => False
    | some p => data1 p.1 = some y ∧ Kp e p.2 vs
def lcI (g : GG) (t : EB) (f : EE) (vs : List Nat) (e : Sl) (x : PyData) (b : Bool) (y : PyData) : Prop := match g x (wipeE e vs) with
  | none => False
  | some e1 => match t e1 with
    | none => False
    | some r => r.1 = b ∧ if b = true then match f r.2 with
        | none => False
        | some p => data1 p.1 = some y ∧ Kp e p.2 vs
      else Kp e r.2 vs
theorem lcA {it : EI} {g : GG} {f : EE} {vs : List Nat} {env e : Sl} {lk : Lk} {α : Type} {q : α → PyData} {as : List α} (y : α → PyData) (hi : it env = some (as.map q, lk, e)) (hl : as.length ≤ 1000000) (h : ∀ a ∈ as, lcO g f vs e (q a) (y a)) :
    eLc it g bYes f vs env = some (.tmp (.ls (as.map y)), unlock lk e) :=
  MM.lc_all as hi hl fun a ha => by
    have := h a ha
    unfold lcO at this
    unfold MM.lcOk
    split
    · rename_i z; rw [z] at this; exact this
    · rename_i e1 z
      rw [z] at this
      simp only at this
      split
      · rename_i z2; rw [z2] at this; exact this
      · rename_i p z2
        rw [z2] at this
        exact ⟨this.1, this.2.un⟩
theorem lcF {it : EI} {g : GG} {t : EB} {f : EE} {vs : List Nat} {env e : Sl} {lk : Lk} {α : Type} {q : α → PyData} {as : List α} (p : α → Bool) (y : α → PyData) (hi : it env = some (as.map q, lk, e)) (hl : as.length ≤ 1000000) (h : ∀ a ∈ as, lcI g t f vs e (q a) (p a) (y a)) :
    eLc it g t f vs env = some (.tmp (.ls ((as.filter p).map y)), unlock lk e) :=
  MM.lc_if as hi hl fun a ha => by
    have := h a ha
    unfold lcI at this
    unfold MM.lcIf
    split
    · rename_i z; rw [z] at this; exact this
    · rename_i e1 z
      rw [z] at this
      simp only at this
      split
      · rename_i z2; rw [z2] at this; exact this
      · rename_i r z2
        rw [z2] at this
        simp only at this
        refine ⟨this.1, ?_⟩
        have t2 := this.2
        split
        · rename_i hb
          rw [if_pos hb] at t2
          split
          · rename_i z3; rw [z3] at t2; exact t2
          · rename_i p z3
            rw [z3] at t2
            exact ⟨t2.1, t2.2.un⟩
        · rename_i hb
          rw [if_neg hb] at t2
          exact t2.un
end T3

end
section
set_option linter.all false
set_option autoImplicit false
set_option Elab.async false
set_option maxRecDepth 10000
namespace MM
open PySem L2 T3
structure Pm (n : Nat) (m : Nat → Nat) : Prop where
  lt : ∀ j, j < n → m j < n
  inj : ∀ i j, i < n → j < n → m i = m j → i = j
section
variable {n : Nat} {m : Nat → Nat}
theorem Pm.prd (h : Pm n m) {x : Nat} (hx : x < n) : PerP n m x (per n m x) := per_spec h.lt h.inj hx
theorem itr_mul {x k : Nat} (h : itr m k x = x) : ∀ q, itr m (k * q) x = x
  | 0 => rfl
  | q + 1 => by rw [Nat.mul_succ, itr_add, h, itr_mul h q]
theorem per_dvd {x k : Nat} (h : PerP n m x k) (t : Nat) : itr m t x = x ↔ k ∣ t := by
  constructor
  · intro e
    have e2 : itr m (t % k) x = x := by
      have : itr m (t % k + k * (t / k)) x = x := by rw [Nat.mod_add_div]; exact e
      rw [itr_add, itr_mul h.2.2.1] at this
      exact this
    have hlt := Nat.mod_lt t h.1
    by_cases z : t % k = 0
    · exact Nat.dvd_of_mod_eq_zero z
    · exact absurd e2 (h.2.2.2 (t % k) (by omega) hlt)
  · rintro ⟨q, rfl⟩
    exact itr_mul h.2.2.1 q
theorem itr_fix {x : Nat} (h : m x = x) : ∀ t, itr m t x = x
  | 0 => rfl
  | t + 1 => by rw [itr_succ, itr_fix h t, h]
def Fst (n : Nat) (m : Nat → Nat) (x : Nat) : Prop := x < n ∧ 1 < per n m x ∧ ∀ y ∈ orb m (per n m x) x, x ≤ y
open Classical in
noncomputable def fsts (n : Nat) (m : Nat → Nat) : List Nat := (List.range n).filter fun x => decide (Fst n m x)
open Classical in
noncomputable def left (n : Nat) (m : Nat → Nat) (F : List Nat) : List Nat := (List.range n).filter fun j => decide (∃ x ∈ F, j ∈ orb m (per n m x) x)
noncomputable def ord (n : Nat) (m : Nat → Nat) : Nat := ((fsts n m).map (per n m)).foldl Nat.lcm 1
end
end MM

end
section
set_option linter.all false
set_option autoImplicit false
set_option Elab.async false
set_option maxRecDepth 10000
namespace MM
open PySem L2 T3
section
variable {n : Nat} {m : Nat → Nat}
end
end MM

end
section
set_option linter.all false
set_option autoImplicit false
set_option Elab.async false
namespace MM
theorem held_app {α : Type} (xs : List α) (ps qs : List (Int × Int)) : held xs (ps ++ qs) = held (held xs ps) qs := by simp [held, List.foldl_append]
theorem mv_app {n j : Nat} (h : j < n) (ps qs : List (Int × Int)) : mv n (ps ++ qs) j = mv n qs (mv n ps j) := by
  refine mv_org ?_
  unfold org
  rw [held_app, held_get (n := n) (held (List.range n) ps) qs (by rw [held_len, List.length_range]) (mv_lt h)]
  exact org_mv h
end MM

end
section
set_option linter.all false
set_option autoImplicit false
set_option Elab.async false
namespace MM
open PySem L2 T3
section
variable {n : Nat} {m : Nat → Nat}
end
structure Cj (n : Nat) (m : Nat → Nat) (n' : Nat) (m' : Nat → Nat) (A : Nat → Nat) : Prop where
  p : Pm n m
  p' : Pm n' m'
  lt : ∀ j, j < n → A j < n'
  inj : ∀ i j, i < n → j < n → A i = A j → i = j
  cm : ∀ j, j < n → m' (A j) = A (m j)
  fx : ∀ y, y < n' → (∀ j, j < n → A j ≠ y) → m' y = y
section
variable {n n' : Nat} {m m' A : Nat → Nat}
end
end MM

end
section
set_option linter.all false
set_option autoImplicit false
set_option Elab.async false
namespace T3
open PySem L2
variable [TabL]
structure Pk where
  a : Int
  b : Int
  t : Nat
def penK (p : Pk) : Ct := .ls [.int p.a, .int p.b, .int (p.t : Nat)]
theorem Kp.un2 {e e' e3 : Sl} {vs : List Nat} (h : Kp e' e3 vs) (l : e'.length = e.length) (q : ∀ i ∈ vs, e'[i]? = e[i]?) : unwipe e e3 vs = e' := by
  have : unwipe e e3 vs = unwipe e' e3 vs := by
    have go : ∀ ws, (∀ i ∈ ws, i ∈ vs) → unwipe e e3 ws = unwipe e' e3 ws := by
      intro ws
      induction ws with
      | nil => intro _; rfl
      | cons v ws ih =>
        intro hw
        unfold unwipe
        rw [ih fun i hi => hw i (List.mem_cons_of_mem _ hi)]
        congr 1
        rw [List.getD_eq_getElem?_getD, List.getD_eq_getElem?_getD, q v (hw v (List.mem_cons_self))]
    exact go vs fun _ h => h
  rw [this, h.un]
def lcP (g : GG) (f : EE) (vs : List Nat) (e : Sl) (x y : PyData) (e' : Sl) : Prop := match g x (wipeE e vs) with
  | none => False
  | some e1 => match f e1 with
    | none => False
    | some p => data1 p.1 = some y ∧ Kp e' p.2 vs
theorem lc_pen {it : EI} {g : GG} {f : EE} {vs : List Nat} {env e : Sl} {j : Nat} {m : Md} {p0 : Pk} {as : List PyData} (Q : PyData → Prop) (c B : Nat) (hi : it env = some (as, none, e)) (hl : as.length ≤ 1000000) (hj : j ∉ vs) (he : e[j]? = some (some (.mu m (penK p0)))) (hb : p0.t + c * as.length ≤ B)
    (step : ∀ x ∈ as, ∀ p : Pk, p.t + c ≤ B → ∃ (q : Pk) (y : PyData), q.t ≤ p.t + c ∧ Q y ∧ lcP g f vs (e.set j (some (.mu m (penK p)))) x y (e.set j (some (.mu m (penK q))))) :
    ∃ (ys : List PyData) (q : Pk), eLc it g bYes f vs env = some (.tmp (.ls ys), e.set j (some (.mu m (penK q)))) ∧ ys.length = as.length ∧ (∀ y ∈ ys, Q y) ∧ q.t ≤ p0.t + c * as.length := by
  have hjl : j < e.length := (List.getElem?_eq_some_iff.mp he).1
  have e0 : e.set j (some (.mu m (penK p0))) = e := by
    refine List.ext_getElem? fun i => ?_
    rw [List.getElem?_set]
    split
    · rename_i z; subst z; exact he.symm
    · rfl
  have go : ∀ (bs : List PyData) (p : Pk) (acc : List PyData), (∀ b ∈ bs, b ∈ as) → p.t + c * bs.length ≤ B → (∀ y ∈ acc, Q y) → ∃ (ys : List PyData) (q : Pk), lcL g bYes f vs bs (e.set j (some (.mu m (penK p)))) acc = some (ys, e.set j (some (.mu m (penK q)))) ∧ ys.length = acc.length + bs.length ∧ (∀ y ∈ ys, Q y) ∧ q.t ≤ p.t + c * bs.length := by
    intro bs
    induction bs with
    | nil => intro p acc _ _ ha; exact ⟨acc, p, rfl, rfl, ha, by omega⟩
    | cons x bs ih =>
      intro p acc hm hB ha
      simp only [List.length_cons, Nat.mul_add, Nat.mul_one] at hB
      obtain ⟨q, y, h1, h2, h3⟩ := step x (hm x (by simp)) p (by omega)
      unfold lcP at h3
      split at h3
      · exact h3.elim
      rename_i e1 g1
      split at h3
      · exact h3.elim
      rename_i r f1
      obtain ⟨d1, kp⟩ := h3
      have u := kp.un2 (e := e.set j (some (.mu m (penK p)))) (by simp) (fun i hi => by
        have : j ≠ i := fun z => hj (by rw [z]; exact hi)
        rw [List.getElem?_set_ne this, List.getElem?_set_ne this])
      obtain ⟨ys, q2, h4, h5, h6, h7⟩ := ih q (acc ++ [y]) (fun b hb => hm b (by simp [hb])) (by omega) (by
        intro z hz
        rcases List.mem_append.mp hz with hz | hz
        · exact ha z hz
        · rw [List.mem_singleton.mp hz]; exact h2)
      refine ⟨ys, q2, ?_, by simp at h5 ⊢; omega, h6, by simp only [List.length_cons, Nat.mul_add, Nat.mul_one]; omega⟩
      simp only [lcL, g1, bYes, if_true, f1, d1, u, h4]
  obtain ⟨ys, q, h1, h2, h3, h4⟩ := go as p0 [] (fun _ h => h) hb (by simp)
  rw [e0] at h1
  refine ⟨ys, q, ?_, by simpa using h2, h3, h4⟩
  rw [z_lc, hi]
  simp only [hl, if_true, h1, z_unl]
def upD (n : Nat) : List PyData := (List.range n).map fun j => .int ((j : Nat) : Int)
theorem upD_len (n : Nat) : (upD n).length = n := by simp [upD]
theorem rg1_up {f : EA} {env e : Sl} {n : Nat} (h : f env = some ([.pd (.int (n : Nat))], e)) (hn : n ≤ 1000) : iRg1 f env = some (upD n, none, e) := by
  have b : RgI1 (n : Int) := by
    unfold RgI1
    have h1 : (-(2 ^ 62) : Int) ≤ 0 := by decide
    have h2 : (1000 : Int) < 2 ^ 62 := by decide
    omega
  have u : rgD 0 n 1 = upD n := by simp [rgD, upD]
  unfold iRg1
  rw [h]
  show (if RgI1 (n : Int) then some (rgD 0 (n : Int).toNat 1, none, e) else none) = _
  rw [if_pos b, Int.toNat_natCast, u]
theorem rg1_max {N : Nat} {e : Sl} (ns : List Int) (hN : 1 ≤ N) (hN2 : N ≤ 1000) (h0 : e[0]? = some (some (.pd (.list (ns.map .int))))) :
    iRg1 (eCons (eThen (eCons (eC (.int 1)) (eCons (eThen (eCons (eThen (eCons (eVar 0) eNil) (kE oLen)) (eCons (eC (.int (N : Int))) eNil)) (kE oMin)) eNil)) (kE oMax)) eNil) e = some (upD (max 1 (min ns.length N)), none, e) := by
  have h1 : (if (N : Int) < ns.length then (N : Int) else ns.length) = ((min ns.length N : Nat) : Int) := by split <;> omega
  have h2 : (if ((min ns.length N : Nat) : Int) > 1 then ((min ns.length N : Nat) : Int) else 1) = ((max 1 (min ns.length N) : Nat) : Int) := by split <;> omega
  refine rg1_up (n := max 1 (min ns.length N)) ?_ (by omega)
  simp only [z_cons, z_then, z_c, z_var, h0, z_nil, z_kE, z_ctns1, z_ctns0, z_ctn1, oLen, List.length_map, oMin, h1, oMax, h2]
def TurnP (n C : Nat) (s : PyData) (p : Pk) (fl : Fl) (e : Sl) : Prop := (fl = .nx ∨ fl = .ct) ∧ Al 0 n e ∧ e[0]? = some (some (.pd s)) ∧ ∃ q : Pk, e[2]? = some (some (.mu .own (penK q))) ∧ q.t ≤ p.t + C
theorem fin1 {x : PyData} {e : Sl} (h : e[0]? ≠ none) : finals [.pd x] e = some [.pd x] := by
  cases e with
  | nil => simp at h
  | cons a e => simp
def OutI (n : Nat) (s : PyData) (e : Sl) : Prop := Al 0 n e ∧ e[0]? = some (some (.pd s))
def InI (n C M : Nat) (s : PyData) (rest : List PyData) (e : Sl) : Prop := Al 0 n e ∧ e[0]? = some (some (.pd s)) ∧ ∃ q : Pk, e[2]? = some (some (.mu .own (penK q))) ∧ q.t + C * rest.length ≤ C * M
theorem outer {n N M C : Nat} {fcell fpen : FnD} {BODY : SS} (ns : List Int) (hn4 : 4 ≤ n) (hN : 1 ≤ N) (hN2 : N ≤ 1000) (hM : M ≤ 1000)
    (hcell : ∀ k : Nat, ∃ i, fcell [.pd (.list (ns.map .int)), .pd (.int (k : Nat))] = some (.pd (.int i), [.pd (.list (ns.map .int)), .pd (.int (k : Nat))]))
    (hpen : ∀ i : Int, ∃ p : Pk, p.t = 0 ∧ fpen [.pd (.int i)] = some (.tmp (penK p), [.pd (.int i)]))
    (hbody : ∀ (e : Sl) (p : Pk), Al 0 n e → e[0]? = some (some (.pd (.list (ns.map .int)))) → e[2]? = some (some (.mu .own (penK p))) → p.t ≤ C * M → wS BODY e (TurnP n C (.list (ns.map .int)) p)) :
    ∃ as, runFn n (sSeq (sFor (iRg1 (eCons (eThen (eCons (eC (.int 1)) (eCons (eThen (eCons (eThen (eCons (eVar 0) eNil) (kE oLen)) (eCons (eC (.int (N : Int))) eNil)) (kE oMin)) eNil)) (kE oMax)) eNil)) (gN 1) (sSeq (sSet 2 (eCall fpen (eCons (eCall fcell (eCons (eVar 0) (eCons (eVar 1) eNil))) eNil)))
      (sFor (iRg1 (eCons (eC (.int (M : Int))) eNil)) (gN 3) BODY))) (sRet (eC (.bool true)))) [.pd (.list (ns.map .int))] = some (.pd (.bool true), as) := by
  generalize hs : PyData.list (ns.map .int) = s at *
  have key : wF (runFn n (sSeq (sFor (iRg1 (eCons (eThen (eCons (eC (.int 1)) (eCons (eThen (eCons (eThen (eCons (eVar 0) eNil) (kE oLen)) (eCons (eC (.int (N : Int))) eNil)) (kE oMin)) eNil)) (kE oMax)) eNil)) (gN 1) (sSeq (sSet 2 (eCall fpen (eCons (eCall fcell (eCons (eVar 0) (eCons (eVar 1) eNil))) eNil)))
      (sFor (iRg1 (eCons (eC (.int (M : Int))) eNil)) (gN 3) BODY))) (sRet (eC (.bool true))))) [.pd s] (fun r _ => r = .pd (.bool true)) := by
    have A0 : Al 0 n (startE n [.pd s]) := by
      have a := Al.start (n := n) [.pd s] (by simp; omega)
      refine ⟨a.len, fun i h1 h2 => ?_⟩
      by_cases z : i = 0
      · subst z
        rw [free_frS (s := some (.pd s)) (by simp [startE])]
        rfl
      · exact a.fre i (by simp; omega) h2
    refine wF_run (e := startE n [.pd s]) rfl ?_
    have h0 : (startE n [.pd s])[0]? = some (some (.pd s)) := by simp [startE]
    generalize startE n [.pd s] = e0 at *
    refine wS_seq ?_
    refine wS_for (xs := upD (max 1 (min ns.length N))) (lk := none) (e := e0) (rg1_max ns hN hN2 (by rw [hs]; exact h0)) (fun rest e => (∀ x ∈ rest, ∃ k : Nat, x = .int (k : Nat)) ∧ OutI n s e) ⟨fun x hx => by
      obtain ⟨j, _, rfl⟩ := List.mem_map.mp hx; exact ⟨j, rfl⟩, A0, h0⟩ ?_ ?_
    · rintro x rest e ⟨hx, A, h0⟩
      obtain ⟨k, rfl⟩ := hx x (by simp)
      obtain ⟨i, ec⟩ := hcell k
      obtain ⟨p, pt, ep⟩ := hpen i
      have f1 := A.fre 1 (by omega) (by omega)
      have A1 := A.set (i := 1) (s := some (.pd (.int (k : Nat)))) rfl
      have g0 : (e.set 1 (some (.pd (.int (k : Nat)))))[0]? = some (some (.pd s)) := by rw [List.getElem?_set_ne (by decide)]; exact h0
      have g1 : (e.set 1 (some (.pd (.int (k : Nat)))))[1]? = some (some (.pd (.int (k : Nat)))) := by rw [List.getElem?_set_self (by rw [A.len]; omega)]
      simp only [gW, z_gN, z_setR, f1, if_true]
      rw [go]
      generalize e.set 1 (some (.pd (.int (k : Nat)))) = e1 at *
      have f2 := A1.fre 2 (by omega) (by omega)
      refine wS_seq ?_
      have A2 := A1.set (i := 2) (s := some (.mu .own (penK p))) rfl
      have b0 : (e1.set 2 (some (.mu .own (penK p))))[0]? = some (some (.pd s)) := by rw [List.getElem?_set_ne (by decide)]; exact g0
      have b2 : (e1.set 2 (some (.mu .own (penK p))))[2]? = some (some (.mu .own (penK p))) := by rw [List.getElem?_set_self (by rw [A1.len]; omega)]
      refine wS_of (fl := .nx) (e := e1.set 2 (some (.mu .own (penK p)))) ?_ ?_
      · simp only [z_set, z_call, z_cons, z_var, g0, g1, z_nil, z_args1, z_arg1, z_args0, z_va1, z_va0, if_true, ec, z_bk1, z_bk0, ep, z_setR, f2]
      rw [nxt_nx, go]
      generalize e1.set 2 (some (.mu .own (penK p))) = e2 at *
      refine wS_for (xs := upD M) (lk := none) (e := e2) (rg1_up (by simp) hM) (InI n C M s) ⟨A2, b0, p, b2, by rw [pt, upD_len]; omega⟩ ?_ ?_
      · rintro y rest' e ⟨A, h0, q, h2, hq⟩
        rw [List.length_cons, Nat.mul_add, Nat.mul_one] at hq
        have f3 := A.fre 3 (by omega) (by omega)
        simp only [gW, z_gN, z_setR, f3, if_true]
        rw [go]
        refine (hbody _ q (A.set rfl) (by rw [List.getElem?_set_ne (by decide)]; exact h0) (by rw [List.getElem?_set_ne (by decide)]; exact h2) (by omega)).imp ?_
        rintro fl e' ⟨hf, A', h0', q', h2', hq'⟩
        have : InI n C M s rest' e' := ⟨A', h0', q', h2', by omega⟩
        rcases hf with rfl | rfl <;> exact this
      · rintro e ⟨A, h0, _⟩
        exact ⟨fun x hx => by
          obtain ⟨k, hk⟩ := ‹∀ x ∈ _ :: rest, ∃ k : Nat, x = .int (k : Nat)› x (List.mem_cons_of_mem _ hx)
          exact ⟨k, hk⟩, A, h0⟩
    · rintro e ⟨_, A, h0⟩
      simp only [z_unl, nxt_nx]
      rw [go]
      have f := fin1 (x := s) (e := e) (by rw [h0]; simp)
      refine wS_of (fl := .rt (.pd (.bool true))) (e := e) (by simp) ?_
      exact ⟨.pd (.bool true), _, rfl, f, rfl⟩
  obtain ⟨r, as, e, rfl⟩ := key
  exact ⟨as, e⟩
end T3

end
section
set_option linter.all false
set_option autoImplicit false
set_option Elab.async false
namespace T3
open PySem L2
variable [TabL]
def pl : Nat → PyData → Bool
  | _, .none => true
  | _, .int _ => true
  | _, .str s => PyData.strOk s
  | n + 1, .tuple xs => xs.all (pl n)
  | n + 1, .list xs => xs.all (pl n)
  | _, _ => false
mutual
theorem pl_lay : ∀ (x : PyData) (n : Nat), pl n x = true → x.canLay0 = true ∧ x.depth ≤ n + 1
  | .none, n, h => ⟨by simp [PyData.canLay0], by simp [PyData.depth]⟩
  | .int i, n, h => ⟨by simp [PyData.canLay0], by simp [PyData.depth]⟩
  | .str s, n, h => ⟨by unfold pl at h; simpa [PyData.canLay0] using h, by simp [PyData.depth]⟩
  | .bool b, n, h => by cases n <;> simp [pl] at h
  | .dict d, n, h => by cases n <;> simp [pl] at h
  | .tuple xs, 0, h => by simp [pl] at h
  | .tuple xs, n + 1, h => by
    obtain ⟨h1, h2⟩ := pl_layA xs n (by simpa [pl] using h)
    exact ⟨by simpa [PyData.canLay0] using h1, by simp only [PyData.depth]; omega⟩
  | .list xs, 0, h => by simp [pl] at h
  | .list xs, n + 1, h => by
    obtain ⟨h1, h2⟩ := pl_layA xs n (by simpa [pl] using h)
    exact ⟨by simpa [PyData.canLay0] using h1, by simp only [PyData.depth]; omega⟩
theorem pl_layA : ∀ (xs : List PyData) (n : Nat), (∀ x ∈ xs, pl n x = true) → PyData.canLayAll0 xs = true ∧ PyData.depthAll xs ≤ n + 1
  | [], n, h => ⟨by simp [PyData.canLayAll0], by simp [PyData.depthAll]⟩
  | x :: xs, n, h => by
    obtain ⟨h1, h2⟩ := pl_lay x n (h x (by simp))
    obtain ⟨h3, h4⟩ := pl_layA xs n fun y hy => h y (by simp [hy])
    exact ⟨by simp [PyData.canLayAll0, h1, h3], by simp only [PyData.depthAll]; omega⟩
end
theorem pl_sh {x : PyData} {n : Nat} (h : pl n x = true) (hn : n ≤ 60) : SeqAt.shaped x = true := by
  obtain ⟨h1, h2⟩ := pl_lay x n h
  unfold SeqAt.shaped
  rw [h1]
  simp
  omega
mutual
theorem pl_eqv : ∀ (x y : PyData) (n m : Nat), pl n x = true → pl m y = true → (PyData.eqv x y = true ↔ x = y)
  | .none, y, n, m, h, h' => by cases y <;> simp [PyData.eqv]
  | .int i, y, n, m, h, h' => by
    cases y <;> simp [PyData.eqv]
    · rename_i b; cases m <;> simp [pl] at h'
  | .str s, y, n, m, h, h' => by cases y <;> simp [PyData.eqv]
  | .bool b, y, n, m, h, h' => by cases n <;> simp [pl] at h
  | .dict d, y, n, m, h, h' => by cases n <;> simp [pl] at h
  | .tuple xs, y, n, m, h, h' => by
    cases y <;> simp [PyData.eqv]
    rename_i ys
    cases n with
    | zero => simp [pl] at h
    | succ n =>
      cases m with
      | zero => simp [pl] at h'
      | succ m => exact pl_eqvA xs ys n m (by simpa [pl] using h) (by simpa [pl] using h')
  | .list xs, y, n, m, h, h' => by
    cases y <;> simp [PyData.eqv]
    rename_i ys
    cases n with
    | zero => simp [pl] at h
    | succ n =>
      cases m with
      | zero => simp [pl] at h'
      | succ m => exact pl_eqvA xs ys n m (by simpa [pl] using h) (by simpa [pl] using h')
theorem pl_eqvA : ∀ (xs ys : List PyData) (n m : Nat), (∀ x ∈ xs, pl n x = true) → (∀ x ∈ ys, pl m x = true) → (PyData.eqvAll xs ys = true ↔ xs = ys)
  | [], [], n, m, _, _ => by simp [PyData.eqvAll]
  | [], y :: ys, n, m, _, _ => by simp [PyData.eqvAll]
  | x :: xs, [], n, m, _, _ => by simp [PyData.eqvAll]
  | x :: xs, y :: ys, n, m, h, h' => by
    simp only [PyData.eqvAll, Bool.and_eq_true]
    rw [pl_eqv x y n m (h x (by simp)) (h' y (by simp)), pl_eqvA xs ys n m (fun z hz => h z (by simp [hz])) (fun z hz => h' z (by simp [hz]))]
    simp
end
theorem pl_ne {x y : PyData} {n m : Nat} (h : pl n x = true) (h' : pl m y = true) (hn : n ≤ 60) (hm : m ≤ 60) (e : x = y) : oNe [x, y] = some (.bool false) := by
  subst e
  simp [oNe, pl_sh h hn, (pl_eqv x x n n h h).mpr rfl]
theorem pl_ne' {x y : PyData} {n m : Nat} (h : pl n x = true) (h' : pl m y = true) (hn : n ≤ 60) (hm : m ≤ 60) (e : x ≠ y) : oNe [x, y] = some (.bool true) := by
  have : PyData.eqv x y = false := by
    cases z : PyData.eqv x y with
    | false => rfl
    | true => exact absurd ((pl_eqv x y n m h h').mp z) e
  simp [oNe, pl_sh h hn, pl_sh h' hm, this]
theorem pl_eq {x y : PyData} {n m : Nat} (h : pl n x = true) (h' : pl m y = true) (hn : n ≤ 60) (hm : m ≤ 60) (e : x = y) : oEq [x, y] = some (.bool true) := by
  subst e
  simp [oEq, pl_sh h hn, (pl_eqv x x n n h h).mpr rfl]
theorem pl_eq' {x y : PyData} {n m : Nat} (h : pl n x = true) (h' : pl m y = true) (hn : n ≤ 60) (hm : m ≤ 60) (e : x ≠ y) : oEq [x, y] = some (.bool false) := by
  have : PyData.eqv x y = false := by
    cases z : PyData.eqv x y with
    | false => rfl
    | true => exact absurd ((pl_eqv x y n m h h').mp z) e
  simp [oEq, pl_sh h hn, pl_sh h' hm, this]
theorem pl_in {x : PyData} {xs : List PyData} {n m : Nat} (h : pl n x = true) (h' : ∀ y ∈ xs, pl m y = true) (hn : n ≤ 50) (hm : m ≤ 50) (neg : Bool) (c : PyData) (hc : c = .tuple xs ∨ c = .list xs) [Decidable (x ∈ xs)] : oIn neg [x, c] = some (.bool (if neg = true then !decide (x ∈ xs) else decide (x ∈ xs))) := by
  have a : (xs.any fun z => PyData.eqv z x) = decide (x ∈ xs) := by
    rw [Bool.eq_iff_iff, List.any_eq_true, decide_eq_true_eq]
    constructor
    · rintro ⟨z, hz, e⟩
      rw [(pl_eqv z x m n (h' z hz) h).mp e] at hz
      exact hz
    · intro hx
      exact ⟨x, hx, (pl_eqv x x n n h h).mpr rfl⟩
  have s1 : SeqAt.shaped (.tuple xs) = true := pl_sh (n := m + 1) (by simpa [pl] using h') (by omega)
  have s2 : SeqAt.shaped (.list xs) = true := pl_sh (n := m + 1) (by simpa [pl] using h') (by omega)
  rcases hc with rfl | rfl <;> simp [oIn, pl_sh h (by omega), s1, s2, a, -List.any_eq_true]
def nmu : S → Bool
  | .mu _ _ => false
  | _ => true
theorem fin_pd : ∀ {as : List S} {e : Sl}, as.all nmu = true → as.length ≤ e.length → finals as e = some as
  | [], e, _, _ => by cases e <;> rfl
  | a :: as, [], _, l => by simp at l
  | a :: as, x :: e, h, l => by
    simp only [List.all_cons, Bool.and_eq_true] at h
    have ih := fin_pd (as := as) (e := e) h.2 (by simpa using l)
    cases a with
    | pd x => simp [ih]
    | nt x => simp [ih]
    | mu m c => simp [nmu] at h
end T3

end
section
set_option linter.all false
set_option autoImplicit false
set_option Elab.async false
namespace T3
open PySem L2
variable [TabL]
end T3

end
section
set_option linter.all false
set_option autoImplicit false
set_option Elab.async false
namespace T3
open PySem L2
variable [TabL]
theorem RRA.one {K : PySem.W.Frag} {H₀ : Hp} {B : Mset} {H : Hp} {σ : St} {env : Sl} {vs : List V} {d : R} (r : RRA K H₀ B H σ env vs [d]) : ∃ v, vs = [v] ∧ RA K H₀ B H σ env v d := by
  match vs, r with
  | [v], r => exact ⟨v, rfl, r.each 0 v d rfl rfl⟩
  | [], r => have := r.len; simp at this
  | _ :: _ :: _, r => have := r.len; simp at this
def Rg3Ok (i j c : Int) : Prop := RgC i j c (Builtin.Range.rangeSize i j c).toNat
noncomputable instance (i j c : Int) : Decidable (Rg3Ok i j c) := Classical.propDecidable _
end T3

end
section
set_option linter.all false
set_option autoImplicit false
set_option Elab.async false
namespace T3
open PySem L2
variable [TabL]
end T3

end
section
set_option linter.all false
set_option autoImplicit false
set_option Elab.async false
namespace T3
open PySem L2
variable [TabL]
end T3

end
section
set_option linter.all false
set_option autoImplicit false
set_option Elab.async false
set_option maxRecDepth 100000
set_option maxHeartbeats 4000000
namespace T3
open PySem L2
open PyProof.Rows
variable [TabL]
end T3

end
section
set_option linter.all false
set_option autoImplicit false
set_option Elab.async false
set_option maxRecDepth 100000
set_option maxHeartbeats 4000000
namespace T3
open PySem L2
open PySem.Spec PyProof.Rows
variable [TabL]
section
variable {prog : Program} {w : World} {A : Around} {E : Value → Shared → Prop} {s : Shared}
end
end T3

end
section
set_option linter.all false
set_option autoImplicit false
set_option Elab.async false
namespace T3
open PySem L2
variable [TabL]
section
variable {K : PySem.W.Frag} {B B' : Mset} {H H' : Hp} {σ : St} {e e' : Sl}
end
section
variable {X : Cx} {k n : Nat} {F : FnD} {x : Str} {p pos : Pos} {e : Expr} {es : List Expr} {fa : EA}
end
end T3

end
section
set_option linter.all false
set_option autoImplicit false
set_option Elab.async false
namespace T3
open PySem L2
variable [TabL]
abbrev Tp := Int × Int × Int
def TpB (p : Tp) : Prop := (0 ≤ p.1 ∧ p.1 < 64) ∧ (0 ≤ p.2.1 ∧ p.2.1 < 64) ∧ 0 ≤ p.2.2 ∧ p.2.2 < 64
instance (p : Tp) : Decidable (TpB p) := by unfold TpB; infer_instance
end T3

end
section
set_option linter.all false
set_option autoImplicit false
set_option Elab.async false
namespace T3
open PySem L2 PySem.W PyProof.Rows PyProof.V
variable [TabL]
end T3

end
section
set_option linter.all false
set_option autoImplicit false
set_option Elab.async false
namespace T3
open PySem L2
variable [TabL]
def kPop0 : KK := fun ds env => match ds with
  | [.var i, .pd (.int 0)] => match env[i]? with
    | some (some (.mu m (.ls (y :: xs)))) => if m ≠ .fro then some (.pd y, env.set i (some (.mu m (.ls xs)))) else none
    | _ => none
  | _ => none
theorem c_pop0 {K : PySem.W.Frag} : Con K kPop0 (lm rPopAt) := by
  intro σ H B env B1 H1 env1 vs ds d e2 Q en a rr hk q x xs e
  subst e
  unfold kPop0 at hk
  split at hk
  · rename_i i
    split at hk
    · rename_i m y ys hm
      split at hk
      · rename_i hc
        cases hk
        have hx : σ[i]? = some (some x) := rr.each 0 x _ rfl rfl
        obtain ⟨p, g1, g2, us, g3, g4⟩ := a.en.mu i _ _ hm
        rw [hx] at g1
        cases g1
        match xs, rr with
        | [w], rr =>
          have hw : Rp K B1 H1 w (.int 0) := rr.each 1 w _ rfl rfl
          cases hw
          match us, g4 with
          | v :: us, .cons k1 k2 =>
            refine ⟨p, v :: us, 0, 0, v, rfl, rfl, g3, by decide, by decide, ?_, rfl, ?_⟩
            · unfold seqIndex?
              simp
            · obtain ⟨gw, aw⟩ := AtS.write (o := .lst us) (c' := .ls ys) a.en hm hc hx (fun o' h' im => by rw [g3] at h'; cases h'; exact im) (fun H' _ h1 g' => ⟨_, h1, k2.grow g'⟩)
              exact q _ _ _ (a.trans en aw) (Rp.grow gw k1)
        | [], rr => have := rr.len; simp at this
        | _ :: _ :: _, rr => have := rr.len; simp at this
      · cases hk
    · cases hk
  · cases hk
theorem m_pop0 {X : Cx} {o e : Expr} {fo : EE} {fa : EA} {apos cpos : Pos} (ho : PE X o (tE X.K fo)) (ha : PA X [e] (tA X.K fa)) (hbase : attributeBase o "pop" X.env (eval o X.env) = eval o X.env := by rfl)
    (hfew : ((backTo cpos (starEach [e] X.env)).all (fun x => !x.1) && (backToKw cpos (keywordEach [] X.env)).all (fun x => x.1.isSome)
      && decide (([e] : List Expr).length + ([] : List Keyword).length + (if ([] : List Keyword).isEmpty then 0 else 1) < 30)) = true := by rfl)
    (hline : (apos.endLine == cpos.line) = true := by rfl) (hs : starEach [e] X.env = (false, eval e X.env) :: starEach [] X.env := by rfl) (hplain : (backTo cpos (starEach [] X.env)).any (·.1) = false := by rfl) :
    PE X (.Call (.Attribute o "pop" apos) [e] [] cpos) (tE X.K (eBM isL fo fa kPop0)) :=
  PE.imp (pe_bm PySem.F.plainAttrs_list PySem.F.slot_list_pop PySem.F.type_list_pop mt_popAt ho ha hbase hfew hline hs hplain) fun _ _ _ t => rd_bm ty_L c_pop0 t
@[simp] theorem z_pop0 (i : Nat) (env : Sl) : kPop0 [.var i, .pd (.int 0)] env = (match env[i]? with
    | some (some (.mu m (.ls (y :: xs)))) => if m ≠ .fro then some (.pd y, env.set i (some (.mu m (.ls xs)))) else none
    | _ => none) := rfl
end T3

end
section
set_option linter.all false
set_option autoImplicit false
set_option Elab.async false
set_option maxRecDepth 100000
set_option maxHeartbeats 1000000
namespace ZE
open PySem RZ ZM
open PySem.Sem (wp)
section
variable {prog : Program} {w : World} {A : Around} {E : Value → Shared → Prop} {s : Shared}
end
end ZE

end
section
set_option linter.all false
set_option autoImplicit false
set_option Elab.async false
set_option maxRecDepth 100000
set_option maxHeartbeats 1000000
namespace ZE
open PySem PySem.Spec PyProof.Rows L2 RZ ZM
end ZE
namespace T3
open PySem L2
variable [TabL]
end T3

end
section
set_option linter.all false
set_option autoImplicit false
set_option Elab.async false
set_option maxRecDepth 100000
namespace LamA
open PySem PySem.Spec PyProof.Rows L2 LamX NdefX
section
variable {Z : Cx} {F : NF} {f : Addr} {params : Arguments} {body : Expr} {pm ctv : Value} {N ps fr : List Str} {ws : List (Option V)} {k i : Nat} {x : Str} {p pos : Pos} {e : Expr} {es : List Expr} {ta : TA} {tb : TE}
structure LamAt (Z : Cx) (F : NF) (f : Addr) (params : Arguments) (body : Expr) (pm ctv : Value) (fr : List Str) (ws : List (Option V)) : Prop where
  obj : Z.s_0.heap.get? f = some (PySem.W.kla_obj "<lambda>" F.qual params body F.scope F.cl pm F.c ctv)
  free : Z.H_0 f = none
  nfs : f ∉ Z.fs
  nex : f ∉ Z.ex
  cells : CellsAt F.cl fr ws Z.s_0.heap Z.H_0
  cex : ∀ y c, F.cl.lookup y = some c → c ∉ Z.ex
end
end LamA

end
section
set_option linter.all false
set_option autoImplicit false
set_option Elab.async false
set_option maxRecDepth 100000
namespace T3
open PySem L2
variable [TabL]
section
open LamA NdefX
variable {Z : Cx} {F : NF} {f a : Addr} {params : Arguments} {body : Expr} {pm ctv : Value} {N ps : List Str} {capt : Str} {k i : Nat} {x : Str} {p pos : Pos} {e : Expr} {es : List Expr} {fa : EA} {fb : EE} {xs : List PyData}
end
end T3

end
section
set_option linter.all false
set_option autoImplicit false
set_option Elab.async false
set_option maxRecDepth 100000
namespace LamA
open PySem PySem.Spec PyProof.Rows L2 LamX NdefX
section
variable {X : Cx} {pins : List (Addr × Obj)} {σ : L2.St} {H : Hp} {s : Shared}
end
end LamA
namespace T3
open PySem L2 LamA
variable [TabL]
section
variable {K : PySem.W.Frag} {B : Mset} {H H1 : Hp} {P c : Addr} {q : Str} {pos : Pos}
end
end T3

end
section
set_option linter.all false
set_option autoImplicit false
set_option Elab.async false
set_option maxRecDepth 100000
namespace T3
open PySem PySem.Spec PyProof.Rows L2 LamA NdefX LamX
variable [TabL]
section
variable {X : Cx} {x : Str} {st : Stmt} {Ng psg : List Str} {k j : Nat} {q capt : Str} {params : Arguments} {body : Expr} {scope : Scope} {M : PyData → List PyData → SS} {p lpos pos : Pos} {e1 e2 : Expr} {f1 f2 : EE} {cX P : Addr}
end
end T3

end
section
set_option linter.all false
set_option autoImplicit false
set_option Elab.async false
set_option maxRecDepth 100000
namespace T3
open PySem PySem.Spec PyProof.Rows L2 LamA LamX
variable [TabL]
end T3

end
section
set_option linter.all false
set_option autoImplicit false
set_option Elab.async false
namespace T3
open PySem L2
variable [TabL]
abbrev EP := Sl → Option (Int × Nat)
section
variable {X : Cx}
end
end T3

end
section
set_option linter.all false
set_option autoImplicit false
set_option Elab.async false
namespace T3
open PySem L2
variable [TabL]
end T3

end
section
set_option linter.all false
set_option autoImplicit false
set_option Elab.async false
namespace T3
open PySem L2
variable [TabL]
end T3

end
section
set_option linter.all false
set_option autoImplicit false
set_option Elab.async false
set_option maxRecDepth 10000
namespace T3
open PySem L2
variable [TabL]
end T3

end
section
set_option linter.all false
set_option autoImplicit false
set_option Elab.async false
set_option maxRecDepth 100000
namespace T3
open PySem PySem.Spec PyProof.Rows L2
variable [TabL]
section
variable {X : Cx} {tg e : Expr} {td : TE} {apos cpos : Pos}
end
end T3
namespace T3
open PySem L2
variable [TabL]
def keysD (kvs : List (NestedKey × PyData)) : List PyData := kvs.map fun q => q.1.data
def itemsD (kvs : List (NestedKey × PyData)) : List PyData := kvs.map fun q => .tuple [q.1.data, q.2]
end T3

end
section
set_option linter.all false
set_option autoImplicit false
set_option Elab.async false
set_option maxRecDepth 100000
namespace L2
open PySem PySem.Spec PyProof.Rows
section
variable {X : Cx}
end
end L2
namespace T3
open PySem L2
variable [TabL]
section
variable {X : Cx}
end
end T3

end
section
set_option linter.all false
set_option autoImplicit false
set_option Elab.async false
set_option maxRecDepth 100000
namespace T3
open PySem PySem.Spec PySem.W L2 PyProof.Rows
variable [TabL]
structure DSrc (K : PySem.W.Frag) (B : Mset) (H : Hp) (h : Heap) (a : Addr) (ds : List PyData) where
  es : List DictEntry
  o : Obj
  ep : Nat
  ns : (a == sysModules) = false
  sz : es.length ≤ sizeLine
  ho : h.get? a = some o
  hx : o.ExactDict
  hd : o.data = .dict es.toArray ep
  ks : Paired (fun (e : DictEntry) (d : PyData) => ∃ v, L2.RelV v e.key ∧ Rp K B H v d) es ds
theorem each_paired {α β : Type} {R : α → β → Prop} : ∀ {as : List α} {bs : List β}, Paired R as bs → PySem.W.EachIs R as bs
  | _, _, .nil => .nil
  | _, _, .cons r t => .cons r (each_paired t)
theorem paired_each {α β : Type} {R : α → β → Prop} : ∀ {as : List α} {bs : List β}, PySem.W.EachIs R as bs → Paired R as bs
  | _, _, .nil => .nil
  | _, _, .cons r t => .cons r (paired_each t)
theorem vals_of {K : PySem.W.Frag} {B : Mset} {H : Hp} : ∀ {us : List Value} {ds : List PyData}, Paired (fun (u : Value) (d : PyData) => ∃ v, L2.RelV v u ∧ Rp K B H v d) us ds → ∃ vs, L2.Vals vs us ∧ RpA K B H vs ds
  | _, _, .nil => ⟨[], .nil, .nil⟩
  | _, _, .cons ⟨v, h1, h2⟩ t => let ⟨vs, h3, h4⟩ := vals_of t; ⟨v :: vs, .cons h1 h3, .cons h2 h4⟩
theorem each_reads {h : Heap} : ∀ {us : List Value} {ds : List PyData} {as : List Addr}, ReadsAll h us ds as → PySem.W.EachIs (fun v d => ∃ as, Reads h v d as) us ds := fun {us ds as} r => by
  have := PySem.W.readsAll_each (h := h) (fun d : PyData => d) (vs := us) (bs := ds) (as := as) (by simpa using r)
  exact this
theorem paired_keys {K : PySem.W.Frag} {B : Mset} {H : Hp} : ∀ {es : List DictEntry} {ds : List PyData}, Paired (fun (e : DictEntry) (d : PyData) => ∃ v, L2.RelV v e.key ∧ Rp K B H v d) es ds → Paired (fun (u : Value) (d : PyData) => ∃ v, L2.RelV v u ∧ Rp K B H v d) (es.map (·.key)) ds
  | _, _, .nil => .nil
  | _, _, .cons r t => .cons r (paired_keys t)
theorem srt_core {X : Cx} {pins : List (Addr × Obj)} {s : Shared} {σ : L2.St} {H : Hp} {B : Mset} {Q : VK} {a : Addr} {ds : List PyData} (hc : X.calm = true) (hu : X.A.units + 64 < cLine) (I : Inv X pins σ H s) (S : DSrc X.K B H s.heap a ds)
    (hl : PyData.canLayAll0 ds = true) (hal : PySem.W.AllAlike ds) (hk : PySem.W.Sortable ds) (hdp : ∀ d ∈ ds, d.depth ≤ 30)
    (q : ∀ (ys : List V) (p : Addr), RpA X.K B H ys (ds.mergeSort (PySem.W.dataLe false id)) → H p = none → Q (.ref p) (upd H p (.lst ys))) :
    wpAny (model X.prog X.w) X.A (call (.builtin "sorted") [.ref a]) (fun u s' => ∃ v H', Inv X pins σ H' s' ∧ L2.RelV v u ∧ Q v H') X.xe s := by
  obtain ⟨es, o, ep, lo, hz, ho, hx, hda, hks⟩ := S
  refine Calls.call_function_entry PyProof.Rows.kind_sorted PyProof.Rows.plain_sorted PyProof.Rows.entry_sorted (PyProof.Rows.args_sorted1 _) ?_
  unfold Builtin.«sorted»
  refine wpAny_bind (m := checkCount "sorted" 1 1 _) (wpAny_pure (wpAny_bind (PySem.W.kdu_collect (A := X.A.in1) (KdlSrc.rawDict (es := es.toArray) (ep := ep) lo) (I.ok.hd hc) ⟨o, ho, hx, hda⟩ (by simpa using hz) fun h' tk acc hk' hacc => ?_)))
  have el : acc.toList = es.map (·.key) := by
    apply List.ext_getElem?
    intro i
    obtain ⟨h1, h2⟩ := hacc
    by_cases hi : i < es.length
    · have hi' : i < acc.size := by rw [h1]; simpa using hi
      obtain ⟨_, e⟩ := h2 i acc[i] (Array.getElem?_eq_getElem hi')
      rw [Array.getElem?_toList, Array.getElem?_eq_getElem hi', e]
      simp [hi]
    · rw [Array.getElem?_toList, Array.getElem?_eq_none (by rw [h1]; simpa using hi)]
      simp [hi]
  have I1 : Inv X pins σ H { s with heap := h', toks := tk } := I.kept hk'
  have lk : es.length = ds.length := Paired.length hks
  have pk : Paired (fun (u : Value) (d : PyData) => ∃ v, L2.RelV v u ∧ Rp X.K B H v d) acc.toList ds := by
    rw [el]
    exact paired_keys hks
  obtain ⟨vs0, rv0, rp0⟩ := vals_of pk
  obtain ⟨as, ra⟩ := Dp.readsAll I1 ds vs0 acc.toList (rp0.dp0 hl) rv0
  have er0 := each_reads ra
  have vlen : acc.toList.length = ds.length := by rw [el, List.length_map, lk]
  refine wpAny_bind (wpAny_newList ?_ (by rw [el, List.length_map]; exact hz))
  have hoL : (h'.push (seqObj "list" acc.toList.toArray 0)).get? h'.objs.size = some (seqObj "list" acc.toList.toArray 0) := Heap.get?_push_size _ rfl
  show wpAny _ _ _ _ _ { s with heap := h'.push (seqObj "list" acc.toList.toArray 0), toks := tk }
  have er' : PySem.W.EachIs (fun v d => ∃ as, Reads (sortingHeap (h'.push (seqObj "list" acc.toList.toArray 0)) h'.objs.size acc.toList) v d as) acc.toList ds := er0.mono fun u d ⟨as, r⟩ => ⟨as, PyProof.Rows.Reads.keeps (fun b ob z => sortingHeap_old (Nat.ne_of_lt (Heap.lt_size z)) (Heap.get?_push_of_some _ z)) r⟩
  refine wpAny_bind (wpAny_holding (wpAny_call_entry PyProof.Rows.slot_list_sort ⟨_, hoL, rfl⟩ PyProof.Rows.entry_list_sort
    (PySem.W.list_sort_vals (s := { s with heap := h'.push (seqObj "list" acc.toList.toArray 0), toks := tk }) (κ := PySem.W.dataKind (sortingHeap (h'.push (seqObj "list" acc.toList.toArray 0)) h'.objs.size acc.toList) ds) hoL
      (PySem.W.SortsAt.data (s := { s with heap := sortingHeap (h'.push (seqObj "list" acc.toList.toArray 0)) h'.objs.size acc.toList, toks := tk }) er' hal hk fun d hd => by
        have := hdp d hd
        show X.A.units + 1 + 1 + d.depth < cLine
        omega) (by rw [vlen, ← lk]; exact hz) ⟨.none, rfl, ?_⟩) (PyProof.Rows.args_list_sort _)))
  have ep1 : PySem.W.EachIs (fun (u : Value) (d : PyData) => ∃ v, L2.RelV v u ∧ Rp X.K B H v d) acc.toList ds := each_paired pk
  have sd := PySem.W.sortVals_data (h' := sortingHeap (h'.push (seqObj "list" acc.toList.toArray 0)) h'.objs.size acc.toList) (enc := fun d : PyData => d) (vs := acc.toList) (bs := ds) false ep1 (by exact er') (by simpa using hal)
  rw [List.map_id'] at sd
  have lv := PySem.W.sortVals_length (κ := PySem.W.dataKind (sortingHeap (h'.push (seqObj "list" acc.toList.toArray 0)) h'.objs.size acc.toList) ds) false (ks := acc.toList) (vs := acc.toList) rfl
  generalize PySem.W.sortVals (PySem.W.dataKind (sortingHeap (h'.push (seqObj "list" acc.toList.toArray 0)) h'.objs.size acc.toList) ds) false acc.toList acc.toList = out at *
  obtain ⟨ys, ry, rpy⟩ := vals_of (paired_each sd)
  obtain ⟨e', he'⟩ := PyProof.Rows.sortedHeap_at (vs := acc.toList) (out := out.toArray) hoL
  have hlen : ys.length ≤ sizeLine := by rw [ry.length, lv, vlen, ← lk]; exact hz
  refine wpAny_pure ⟨_, rfl, .ref h'.objs.size, upd H h'.objs.size (.lst ys), I1.laid (t' := tk) (fun b u e => ?_) (Nat.le_refl _)
    (show ObjOk X.prog X.w _ _ _ (.lst ys) from ⟨hlen, out, e', ry, he'⟩), rfl, q ys _ rpy (I1.hok.fresh (Nat.le_refl _))⟩
  have hb : b < h'.objs.size := Heap.lt_size e
  rw [PyProof.Rows.sortedHeap_old (Nat.ne_of_lt hb) (by rw [size_push']; exact Nat.lt_succ_of_lt hb)]
  exact Heap.get?_push_of_some _ e
theorem dn_src {X : Cx} {pins : List (Addr × Obj)} {s : Shared} {σ : L2.St} {H : Hp} {B : Mset} {a : Addr} {z : DEs} {kvs : List (NestedKey × PyData)} (I : Inv X pins σ H s) (h : H a = some (DnO a z)) (r : DnR X.K B H z kvs) : Nonempty (DSrc X.K B H s.heap a (keysD kvs)) := by
  obtain ⟨⟨y1, y2, y3, y4, y5⟩, _⟩ := I.hok a _ h
  refine ⟨⟨z.es, z.o, z.ep, y1, y2, y3, y4, y5, ?_⟩⟩
  unfold keysD
  have : ∀ {es : List DictEntry} {kvs : List (NestedKey × PyData)}, Paired (DnE X.K B H) es kvs → Paired (fun (e : DictEntry) (d : PyData) => ∃ v, L2.RelV v e.key ∧ Rp X.K B H v d) es (kvs.map fun q => q.1.data) := by
    intro es kvs p
    induction p with
    | nil => exact .nil
    | cons r t ih =>
      obtain ⟨_, _, ⟨b, e1, e2⟩, _⟩ := r
      exact .cons ⟨.ref b, e1, e2⟩ ih
  exact this r.ent
def keyD' : Key → PyData
  | .inl i => .int i
  | .inr s => .str s
theorem key_rp {K : PySem.W.Frag} {B : Mset} {H : Hp} {k : Key} {u : Value} (h : keyIs k u = true) : ∃ v, L2.RelV v u ∧ Rp K B H v (keyD' k) := ⟨kV k, relV_key h, by
  cases k with
  | inl i => exact .int i
  | inr x => exact .str x⟩
theorem dk_src {X : Cx} {pins : List (Addr × Obj)} {s : Shared} {σ : L2.St} {H : Hp} {B : Mset} {a : Addr} {ws : List (Key × V)} {kvs : List (Key × PyData)} (I : Inv X pins σ H s) (h : H a = some (.dK ws)) (r : KvR X.K B H ws kvs) : Nonempty (DSrc X.K B H s.heap a (kvs.map fun q => keyD' q.1)) := by
  obtain ⟨z, y, vs, rv, o, es, ep, e1, e2, e3, e4, e5, e6⟩ := dk_of I.hok h
  have key : ∀ {es : List DictEntry} {vs : List (Key × Value)} {ws : List (Key × V)} {kvs : List (Key × PyData)}, Pairs (mixKind X.prog X.w) es vs → KV ws vs → KvR X.K B H ws kvs → Paired (fun (e : DictEntry) (d : PyData) => ∃ v, L2.RelV v e.key ∧ Rp X.K B H v d) es (kvs.map fun q => keyD' q.1) := by
    intro es vs ws kvs p
    induction p generalizing ws kvs with
    | nil =>
      intro k r
      cases k
      cases r
      exact .nil
    | cons p1 p2 p3 ih =>
      intro k r
      cases k with
      | cons k1 k2 =>
        cases r with
        | cons r1 r2 =>
          exact .cons (by dsimp only; rw [r1.1.symm.trans k1.1]; exact key_rp p1) (ih k2 r2)
  have kp := key e5 rv r
  have l1 : es.size = vs.length := by
    have : ∀ {es : List DictEntry} {vs : List (Key × Value)}, Pairs (mixKind X.prog X.w) es vs → es.length = vs.length := by
      intro es vs p
      induction p with
      | nil => rfl
      | cons _ _ _ ih => simp [ih]
    have := this e5
    simpa using this
  have l2 : ws.length = vs.length := Paired.length rv
  exact ⟨⟨es.toList, o, ep, y, by simp; omega, e1, e2, by simpa using e3, kp⟩⟩
def keysOfCt : Ct → Option (List PyData)
  | .dn kvs => some (keysD kvs)
  | .dk kvs => some (kvs.map fun q => keyD' q.1)
  | .ls _ => none
def PlainS (xs : List PyData) : Prop := PyData.canLayAll0 xs = true ∧ PySem.W.AllAlike xs ∧ PySem.W.Sortable xs ∧ ∀ d ∈ xs, d.depth ≤ 30
noncomputable instance (xs : List PyData) : Decidable (PlainS xs) := Classical.propDecidable _
def srtD (xs : List PyData) : List PyData := xs.mergeSort (PySem.W.dataLe false id)
noncomputable def kSrtG : KK := fun ds env => match ds with
  | [.var i] => match env[i]? with
    | some (some (.mu _ c)) => match keysOfCt c with
      | some xs => if PlainS xs then some (.tmp (.ls (srtD xs)), env) else none
      | none => none
    | _ => none
  | _ => none
def rSrtG (K : PySem.W.Frag) : List V → Hp → VK → Prop := fun vs H Q => ∃ (a : Addr) (B : Mset) (xs : List PyData), vs = [V.ref a] ∧ PlainS xs ∧ ((∃ z kvs, H a = some (DnO a z) ∧ DnR K B H z kvs ∧ xs = keysD kvs) ∨ ∃ ws kvs, H a = some (.dK ws) ∧ KvR K B H ws kvs ∧ xs = kvs.map fun q => keyD' q.1) ∧
  ∀ (ys : List V) (p : Addr), RpA K B H ys (srtD xs) → H p = none → Q (.ref p) (upd H p (.lst ys))
theorem cr_srtG {X : Cx} (hc : X.calm = true) (hu : X.A.units + 64 < cLine) : CallR X (.builtin "sorted") (rSrtG X.K) := by
  intro pins s σ H vs us Q I r h
  obtain ⟨a, B, xs, rfl, ⟨p1, p2, p3, p4⟩, src, q⟩ := h
  rw [Vals.ref1 r]
  rcases src with ⟨z, kvs, h1, h2, rfl⟩ | ⟨ws, kvs, h1, h2, rfl⟩
  · obtain ⟨S⟩ := dn_src I h1 h2
    exact srt_core hc hu I S p1 p2 p3 p4 q
  · obtain ⟨S⟩ := dk_src I h1 h2
    exact srt_core hc hu I S p1 p2 p3 p4 q
theorem c_srtG {K : PySem.W.Frag} : Con K kSrtG (rSrtG K) := by
  intro σ H B env B1 H1 env1 vs ds d e2 Q en a rr hk q
  unfold kSrtG at hk
  split at hk
  · rename_i i
    match vs, rr with
    | [v], rr =>
      split at hk
      · rename_i m c hi
        split at hk
        · rename_i xs hx
          split at hk
          · rename_i hp
            cases hk
            obtain ⟨p, hσ, hB, ct⟩ := a.en.mu i _ _ hi
            have hv : v = .ref p := by
              have h1 : σ[i]? = some (some v) := rr.each 0 v _ rfl rfl
              rw [hσ] at h1
              cases h1
              rfl
            subst hv
            refine ⟨p, B1, xs, rfl, hp, ?_, fun ys r g1 nr => con_new en a nr g1 q⟩
            cases c with
            | ls _ => cases hx
            | dn kvs =>
              cases hx
              obtain ⟨z, k1, k2⟩ := ct
              exact .inl ⟨z, kvs, k1, k2, rfl⟩
            | dk kvs =>
              cases hx
              obtain ⟨ws, k1, k2⟩ := ct
              exact .inr ⟨ws, kvs, k1, k2, rfl⟩
          · cases hk
        · cases hk
      · cases hk
    | [], rr => have := rr.len; simp at this
    | _ :: _ :: _, rr => have := rr.len; simp at this
  · cases hk
theorem w_srtG {X : Cx} {k : Nat} (hc : X.calm = true) (hr : Room k X.A) : Blt X "sorted" kSrtG := ⟨_, _, cr_srtG hc (u64 hr), c_srtG, by decide +kernel⟩
end T3

end
section
set_option linter.all false
set_option autoImplicit false
set_option Elab.async false
set_option maxRecDepth 100000
namespace T3
open PySem L2
variable [TabL]
end T3

end
section
set_option linter.all false
set_option autoImplicit false
set_option Elab.async false
set_option maxRecDepth 100000
namespace T3
open PySem L2
variable [TabL]
def MinOk (xs : List PyData) : Prop := PyData.canLayAll0 xs = true ∧ PySem.W.AlikeAll xs ∧ PyData.depthAll xs ≤ 30
noncomputable instance (xs : List PyData) : Decidable (MinOk xs) := Classical.propDecidable _
end T3

end
section
set_option linter.all false
set_option autoImplicit false
set_option Elab.async false
set_option maxRecDepth 100000
namespace L2
open PySem PySem.Spec PyProof.Rows
abbrev TLay := Addr → V → V → Hp → (Hp → Prop) → Prop
structure PLay (X : Cx) (l : TLay) : Prop where
  run : ∀ (pins : List (Addr × Obj)) (σ : St) (H : Hp) (s : Shared) (D : Addr) (y z : V) (u r : Value) (N : Hp → Prop) (Q : Unit → Shared → Prop) (E : Value → Shared → Prop),
    Inv X pins σ H s → RelV y u → RelV z r → l D y z H N → (∀ s' H', Inv X pins σ H' s' → N H' → Q () s') → wpAny (model X.prog X.w) X.A (dictSet D u r) Q E s
structure LayT (l : TLay) (D : Addr) (J : It) (g : TG) (tk tv : TE) (vs : List Nat) (σ : St) (W : Nat → Nat → Hp → Prop) (fin : Hp → Prop) : Prop where
  turn : ∀ (i m : Nat) (H : Hp), W i m H → (J.stop i H ∧ fin H) ∨ (J.go i H ∧ ∃ Nx : Hp → Prop, (∀ H', Nx H' → ∃ m', m' < m ∧ W (i + 1) m' H') ∧
    ∀ x H', J.yld i H x H' → g x (wipe σ vs) H' fun τ H2 => wipe τ vs = wipe σ vs ∧ tk τ H2 fun y H4 => tv τ H4 fun z H5 => l D y z H5 Nx)
section
variable {X : Cx}
end
end L2
namespace T3
open PySem L2
variable [TabL]
section
variable {X : Cx}
end
end T3

end
section
set_option linter.all false
set_option autoImplicit false
set_option Elab.async false
set_option maxRecDepth 100000
namespace T3
open PySem L2
variable [TabL]
section
variable {X : Cx} {a b : Expr} {fa fb : EE} {p p2 pos pos2 : Pos}
end
end T3

end
section
set_option linter.all false
set_option autoImplicit false
set_option Elab.async false
set_option maxRecDepth 100000
namespace T3
open PySem PySem.Spec PyProof.Rows L2
variable [TabL]
section
variable {X : Cx}
end
end T3

end
section
set_option linter.all false
set_option autoImplicit false
set_option Elab.async false
set_option maxRecDepth 100000
namespace T3
open PySem PySem.Spec PyProof.Rows L2
variable [TabL]
section
variable {X : Cx} {o e : Expr} {fo : EE} {fa : EA} {apos cpos : Pos}
end
end T3

end
section
set_option linter.all false
set_option autoImplicit false
set_option Elab.async false
set_option maxRecDepth 100000
namespace L2
open PySem PySem.Spec PyProof.Rows
section
variable {P : Program} {w : World} {A : Around} {E : Value → Shared → Prop} {s : Shared}
end
section
variable {X : Cx}
end
end L2
namespace T3
open PySem PySem.Spec PyProof.Rows L2
variable [TabL]
end T3

end
section
set_option linter.all false
set_option autoImplicit false
set_option Elab.async false
set_option maxRecDepth 100000
namespace T3
open PySem L2
variable [TabL]
def sNst (i k j : Nat) (f : EA) : SS := fun env => match f env with
  | some ([.pd (.tuple [x, y]), d2], e) => match setR i (.pd x) e with
    | none => none
    | some e2 => match setR k (.pd y) e2 with
      | none => none
      | some e3 => match setR j d2 e3 with
        | none => none
        | some e4 => some (.nx, e4)
  | _ => none
@[simp] theorem z_nst (i k j : Nat) (f : EA) (env : Sl) : sNst i k j f env = (match f env with
  | some ([.pd (.tuple [x, y]), d2], e) => match setR i (.pd x) e with
    | none => none
    | some e2 => match setR k (.pd y) e2 with
      | none => none
      | some e3 => match setR j d2 e3 with
        | none => none
        | some e4 => some (.nx, e4)
  | _ => none) := rfl
theorem RpA.two {K : PySem.W.Frag} {B : Mset} {H : Hp} {us : List V} {x y : PyData} (h : RpA K B H us [x, y]) : ∃ w1 w2, us = [w1, w2] ∧ Rp K B H w1 x ∧ Rp K B H w2 y := by
  cases h with
  | cons u1 h =>
    cases h with
    | cons u2 h =>
      cases h
      exact ⟨_, _, rfl, u1, u2⟩
theorem gNst_of {K : PySem.W.Frag} {i k j : Nat} {p a : Addr} {w1 w2 w : V} {σ : St} {H : Hp} {Q : St → Hp → Prop} (h0 : SqT K H p [.ref a, w]) (h1 : SqT K H a [w1, w2]) (q : Q (((σ.set i (some w1)).set k (some w2)).set j (some w)) H) :
    gTup K 2 (gCons (gTup K 2 (gCons (gName i) (gCons (gName k) gNil))) (gCons (gName j) gNil)) (.ref p) σ H Q :=
  ⟨p, _, rfl, h0, rfl, .ref a, [w], rfl, a, _, rfl, h1, rfl, w1, [w2], rfl, w2, [], rfl, rfl, w, [], rfl, rfl, q⟩
theorem rd_nst {K : PySem.W.Frag} {i k j : Nat} {f : EA} {D : Ends} {σ : St} {H : Hp} (h : tS K (sNst i k j f) D σ H) : tAsg (tTup (tA K f)) (gTup K 2 (gCons (gTup K 2 (gCons (gName i) (gCons (gName k) gNil))) (gCons (gName j) gNil))) D σ H := by
  obtain ⟨B, env, fl, env', en, ev, q⟩ := h
  unfold sNst at ev
  split at ev
  · rename_i x y d2 e1 h1
    split at ev
    · cases ev
    rename_i e2 h2
    split at ev
    · cases ev
    rename_i e3 h3
    split at ev
    · cases ev
    rename_i e4 h4
    cases ev
    refine ⟨B, env, _, _, en, h1, fun B1 H1 vs a1 rr => ?_⟩
    match vs, rr with
    | [v, w], rr =>
      refine ⟨(by decide : 2 ≤ sizeLine), fun p np => ?_⟩
      have a2 := At.pair (vs := [v, w]) a1.en np
      have s0 := (At.trans en a1 a2).s
      have rv := RA.later a1.en a2 (rr.each 0 v _ rfl rfl)
      have rw2 := RA.later a1.en a2 (rr.each 1 w d2 rfl rfl)
      obtain ⟨a, us, rfl, t1, t2⟩ := Cn.tuple (.rp rv)
      obtain ⟨w1, w2, rfl, u1, u2⟩ := RpA.two t2
      have li : i < σ.length := by rw [← s0.en.len]; exact setR_lt h2
      have s1 := AtS.set en s0 (v := w1) (d := .pd x) u1 h2
      have lk := setR_lt h3
      rw [s1.en.len] at lk
      have s2 := AtS.set en s1 (v := w2) (d := .pd y) u2 h3
      have r1 := RA.set (v := w1) (d := .pd x) h2 li rw2 (fun c c' z _ => by cases z) (setR_nv h4)
      have r2 := RA.set (v := w2) (d := .pd y) h3 lk r1 (fun c c' z _ => by cases z) (setR_nv h4)
      have s3 := AtS.set en s2 r2 h4
      exact gNst_of (.inl (.inl upd_same)) t1 (q B1 _ _ s3)
    | [], rr => have := rr.len; simp at this
    | [_], rr => have := rr.len; simp at this
    | _ :: _ :: _ :: _, rr => have := rr.len; simp at this
  · cases ev
theorem s_nst {X : Cx} {i k j : Nat} {x y z : Str} {es : List Expr} {f : EA} {px py pz p1 p2 p3 pos : Pos} {k1 k2 k3 : Nat} (hc : X.calm = true) (hN : X.N.Nodup) (hi : X.N[i]? = some x) (hk : X.N[k]? = some y) (hj : X.N[j]? = some z)
    (hx : Loc X.env.scope x) (hy : Loc X.env.scope y) (hz : Loc X.env.scope z) (ha : PA X es (tA X.K f))
    (fx : X.fn x = true ∨ X.env.scope.names.lookup x = some .local := by first | exact .inl rfl | exact .inr rfl | assumption)
    (fy : X.fn y = true ∨ X.env.scope.names.lookup y = some .local := by first | exact .inl rfl | exact .inr rfl | assumption)
    (fz : X.fn z = true ∨ X.env.scope.names.lookup z = some .local := by first | exact .inl rfl | exact .inr rfl | assumption)
    (hs : swapsWithSole [.Tuple [.Tuple [.Name x px, .Name y py] k1 p1, .Name z pz] k2 p2] (.Tuple es k3 p3) pos.line X.env = pure false := by rfl)
    (hw : swappedStores [.Tuple [.Tuple [.Name x px, .Name y py] k1 p1, .Name z pz] k2 p2] (.Tuple es k3 p3) X.env = pure none := by rfl) :
    PS X (.Assign [.Tuple [.Tuple [.Name x px, .Name y py] k1 p1, .Name z pz] k2 p2] (.Tuple es k3 p3) pos) (tS X.K (sNst i k j f)) :=
  PS.imp (ps_asg (pe_tup ha) (pg_tup hc (pgs_cons (pg_tup hc (pgs_cons (pg_name hN hi hx fx) (pgs_cons (pg_name hN hk hy fy) pgs_nil))) (pgs_cons (pg_name hN hj hz fz) pgs_nil))) hs hw) fun _ _ _ t => rd_nst t
end T3

end
section
set_option linter.all false
set_option autoImplicit false
set_option Elab.async false
set_option maxRecDepth 100000
namespace T3
open PySem L2
variable [TabL]
end T3

end
section
set_option linter.all false
set_option autoImplicit false
set_option Elab.async false
set_option maxRecDepth 100000
namespace T3
open PySem PySem.Spec PyProof.Rows L2 LamA NdefX LamX
variable [TabL]
section
variable {X : Cx} {x : Str} {st : Stmt} {Ng psg : List Str} {k j : Nat} {q capt : Str} {params : Arguments} {body : Expr} {scope : Scope} {M : PyData → List PyData → SS} {p lpos pos : Pos} {e1 e2 : Expr} {f1 f2 : EE} {cX P : Addr} {y : Str} {x4 : PyData} {py : Pos}
end
end T3

end
section
set_option linter.all false
set_option autoImplicit false
set_option Elab.async false
set_option maxRecDepth 100000
namespace T3
open PySem L2
variable [TabL]
end T3

end
section
set_option linter.all false
set_option autoImplicit false
set_option Elab.async false
set_option maxRecDepth 100000
namespace T3
open PySem L2
variable [TabL]
noncomputable instance reprFits (x : Str) : Decidable ((reprText x).length ≤ sizeLine) := Classical.propDecidable _
noncomputable def oReprX : List PyData → Option PyData
  | [.str x] => if (reprText x).length ≤ sizeLine then some (.str (reprText x)) else none
  | [.bool b] => some (.str (if b then "True" else "False"))
  | [.none] => some (.str "None")
  | ds => oRepr ds
def rReprX (K : PySem.W.Frag) : List V → Hp → VK → Prop := fun vs H Q => rRepr K vs H Q ∨ (∃ x, vs = [V.str x] ∧ (reprText x).length ≤ sizeLine ∧ Q (.str (reprText x)) H) ∨ (∃ b, vs = [V.bl b] ∧ Q (.str (if b then "True" else "False")) H) ∨ (vs = [V.non] ∧ Q (.str "None") H)
theorem cr_reprX {X : Cx} (gd : X.A.guards = some []) (hu : X.A.units + 66 < cLine) : CallR X (.builtin "repr") (rReprX X.K) := by
  intro pins s σ H xs us Q J r h
  rcases h with h | ⟨x, rfl, hz, q⟩ | ⟨b, rfl, q⟩ | ⟨rfl, q⟩
  · exact cr_repr gd hu pins s σ H xs us Q J r h
  · obtain ⟨u, rfl, t, rfl⟩ := vals1 r
    exact PySem.P.repr_of_str ⟨.str _, H, J.tok _, ⟨_, rfl⟩, q⟩ hz
  · obtain ⟨u, rfl, e⟩ := vals1 r
    have e : u = .bool b := e
    subst e
    exact PySem.P.repr_of_bool ⟨.str _, H, J.tok _, ⟨_, rfl⟩, q⟩
  · obtain ⟨u, rfl, e⟩ := vals1 r
    have e : u = .none := e
    subst e
    exact PySem.P.repr_of_none ⟨.str _, H, J.tok _, ⟨_, rfl⟩, q⟩
end T3

end
section
set_option linter.all false
set_option autoImplicit false
set_option Elab.async false
set_option maxRecDepth 100000
namespace L2
open PySem PySem.Spec PyProof.Rows
def IteS (K : PySem.W.Frag) (a : Addr) (k : Int) : It :=
  ⟨fun i H => ∃ (xs : List V) (x : V), SqL K H a xs ∧ xs[i]? = some x, fun i H v H' => ∃ T x, v = .ref T ∧ H T = none ∧ H' = upd H T (.tup [.int (k + (i : Nat)), x]) ∧ ∀ xs, SqL K H a xs → xs[i]? = some x, fun i H => ∃ xs : List V, SqL K H a xs ∧ xs.length ≤ i⟩
theorem endW {prog : Program} {w : World} {A : Around} (nh : A.handled = none) (it l : Addr) (items : Array Value) (i : Nat) (big : items.size ≤ i) :
    Draws prog w A it [it, l] i (fun _ _ => True) (fun j h => j = i ∧ h.IsListIter it l i ∧ h.IsList l items) where
  live := fun _ _ q => let ⟨o, go, _⟩ := q.2.1; ⟨o, go⟩
  frame := fun _ _ _ q kk => ⟨q.1, q.2.1.at fun o z => kk it (by simp) o z, q.2.2.at fun o z => kk l (by simp) o z⟩
  item := fun j s Q E lt q _ => absurd q.1 (Nat.ne_of_lt lt)
  done := fun s Q E q z => wpAny_nextOf_list_end nh q.2.1 q.2.2 (by simp; omega) z
theorem turn_enumS {P : Program} {w : World} {K : PySem.W.Frag} {elts : List Expr} {kk : Nat} {tpos : Pos} (a e it : Addr) (k : Int) :
    Turn P w K (.Tuple elts kk tpos) (IteS K a k) [e, it] e (fun i h => (∃ od, IsEnum h e it (k + ((i : Nat) : Int)) od) ∧ h.IsListIter it a i ∧ e ≠ it ∧ a ≠ it ∧ e ≠ a) where
  mem := by simp
  obj := fun i h sT b hb => by
    obtain ⟨⟨od, gE⟩, ⟨o, gO, hc, gD⟩, _⟩ := sT
    have e' : b = e ∨ b = it := by simpa using hb
    rcases e' with z | z
    · rw [z]; exact ⟨_, gE, fun v q => nomatch q⟩
    · rw [z]; exact ⟨o, gO, fun v q => by rw [gD] at q; cases q⟩
  keep := fun i h h' sT k => let ⟨⟨od, gE⟩, hi, n1, n2, n3⟩ := sT; ⟨⟨od, k e (by simp) _ gE⟩, hi.at fun o q => k it (by simp) o q, n1, n2, n3⟩
  item := by
    intro X hP hw hK hc i pins s σ H E I fF sT gg
    subst hP hw hK
    obtain ⟨⟨od, gE⟩, gI, n1, n2, n3⟩ := sT
    obtain ⟨xs, x, gq, gX⟩ := gg
    obtain ⟨wz, rW, p, zS⟩ := I.list gq
    obtain ⟨u, gu, gr⟩ := rW.get gX
    have le1 : e < s.heap.objs.size := Heap.lt_size gE
    have le2 : it < s.heap.objs.size := by obtain ⟨_, q, _⟩ := gI; exact Heap.lt_size q
    have li : i < wz.toArray.size := by
      have := (List.getElem?_eq_some_iff.mp gu).1
      simpa using this
    refine wpAny_pyNext_enum_itemC (P := fun i v => wz.toArray[i]? = some v) (Draws.list (A := X.A.in1) (I.ok.hd hc) it a n2 wz.toArray) gE ⟨gI, p.isList⟩ li n1 (by simp; exact ⟨n1, n3⟩) fun u' h' tk hP' gO hst' hT hsz hk => ?_
    have eu : u' = u := by
      have h1 : wz.toArray[i]? = some u' := hP'
      have h2 : wz.toArray[i]? = some u := by simpa using gu
      rw [h1] at h2
      cases h2
      rfl
    subst eu
    refine ⟨_, rfl, wpAny_letOwnedTupleGo_enum (s := { s with heap := h', toks := tk + 1 }) gO fun h'' gE' sB => ?_⟩
    have hT2 : h''.get? s.heap.objs.size = some { cls := .type "tuple", data := .seq #[.int (k + (i : Nat)) tk, u'] } := (sB.2 _ (Nat.ne_of_gt le1)).trans hT
    have new : ObjOk X.prog X.w (upd H s.heap.objs.size (.tup [.int (k + (i : Nat)), x])) h'' s.heap.objs.size (.tup [.int (k + (i : Nat)), x]) :=
      ⟨by show 2 ≤ sizeLine; decide, [.int (k + (i : Nat)) tk, u'], .cons ⟨_, rfl⟩ (.cons gr .nil), ⟨_, hT2, rfl, _, rfl⟩⟩
    have I1 : Inv X pins σ (upd H s.heap.objs.size (.tup [.int (k + (i : Nat)), x])) { s with heap := h'', toks := tk + 1 } :=
      I.turnedNew (t' := tk + 1) (ch := [e, it]) (fun b ob hb q => (sB.2 b (fun z => hb (by simp [z]))).trans (hk b ob (fun z => hb (by simp [z])) (fun z => hb (by simp [z])) q)) fF (Nat.le_refl _) new
    refine ⟨.ref s.heap.objs.size, _, I1, rfl, ⟨_, x, rfl, I.hok.fresh (Nat.le_refl _), rfl, fun ys hy => by rw [I.list_inj hy gq]; exact gX⟩, ⟨⟨u', ?_⟩, hst'.1.at fun o q => (sB.2 it (Ne.symm n1)).trans q, n1, n2, n3⟩, fun b hb => ?_⟩
    · have e1 : k + ((i + 1 : Nat) : Int) = k + (i : Int) + 1 := by omega
      rw [e1]; exact gE'
    · have hb' : b < s.heap.objs.size := by
        have e' : b = e ∨ b = it := by simpa using hb
        rcases e' with z | z
        · rw [z]; exact le1
        · rw [z]; exact le2
      rw [upd_ne (Nat.ne_of_lt hb')]
      exact (fF b hb).1
  done := by
    intro X hP hw hK hc i pins s σ H E I fF sT gg
    subst hP hw hK
    obtain ⟨⟨od, gE⟩, gI, n1, n2, n3⟩ := sT
    obtain ⟨xs, gq, gX⟩ := gg
    obtain ⟨wz, rW, p, zS⟩ := I.list gq
    obtain ⟨f0, f1, f2, f3, f4, f5⟩ := fF it (by simp)
    have gl := rW.length
    have hi : i ≥ wz.length := by omega
    refine wpAny_pyNext_enum_endD (endW (A := X.A.in1) (I.ok.hd hc) it a wz.toArray i (by simp; omega)) gE ⟨rfl, gI, p.isList⟩ fun h' eb => ⟨rfl, I.turned (t' := s.toks) (fun b ob nb q => eb b ob nb q) f0 f1 f3 f4 f5⟩
  self := fun A i s Q E sT h => let ⟨⟨_, gE⟩, _⟩ := sT; wpAny_pyIter_enum gE h
theorem cw_ty {M : Model} {A : Around} {E : Value → Shared → Prop} {s : Shared} {env : Env} {pos : Pos} {T : String} {e : Expr} {rest : List Expr} {kws : List Keyword} {Q : Value → Shared → Prop}
    (h : wpAny M A (spliced (backTo pos (starEach (e :: rest) env))) (fun us t => wpAny M A (evalAll ((backToKw pos (keywordEach kws env)).map (·.2)))
      (fun ks t2 => wpAny M A (call (.type T) us (((backToKw pos (keywordEach kws env)).filterMap (·.1)).zip ks)) Q E t2) E t) E s)
    (hs : backTo pos (starEach (e :: rest) env) = (false, eval e env) :: backTo pos (starEach rest env)) (hp : (backTo pos (starEach (e :: rest) env)).any (·.1) = false)
    (ha : (backToKw pos (keywordEach kws env)).all (·.1.isSome) = true) (hk : (backToKw pos (keywordEach kws env)).any (·.1.isNone) = false) :
    wpAny M A (callWith pos (.type T) [] (backTo pos (starEach (e :: rest) env)) (backToKw pos (keywordEach kws env))) Q E s := by
  rw [hs] at h hp ⊢
  have hc := evalArgs_kwB (f := .type T) (Q := fun a t => wpAny M A (call (.type T) ([] ++ a.pos) a.kw) Q E t) ha h
  unfold callWith
  apply wpAny_bind
  apply wpAny_holding
  refine wpAny_mono hc (fun a t h1 => ?_) (fun _ _ x => x)
  apply wpAny_bind
  apply wpAny_standAt
  simp only [hp, hk, Bool.or_false]
  apply wpAny_bind
  apply wpAny_pure
  apply wpAny_bind
  refine wpAny_mono h1 (fun r t2 hr => ?_) (fun _ _ x => x)
  exact wpAny_bind (wpAny_holding (wpAny_point (wpAny_pure hr)))
def iEnumS (K : PySem.W.Frag) (ta : TA) (k : Int) : TI := fun σ H R => ta σ H fun vs H1 => ∃ a xs, vs = [.ref a] ∧ SqL K H1 a xs ∧ R (IteS K a k) H1
theorem pi_enumS {X : Cx} {e : Expr} {ta : TA} {p pos tpos cp kp : Pos} {elts : List Expr} {kk ck : Nat} (hg : Gl X "enumerate") (hm : X.mg "enumerate" = none) (ha : PA X [e] ta)
    (hs : backTo pos (starEach [e] X.env) = (false, eval e X.env) :: backTo pos (starEach [] X.env) := by rfl) (hp : (backTo pos (starEach [e] X.env)).any (·.1) = false := by rfl) :
    PI X (.Tuple elts kk tpos) (.Call (.Name "enumerate" p) [e] [⟨some "start", .Constant (.int 1) ck cp, kp⟩] pos) (iEnumS X.K ta 1) := by
  refine ⟨fun pins s σ H R I h => ?_⟩
  have pk : PK X [⟨some "start", .Constant (.int 1) ck cp, kp⟩] (tCons (tC (.int 1)) tNil) := pk_cons pe_int pk_nil
  refine wpAny_Call_Name_kw (ld_blt I hg hm boot_enumerate ?_ (by decide) (by decide))
  refine cw_ty (thn (ha.run pos pins s σ H _ I h) fun us s1 ⟨vs, H1, I1, r1, a, xs, ev, gq, q⟩ => ?_) hs hp rfl rfl
  subst ev
  refine thn (pk.run pos pins s1 σ H1 (fun zs H2 => zs = [.int 1] ∧ H2 = H1) I1 ⟨rfl, rfl⟩) fun ws s2 ⟨zs, H2, I2, r2, ez, eh⟩ => ?_
  subst ez eh
  cases r1 with
  | cons r rr =>
    cases rr
    cases r
    cases r2 with
    | cons t tt =>
      cases tt
      obtain ⟨tk, rfl⟩ := t
      obtain ⟨wz, rW, pl, zS⟩ := I2.list gq
      show wpAny _ _ (call (.type "enumerate") [.ref a] [(Str.ofString "start", .int 1 tk)]) _ _ _
      refine enum_begins_start (begins_list a wz.toArray) pl.isList (by decide) (by decide) fun h' gE gI zE kE => wpAny_pyIter_enum gE ?_
      have I3 : Inv X pins σ H2 { s2 with heap := h' } := I2.kept (t' := s2.toks) kE
      have la : a < s2.heap.objs.size := by
        obtain ⟨o, go, _⟩ := pl.isList
        exact Heap.lt_size go
      refine ⟨s2.heap.objs.size + 1, [s2.heap.objs.size + 1, s2.heap.objs.size], _, _, H2, rfl, I3, turn_enumS a (s2.heap.objs.size + 1) s2.heap.objs.size 1, ⟨⟨.none, gE⟩, ⟨_, gI, rfl, rfl⟩, Nat.succ_ne_self _, Nat.ne_of_lt la, Nat.ne_of_gt (Nat.lt_succ_of_lt la)⟩, fun b hb => ?_, q⟩
      have lb : s2.heap.objs.size ≤ b := by
        have : b = s2.heap.objs.size + 1 ∨ b = s2.heap.objs.size := by simpa using hb
        rcases this with z | z
        · rw [z]; exact Nat.le_add_right _ _
        · rw [z]; exact Nat.le_refl _
      exact I2.fpOk lb (I2.hok.fresh lb)
end L2

end
section
set_option linter.all false
set_option autoImplicit false
set_option Elab.async false
set_option maxRecDepth 100000
namespace T3
open PySem L2
variable [TabL]
theorem wk_esM {K : PySem.W.Frag} {a : Addr} {xs : List PyData} : Wk K (IteS K a 1) (fun q => q = a) (fun B H => ∃ vs, H a = some (.lst vs) ∧ RpA K B H vs xs) (enumD xs 1) where
  go i B H g hi := by
    obtain ⟨us, h1, h2⟩ := g
    simp only [enumD, List.length_map, List.length_range] at hi
    have l1 := h2.length
    exact ⟨us, us[i]'(by omega), .inl (.inl h1), by simp⟩
  stop B H g := by
    obtain ⟨us, h1, h2⟩ := g
    refine ⟨us, .inl (.inl h1), ?_⟩
    simp only [enumD, List.length_map, List.length_range]
    have l1 := h2.length
    omega
  yld i B H x H' d g hd hy := by
    obtain ⟨us, h1, h2⟩ := g
    obtain ⟨T, u, rfl, nT, rfl, f1⟩ := hy
    refine ⟨.inr (.inl ⟨T, _, nT, rfl⟩), ?_⟩
    obtain ⟨x, m1, m2⟩ := h2.getV (f1 us (.inl (.inl h1)))
    have hi : i < xs.length := (List.getElem?_eq_some_iff.mp m1).1
    simp only [enumD, List.getElem?_map, List.getElem?_range hi, Option.map_some] at hd
    cases hd
    have : xs.getD i .none = x := by
      rw [List.getD_eq_getElem?_getD, m1]
      rfl
    rw [this, show ((1 + i : Nat) : Int) = 1 + ((i : Nat) : Int) by omega]
    have gr : Grow B H B (upd H T (.tup [.int (1 + ((i : Nat) : Int)), u])) := ⟨fun q o h _ => keep_upd nT q o h, fun q h => .inl h⟩
    exact .tup (.inl (.inl upd_same)) (.cons (.int _) (.cons (m2.grow gr) .nil))
  keep W B H W' B' H' g s wb hp := by
    obtain ⟨vs, h1, h2⟩ := g
    exact ⟨vs, s.keep _ _ h1 (.inl ⟨hp a rfl, fun _ z => nomatch z⟩), h2.grow (s.grow wb)⟩
theorem wk_esD {K : PySem.W.Frag} {a : Addr} {xs : List PyData} : Wk K (IteS K a 1) (fun _ => False) (fun B H => Rp K B H (.ref a) (.list xs)) (enumD xs 1) where
  go i B H g hi := by
    obtain ⟨_, us, e, h1, h2⟩ := Cn.list (.rp g)
    cases e
    simp only [enumD, List.length_map, List.length_range] at hi
    have l1 := h2.length
    exact ⟨us, us[i]'(by omega), h1, by simp⟩
  stop B H g := by
    obtain ⟨_, us, e, h1, h2⟩ := Cn.list (.rp g)
    cases e
    refine ⟨us, h1, ?_⟩
    simp only [enumD, List.length_map, List.length_range]
    have l1 := h2.length
    omega
  yld i B H x H' d g hd hy := by
    obtain ⟨_, us, e, h1, h2⟩ := Cn.list (.rp g)
    cases e
    obtain ⟨T, u, rfl, nT, rfl, f1⟩ := hy
    refine ⟨.inr (.inl ⟨T, _, nT, rfl⟩), ?_⟩
    obtain ⟨x, m1, m2⟩ := h2.getV (f1 us h1)
    have hi : i < xs.length := (List.getElem?_eq_some_iff.mp m1).1
    simp only [enumD, List.getElem?_map, List.getElem?_range hi, Option.map_some] at hd
    cases hd
    have : xs.getD i .none = x := by
      rw [List.getD_eq_getElem?_getD, m1]
      rfl
    rw [this, show ((1 + i : Nat) : Int) = 1 + ((i : Nat) : Int) by omega]
    have gr : Grow B H B (upd H T (.tup [.int (1 + ((i : Nat) : Int)), u])) := ⟨fun q o h _ => keep_upd nT q o h, fun q h => .inl h⟩
    exact .tup (.inl (.inl upd_same)) (.cons (.int _) (.cons (m2.grow gr) .nil))
  keep W B H W' B' H' g s wb _ := g.grow (s.grow wb)
def iEnS (f : EE) : EI := fun env => match f env with
  | some (.pd (.list xs), e) => some (enumD xs 1, none, e)
  | some (.tmp (.ls xs), e) => some (enumD xs 1, none, e)
  | some (.var i, e) => match e[i]? with
    | some (some (.mu m (.ls xs))) => some (enumD xs 1, some (i, m), e.set i (some (.mu .fro (.ls xs))))
    | _ => none
  | _ => none
theorem i_enS {X : Cx} {e : Expr} {f : EE} {p pos tpos cp kp : Pos} {elts : List Expr} {kk ck : Nat} (hg : Gl X "enumerate") (hm : X.mg "enumerate" = none) (he : PE X e (tE X.K f)) (hs : starEach [e] X.env = [(false, eval e X.env)] := by rfl) :
    PI X (.Tuple elts kk tpos) (.Call (.Name "enumerate" p) [e] [⟨some "start", .Constant (.int 1) ck cp, kp⟩] pos) (tI X.K (iEnS f)) := PI.imp (pi_enumS hg hm (a_cons he a_nil hs) (by rw [hs]; rfl) (by rw [hs]; rfl)) fun σ H R h => by
  obtain ⟨B, env, xs, lk, env', en, ev, q⟩ := h
  unfold iEnS at ev
  split at ev
  · rename_i ys e h1
    cases ev
    refine ⟨B, env, [.pd (.list ys)], env', en, by simp [h1], fun B1 H1 vs a1 r1 => ?_⟩
    obtain ⟨v, rfl, r2⟩ := r1.one
    have r2 : Rp X.K B1 H1 v (.list ys) := r2
    obtain ⟨a, us, rfl, h2, h3⟩ := Cn.list (.rp r2)
    exact ⟨a, us, rfl, h2, q B1 H1 _ _ _ _ a1 rfl wk_esD r2 (fun _ z => z.elim)⟩
  · rename_i ys e h1
    cases ev
    refine ⟨B, env, [.tmp (.ls ys)], env', en, by simp [h1], fun B1 H1 vs a1 r1 => ?_⟩
    obtain ⟨v, rfl, r2⟩ := r1.one
    obtain ⟨a, rfl, k0, k1, ⟨us, k2, k3⟩, k4⟩ := r2
    refine ⟨a, us, rfl, .inl (.inl k2), q B1 H1 _ _ _ _ a1 rfl wk_esM ⟨us, k2, k3⟩ (fun p z => ?_)⟩
    subst z
    exact ⟨fun ⟨i, m, c, g1, _, g3⟩ => k4 i m c g1 g3, _, k2⟩
  · rename_i i e h1
    split at ev
    · rename_i m ys h2
      cases ev
      refine ⟨B, env, [.var i], e, en, by simp [h1], fun B1 H1 vs a1 r1 => ?_⟩
      obtain ⟨v, rfl, r2⟩ := r1.one
      have k1 : σ[i]? = some (some v) := r2
      obtain ⟨a, g1, g2, us, g3, g4⟩ := a1.en.mu i _ _ h2
      rw [k1] at g1
      cases g1
      refine ⟨a, us, rfl, .inl (.inl g3), q B1 H1 _ _ _ _ a1 ⟨_, h2, rfl⟩ wk_esM ⟨us, g3, g4⟩ (fun p z => ?_)⟩
      subst z
      refine ⟨fun ⟨j, m', c, z1, z2, z3⟩ => ?_, _, g3⟩
      rcases get_set z1 with ⟨e1, e2⟩ | ⟨e1, z1⟩
      · cases e2; exact z2 rfl
      · exact e1 (a1.en.inj i j _ _ _ _ _ h2 z1 k1 z3)
    · cases ev
  · cases ev
@[simp] theorem z_enS (f : EE) (env : Sl) : iEnS f env = (match f env with
  | some (.pd (.list xs), e) => some (enumD xs 1, none, e)
  | some (.tmp (.ls xs), e) => some (enumD xs 1, none, e)
  | some (.var i, e) => match e[i]? with
    | some (some (.mu m (.ls xs))) => some (enumD xs 1, some (i, m), e.set i (some (.mu .fro (.ls xs))))
    | _ => none
  | _ => none) := rfl
end T3

end
section
set_option linter.all false
set_option autoImplicit false
set_option Elab.async false
set_option maxRecDepth 100000
namespace L2
open PySem PySem.Spec PyProof.Rows
section
variable {prog : Program} {w : World} {A : Around}
variable {R : Result → Shared → Prop} {it : Addr} {fs ws : List Addr} {m : Nat} {Pv : Nat → Value → Prop} {Sv : Nat → Heap → Prop} {d : Value}
end
end L2

end
section
set_option linter.all false
set_option autoImplicit false
set_option Elab.async false
set_option maxRecDepth 100000
namespace T3
open PySem L2
variable [TabL]
structure Gw (H H' : Hp) : Prop where
  keep : ∀ a o, H a = some o → (NT o ∨ Imm o) → H' a = some o
  liv : ∀ a, H' a = none → H a = none
theorem Gw.grow {H H' : Hp} (g : Gw H H') (B : Mset) : Grow B H B H' := ⟨fun a o h q => g.keep a o h (q.imp (·.2) id), fun a h => .inl h⟩
theorem Gw.trans {H H1 H2 : Hp} (g : Gw H H1) (g' : Gw H1 H2) : Gw H H2 := ⟨fun a o h q => g'.keep a o (g.keep a o h q) q, fun a h => g.liv a (g'.liv a h)⟩
structure F4 where
  a : Addr
  b : Addr
  c : Addr
  d : Addr
def F4.has (q : F4) : Mset := fun x => x = q.a ∨ x = q.b ∨ x = q.c ∨ x = q.d
def F4.with (q : F4) (B : Mset) : Mset := fun x => B x ∨ q.has x
structure W4 where
  w0 : List Int
  w1 : List Int
  u0 : List PyData
  u1 : List PyData
structure WI (K : PySem.W.Frag) (B : Mset) (H₀ : Hp) (n : Nat) (T1 T2 C : Addr) (q : F4) (xs : List PyData) (s : W4) (σ : St) (H : Hp) : Prop where
  len : σ.length = n
  s2 : σ[2]? = some (some (.ref T1))
  s3 : σ[3]? = some (some (.ref T2))
  t1 : H T1 = some (.tup [.ref q.a, .ref q.b])
  t2 : H T2 = some (.tup [.ref q.c, .ref q.d])
  la : H q.a = some (.lst (s.w0.map V.int))
  lb : H q.b = some (.lst (s.w1.map V.int))
  lc : ∃ vs, H q.c = some (.lst vs) ∧ RpA K (q.with B) H vs s.u0
  ld : ∃ vs, H q.d = some (.lst vs) ∧ RpA K (q.with B) H vs s.u1
  lx : ∃ vs, H C = some (.lst vs) ∧ RpA K (q.with B) H vs xs
  gw : Gw H₀ H
  tb : TbB B H
structure Ap (B : Mset) (H₀ : Hp) (C : Addr) (q : F4) : Prop where
  ab : q.a ≠ q.b
  ac : q.a ≠ q.c
  ad : q.a ≠ q.d
  bc : q.b ≠ q.c
  bd : q.b ≠ q.d
  cd : q.c ≠ q.d
  ca : C ≠ q.a
  cb : C ≠ q.b
  cc : C ≠ q.c
  cdd : C ≠ q.d
  f : ∀ x, q.has x → H₀ x = none
  dom : ∀ x, B x → ∃ o, H₀ x = some o
variable {K : PySem.W.Frag} {B : Mset} {H₀ : Hp} {n : Nat} {T1 T2 C : Addr} {q : F4} {xs : List PyData} {s : W4} {σ : St} {H : Hp}
theorem nt_lst (vs : List V) : NT (.lst vs) := fun _ z => nomatch z
theorem WI.go (i : WI K B H₀ n T1 T2 C q xs s σ H) {H' : Hp} (g : Gw H H') (tb : TbB B H') : WI K B H₀ n T1 T2 C q xs s σ H' := by
  have l : ∀ {x : Addr} {ds : List PyData}, (∃ vs, H x = some (.lst vs) ∧ RpA K (q.with B) H vs ds) → ∃ vs, H' x = some (.lst vs) ∧ RpA K (q.with B) H' vs ds := fun ⟨vs, h1, h2⟩ => ⟨vs, g.keep _ _ h1 (.inl (nt_lst _)), h2.grow (g.grow _)⟩
  exact ⟨i.len, i.s2, i.s3, g.keep _ _ i.t1 (.inr trivial), g.keep _ _ i.t2 (.inr trivial), g.keep _ _ i.la (.inl (nt_lst _)), g.keep _ _ i.lb (.inl (nt_lst _)), l i.lc, l i.ld, l i.lx, i.gw.trans g, tb⟩
end T3

end
section
set_option linter.all false
set_option autoImplicit false
set_option Elab.async false
set_option maxRecDepth 100000
namespace T3
open PySem L2
variable [TabL]
section
variable {K : PySem.W.Frag} {B : Mset} {H₀ : Hp} {n : Nat} {T1 T2 C : Addr} {q : F4} {xs : List PyData} {s : W4} {σ : St} {H : Hp}
end
end T3

end
section
set_option linter.all false
set_option autoImplicit false
set_option Elab.async false
set_option maxRecDepth 100000
namespace T3
open PySem L2
variable [TabL]
section
variable {X : Cx} {fc fm : EE}
end
end T3

end
section
set_option linter.all false
set_option autoImplicit false
set_option Elab.async false
set_option maxRecDepth 100000
set_option maxHeartbeats 1000000
namespace ZM3
open PySem RZ ZM
open PySem.Sem (wp)
section
variable {prog : Program} {w : World} {A : Around} {E : Value → Shared → Prop} {s : Shared}
variable {I l1 l2 l3 : Nat}
end
end ZM3

end
section
set_option linter.all false
set_option autoImplicit false
set_option Elab.async false
set_option maxRecDepth 100000
set_option maxHeartbeats 1000000
namespace ZM3
open PySem PySem.Spec PyProof.Rows L2 RZ ZM
section
variable {prog : Program} {w : World} {A : Around} {E : Value → Shared → Prop} {s : Shared} {I l1 l2 l3 : Nat}
end
end ZM3

end
section
set_option linter.all false
set_option autoImplicit false
set_option Elab.async false
set_option maxRecDepth 100000
set_option maxHeartbeats 1000000
namespace ZM3
open PySem PySem.Spec PyProof.Rows L2 RZ ZM
end ZM3
namespace T3
open PySem L2
variable [TabL]
end T3

end
section
set_option linter.all false
set_option autoImplicit false
set_option Elab.async false
set_option maxRecDepth 100000
namespace T3
open PySem L2
variable [TabL]
end T3

end
section
set_option linter.all false
set_option autoImplicit false
set_option Elab.async false
set_option maxRecDepth 100000
namespace T3
open PySem L2 PySem.Spec PyProof.Rows
variable [TabL]
end T3

end
section
set_option linter.all false
set_option autoImplicit false
set_option Elab.async false
set_option maxRecDepth 100000
namespace T3
open PySem L2
variable [TabL]
end T3

end
section
set_option linter.all false
set_option autoImplicit false
set_option Elab.async false
set_option maxRecDepth 100000
namespace T3
open PySem L2
variable [TabL]
section
variable {X : Cx} {pins : List (Addr × Obj)} {σ : St} {H : Hp} {s : Shared} {a : Addr} {A : Around} {E : Value → Shared → Prop}
theorem d_setdef {ws : List (Key × V)} {k : Key} {u r : Value} {v : V} {Q : Value → Shared → Prop} (I : Inv X pins σ H s) (e : H a = some (.dK ws)) (ry : RelV (kV k) u) (rv : RelV v r) (l : ws.length < sizeLine)
    (h1 : ∀ z w' s', valV ws k = some z → Inv X pins σ H s' → RelV z w' → Q w' s') (h2 : valV ws k = none → ∀ s', Inv X pins σ (upd H a (.dK (putK ws k v))) s' → Q r s') :
    wpAny (model X.prog X.w) A (call (.builtin "dict.setdefault") [.ref a, u, r]) Q E s := by
  obtain ⟨z, hd, vs, rel, dd⟩ := dk_of I.hok e
  have rk := rel.val k
  have hl : (putK ws k v).length ≤ sizeLine := by have := length_putK ws k v; omega
  refine call_meetsIn PySem.F.slot_dict_setdefault dd.typeIs PySem.F.entry_dict_setdefault (PySem.F.args_dict_setdefault_3 _ _ _) (kt_meets_setdefault (mixKind X.prog X.w) a (kV_is ry) hd r)
    ⟨vs, dd, by rw [← rel.length]; exact z, fun w' hw => ?_, fun hn h' dd' hs => ?_⟩
  · cases hv : valV ws k with
    | none =>
      have := RelO.none_of (by rw [← hv]; exact rk)
      rw [hw] at this
      cases this
    | some y =>
      obtain ⟨w2, hw2, rw2⟩ := RelO.some_of (v := y) (o := valueAt vs k) (by rw [← hv]; exact rk)
      rw [hw] at hw2
      cases hw2
      exact h1 y _ _ hv (I.tok _) rw2
  · cases hv : valV ws k with
    | some y =>
      obtain ⟨w2, hw2, rw2⟩ := RelO.some_of (v := y) (o := valueAt vs k) (by rw [← hv]; exact rk)
      rw [hn] at hw2
      cases hw2
    | none =>
      have he : ∃ q, h'.get? a = some q := let ⟨q, _, _, hq, _⟩ := dd'; ⟨q, hq⟩
      exact h2 hv _ (d_write I (by rw [e]; exact True.intro) hs he (dk_new hl hd (rel.put k rv) dd'))
end
def tSdf (td ty tx : TE) : TE := fun σ H Q => td σ H fun v H1 => ∃ a, v = .ref a ∧ IsDD H1 a ∧ ty σ H1 fun y H2 => tx σ H2 fun z H3 => ∃ ws k, H3 a = some (.dK ws) ∧ y = kV k ∧ ws.length < sizeLine ∧ (∀ w, valV ws k = some w → Q w H3) ∧ (valV ws k = none → Q z (upd H3 a (.dK (putK ws k z))))
section
variable {X : Cx} {o e f : Expr} {apos cpos : Pos} {td ty tx : TE}
theorem pe_sdf (ho : PE X o td) (he : PE X e ty) (hf : PE X f tx) (m : M2 X o "setdefault" apos e f cpos) : PE X (.Call (.Attribute o "setdefault" apos) [e, f] [] cpos) (tSdf td ty tx) := by
  refine ⟨fun pins s σ H Q I h => ?_⟩
  refine wpAny_Call_method m.base m.few m.line PySem.F.plainAttrs_dict PySem.F.slot_dict_setdefault PySem.F.type_dict_setdefault (thn (ho.run pins s σ H _ I h) fun u s1 ⟨x, H1, I1, rx, a, ex, d, q1⟩ => ?_)
  subst ex
  obtain rfl : u = Value.ref a := rx
  obtain ⟨t1, t2⟩ := isDD_at I1 d
  refine ⟨t1, t2, ?_⟩
  rw [m.trees]
  refine Calls.callWith_builtin rfl (Calls.evalArgs_plain (Calls.spliced_cons (thn (he.run pins s1 σ H1 _ I1 q1) fun iv s2 ⟨y, H2, I2, ry, q2⟩ => Calls.spliced_cons (thn (hf.run pins s2 σ H2 _ I2 q2) fun fv s3 ⟨z, H3, I3, rz, ws, k, h3, ey, hl, qa, qb⟩ => Calls.spliced_nil ?_))))
  subst ey
  exact d_setdef I3 h3 ry rz hl (fun z' w' s' hv I4 rw' => ⟨z', H3, I4, rw', qa z' hv⟩) (fun hn s' I4 => ⟨z, _, I4, rz, qb hn⟩)
end
def sdfP (e : Sl) (j : Nat) (y x : PyData) : Option (R × Sl) := match e[j]? with
  | some (some (.mu m (.dk kvs))) => if m = .fro then none else if kvs.length ≤ 1000000 then match key? y with
      | some k => match valD kvs k with
        | some o => some (.pd o, e)
        | none => some (.pd x, e.set j (some (.mu m (.dk (putD kvs k x)))))
      | none => none
    else none
  | _ => none
def eSdf (fd fk fx : EE) : EE := fun env => match fd env with
  | some (.var j, e1) => if isDc e1 (.var j) = true then match fk e1 with
    | some (d, e2) => match pdOf d with
      | some y => match fx e2 with
        | some (d', e3) => match pdOf d' with
          | some x => sdfP e3 j y x
          | none => none
        | none => none
      | none => none
    | none => none
    else none
  | _ => none
section
variable {X : Cx} {o e f : Expr} {apos cpos : Pos} {fd fk fx : EE}
theorem e_sdf (ho : PE X o (tE X.K fd)) (he : PE X e (tE X.K fk)) (hf : PE X f (tE X.K fx)) (m : M2 X o "setdefault" apos e f cpos := by exact ⟨by rfl, by rfl, by rfl, by rfl⟩) : PE X (.Call (.Attribute o "setdefault" apos) [e, f] [] cpos) (tE X.K (eSdf fd fk fx)) := PE.imp (pe_sdf ho he hf m) fun σ H Q t => by
  obtain ⟨B, env, d, env', en, ev, q⟩ := t
  unfold eSdf at ev
  split at ev
  rotate_left
  · cases ev
  rename_i j e1 h1
  split at ev
  rotate_left
  · cases ev
  rename_i hd
  split at ev
  rotate_left
  · cases ev
  rename_i d1 e2 h2
  split at ev
  rotate_left
  · cases ev
  rename_i y hy
  split at ev
  rotate_left
  · cases ev
  rename_i d2 e3 h3
  split at ev
  rotate_left
  · cases ev
  rename_i x hx
  unfold sdfP at ev
  split at ev
  rotate_left
  · cases ev
  rename_i m' kvs hm
  split at ev
  · cases ev
  rename_i hf'
  split at ev
  rotate_left
  · cases ev
  rename_i hl
  split at ev
  rotate_left
  · cases ev
  rename_i k hk
  refine ⟨B, env, _, _, en, h1, fun B1 H1 w a1 r1 => ?_⟩
  obtain ⟨a, rfl, dd⟩ := isDc_ok a1.en r1.ra hd
  refine ⟨a, rfl, dd, B1, e1, _, _, a1.en, h2, fun B2 H2 v a2 r2 => ⟨B2, e2, _, _, a2.en, h3, fun B3 H3 z a3 r3 => ?_⟩⟩
  have a23 := a2.trans a1.en a3
  have a123 := (a1.trans en a2).trans en a3
  have hxs : σ[j]? = some (some (V.ref a)) := r1.1
  obtain ⟨p, g1, g2, ws, g4, g5⟩ := a3.en.mu j _ _ hm
  rw [hxs] at g1
  cases g1
  have ry := (pdOf_rp r2 hy).grow (a3.grow a2.en)
  have rx := pdOf_rp r3 hx
  refine ⟨ws, k, g4, key_v ry hk, by rw [g5.len]; exact lt_line hl, fun w hv => ?_, fun hn => ?_⟩
  · rcases g5.val (k := k) with ⟨v', x', q1, q2, q3⟩ | ⟨q1, q2⟩
    · rw [hv] at q1
      cases q1
      rw [q2] at ev
      cases ev
      exact q B3 H3 w a123 q3
    · rw [hv] at q1
      cases q1
  · rcases g5.val (k := k) with ⟨v', x', q1, q2, q3⟩ | ⟨q1, q2⟩
    · rw [hn] at q1
      cases q1
    · rw [q2] at ev
      cases ev
      obtain ⟨gw, aw⟩ := AtS.write (o := .dK (putK ws k z)) (c' := .dk (putD kvs k x)) a3.en hm hf' hxs (fun o' h' im => by rw [g4] at h'; cases h'; exact im) (fun H' _ h1 g' => ⟨_, h1, (g5.put rx).grow g'⟩)
      exact q B3 _ z (a123.trans en aw) (rx.grow gw)
end
@[simp] theorem z_sdf (fd fk fx : EE) (env : Sl) : eSdf fd fk fx env = (match fd env with
  | some (.var j, e1) => if isDc e1 (.var j) = true then match fk e1 with
    | some (d, e2) => match pdOf d with
      | some y => match fx e2 with
        | some (d', e3) => match pdOf d' with
          | some x => sdfP e3 j y x
          | none => none
        | none => none
      | none => none
    | none => none
    else none
  | _ => none) := rfl
end T3

end
section
set_option linter.all false
set_option autoImplicit false
set_option Elab.async false
set_option maxRecDepth 100000
namespace T3
open PySem L2
variable [TabL]
noncomputable def oReprY : List PyData → Option PyData
  | [.int i] => if i.natAbs.log2 < 1920 then some (.str (toString i)) else none
  | ds => oReprX ds
def rReprY (K : PySem.W.Frag) : List V → Hp → VK → Prop := fun vs H Q => rReprX K vs H Q ∨ ∃ i : Int, vs = [V.int i] ∧ i.natAbs.log2 < 1920 ∧ Q (.str (toString i)) H
theorem cr_reprY {X : Cx} (gd : X.A.guards = some []) (hu : X.A.units + 66 < cLine) : CallR X (.builtin "repr") (rReprY X.K) := by
  intro pins s σ H xs us Q J r h
  rcases h with h | ⟨i, rfl, hz, q⟩
  · exact cr_reprX gd hu pins s σ H xs us Q J r h
  · exact SkE.call_repr_int pins s σ H _ us Q J r ⟨i, rfl, hz, q⟩
theorem c_reprY {K : PySem.W.Frag} : Con K (kE oReprY) (rReprY K) := con_E <| by
  intro B H vs xs z Q cn ho q
  unfold oReprY at ho
  split at ho
  · split at ho
    · rename_i i hi
      cases ho
      obtain ⟨v, e2, c1⟩ := cn.one
      subst e2
      cases c1 with
      | rp r => cases r; exact .inr ⟨i, rfl, hi, q _ (.str _)⟩
    · cases ho
  · left
    unfold oReprX at ho
    split at ho
    · split at ho
      · rename_i x hx
        cases ho
        obtain ⟨v, e2, c1⟩ := cn.one
        subst e2
        cases c1 with
        | rp r => cases r; exact .inr (.inl ⟨_, rfl, by assumption, q _ (.str _)⟩)
      · cases ho
    · rename_i b
      cases ho
      obtain ⟨v, e2, c1⟩ := cn.one
      subst e2
      cases c1 with
      | rp r => cases r; exact .inr (.inr (.inl ⟨_, rfl, q _ (.str _)⟩))
    · cases ho
      obtain ⟨v, e2, c1⟩ := cn.one
      subst e2
      cases c1 with
      | rp r => cases r; exact .inr (.inr (.inr ⟨rfl, q _ (.str _)⟩))
    · left
      unfold oRepr at ho
      split at ho
      · split at ho
        · rename_i ys hs
          cases ho
          obtain ⟨v, e2, c1⟩ := cn.one
          obtain ⟨a, us, rfl, h1, h2⟩ := c1.tuple
          exact ⟨a, _, e2, c1.dp hs.1, hs, q _ (.str _)⟩
        · cases ho
      · split at ho
        · rename_i ys hs
          cases ho
          obtain ⟨v, e2, c1⟩ := cn.one
          obtain ⟨a, us, rfl, h1, h2⟩ := c1.list
          exact ⟨a, _, e2, c1.dp hs.1, hs, q _ (.str _)⟩
        · cases ho
      · cases ho
theorem w_reprY {X : Cx} {k : Nat} (gd : X.A.guards = some []) (hr : Room k X.A) : Blt X "repr" (kE oReprY) := ⟨_, _, cr_reprY gd (by have := hr.un; omega), c_reprY, by decide +kernel⟩
theorem oReprY_i (i : Int) (h : i.natAbs.log2 < 1920) : oReprY [.int i] = some (.str (toString i)) := by simp [oReprY, h]
theorem oReprY_t (xs : List PyData) : oReprY [.tuple xs] = oRepr [.tuple xs] := rfl
theorem oReprY_l (xs : List PyData) : oReprY [.list xs] = oRepr [.list xs] := rfl
theorem oReprY_n : oReprY [.none] = some (.str "None") := rfl
end T3

end
section
set_option linter.all false
set_option autoImplicit false
set_option Elab.async false
set_option maxRecDepth 100000
set_option maxHeartbeats 4000000
namespace L39
open PySem L2 T3
noncomputable section
-- CASES a0 l0 c0 k0 a1 l1 c1 k1 a2 l2 c2 k2 a3 l3 c3 k3 a4 l4 c4 k4 a5 l5 c5 k5 a6 l6 c6 k6 a7 l7 c7 k7 a8 l8 c8 k8 a9 l9 c9 k9 a10 l10 c10 k10 a11 l11 c11 k11 a12 l12 c12 k12 a13 l13 c13 k13 a14 l14 c14 k14 a15 l15 c15 k15 a16 l16 c16 k16 a17 l17 c17 k17 a18 l18 c18 k18 a19 l19 c19 k19 a20 l20 c20 k20 a21 l21 c21 k21 a22 l22 c22 k22 a23 l23 c23 k23 a24 l24 c24 k24 a25 l25 c25 k25 a26 l26 c26 k26 a27 l27 c27 k27 a28 l28 c28 k28 a29 l29 c29 k29 a30 l30 c30 k30 a31 l31 c31 k31 a32 l32 c32 k32 a33 l33 c33 k33 a34 l34 c34 k34 a35 l35 c35 k35 a36 l36 c36 k36 a37 l37 c37 k37 a38 l38 c38 k38 a39 l39 c39 k39 a40 l40 c40 k40 a41 l41 c41 k41 a42 l42 c42 k42 a43 l43 c43 k43 a44 l44 c44 k44 a45 l45 c45 k45 a46 l46 c46 k46 a47 l47 c47 k47 a48 l48 c48 k48 a49 l49 c49 k49 a50 l50 c50 k50 a51 l51 c51 k51 a52 l52 c52 k52 a53 l53 c53 k53 a54 l54 c54 k54 a55 l55 c55 k55 z_isinstance z_bool z_int z_len z_tuple z_all z_zip z_str z_enumerate z_range z_list z_max z_sorted z_set z_min z_repr ca_LAST_LINE cb_LAST_LINE ca_MOST_CELLS cb_MOST_CELLS ca_LYINGS cb_LYINGS ca_OPPOSITE_SUM cb_OPPOSITE_SUM ca_LETTERS cb_LETTERS ca_FACES cb_FACES da_STEPS dl_STEPS dk_STEPS db_STEPS
-- LEVEL 9
-- HOT 1
def topS (i : Nat) : Stmt := PySem.Challenge.pw_tumblemarks_k39_watched_cells.main.body.getD i (.Pass ⟨0, 0, 0, 0⟩)
def v_LAST_LINE : PyData := (.int 3)
def v_MOST_CELLS : PyData := (.int 9)
def v_OPPOSITE_SUM : PyData := (.int 5)
def v_LETTERS : PyData := (.tuple [(.str "n"), (.str "e"), (.str "s"), (.str "w")])
def v_LYINGS : PyData := (.tuple [(.tuple [(.int 0), (.int 1), (.int 2)]), (.tuple [(.int 0), (.int 2), (.int 4)]), (.tuple [(.int 0), (.int 3), (.int 1)]), (.tuple [(.int 0), (.int 4), (.int 3)]), (.tuple [(.int 1), (.int 0), (.int 3)]), (.tuple [(.int 1), (.int 2), (.int 0)]), (.tuple [(.int 1), (.int 3), (.int 5)]), (.tuple [(.int 1), (.int 5), (.int 2)]), (.tuple [(.int 2), (.int 0), (.int 1)]), (.tuple [(.int 2), (.int 1), (.int 5)]), (.tuple [(.int 2), (.int 4), (.int 0)]), (.tuple [(.int 2), (.int 5), (.int 4)]), (.tuple [(.int 3), (.int 0), (.int 4)]), (.tuple [(.int 3), (.int 1), (.int 0)]), (.tuple [(.int 3), (.int 4), (.int 5)]), (.tuple [(.int 3), (.int 5), (.int 1)]), (.tuple [(.int 4), (.int 0), (.int 2)]), (.tuple [(.int 4), (.int 2), (.int 5)]), (.tuple [(.int 4), (.int 3), (.int 0)]), (.tuple [(.int 4), (.int 5), (.int 3)]), (.tuple [(.int 5), (.int 1), (.int 3)]), (.tuple [(.int 5), (.int 2), (.int 1)]), (.tuple [(.int 5), (.int 3), (.int 4)]), (.tuple [(.int 5), (.int 4), (.int 2)])])
def v_FACES : PyData := (.int 6)
def v_STEPS : List (Str × PyData) := [("n", (.tuple [(.int 0), (.int 1)])), ("e", (.tuple [(.int 1), (.int 0)])), ("s", (.tuple [(.int 0), (.int (-1))])), ("w", (.tuple [(.int (-1)), (.int 0)]))]
abbrev s_is_whole : Stmt := topS 17
abbrev N_is_whole : List Str := ["thing", "most"]
theorem sc_is_whole : FnScope N_is_whole ["thing", "most"] (defScope s_is_whole) := ⟨rfl, rfl, rfl, by decide +kernel, rfl, by decide +kernel, by decide +kernel⟩
def m_is_whole : SS := (sRet (eB (bAnd (bT (eThen (eOne (eVar 0)) (kE (oIsi .int)))) (bAnd (bNot (bT (eThen (eOne (eVar 0)) (kE (oIsi .bool))))) (bT (eCh (Cm.f .le) (Cm.f .le) (eC (.int 0)) (eVar 0) (eVar 1)))))))
def f_is_whole : FnD := runFn 2 m_is_whole
theorem p_is_whole {P : Program} {w : World} {K : PySem.W.Frag} {mg : Str → Option Value} {base : Heap} (at_ : At0 K mg "is_whole" s_is_whole ["thing", "most"]) (z_isinstance : mg "isinstance" = none) (z_bool : mg "bool" = none) (z_int : mg "int" = none) : Has P w K mg base "is_whole" 2 f_is_whole 1 := by
  have nd := sc_is_whole.nd
  refine has_of (b := m_is_whole) (N := N_is_whole) (k := 0) at_ sc_is_whole rfl fun f cdv A outer s H E hr => ?_
  exact (ss_one (s_ret (e_and (e_bool (e_isi .int (e_var (pv 0)) (by rfl) z_isinstance (by rfl) z_int (by decide +kernel))) (e_and (e_not (e_bool (e_isi .bool (e_var (pv 0)) (by rfl) z_isinstance (by rfl) z_bool (by decide +kernel)))) (e_and1 (e_chain .le .le k_int (e_var (pv 0)) (e_var (pv 1))))))))
abbrev s_is_cell : Stmt := topS 18
abbrev N_is_cell : List Str := ["thing", "column", "line"]
theorem sc_is_cell : FnScope N_is_cell ["thing"] (defScope s_is_cell) := ⟨rfl, rfl, rfl, by decide +kernel, rfl, by decide +kernel, by decide +kernel⟩
def m_is_cell : SS := (sSeq (sIf (bOr (bNot (bT (eThen (eOne (eVar 0)) (kE (oIsi .tuple))))) (bT (eNe (eThen (eCons (eVar 0) eNil) (kE oLen)) (eC (.int 2))))) (sRet (eC (.bool false))) sPass)
  (sSeq (sAsg (eVar 0) (gT 2 (gCn (gN 1) (gCn (gN 2) gNl))))
  (sRet (eB (bAnd (bT (eCall f_is_whole (eCons (eVar 1) (eCons (eC v_LAST_LINE) eNil)))) (bT (eCall f_is_whole (eCons (eVar 2) (eCons (eC v_LAST_LINE) eNil)))))))))
def f_is_cell : FnD := runFn 3 m_is_cell
theorem p_is_cell {P : Program} {w : World} {K : PySem.W.Frag} {mg : Str → Option Value} {base : Heap} (at_ : At0 K mg "is_cell" s_is_cell ["thing"]) (h_is_whole : Has P w K mg base "is_whole" 2 f_is_whole 1) (z_len : mg "len" = none) (z_isinstance : mg "isinstance" = none) (z_tuple : mg "tuple" = none) (c_LAST_LINE : KC K mg "LAST_LINE" v_LAST_LINE) : Has P w K mg base "is_cell" 1 f_is_cell 2 := by
  have nd := sc_is_cell.nd
  refine has_of (b := m_is_cell) (N := N_is_cell) (k := 1) at_ sc_is_cell rfl fun f cdv A outer s H E hr => ?_
  exact (ss_cons (s_if (PW.pt (b_or (b_not (b_truth (e_isi .tuple (e_var (pv 0)) (by rfl) z_isinstance (by rfl) z_tuple (by decide +kernel)))) (b_or1 (y_cmp (q_ne hr) (x_blt (w_len rfl hr) z_len (a_cons (e_var (pv 0)) a_nil)) k_int)))) (ss_one (s_ret k_bl)) ss_nil)
    (ss_cons (s_asg (e_var (pv 0)) (g_tup rfl (gs_cons (g_name (i := 1) nd rfl (.inl rfl)) (gs_cons (g_name (i := 2) nd rfl (.inl rfl)) gs_nil))))
    (ss_one (s_ret (e_and (e_bool (e_fn h_is_whole (hr.mono (by decide)) (lenA_cons (lenA_cons lenA_nil)) (a_cons (e_var (pv 1)) (a_cons (e_glob c_LAST_LINE) a_nil)))) (e_and1 (e_fn h_is_whole (hr.mono (by decide)) (lenA_cons (lenA_cons lenA_nil)) (a_cons (e_var (pv 2)) (a_cons (e_glob c_LAST_LINE) a_nil)))))))))
abbrev s_is_rising : Stmt := topS 19
abbrev N_is_rising : List Str := ["things", "one", "other"]
theorem sc_is_rising : FnScope N_is_rising ["things"] (defScope s_is_rising) := ⟨rfl, rfl, rfl, by decide +kernel, rfl, by decide +kernel, by decide +kernel⟩
def m_is_rising : SS := (sRet (eThen (eCons (eLc (iZt (eCons (eVar 0) (eCons (eSl (eVar 0) (oSome (eC (.int 1))) oNo) eNil))) (gT 2 (gCn (gN 1) (gCn (gN 2) gNl))) bYes (eLt (eVar 1) (eVar 2)) [1, 2]) eNil) (kE oAll)))
def f_is_rising : FnD := runFn 3 m_is_rising
theorem p_is_rising {P : Program} {w : World} {K : PySem.W.Frag} {mg : Str → Option Value} {base : Heap} (at_ : At0 K mg "is_rising" s_is_rising ["things"]) (z_all : mg "all" = none) (z_zip : mg "zip" = none) : Has P w K mg base "is_rising" 1 f_is_rising 1 := by
  have nd := sc_is_rising.nd
  refine has_of (b := m_is_rising) (N := N_is_rising) (k := 0) at_ sc_is_rising rfl fun f cdv A outer s H E hr => ?_
  exact (ss_one (s_ret (x_blt (w_all rfl hr) z_all (a_cons (x_lc [("one", 1), ("other", 2)] rfl nd rfl (i_zip (by rfl) z_zip (a_cons (e_var (pv 0)) (a_cons (e_sl (e_var (pv 0)) (o_some k_int) o_no) a_nil))) (blkOk_by (N := N_is_rising) (sc := defScope s_is_rising) (by decide +kernel)) (only_gT (only_gCn (only_gN (by decide)) (only_gCn (only_gN (by decide)) only_gNl))) (fun _ _ _ _ _ => (v_tup rfl (vs_cons (v_name (i := 1) (by decide) nd rfl (.inl rfl)) (vs_cons (v_name (i := 2) (by decide) nd rfl (.inl rfl)) vs_nil)))) (fun _ _ _ _ _ => ts_yes) (fun _ _ _ _ _ => (x_cmp (q_lt hr) (e_var (pv 1)) (e_var (pv 2))))) a_nil))))
abbrev s_is_floor : Stmt := topS 20
abbrev N_is_floor : List Str := ["thing", "part"]
theorem sc_is_floor : FnScope N_is_floor ["thing"] (defScope s_is_floor) := ⟨rfl, rfl, rfl, by decide +kernel, rfl, by decide +kernel, by decide +kernel⟩
def m_is_floor : SS := (sSeq (sIf (bOr (bNot (bT (eThen (eOne (eVar 0)) (kE (oIsi .tuple))))) (bNot (bT (eCh (Cm.f .le) (Cm.f .le) (eC (.int 1)) (eThen (eCons (eVar 0) eNil) (kE oLen)) (eC v_MOST_CELLS))))) (sRet (eC (.bool false))) sPass)
  (sRet (eB (bAnd (bT (eThen (eCons (eLc (iSeq (eVar 0)) (gN 1) bYes (eCall f_is_cell (eCons (eVar 1) eNil)) [1]) eNil) (kE oAll))) (bT (eCall f_is_rising (eCons (eVar 0) eNil)))))))
def f_is_floor : FnD := runFn 2 m_is_floor
theorem p_is_floor {P : Program} {w : World} {K : PySem.W.Frag} {mg : Str → Option Value} {base : Heap} (at_ : At0 K mg "is_floor" s_is_floor ["thing"]) (h_is_rising : Has P w K mg base "is_rising" 1 f_is_rising 1) (h_is_cell : Has P w K mg base "is_cell" 1 f_is_cell 2) (z_len : mg "len" = none) (z_isinstance : mg "isinstance" = none) (z_tuple : mg "tuple" = none) (z_all : mg "all" = none) (c_MOST_CELLS : KC K mg "MOST_CELLS" v_MOST_CELLS) : Has P w K mg base "is_floor" 1 f_is_floor 3 := by
  have nd := sc_is_floor.nd
  refine has_of (b := m_is_floor) (N := N_is_floor) (k := 2) at_ sc_is_floor rfl fun f cdv A outer s H E hr => ?_
  exact (ss_cons (s_if (PW.pt (b_or (b_not (b_truth (e_isi .tuple (e_var (pv 0)) (by rfl) z_isinstance (by rfl) z_tuple (by decide +kernel)))) (b_or1 (b_not (b_chain .le .le k_int (x_blt (w_len rfl hr) z_len (a_cons (e_var (pv 0)) a_nil)) (e_glob c_MOST_CELLS)))))) (ss_one (s_ret k_bl)) ss_nil)
    (ss_one (s_ret (e_and (e_bool (x_blt (w_all rfl hr) z_all (a_cons (x_lc [("part", 1)] rfl nd rfl (i_seq (e_var (pv 0))) (blkOk_by (N := N_is_floor) (sc := defScope s_is_floor) (by decide +kernel)) (only_gN (by decide)) (fun _ _ _ _ _ => (v_name (i := 1) (by decide) nd rfl (.inl rfl))) (fun _ _ _ _ _ => ts_yes) (fun _ _ _ _ _ => (e_fn h_is_cell (hr.mono (by decide)) (lenA_cons lenA_nil) (a_cons (e_var (pv 1)) a_nil)))) a_nil))) (e_and1 (e_fn h_is_rising (hr.mono (by decide)) (lenA_cons lenA_nil) (a_cons (e_var (pv 0)) a_nil)))))))
abbrev s_is_cell_of : Stmt := topS 21
abbrev N_is_cell_of : List Str := ["floor", "thing"]
theorem sc_is_cell_of : FnScope N_is_cell_of ["floor", "thing"] (defScope s_is_cell_of) := ⟨rfl, rfl, rfl, by decide +kernel, rfl, by decide +kernel, by decide +kernel⟩
def m_is_cell_of : SS := (sRet (eB (bAnd (bT (eCall f_is_cell (eCons (eVar 1) eNil))) (bT (eIn (eVar 1) (eVar 0))))))
def f_is_cell_of : FnD := runFn 2 m_is_cell_of
theorem p_is_cell_of {P : Program} {w : World} {K : PySem.W.Frag} {mg : Str → Option Value} {base : Heap} (at_ : At0 K mg "is_cell_of" s_is_cell_of ["floor", "thing"]) (h_is_cell : Has P w K mg base "is_cell" 1 f_is_cell 2) : Has P w K mg base "is_cell_of" 2 f_is_cell_of 3 := by
  have nd := sc_is_cell_of.nd
  refine has_of (b := m_is_cell_of) (N := N_is_cell_of) (k := 2) at_ sc_is_cell_of rfl fun f cdv A outer s H E hr => ?_
  exact (ss_one (s_ret (e_and (e_bool (e_fn h_is_cell (hr.mono (by decide)) (lenA_cons lenA_nil) (a_cons (e_var (pv 1)) a_nil))) (e_and1 (x_cmp (q_in hr) (e_var (pv 1)) (e_var (pv 0)))))))
abbrev s_is_lying : Stmt := topS 22
abbrev N_is_lying : List Str := ["thing", "face"]
theorem sc_is_lying : FnScope N_is_lying ["thing"] (defScope s_is_lying) := ⟨rfl, rfl, rfl, by decide +kernel, rfl, by decide +kernel, by decide +kernel⟩
def m_is_lying : SS := (sSeq (sIf (bNot (bT (eThen (eOne (eVar 0)) (kE (oIsi .tuple))))) (sRet (eC (.bool false))) sPass)
  (sRet (eB (bAnd (bT (eThen (eCons (eLc (iSeq (eVar 0)) (gN 1) bYes (eCall f_is_whole (eCons (eVar 1) (eCons (eC v_OPPOSITE_SUM) eNil))) [1]) eNil) (kE oAll))) (bT (eIn (eVar 0) (eC v_LYINGS)))))))
def f_is_lying : FnD := runFn 2 m_is_lying
theorem p_is_lying {P : Program} {w : World} {K : PySem.W.Frag} {mg : Str → Option Value} {base : Heap} (at_ : At0 K mg "is_lying" s_is_lying ["thing"]) (h_is_whole : Has P w K mg base "is_whole" 2 f_is_whole 1) (z_isinstance : mg "isinstance" = none) (z_tuple : mg "tuple" = none) (z_all : mg "all" = none) (c_LYINGS : KC K mg "LYINGS" v_LYINGS) (c_OPPOSITE_SUM : KC K mg "OPPOSITE_SUM" v_OPPOSITE_SUM) : Has P w K mg base "is_lying" 1 f_is_lying 2 := by
  have nd := sc_is_lying.nd
  refine has_of (b := m_is_lying) (N := N_is_lying) (k := 1) at_ sc_is_lying rfl fun f cdv A outer s H E hr => ?_
  exact (ss_cons (s_if (b_not (b_truth (e_isi .tuple (e_var (pv 0)) (by rfl) z_isinstance (by rfl) z_tuple (by decide +kernel)))) (ss_one (s_ret k_bl)) ss_nil)
    (ss_one (s_ret (e_and (e_bool (x_blt (w_all rfl hr) z_all (a_cons (x_lc [("face", 1)] rfl nd rfl (i_seq (e_var (pv 0))) (blkOk_by (N := N_is_lying) (sc := defScope s_is_lying) (by decide +kernel)) (only_gN (by decide)) (fun _ _ _ _ _ => (v_name (i := 1) (by decide) nd rfl (.inl rfl))) (fun _ _ _ _ _ => ts_yes) (fun _ _ _ _ _ => (e_fn h_is_whole (hr.mono (by decide)) (lenA_cons (lenA_cons lenA_nil)) (a_cons (e_var (pv 1)) (a_cons (e_glob c_OPPOSITE_SUM) a_nil))))) a_nil))) (e_and1 (x_cmp (q_in hr) (e_var (pv 0)) (e_glob c_LYINGS)))))))
abbrev s_is_stand : Stmt := topS 23
abbrev N_is_stand : List Str := ["floor", "thing", "cell", "lying"]
theorem sc_is_stand : FnScope N_is_stand ["floor", "thing"] (defScope s_is_stand) := ⟨rfl, rfl, rfl, by decide +kernel, rfl, by decide +kernel, by decide +kernel⟩
def m_is_stand : SS := (sSeq (sIf (bOr (bNot (bT (eThen (eOne (eVar 1)) (kE (oIsi .tuple))))) (bT (eNe (eThen (eCons (eVar 1) eNil) (kE oLen)) (eC (.int 2))))) (sRet (eC (.bool false))) sPass)
  (sSeq (sAsg (eVar 1) (gT 2 (gCn (gN 2) (gCn (gN 3) gNl))))
  (sRet (eB (bAnd (bT (eCall f_is_cell_of (eCons (eVar 0) (eCons (eVar 2) eNil)))) (bT (eCall f_is_lying (eCons (eVar 3) eNil))))))))
def f_is_stand : FnD := runFn 4 m_is_stand
theorem p_is_stand {P : Program} {w : World} {K : PySem.W.Frag} {mg : Str → Option Value} {base : Heap} (at_ : At0 K mg "is_stand" s_is_stand ["floor", "thing"]) (h_is_lying : Has P w K mg base "is_lying" 1 f_is_lying 2) (h_is_cell_of : Has P w K mg base "is_cell_of" 2 f_is_cell_of 3) (z_len : mg "len" = none) (z_isinstance : mg "isinstance" = none) (z_tuple : mg "tuple" = none) : Has P w K mg base "is_stand" 2 f_is_stand 4 := by
  have nd := sc_is_stand.nd
  refine has_of (b := m_is_stand) (N := N_is_stand) (k := 3) at_ sc_is_stand rfl fun f cdv A outer s H E hr => ?_
  exact (ss_cons (s_if (PW.pt (b_or (b_not (b_truth (e_isi .tuple (e_var (pv 1)) (by rfl) z_isinstance (by rfl) z_tuple (by decide +kernel)))) (b_or1 (y_cmp (q_ne hr) (x_blt (w_len rfl hr) z_len (a_cons (e_var (pv 1)) a_nil)) k_int)))) (ss_one (s_ret k_bl)) ss_nil)
    (ss_cons (s_asg (e_var (pv 1)) (g_tup rfl (gs_cons (g_name (i := 2) nd rfl (.inl rfl)) (gs_cons (g_name (i := 3) nd rfl (.inl rfl)) gs_nil))))
    (ss_one (s_ret (e_and (e_bool (e_fn h_is_cell_of (hr.mono (by decide)) (lenA_cons (lenA_cons lenA_nil)) (a_cons (e_var (pv 0)) (a_cons (e_var (pv 2)) a_nil)))) (e_and1 (e_fn h_is_lying (hr.mono (by decide)) (lenA_cons lenA_nil) (a_cons (e_var (pv 3)) a_nil))))))))
abbrev s_is_letter : Stmt := topS 24
abbrev N_is_letter : List Str := ["thing"]
theorem sc_is_letter : FnScope N_is_letter ["thing"] (defScope s_is_letter) := ⟨rfl, rfl, rfl, by decide +kernel, rfl, by decide +kernel, by decide +kernel⟩
def m_is_letter : SS := (sRet (eB (bAnd (bT (eThen (eOne (eVar 0)) (kE (oIsi .str)))) (bT (eIn (eVar 0) (eC v_LETTERS))))))
def f_is_letter : FnD := runFn 1 m_is_letter
theorem p_is_letter {P : Program} {w : World} {K : PySem.W.Frag} {mg : Str → Option Value} {base : Heap} (at_ : At0 K mg "is_letter" s_is_letter ["thing"]) (z_isinstance : mg "isinstance" = none) (z_str : mg "str" = none) (c_LETTERS : KC K mg "LETTERS" v_LETTERS) : Has P w K mg base "is_letter" 1 f_is_letter 1 := by
  have nd := sc_is_letter.nd
  refine has_of (b := m_is_letter) (N := N_is_letter) (k := 0) at_ sc_is_letter rfl fun f cdv A outer s H E hr => ?_
  exact (ss_one (s_ret (e_and (e_bool (e_isi .str (e_var (pv 0)) (by rfl) z_isinstance (by rfl) z_str (by decide +kernel))) (e_and1 (x_cmp (q_in hr) (e_var (pv 0)) (e_glob c_LETTERS))))))
abbrev s_is_row : Stmt := topS 25
abbrev N_is_row : List Str := ["thing", "sign"]
theorem sc_is_row : FnScope N_is_row ["thing"] (defScope s_is_row) := ⟨rfl, rfl, rfl, by decide +kernel, rfl, by decide +kernel, by decide +kernel⟩
def m_is_row : SS := (sRet (eB (bAnd (bT (eThen (eOne (eVar 0)) (kE (oIsi .str)))) (bT (eThen (eCons (eLc (iSeq (eVar 0)) (gN 1) bYes (eCall f_is_letter (eCons (eVar 1) eNil)) [1]) eNil) (kE oAll))))))
def f_is_row : FnD := runFn 2 m_is_row
theorem p_is_row {P : Program} {w : World} {K : PySem.W.Frag} {mg : Str → Option Value} {base : Heap} (at_ : At0 K mg "is_row" s_is_row ["thing"]) (h_is_letter : Has P w K mg base "is_letter" 1 f_is_letter 1) (z_all : mg "all" = none) (z_isinstance : mg "isinstance" = none) (z_str : mg "str" = none) : Has P w K mg base "is_row" 1 f_is_row 2 := by
  have nd := sc_is_row.nd
  refine has_of (b := m_is_row) (N := N_is_row) (k := 1) at_ sc_is_row rfl fun f cdv A outer s H E hr => ?_
  exact (ss_one (s_ret (e_and (e_bool (e_isi .str (e_var (pv 0)) (by rfl) z_isinstance (by rfl) z_str (by decide +kernel))) (e_and1 (x_blt (w_all rfl hr) z_all (a_cons (x_lc [("sign", 1)] rfl nd rfl (i_seq (e_var (pv 0))) (blkOk_by (N := N_is_row) (sc := defScope s_is_row) (by decide +kernel)) (only_gN (by decide)) (fun _ _ _ _ _ => (v_name (i := 1) (by decide) nd rfl (.inl rfl))) (fun _ _ _ _ _ => ts_yes) (fun _ _ _ _ _ => (e_fn h_is_letter (hr.mono (by decide)) (lenA_cons lenA_nil) (a_cons (e_var (pv 1)) a_nil)))) a_nil))))))
abbrev s_need_floor : Stmt := topS 26
abbrev N_need_floor : List Str := ["floor"]
theorem sc_need_floor : FnScope N_need_floor ["floor"] (defScope s_need_floor) := ⟨rfl, rfl, rfl, by decide +kernel, rfl, by decide +kernel, by decide +kernel⟩
def m_need_floor : SS := (sIf (bNot (bT (eCall f_is_floor (eCons (eVar 0) eNil)))) sNever sPass)
def f_need_floor : FnD := runFn 1 m_need_floor
theorem p_need_floor {P : Program} {w : World} {K : PySem.W.Frag} {mg : Str → Option Value} {base : Heap} (at_ : At0 K mg "need_floor" s_need_floor ["floor"]) (h_is_floor : Has P w K mg base "is_floor" 1 f_is_floor 3) : Has P w K mg base "need_floor" 1 f_need_floor 4 := by
  have nd := sc_need_floor.nd
  refine has_of (b := m_need_floor) (N := N_need_floor) (k := 3) at_ sc_need_floor rfl fun f cdv A outer s H E hr => ?_
  exact (ss_one (s_if (b_not (b_truth (e_fn h_is_floor (hr.mono (by decide)) (lenA_cons lenA_nil) (a_cons (e_var (pv 0)) a_nil)))) (ss_one s_never) ss_nil))
abbrev s_need_cell : Stmt := topS 27
abbrev N_need_cell : List Str := ["floor", "cell"]
theorem sc_need_cell : FnScope N_need_cell ["floor", "cell"] (defScope s_need_cell) := ⟨rfl, rfl, rfl, by decide +kernel, rfl, by decide +kernel, by decide +kernel⟩
def m_need_cell : SS := (sIf (bNot (bT (eCall f_is_cell_of (eCons (eVar 0) (eCons (eVar 1) eNil))))) sNever sPass)
def f_need_cell : FnD := runFn 2 m_need_cell
theorem p_need_cell {P : Program} {w : World} {K : PySem.W.Frag} {mg : Str → Option Value} {base : Heap} (at_ : At0 K mg "need_cell" s_need_cell ["floor", "cell"]) (h_is_cell_of : Has P w K mg base "is_cell_of" 2 f_is_cell_of 3) : Has P w K mg base "need_cell" 2 f_need_cell 4 := by
  have nd := sc_need_cell.nd
  refine has_of (b := m_need_cell) (N := N_need_cell) (k := 3) at_ sc_need_cell rfl fun f cdv A outer s H E hr => ?_
  exact (ss_one (s_if (b_not (b_truth (e_fn h_is_cell_of (hr.mono (by decide)) (lenA_cons (lenA_cons lenA_nil)) (a_cons (e_var (pv 0)) (a_cons (e_var (pv 1)) a_nil))))) (ss_one s_never) ss_nil))
abbrev s_need_lying : Stmt := topS 28
abbrev N_need_lying : List Str := ["lying"]
theorem sc_need_lying : FnScope N_need_lying ["lying"] (defScope s_need_lying) := ⟨rfl, rfl, rfl, by decide +kernel, rfl, by decide +kernel, by decide +kernel⟩
def m_need_lying : SS := (sIf (bNot (bT (eCall f_is_lying (eCons (eVar 0) eNil)))) sNever sPass)
def f_need_lying : FnD := runFn 1 m_need_lying
theorem p_need_lying {P : Program} {w : World} {K : PySem.W.Frag} {mg : Str → Option Value} {base : Heap} (at_ : At0 K mg "need_lying" s_need_lying ["lying"]) (h_is_lying : Has P w K mg base "is_lying" 1 f_is_lying 2) : Has P w K mg base "need_lying" 1 f_need_lying 3 := by
  have nd := sc_need_lying.nd
  refine has_of (b := m_need_lying) (N := N_need_lying) (k := 2) at_ sc_need_lying rfl fun f cdv A outer s H E hr => ?_
  exact (ss_one (s_if (b_not (b_truth (e_fn h_is_lying (hr.mono (by decide)) (lenA_cons lenA_nil) (a_cons (e_var (pv 0)) a_nil)))) (ss_one s_never) ss_nil))
abbrev s_need_stand : Stmt := topS 29
abbrev N_need_stand : List Str := ["floor", "stand"]
theorem sc_need_stand : FnScope N_need_stand ["floor", "stand"] (defScope s_need_stand) := ⟨rfl, rfl, rfl, by decide +kernel, rfl, by decide +kernel, by decide +kernel⟩
def m_need_stand : SS := (sIf (bNot (bT (eCall f_is_stand (eCons (eVar 0) (eCons (eVar 1) eNil))))) sNever sPass)
def f_need_stand : FnD := runFn 2 m_need_stand
theorem p_need_stand {P : Program} {w : World} {K : PySem.W.Frag} {mg : Str → Option Value} {base : Heap} (at_ : At0 K mg "need_stand" s_need_stand ["floor", "stand"]) (h_is_stand : Has P w K mg base "is_stand" 2 f_is_stand 4) : Has P w K mg base "need_stand" 2 f_need_stand 5 := by
  have nd := sc_need_stand.nd
  refine has_of (b := m_need_stand) (N := N_need_stand) (k := 4) at_ sc_need_stand rfl fun f cdv A outer s H E hr => ?_
  exact (ss_one (s_if (b_not (b_truth (e_fn h_is_stand (hr.mono (by decide)) (lenA_cons (lenA_cons lenA_nil)) (a_cons (e_var (pv 0)) (a_cons (e_var (pv 1)) a_nil))))) (ss_one s_never) ss_nil))
abbrev s_need_row : Stmt := topS 30
abbrev N_need_row : List Str := ["row"]
theorem sc_need_row : FnScope N_need_row ["row"] (defScope s_need_row) := ⟨rfl, rfl, rfl, by decide +kernel, rfl, by decide +kernel, by decide +kernel⟩
def m_need_row : SS := (sIf (bNot (bT (eCall f_is_row (eCons (eVar 0) eNil)))) sNever sPass)
def f_need_row : FnD := runFn 1 m_need_row
theorem p_need_row {P : Program} {w : World} {K : PySem.W.Frag} {mg : Str → Option Value} {base : Heap} (at_ : At0 K mg "need_row" s_need_row ["row"]) (h_is_row : Has P w K mg base "is_row" 1 f_is_row 2) : Has P w K mg base "need_row" 1 f_need_row 3 := by
  have nd := sc_need_row.nd
  refine has_of (b := m_need_row) (N := N_need_row) (k := 2) at_ sc_need_row rfl fun f cdv A outer s H E hr => ?_
  exact (ss_one (s_if (b_not (b_truth (e_fn h_is_row (hr.mono (by decide)) (lenA_cons lenA_nil) (a_cons (e_var (pv 0)) a_nil)))) (ss_one s_never) ss_nil))
abbrev s_rolled_cell : Stmt := topS 32
abbrev N_rolled_cell : List Str := ["cell", "letter", "column", "line", "eastward", "northward"]
theorem sc_rolled_cell : FnScope N_rolled_cell ["cell", "letter"] (defScope s_rolled_cell) := ⟨rfl, rfl, rfl, by decide +kernel, rfl, by decide +kernel, by decide +kernel⟩
def m_rolled_cell : SS := (sSeq (sAsg (eVar 0) (gT 2 (gCn (gN 2) (gCn (gN 3) gNl))))
  (sSeq (sAsg (eKd v_STEPS (eVar 1)) (gT 2 (gCn (gN 4) (gCn (gN 5) gNl))))
  (sRet (eThen (eCons (eAdd (eVar 2) (eVar 4)) (eCons (eAdd (eVar 3) (eVar 5)) eNil)) kTup))))
def f_rolled_cell : FnD := runFn 6 m_rolled_cell
theorem p_rolled_cell {P : Program} {w : World} {K : PySem.W.Frag} {mg : Str → Option Value} {base : Heap} (at_ : At0 K mg "rolled_cell" s_rolled_cell ["cell", "letter"]) (d_STEPS : KD K w mg "STEPS" v_STEPS) : Has P w K mg base "rolled_cell" 2 f_rolled_cell 1 := by
  have nd := sc_rolled_cell.nd
  refine has_of (b := m_rolled_cell) (N := N_rolled_cell) (k := 0) at_ sc_rolled_cell rfl fun f cdv A outer s H E hr => ?_
  exact (ss_cons (s_asg (e_var (pv 0)) (g_tup rfl (gs_cons (g_name (i := 2) nd rfl (.inl rfl)) (gs_cons (g_name (i := 3) nd rfl (.inl rfl)) gs_nil))))
    (ss_cons (s_asg (e_kdn d_STEPS (e_var (pv 1))) (g_tup rfl (gs_cons (g_name (i := 4) nd rfl (.inl rfl)) (gs_cons (g_name (i := 5) nd rfl (.inl rfl)) gs_nil))))
    (ss_one (s_ret (e_tup (a_cons (x_add (e_var (pv 2)) (e_var (pv 4))) (a_cons (x_add (e_var (pv 3)) (e_var (pv 5))) a_nil)))))))
abbrev s_rolled_lying : Stmt := topS 33
abbrev N_rolled_lying : List Str := ["lying", "letter", "low", "north", "east"]
theorem sc_rolled_lying : FnScope N_rolled_lying ["lying", "letter"] (defScope s_rolled_lying) := ⟨rfl, rfl, rfl, by decide +kernel, rfl, by decide +kernel, by decide +kernel⟩
def m_rolled_lying : SS := (sSeq (sAsg (eVar 0) (gT 3 (gCn (gN 2) (gCn (gN 3) (gCn (gN 4) gNl)))))
  (sSeq (sIf (bT (eEq (eVar 1) (eC (.str "n")))) (sRet (eThen (eCons (eVar 3) (eCons (eSub (eC v_OPPOSITE_SUM) (eVar 2)) (eCons (eVar 4) eNil))) kTup)) sPass)
  (sSeq (sIf (bT (eEq (eVar 1) (eC (.str "s")))) (sRet (eThen (eCons (eSub (eC v_OPPOSITE_SUM) (eVar 3)) (eCons (eVar 2) (eCons (eVar 4) eNil))) kTup)) sPass)
  (sSeq (sIf (bT (eEq (eVar 1) (eC (.str "e")))) (sRet (eThen (eCons (eVar 4) (eCons (eVar 3) (eCons (eSub (eC v_OPPOSITE_SUM) (eVar 2)) eNil))) kTup)) sPass)
  (sRet (eThen (eCons (eSub (eC v_OPPOSITE_SUM) (eVar 4)) (eCons (eVar 3) (eCons (eVar 2) eNil))) kTup))))))
def f_rolled_lying : FnD := runFn 5 m_rolled_lying
theorem p_rolled_lying {P : Program} {w : World} {K : PySem.W.Frag} {mg : Str → Option Value} {base : Heap} (at_ : At0 K mg "rolled_lying" s_rolled_lying ["lying", "letter"]) (c_OPPOSITE_SUM : KC K mg "OPPOSITE_SUM" v_OPPOSITE_SUM) : Has P w K mg base "rolled_lying" 2 f_rolled_lying 1 := by
  have nd := sc_rolled_lying.nd
  refine has_of (b := m_rolled_lying) (N := N_rolled_lying) (k := 0) at_ sc_rolled_lying rfl fun f cdv A outer s H E hr => ?_
  exact (ss_cons (s_asg (e_var (pv 0)) (g_tup rfl (gs_cons (g_name (i := 2) nd rfl (.inl rfl)) (gs_cons (g_name (i := 3) nd rfl (.inl rfl)) (gs_cons (g_name (i := 4) nd rfl (.inl rfl)) gs_nil)))))
    (ss_cons (s_if (y_cmp (q_eq hr) (e_var (pv 1)) k_str) (ss_one (s_ret (e_tup (a_cons (e_var (pv 3)) (a_cons (x_sub (e_glob c_OPPOSITE_SUM) (e_var (pv 2))) (a_cons (e_var (pv 4)) a_nil)))))) ss_nil)
    (ss_cons (s_if (y_cmp (q_eq hr) (e_var (pv 1)) k_str) (ss_one (s_ret (e_tup (a_cons (x_sub (e_glob c_OPPOSITE_SUM) (e_var (pv 3))) (a_cons (e_var (pv 2)) (a_cons (e_var (pv 4)) a_nil)))))) ss_nil)
    (ss_cons (s_if (y_cmp (q_eq hr) (e_var (pv 1)) k_str) (ss_one (s_ret (e_tup (a_cons (e_var (pv 4)) (a_cons (e_var (pv 3)) (a_cons (x_sub (e_glob c_OPPOSITE_SUM) (e_var (pv 2))) a_nil)))))) ss_nil)
    (ss_one (s_ret (e_tup (a_cons (x_sub (e_glob c_OPPOSITE_SUM) (e_var (pv 4))) (a_cons (e_var (pv 3)) (a_cons (e_var (pv 2)) a_nil))))))))))
abbrev s_rolled_stand : Stmt := topS 34
abbrev N_rolled_stand : List Str := ["stand", "letter", "cell", "lying"]
theorem sc_rolled_stand : FnScope N_rolled_stand ["stand", "letter"] (defScope s_rolled_stand) := ⟨rfl, rfl, rfl, by decide +kernel, rfl, by decide +kernel, by decide +kernel⟩
def m_rolled_stand : SS := (sSeq (sAsg (eVar 0) (gT 2 (gCn (gN 2) (gCn (gN 3) gNl))))
  (sRet (eThen (eCons (eCall f_rolled_cell (eCons (eVar 2) (eCons (eVar 1) eNil))) (eCons (eCall f_rolled_lying (eCons (eVar 3) (eCons (eVar 1) eNil))) eNil)) kTup)))
def f_rolled_stand : FnD := runFn 4 m_rolled_stand
theorem p_rolled_stand {P : Program} {w : World} {K : PySem.W.Frag} {mg : Str → Option Value} {base : Heap} (at_ : At0 K mg "rolled_stand" s_rolled_stand ["stand", "letter"]) (h_rolled_lying : Has P w K mg base "rolled_lying" 2 f_rolled_lying 1) (h_rolled_cell : Has P w K mg base "rolled_cell" 2 f_rolled_cell 1) : Has P w K mg base "rolled_stand" 2 f_rolled_stand 2 := by
  have nd := sc_rolled_stand.nd
  refine has_of (b := m_rolled_stand) (N := N_rolled_stand) (k := 1) at_ sc_rolled_stand rfl fun f cdv A outer s H E hr => ?_
  exact (ss_cons (s_asg (e_var (pv 0)) (g_tup rfl (gs_cons (g_name (i := 2) nd rfl (.inl rfl)) (gs_cons (g_name (i := 3) nd rfl (.inl rfl)) gs_nil))))
    (ss_one (s_ret (e_tup (a_cons (e_fn h_rolled_cell (hr.mono (by decide)) (lenA_cons (lenA_cons lenA_nil)) (a_cons (e_var (pv 2)) (a_cons (e_var (pv 1)) a_nil))) (a_cons (e_fn h_rolled_lying (hr.mono (by decide)) (lenA_cons (lenA_cons lenA_nil)) (a_cons (e_var (pv 3)) (a_cons (e_var (pv 1)) a_nil))) a_nil))))))
abbrev s_place_off : Stmt := topS 35
abbrev N_place_off : List Str := ["floor", "cell", "row", "here", "place", "letter"]
theorem sc_place_off : FnScope N_place_off ["floor", "cell", "row"] (defScope s_place_off) := ⟨rfl, rfl, rfl, by decide +kernel, rfl, by decide +kernel, by decide +kernel⟩
def m_place_off : SS := (sSeq (sSet 3 (eVar 1))
  (sSeq (sFor (iEn (eVar 2)) (gT 2 (gCn (gN 4) (gCn (gN 5) gNl))) (sSeq (sSet 3 (eCall f_rolled_cell (eCons (eVar 3) (eCons (eVar 5) eNil))))
  (sIf (bT (eNin (eVar 3) (eVar 0))) (sRet (eVar 4)) sPass)))
  (sRet (eC .none))))
def f_place_off : FnD := runFn 6 m_place_off
theorem p_place_off {P : Program} {w : World} {K : PySem.W.Frag} {mg : Str → Option Value} {base : Heap} (at_ : At0 K mg "place_off" s_place_off ["floor", "cell", "row"]) (h_rolled_cell : Has P w K mg base "rolled_cell" 2 f_rolled_cell 1) (z_enumerate : mg "enumerate" = none) : Has P w K mg base "place_off" 3 f_place_off 2 := by
  have nd := sc_place_off.nd
  refine has_of (b := m_place_off) (N := N_place_off) (k := 1) at_ sc_place_off rfl fun f cdv A outer s H E hr => ?_
  exact (ss_cons (s_set (i := 3) nd rfl (.inl rfl) (e_var (pv 1)))
    (ss_cons (s_for PassesOwn.never rfl (i_en (by rfl) z_enumerate (e_var (pv 2))) (g_tup rfl (gs_cons (g_name (i := 4) nd rfl (.inl rfl)) (gs_cons (g_name (i := 5) nd rfl (.inl rfl)) gs_nil))) (ss_cons (s_set (i := 3) nd rfl (.inl rfl) (e_fn h_rolled_cell (hr.mono (by decide)) (lenA_cons (lenA_cons lenA_nil)) (a_cons (e_var (pv 3)) (a_cons (e_var (pv 5)) a_nil))))
    (ss_one (s_if (y_cmp (q_nin hr) (e_var (pv 3)) (e_var (pv 0))) (ss_one (s_ret (e_var (pv 4)))) ss_nil))))
    (ss_one (s_ret k_non))))
abbrev s_spots_of : Stmt := topS 39
abbrev N_spots_of : List Str := ["floor"]
theorem sc_spots_of : FnScope N_spots_of ["floor"] (defScope s_spots_of) := ⟨rfl, rfl, rfl, by decide +kernel, rfl, by decide +kernel, by decide +kernel⟩
def m_spots_of : SS := (sRet (eTrg (eCons (eAdd (eC v_FACES) (eThen (eCons (eVar 0) eNil) (kE oLen))) eNil)))
def f_spots_of : FnD := runFn 1 m_spots_of
theorem p_spots_of {P : Program} {w : World} {K : PySem.W.Frag} {mg : Str → Option Value} {base : Heap} (at_ : At0 K mg "spots_of" s_spots_of ["floor"]) (z_tuple : mg "tuple" = none) (z_range : mg "range" = none) (z_len : mg "len" = none) (c_FACES : KC K mg "FACES" v_FACES) : Has P w K mg base "spots_of" 1 f_spots_of 1 := by
  have nd := sc_spots_of.nd
  refine has_of (b := m_spots_of) (N := N_spots_of) (k := 0) at_ sc_spots_of rfl fun f cdv A outer s H E hr => ?_
  exact (ss_one (s_ret (x_trg1 z_tuple z_range (x_add (e_glob c_FACES) (x_blt (w_len rfl hr) z_len (a_cons (e_var (pv 0)) a_nil))))))
abbrev s_spot_of_cell : Stmt := topS 40
abbrev N_spot_of_cell : List Str := ["floor", "cell"]
theorem sc_spot_of_cell : FnScope N_spot_of_cell ["floor", "cell"] (defScope s_spot_of_cell) := ⟨rfl, rfl, rfl, by decide +kernel, rfl, by decide +kernel, by decide +kernel⟩
def m_spot_of_cell : SS := (sRet (eAdd (eC v_FACES) (eBM isNt (eVar 0) (eCons (eVar 1) eNil) kIxT)))
def f_spot_of_cell : FnD := runFn 2 m_spot_of_cell
theorem p_spot_of_cell {P : Program} {w : World} {K : PySem.W.Frag} {mg : Str → Option Value} {base : Heap} (at_ : At0 K mg "spot_of_cell" s_spot_of_cell ["floor", "cell"]) (c_FACES : KC K mg "FACES" v_FACES) : Has P w K mg base "spot_of_cell" 2 f_spot_of_cell 1 := by
  have nd := sc_spot_of_cell.nd
  refine has_of (b := m_spot_of_cell) (N := N_spot_of_cell) (k := 0) at_ sc_spot_of_cell rfl fun f cdv A outer s H E hr => ?_
  exact (ss_one (s_ret (x_add (e_glob c_FACES) (e_tix (u65 hr) (e_var (pv 0)) (a_cons (e_var (pv 1)) a_nil)))))
abbrev s_is_spot : Stmt := topS 41
abbrev N_is_spot : List Str := ["floor", "thing"]
theorem sc_is_spot : FnScope N_is_spot ["floor", "thing"] (defScope s_is_spot) := ⟨rfl, rfl, rfl, by decide +kernel, rfl, by decide +kernel, by decide +kernel⟩
def m_is_spot : SS := (sRet (eCall f_is_whole (eCons (eVar 1) (eCons (eSub (eAdd (eC v_FACES) (eThen (eCons (eVar 0) eNil) (kE oLen))) (eC (.int 1))) eNil))))
def f_is_spot : FnD := runFn 2 m_is_spot
theorem p_is_spot {P : Program} {w : World} {K : PySem.W.Frag} {mg : Str → Option Value} {base : Heap} (at_ : At0 K mg "is_spot" s_is_spot ["floor", "thing"]) (h_is_whole : Has P w K mg base "is_whole" 2 f_is_whole 1) (z_len : mg "len" = none) (c_FACES : KC K mg "FACES" v_FACES) : Has P w K mg base "is_spot" 2 f_is_spot 2 := by
  have nd := sc_is_spot.nd
  refine has_of (b := m_is_spot) (N := N_is_spot) (k := 1) at_ sc_is_spot rfl fun f cdv A outer s H E hr => ?_
  exact (ss_one (s_ret (e_fn h_is_whole (hr.mono (by decide)) (lenA_cons (lenA_cons lenA_nil)) (a_cons (e_var (pv 1)) (a_cons (x_sub (x_add (e_glob c_FACES) (x_blt (w_len rfl hr) z_len (a_cons (e_var (pv 0)) a_nil))) k_int) a_nil)))))
abbrev s_need_spot : Stmt := topS 42
abbrev N_need_spot : List Str := ["floor", "spot"]
theorem sc_need_spot : FnScope N_need_spot ["floor", "spot"] (defScope s_need_spot) := ⟨rfl, rfl, rfl, by decide +kernel, rfl, by decide +kernel, by decide +kernel⟩
def m_need_spot : SS := (sIf (bNot (bT (eCall f_is_spot (eCons (eVar 0) (eCons (eVar 1) eNil))))) sNever sPass)
def f_need_spot : FnD := runFn 2 m_need_spot
theorem p_need_spot {P : Program} {w : World} {K : PySem.W.Frag} {mg : Str → Option Value} {base : Heap} (at_ : At0 K mg "need_spot" s_need_spot ["floor", "spot"]) (h_is_spot : Has P w K mg base "is_spot" 2 f_is_spot 2) : Has P w K mg base "need_spot" 2 f_need_spot 3 := by
  have nd := sc_need_spot.nd
  refine has_of (b := m_need_spot) (N := N_need_spot) (k := 2) at_ sc_need_spot rfl fun f cdv A outer s H E hr => ?_
  exact (ss_one (s_if (b_not (b_truth (e_fn h_is_spot (hr.mono (by decide)) (lenA_cons (lenA_cons lenA_nil)) (a_cons (e_var (pv 0)) (a_cons (e_var (pv 1)) a_nil))))) (ss_one s_never) ss_nil))
abbrev s_trade_at : Stmt := topS 43
abbrev N_trade_at : List Str := ["floor", "stand", "cell", "lying"]
theorem sc_trade_at : FnScope N_trade_at ["floor", "stand"] (defScope s_trade_at) := ⟨rfl, rfl, rfl, by decide +kernel, rfl, by decide +kernel, by decide +kernel⟩
def m_trade_at : SS := (sSeq (sAsg (eVar 1) (gT 2 (gCn (gN 2) (gCn (gN 3) gNl))))
  (sRet (eThen (eCons (eIx (eVar 3) (eC (.int 0))) (eCons (eCall f_spot_of_cell (eCons (eVar 0) (eCons (eVar 2) eNil))) eNil)) kTup)))
def f_trade_at : FnD := runFn 4 m_trade_at
theorem p_trade_at {P : Program} {w : World} {K : PySem.W.Frag} {mg : Str → Option Value} {base : Heap} (at_ : At0 K mg "trade_at" s_trade_at ["floor", "stand"]) (h_spot_of_cell : Has P w K mg base "spot_of_cell" 2 f_spot_of_cell 1) : Has P w K mg base "trade_at" 2 f_trade_at 2 := by
  have nd := sc_trade_at.nd
  refine has_of (b := m_trade_at) (N := N_trade_at) (k := 1) at_ sc_trade_at rfl fun f cdv A outer s H E hr => ?_
  exact (ss_cons (s_asg (e_var (pv 1)) (g_tup rfl (gs_cons (g_name (i := 2) nd rfl (.inl rfl)) (gs_cons (g_name (i := 3) nd rfl (.inl rfl)) gs_nil))))
    (ss_one (s_ret (e_tup (a_cons (x_ix (e_var (pv 3)) k_int) (a_cons (e_fn h_spot_of_cell (hr.mono (by decide)) (lenA_cons (lenA_cons lenA_nil)) (a_cons (e_var (pv 0)) (a_cons (e_var (pv 2)) a_nil))) a_nil))))))
abbrev s_traded_spot : Stmt := topS 44
abbrev N_traded_spot : List Str := ["trade", "spot", "one", "other"]
theorem sc_traded_spot : FnScope N_traded_spot ["trade", "spot"] (defScope s_traded_spot) := ⟨rfl, rfl, rfl, by decide +kernel, rfl, by decide +kernel, by decide +kernel⟩
def m_traded_spot : SS := (sSeq (sAsg (eVar 0) (gT 2 (gCn (gN 2) (gCn (gN 3) gNl))))
  (sSeq (sIf (bT (eEq (eVar 1) (eVar 2))) (sRet (eVar 3)) sPass)
  (sSeq (sIf (bT (eEq (eVar 1) (eVar 3))) (sRet (eVar 2)) sPass)
  (sRet (eVar 1)))))
def f_traded_spot : FnD := runFn 4 m_traded_spot
theorem p_traded_spot {P : Program} {w : World} {K : PySem.W.Frag} {mg : Str → Option Value} {base : Heap} (at_ : At0 K mg "traded_spot" s_traded_spot ["trade", "spot"])  : Has P w K mg base "traded_spot" 2 f_traded_spot 1 := by
  have nd := sc_traded_spot.nd
  refine has_of (b := m_traded_spot) (N := N_traded_spot) (k := 0) at_ sc_traded_spot rfl fun f cdv A outer s H E hr => ?_
  exact (ss_cons (s_asg (e_var (pv 0)) (g_tup rfl (gs_cons (g_name (i := 2) nd rfl (.inl rfl)) (gs_cons (g_name (i := 3) nd rfl (.inl rfl)) gs_nil))))
    (ss_cons (s_if (y_cmp (q_eq hr) (e_var (pv 1)) (e_var (pv 2))) (ss_one (s_ret (e_var (pv 3)))) ss_nil)
    (ss_cons (s_if (y_cmp (q_eq hr) (e_var (pv 1)) (e_var (pv 3))) (ss_one (s_ret (e_var (pv 2)))) ss_nil)
    (ss_one (s_ret (e_var (pv 1)))))))
abbrev s_trades : Stmt := topS 45
abbrev N_trades : List Str := ["floor", "stand", "row", "traded", "here", "letter"]
theorem sc_trades : FnScope N_trades ["floor", "stand", "row"] (defScope s_trades) := ⟨rfl, rfl, rfl, by decide +kernel, rfl, by decide +kernel, by decide +kernel⟩
def m_trades : SS := (sSeq (sSet 3 (eThen eNil kLst))
  (sSeq (sSet 4 (eVar 1))
  (sSeq (sFor (iSeq (eVar 2)) (gN 5) (sSeq (sSet 4 (eCall f_rolled_stand (eCons (eVar 4) (eCons (eVar 5) eNil))))
  (sExpr (eBM isL (eVar 3) (eCons (eCall f_trade_at (eCons (eVar 0) (eCons (eVar 4) eNil))) eNil) kAppend))))
  (sRet (eVar 3)))))
def f_trades : FnD := runFn 6 m_trades
theorem p_trades {P : Program} {w : World} {K : PySem.W.Frag} {mg : Str → Option Value} {base : Heap} (at_ : At0 K mg "trades" s_trades ["floor", "stand", "row"]) (h_rolled_stand : Has P w K mg base "rolled_stand" 2 f_rolled_stand 2) (h_trade_at : Has P w K mg base "trade_at" 2 f_trade_at 2) : Has P w K mg base "trades" 3 f_trades 3 := by
  have nd := sc_trades.nd
  refine has_of (b := m_trades) (N := N_trades) (k := 2) at_ sc_trades rfl fun f cdv A outer s H E hr => ?_
  exact (ss_cons (s_set (i := 3) nd rfl (.inl rfl) (e_lst a_nil))
    (ss_cons (s_set (i := 4) nd rfl (.inl rfl) (e_var (pv 1)))
    (ss_cons (s_for PassesOwn.never rfl (i_seq (e_var (pv 2))) (g_name (i := 5) nd rfl (.inl rfl)) (ss_cons (s_set (i := 4) nd rfl (.inl rfl) (e_fn h_rolled_stand (hr.mono (by decide)) (lenA_cons (lenA_cons lenA_nil)) (a_cons (e_var (pv 4)) (a_cons (e_var (pv 5)) a_nil))))
    (ss_one (s_expr (m_append (e_var (pv 3)) (a_cons (e_fn h_trade_at (hr.mono (by decide)) (lenA_cons (lenA_cons lenA_nil)) (a_cons (e_var (pv 0)) (a_cons (e_var (pv 4)) a_nil))) a_nil))))))
    (ss_one (s_ret (e_var (pv 3)))))))
abbrev s_held_traded : Stmt := topS 46
abbrev N_held_traded : List Str := ["traded", "held", "now", "one", "other"]
theorem sc_held_traded : FnScope N_held_traded ["traded", "held"] (defScope s_held_traded) := ⟨rfl, rfl, rfl, by decide +kernel, rfl, by decide +kernel, by decide +kernel⟩
def m_held_traded : SS := (sSeq (sSet 2 (eThen (eCons (eVar 1) eNil) (kL oList)))
  (sSeq (sFor (iSeq (eVar 0)) (gT 2 (gCn (gN 3) (gCn (gN 4) gNl))) (sAsg (eThen (eCons (eIx (eVar 2) (eVar 4)) (eCons (eIx (eVar 2) (eVar 3)) eNil)) kTup) (gT 2 (gCn (gS (eVar 2) (eVar 3)) (gCn (gS (eVar 2) (eVar 4)) gNl)))))
  (sRet (eThen (eCons (eVar 2) eNil) kTupN))))
def f_held_traded : FnD := runFn 5 m_held_traded
theorem p_held_traded {P : Program} {w : World} {K : PySem.W.Frag} {mg : Str → Option Value} {base : Heap} (at_ : At0 K mg "held_traded" s_held_traded ["traded", "held"]) (z_list : mg "list" = none) (z_tuple : mg "tuple" = none) : Has P w K mg base "held_traded" 2 f_held_traded 1 := by
  have nd := sc_held_traded.nd
  refine has_of (b := m_held_traded) (N := N_held_traded) (k := 0) at_ sc_held_traded rfl fun f cdv A outer s H E hr => ?_
  exact (ss_cons (s_set (i := 2) nd rfl (.inl rfl) (x_bty (w_list rfl hr) z_list (a_cons (e_var (pv 1)) a_nil)))
    (ss_cons (s_for PassesOwn.never rfl (i_seq (e_var (pv 0))) (g_tup rfl (gs_cons (g_name (i := 3) nd rfl (.inl rfl)) (gs_cons (g_name (i := 4) nd rfl (.inl rfl)) gs_nil))) (ss_one (s_asg (e_tup (a_cons (x_ix (e_var (pv 2)) (e_var (pv 4))) (a_cons (x_ix (e_var (pv 2)) (e_var (pv 3))) a_nil))) (g_tup rfl (gs_cons (g_sub (e_var (pv 2)) (e_var (pv 3))) (gs_cons (g_sub (e_var (pv 2)) (e_var (pv 4))) gs_nil))))))
    (ss_one (s_ret (x_bty (w_tuple rfl hr) z_tuple (a_cons (e_var (pv 2)) a_nil))))))
abbrev s_exchange_by : Stmt := topS 47
abbrev N_exchange_by : List Str := ["traded", "spots", "origins", "spot"]
theorem sc_exchange_by : FnScope N_exchange_by ["traded", "spots"] (defScope s_exchange_by) := ⟨rfl, rfl, rfl, by decide +kernel, rfl, by decide +kernel, by decide +kernel⟩
def m_exchange_by : SS := (sSeq (sSet 2 (eCall f_held_traded (eCons (eVar 0) (eCons (eVar 1) eNil))))
  (sRet (eThen (eCons (eLc (iSeq (eVar 1)) (gN 3) bYes (eBM isNt (eVar 2) (eCons (eVar 3) eNil) kIxT) [3]) eNil) kTupN)))
def f_exchange_by : FnD := runFn 4 m_exchange_by
theorem p_exchange_by {P : Program} {w : World} {K : PySem.W.Frag} {mg : Str → Option Value} {base : Heap} (at_ : At0 K mg "exchange_by" s_exchange_by ["traded", "spots"]) (h_held_traded : Has P w K mg base "held_traded" 2 f_held_traded 1) (z_tuple : mg "tuple" = none) : Has P w K mg base "exchange_by" 2 f_exchange_by 2 := by
  have nd := sc_exchange_by.nd
  refine has_of (b := m_exchange_by) (N := N_exchange_by) (k := 1) at_ sc_exchange_by rfl fun f cdv A outer s H E hr => ?_
  exact (ss_cons (s_set (i := 2) nd rfl (.inr rfl) (e_fn h_held_traded (hr.mono (by decide)) (lenA_cons (lenA_cons lenA_nil)) (a_cons (e_var (pv 0)) (a_cons (e_var (pv 1)) a_nil))))
    (ss_one (s_ret (x_bty (w_tuple rfl hr) z_tuple (a_cons (x_lc [("spot", 3)] rfl nd rfl (i_seq (e_var (pv 1))) (blkOk_by (N := N_exchange_by) (sc := defScope s_exchange_by) (by decide +kernel)) (only_gN (by decide)) (fun _ _ _ _ _ => (v_name (i := 3) (by decide) nd rfl (.inl rfl))) (fun _ _ _ _ _ => ts_yes) (fun _ _ _ _ _ => (e_tix (u65 hr) (e_var (pv 2)) (a_cons (e_var (pv 3)) a_nil)))) a_nil)))))
abbrev s_round_from : Stmt := topS 48
abbrev N_round_from : List Str := ["exchanged", "first", "spots", "spot"]
theorem sc_round_from : FnScope N_round_from ["exchanged", "first"] (defScope s_round_from) := ⟨rfl, rfl, rfl, by decide +kernel, rfl, by decide +kernel, by decide +kernel⟩
noncomputable def m_round_from : SS := (sSeq (sSet 2 (eThen (eCons (eVar 1) eNil) kLst))
  (sSeq (sSet 3 (eIx (eVar 0) (eVar 1)))
  (sSeq (sWhile (bT (eNe (eVar 3) (eVar 1))) (sSeq (sExpr (eBM isL (eVar 2) (eCons (eVar 3) eNil) kAppend))
  (sSet 3 (eIx (eVar 0) (eVar 3)))))
  (sRet (eThen (eCons (eVar 2) eNil) kTupN)))))
noncomputable def f_round_from : FnD := runFn 4 m_round_from
theorem p_round_from {P : Program} {w : World} {K : PySem.W.Frag} {mg : Str → Option Value} {base : Heap} (at_ : At0 K mg "round_from" s_round_from ["exchanged", "first"]) (z_tuple : mg "tuple" = none) : Has P w K mg base "round_from" 2 f_round_from 1 := by
  have nd := sc_round_from.nd
  refine has_of (b := m_round_from) (N := N_round_from) (k := 0) at_ sc_round_from rfl fun f cdv A outer s H E hr => ?_
  exact (ss_cons (s_set (i := 2) nd rfl (.inl rfl) (e_lst (a_cons (e_var (pv 1)) a_nil)))
    (ss_cons (s_set (i := 3) nd rfl (.inl rfl) (x_ix (e_var (pv 0)) (e_var (pv 1))))
    (ss_cons (s_while PassesOwn.never (y_cmp (q_ne hr) (e_var (pv 3)) (e_var (pv 1))) (ss_cons (s_expr (m_append (e_var (pv 2)) (a_cons (e_var (pv 3)) a_nil)))
    (ss_one (s_set (i := 3) nd rfl (.inl rfl) (x_ix (e_var (pv 0)) (e_var (pv 3)))))))
    (ss_one (s_ret (x_bty (w_tuple rfl hr) z_tuple (a_cons (e_var (pv 2)) a_nil)))))))
abbrev s_cell_behind : Stmt := topS 51
abbrev N_cell_behind : List Str := ["cell", "row", "here", "letter"]
theorem sc_cell_behind : FnScope N_cell_behind ["cell", "row"] (defScope s_cell_behind) := ⟨rfl, rfl, rfl, by decide +kernel, rfl, by decide +kernel, by decide +kernel⟩
def m_cell_behind : SS := (sSeq (sSet 2 (eVar 0))
  (sSeq (sFor (iSeq (eVar 1)) (gN 3) (sSet 2 (eCall f_rolled_cell (eCons (eVar 2) (eCons (eVar 3) eNil)))))
  (sRet (eVar 2))))
def f_cell_behind : FnD := runFn 4 m_cell_behind
theorem p_cell_behind {P : Program} {w : World} {K : PySem.W.Frag} {mg : Str → Option Value} {base : Heap} (at_ : At0 K mg "cell_behind" s_cell_behind ["cell", "row"]) (h_rolled_cell : Has P w K mg base "rolled_cell" 2 f_rolled_cell 1) : Has P w K mg base "cell_behind" 2 f_cell_behind 2 := by
  have nd := sc_cell_behind.nd
  refine has_of (b := m_cell_behind) (N := N_cell_behind) (k := 1) at_ sc_cell_behind rfl fun f cdv A outer s H E hr => ?_
  exact (ss_cons (s_set (i := 2) nd rfl (.inl rfl) (e_var (pv 0)))
    (ss_cons (s_for PassesOwn.never rfl (i_seq (e_var (pv 1))) (g_name (i := 3) nd rfl (.inl rfl)) (ss_one (s_set (i := 2) nd rfl (.inl rfl) (e_fn h_rolled_cell (hr.mono (by decide)) (lenA_cons (lenA_cons lenA_nil)) (a_cons (e_var (pv 2)) (a_cons (e_var (pv 3)) a_nil))))))
    (ss_one (s_ret (e_var (pv 2))))))
abbrev s_is_endless : Stmt := topS 52
abbrev N_is_endless : List Str := ["floor", "cell", "row"]
theorem sc_is_endless : FnScope N_is_endless ["floor", "cell", "row"] (defScope s_is_endless) := ⟨rfl, rfl, rfl, by decide +kernel, rfl, by decide +kernel, by decide +kernel⟩
def m_is_endless : SS := (sRet (eB (bAnd (bT (eIs (eCall f_place_off (eCons (eVar 0) (eCons (eVar 1) (eCons (eVar 2) eNil)))) (eC .none))) (bT (eEq (eCall f_cell_behind (eCons (eVar 1) (eCons (eVar 2) eNil))) (eVar 1))))))
def f_is_endless : FnD := runFn 3 m_is_endless
theorem p_is_endless {P : Program} {w : World} {K : PySem.W.Frag} {mg : Str → Option Value} {base : Heap} (at_ : At0 K mg "is_endless" s_is_endless ["floor", "cell", "row"]) (h_cell_behind : Has P w K mg base "cell_behind" 2 f_cell_behind 2) (h_place_off : Has P w K mg base "place_off" 3 f_place_off 2) : Has P w K mg base "is_endless" 3 f_is_endless 3 := by
  have nd := sc_is_endless.nd
  refine has_of (b := m_is_endless) (N := N_is_endless) (k := 2) at_ sc_is_endless rfl fun f cdv A outer s H E hr => ?_
  exact (ss_one (s_ret (e_and (e_bool (x_cmp (q_is hr) (e_fn h_place_off (hr.mono (by decide)) (lenA_cons (lenA_cons (lenA_cons lenA_nil))) (a_cons (e_var (pv 0)) (a_cons (e_var (pv 1)) (a_cons (e_var (pv 2)) a_nil)))) k_non)) (e_and1 (x_cmp (q_eq hr) (e_fn h_cell_behind (hr.mono (by decide)) (lenA_cons (lenA_cons lenA_nil)) (a_cons (e_var (pv 1)) (a_cons (e_var (pv 2)) a_nil))) (e_var (pv 1)))))))
abbrev s_need_endless : Stmt := topS 53
abbrev N_need_endless : List Str := ["floor", "cell", "row"]
theorem sc_need_endless : FnScope N_need_endless ["floor", "cell", "row"] (defScope s_need_endless) := ⟨rfl, rfl, rfl, by decide +kernel, rfl, by decide +kernel, by decide +kernel⟩
def m_need_endless : SS := (sIf (bNot (bT (eCall f_is_endless (eCons (eVar 0) (eCons (eVar 1) (eCons (eVar 2) eNil)))))) sNever sPass)
def f_need_endless : FnD := runFn 3 m_need_endless
theorem p_need_endless {P : Program} {w : World} {K : PySem.W.Frag} {mg : Str → Option Value} {base : Heap} (at_ : At0 K mg "need_endless" s_need_endless ["floor", "cell", "row"]) (h_is_endless : Has P w K mg base "is_endless" 3 f_is_endless 3) : Has P w K mg base "need_endless" 3 f_need_endless 4 := by
  have nd := sc_need_endless.nd
  refine has_of (b := m_need_endless) (N := N_need_endless) (k := 3) at_ sc_need_endless rfl fun f cdv A outer s H E hr => ?_
  exact (ss_one (s_if (b_not (b_truth (e_fn h_is_endless (hr.mono (by decide)) (lenA_cons (lenA_cons (lenA_cons lenA_nil))) (a_cons (e_var (pv 0)) (a_cons (e_var (pv 1)) (a_cons (e_var (pv 2)) a_nil)))))) (ss_one s_never) ss_nil))
abbrev s_is_cells : Stmt := topS 56
abbrev N_is_cells : List Str := ["floor", "thing", "part"]
theorem sc_is_cells : FnScope N_is_cells ["floor", "thing"] (defScope s_is_cells) := ⟨rfl, rfl, rfl, by decide +kernel, rfl, by decide +kernel, by decide +kernel⟩
def m_is_cells : SS := (sSeq (sIf (bNot (bT (eThen (eOne (eVar 1)) (kE (oIsi .tuple))))) (sRet (eC (.bool false))) sPass)
  (sRet (eB (bAnd (bT (eThen (eCons (eLc (iSeq (eVar 1)) (gN 2) bYes (eCall f_is_cell_of (eCons (eVar 0) (eCons (eVar 2) eNil))) [2]) eNil) (kE oAll))) (bT (eCall f_is_rising (eCons (eVar 1) eNil)))))))
def f_is_cells : FnD := runFn 3 m_is_cells
theorem p_is_cells {P : Program} {w : World} {K : PySem.W.Frag} {mg : Str → Option Value} {base : Heap} (at_ : At0 K mg "is_cells" s_is_cells ["floor", "thing"]) (h_is_rising : Has P w K mg base "is_rising" 1 f_is_rising 1) (h_is_cell_of : Has P w K mg base "is_cell_of" 2 f_is_cell_of 3) (z_isinstance : mg "isinstance" = none) (z_tuple : mg "tuple" = none) (z_all : mg "all" = none) : Has P w K mg base "is_cells" 2 f_is_cells 4 := by
  have nd := sc_is_cells.nd
  refine has_of (b := m_is_cells) (N := N_is_cells) (k := 3) at_ sc_is_cells rfl fun f cdv A outer s H E hr => ?_
  exact (ss_cons (s_if (b_not (b_truth (e_isi .tuple (e_var (pv 1)) (by rfl) z_isinstance (by rfl) z_tuple (by decide +kernel)))) (ss_one (s_ret k_bl)) ss_nil)
    (ss_one (s_ret (e_and (e_bool (x_blt (w_all rfl hr) z_all (a_cons (x_lc [("part", 2)] rfl nd rfl (i_seq (e_var (pv 1))) (blkOk_by (N := N_is_cells) (sc := defScope s_is_cells) (by decide +kernel)) (only_gN (by decide)) (fun _ _ _ _ _ => (v_name (i := 2) (by decide) nd rfl (.inl rfl))) (fun _ _ _ _ _ => ts_yes) (fun _ _ _ _ _ => (e_fn h_is_cell_of (hr.mono (by decide)) (lenA_cons (lenA_cons lenA_nil)) (a_cons (e_var (pv 0)) (a_cons (e_var (pv 2)) a_nil))))) a_nil))) (e_and1 (e_fn h_is_rising (hr.mono (by decide)) (lenA_cons lenA_nil) (a_cons (e_var (pv 1)) a_nil)))))))
abbrev s_need_cells : Stmt := topS 57
abbrev N_need_cells : List Str := ["floor", "cells"]
theorem sc_need_cells : FnScope N_need_cells ["floor", "cells"] (defScope s_need_cells) := ⟨rfl, rfl, rfl, by decide +kernel, rfl, by decide +kernel, by decide +kernel⟩
def m_need_cells : SS := (sIf (bNot (bT (eCall f_is_cells (eCons (eVar 0) (eCons (eVar 1) eNil))))) sNever sPass)
def f_need_cells : FnD := runFn 2 m_need_cells
theorem p_need_cells {P : Program} {w : World} {K : PySem.W.Frag} {mg : Str → Option Value} {base : Heap} (at_ : At0 K mg "need_cells" s_need_cells ["floor", "cells"]) (h_is_cells : Has P w K mg base "is_cells" 2 f_is_cells 4) : Has P w K mg base "need_cells" 2 f_need_cells 5 := by
  have nd := sc_need_cells.nd
  refine has_of (b := m_need_cells) (N := N_need_cells) (k := 4) at_ sc_need_cells rfl fun f cdv A outer s H E hr => ?_
  exact (ss_one (s_if (b_not (b_truth (e_fn h_is_cells (hr.mono (by decide)) (lenA_cons (lenA_cons lenA_nil)) (a_cons (e_var (pv 0)) (a_cons (e_var (pv 1)) a_nil))))) (ss_one s_never) ss_nil))
abbrev s_beat_seen : Stmt := topS 58
abbrev N_beat_seen : List Str := ["traded", "watched", "spot", "here", "beat", "trade"]
theorem sc_beat_seen : FnScope N_beat_seen ["traded", "watched", "spot"] (defScope s_beat_seen) := ⟨rfl, rfl, rfl, by decide +kernel, rfl, by decide +kernel, by decide +kernel⟩
def m_beat_seen : SS := (sSeq (sIf (bT (eIn (eVar 2) (eVar 1))) (sRet (eC (.int 0))) sPass)
  (sSeq (sSet 3 (eVar 2))
  (sSeq (sFor (iEnS (eVar 0)) (gT 2 (gCn (gN 4) (gCn (gN 5) gNl))) (sSeq (sSet 3 (eCall f_traded_spot (eCons (eVar 5) (eCons (eVar 3) eNil))))
  (sIf (bT (eIn (eVar 3) (eVar 1))) (sRet (eVar 4)) sPass)))
  (sRet (eC .none)))))
def f_beat_seen : FnD := runFn 6 m_beat_seen
theorem p_beat_seen {P : Program} {w : World} {K : PySem.W.Frag} {mg : Str → Option Value} {base : Heap} (at_ : At0 K mg "beat_seen" s_beat_seen ["traded", "watched", "spot"]) (h_traded_spot : Has P w K mg base "traded_spot" 2 f_traded_spot 1) (z_enumerate : mg "enumerate" = none) : Has P w K mg base "beat_seen" 3 f_beat_seen 2 := by
  have nd := sc_beat_seen.nd
  refine has_of (b := m_beat_seen) (N := N_beat_seen) (k := 1) at_ sc_beat_seen rfl fun f cdv A outer s H E hr => ?_
  exact (ss_cons (s_if (y_cmp (q_in hr) (e_var (pv 2)) (e_var (pv 1))) (ss_one (s_ret k_int)) ss_nil)
    (ss_cons (s_set (i := 3) nd rfl (.inl rfl) (e_var (pv 2)))
    (ss_cons (s_for PassesOwn.never rfl (i_enS (by rfl) z_enumerate (e_var (pv 0))) (g_tup rfl (gs_cons (g_name (i := 4) nd rfl (.inl rfl)) (gs_cons (g_name (i := 5) nd rfl (.inl rfl)) gs_nil))) (ss_cons (s_set (i := 3) nd rfl (.inl rfl) (e_fn h_traded_spot (hr.mono (by decide)) (lenA_cons (lenA_cons lenA_nil)) (a_cons (e_var (pv 5)) (a_cons (e_var (pv 3)) a_nil))))
    (ss_one (s_if (y_cmp (q_in hr) (e_var (pv 3)) (e_var (pv 1))) (ss_one (s_ret (e_var (pv 4)))) ss_nil))))
    (ss_one (s_ret k_non)))))
abbrev s__law_cell_at : Stmt := topS 63
abbrev N__law_cell_at : List Str := ["_law_script", "_law_k"]
theorem sc__law_cell_at : FnScope N__law_cell_at ["_law_script", "_law_k"] (defScope s__law_cell_at) := ⟨rfl, rfl, rfl, by decide +kernel, rfl, by decide +kernel, by decide +kernel⟩
def m__law_cell_at : SS := (sSeq (sIf (bT (eLt (eVar 1) (eThen (eCons (eVar 0) eNil) (kE oLen)))) (sRet (eIx (eVar 0) (eVar 1))) sPass)
  (sRet (eC (.int 0))))
def f__law_cell_at : FnD := runFn 2 m__law_cell_at
theorem p__law_cell_at {P : Program} {w : World} {K : PySem.W.Frag} {mg : Str → Option Value} {base : Heap} (at_ : At0 K mg "_law_cell_at" s__law_cell_at ["_law_script", "_law_k"]) (z_len : mg "len" = none) : Has P w K mg base "_law_cell_at" 2 f__law_cell_at 1 := by
  have nd := sc__law_cell_at.nd
  refine has_of (b := m__law_cell_at) (N := N__law_cell_at) (k := 0) at_ sc__law_cell_at rfl fun f cdv A outer s H E hr => ?_
  exact (ss_cons (s_if (y_cmp (q_lt hr) (e_var (pv 1)) (x_blt (w_len rfl hr) z_len (a_cons (e_var (pv 0)) a_nil))) (ss_one (s_ret (x_ix (e_var (pv 0)) (e_var (pv 1))))) ss_nil)
    (ss_one (s_ret k_int)))
abbrev s__law_pen : Stmt := topS 64
abbrev N__law_pen : List Str := ["_law_cell"]
theorem sc__law_pen : FnScope N__law_pen ["_law_cell"] (defScope s__law_pen) := ⟨rfl, rfl, rfl, by decide +kernel, rfl, by decide +kernel, by decide +kernel⟩
def m__law_pen : SS := (sRet (eThen (eCons (eThen (eCons (eC (.int 0)) (eCons (eSub (eVar 0) (ePow (eC (.int 10)) (eC (.int 18)))) eNil)) (kE oMax)) (eCons (eMod (eVar 0) (eC (.int 1000000007))) (eCons (eC (.int 0)) eNil))) kLst))
def f__law_pen : FnD := runFn 1 m__law_pen
theorem p__law_pen {P : Program} {w : World} {K : PySem.W.Frag} {mg : Str → Option Value} {base : Heap} (at_ : At0 K mg "_law_pen" s__law_pen ["_law_cell"]) (z_max : mg "max" = none) : Has P w K mg base "_law_pen" 1 f__law_pen 1 := by
  have nd := sc__law_pen.nd
  refine has_of (b := m__law_pen) (N := N__law_pen) (k := 0) at_ sc__law_pen rfl fun f cdv A outer s H E hr => ?_
  exact (ss_one (s_ret (e_lst (a_cons (x_blt (w_max rfl hr) z_max (a_cons k_int (a_cons (x_sub (e_var (pv 0)) (x_pow k_int k_int)) a_nil))) (a_cons (x_mod (e_var (pv 0)) k_int) (a_cons k_int a_nil))))))
abbrev s__law_draw : Stmt := topS 65
abbrev N__law_draw : List Str := ["_law_pen_here", "_law_many", "_law_digit", "_law_stir"]
theorem sc__law_draw : FnScope N__law_draw ["_law_pen_here", "_law_many"] (defScope s__law_draw) := ⟨rfl, rfl, rfl, by decide +kernel, rfl, by decide +kernel, by decide +kernel⟩
def m__law_draw : SS := (sSeq (sIf (bT (eGt (eIx (eVar 0) (eC (.int 0))) (eC (.int 0)))) (sSeq (sSet 2 (eMod (eIx (eVar 0) (eC (.int 0))) (eVar 1)))
  (sSeq (sAsg (eFdiv (eIx (eVar 0) (eC (.int 0))) (eVar 1)) (gS (eVar 0) (eC (.int 0))))
  (sRet (eVar 2)))) sPass)
  (sSeq (sAsg (eAdd (eIx (eVar 0) (eC (.int 2))) (eC (.int 1))) (gS (eVar 0) (eC (.int 2))))
  (sSeq (sSet 3 (eMod (eMul (eAdd (eIx (eVar 0) (eC (.int 1))) (eMul (eC (.int 17)) (eIx (eVar 0) (eC (.int 2))))) (eAdd (eC (.int 69621)) (eMul (eC (.int 2)) (eIx (eVar 0) (eC (.int 2)))))) (eC (.int 2147483647))))
  (sSeq (sSet 3 (eMod (eAdd (eAdd (eMul (eVar 3) (eVar 3)) (eMul (eC (.int 40503)) (eIx (eVar 0) (eC (.int 2))))) (eC (.int 5))) (eC (.int 2147483629))))
  (sRet (eMod (eFdiv (eMod (eMul (eVar 3) (eC (.int 48271))) (eC (.int 2147483647))) (eC (.int 32))) (eVar 1)))))))
def f__law_draw : FnD := runFn 4 m__law_draw
theorem p__law_draw {P : Program} {w : World} {K : PySem.W.Frag} {mg : Str → Option Value} {base : Heap} (at_ : At0 K mg "_law_draw" s__law_draw ["_law_pen_here", "_law_many"])  : Has P w K mg base "_law_draw" 2 f__law_draw 1 := by
  have nd := sc__law_draw.nd
  refine has_of (b := m__law_draw) (N := N__law_draw) (k := 0) at_ sc__law_draw rfl fun f cdv A outer s H E hr => ?_
  exact (ss_cons (s_if (y_cmp (q_gt hr) (x_ix (e_var (pv 0)) k_int) k_int) (ss_cons (s_set (i := 2) nd rfl (.inl rfl) (x_mod (x_ix (e_var (pv 0)) k_int) (e_var (pv 1))))
    (ss_cons (s_asg (x_fdiv (x_ix (e_var (pv 0)) k_int) (e_var (pv 1))) (g_sub (e_var (pv 0)) k_int))
    (ss_one (s_ret (e_var (pv 2)))))) ss_nil)
    (ss_cons (s_asg (x_add (x_ix (e_var (pv 0)) k_int) k_int) (g_sub (e_var (pv 0)) k_int))
    (ss_cons (s_set (i := 3) nd rfl (.inl rfl) (x_mod (x_mul (x_add (x_ix (e_var (pv 0)) k_int) (x_mul k_int (x_ix (e_var (pv 0)) k_int))) (x_add k_int (x_mul k_int (x_ix (e_var (pv 0)) k_int)))) k_int))
    (ss_cons (s_set (i := 3) nd rfl (.inl rfl) (x_mod (x_add (x_add (x_mul (e_var (pv 3)) (e_var (pv 3))) (x_mul k_int (x_ix (e_var (pv 0)) k_int))) k_int) k_int))
    (ss_one (s_ret (x_mod (x_fdiv (x_mod (x_mul (e_var (pv 3)) k_int) k_int) k_int) (e_var (pv 1)))))))))
abbrev s__law_block : Stmt := topS 66
abbrev N__law_block : List Str := ["_law_pen_here", "_law_wide", "_law_high", "_law_left", "_law_low", "_law_spot"]
theorem sc__law_block : FnScope N__law_block ["_law_pen_here", "_law_wide", "_law_high"] (defScope s__law_block) := ⟨rfl, rfl, rfl, by decide +kernel, rfl, by decide +kernel, by decide +kernel⟩
def m__law_block : SS := (sSeq (sParN [3, 4] (eCons (eCall f__law_draw (eCons (eVar 0) (eCons (eSub (eC (.int 5)) (eVar 1)) eNil))) (eCons (eCall f__law_draw (eCons (eVar 0) (eCons (eSub (eC (.int 5)) (eVar 2)) eNil))) eNil)))
  (sRet (eLc (iRg1 (eCons (eMul (eVar 1) (eVar 2)) eNil)) (gN 5) bYes (eThen (eCons (eAdd (eVar 3) (eFdiv (eVar 5) (eVar 2))) (eCons (eAdd (eVar 4) (eMod (eVar 5) (eVar 2))) eNil)) kTup) [5])))
def f__law_block : FnD := runFn 6 m__law_block
theorem p__law_block {P : Program} {w : World} {K : PySem.W.Frag} {mg : Str → Option Value} {base : Heap} (at_ : At0 K mg "_law_block" s__law_block ["_law_pen_here", "_law_wide", "_law_high"]) (h__law_draw : Has P w K mg base "_law_draw" 2 f__law_draw 1) (z_range : mg "range" = none) : Has P w K mg base "_law_block" 3 f__law_block 2 := by
  have nd := sc__law_block.nd
  refine has_of (b := m__law_block) (N := N__law_block) (k := 1) at_ sc__law_block rfl fun f cdv A outer s H E hr => ?_
  exact (ss_cons (s_parN rfl (a_cons (e_fn h__law_draw (hr.mono (by decide)) (lenA_cons (lenA_cons lenA_nil)) (a_cons (e_var (pv 0)) (a_cons (x_sub k_int (e_var (pv 1))) a_nil))) (a_cons (e_fn h__law_draw (hr.mono (by decide)) (lenA_cons (lenA_cons lenA_nil)) (a_cons (e_var (pv 0)) (a_cons (x_sub k_int (e_var (pv 2))) a_nil))) a_nil)) (ns_cons (pg_name (i := 3) nd rfl (.inr rfl)) (ns_cons (pg_name (i := 4) nd rfl (.inr rfl)) ns_nil)))
    (ss_one (s_ret (x_lc [("_law_spot", 5)] rfl nd rfl (i_rg1 (by rfl) z_range (a_cons (x_mul (e_var (pv 1)) (e_var (pv 2))) a_nil)) (blkOk_by (N := N__law_block) (sc := defScope s__law_block) (by decide +kernel)) (only_gN (by decide)) (fun _ _ _ _ _ => (v_name (i := 5) (by decide) nd rfl (.inl rfl))) (fun _ _ _ _ _ => ts_yes) (fun _ _ _ _ _ => (e_tup (a_cons (x_add (e_var (pv 3)) (x_fdiv (e_var (pv 5)) (e_var (pv 2)))) (a_cons (x_add (e_var (pv 4)) (x_mod (e_var (pv 5)) (e_var (pv 2)))) a_nil))))))))
abbrev s__law_near : Stmt := topS 67
abbrev N__law_near : List Str := ["_law_cells", "_law_found", "_law_column", "_law_row", "_law_one"]
theorem sc__law_near : FnScope N__law_near ["_law_cells"] (defScope s__law_near) := ⟨rfl, rfl, rfl, by decide +kernel, rfl, by decide +kernel, by decide +kernel⟩
def m__law_near : SS := (sSeq (sSet 1 eDnew)
  (sSeq (sFor (iSeq (eVar 0)) (gT 2 (gCn (gN 2) (gCn (gN 3) gNl))) (sFor (iSeq (eThen (eCons (eThen (eCons (eAdd (eVar 2) (eC (.int 1))) (eCons (eVar 3) eNil)) kTup) (eCons (eThen (eCons (eSub (eVar 2) (eC (.int 1))) (eCons (eVar 3) eNil)) kTup) (eCons (eThen (eCons (eVar 2) (eCons (eAdd (eVar 3) (eC (.int 1))) eNil)) kTup) (eCons (eThen (eCons (eVar 2) (eCons (eSub (eVar 3) (eC (.int 1))) eNil)) kTup) eNil)))) kLst)) (gN 4) (sIf (bAnd (bT (eNin (eVar 4) (eVar 0))) (bAnd (bT (eCh (Cm.f .le) (Cm.f .lt) (eC (.int 0)) (eIx (eVar 4) (eC (.int 0))) (eC (.int 4)))) (bT (eCh (Cm.f .le) (Cm.f .lt) (eC (.int 0)) (eIx (eVar 4) (eC (.int 1))) (eC (.int 4)))))) (sAsg (eC (.bool true)) (gDs (eVar 1) (eVar 4))) sPass)))
  (sRet (eThen (eCons (eVar 1) eNil) kSrtD))))
def f__law_near : FnD := runFn 5 m__law_near
theorem p__law_near {P : Program} {w : World} {K : PySem.W.Frag} {mg : Str → Option Value} {base : Heap} (at_ : At0 K mg "_law_near" s__law_near ["_law_cells"]) (z_sorted : mg "sorted" = none) : Has P w K mg base "_law_near" 1 f__law_near 1 := by
  have nd := sc__law_near.nd
  refine has_of (b := m__law_near) (N := N__law_near) (k := 0) at_ sc__law_near rfl fun f cdv A outer s H E hr => ?_
  exact (ss_cons (s_set (i := 1) nd rfl (.inl rfl) x_dnew)
    (ss_cons (s_for PassesOwn.never rfl (i_seq (e_var (pv 0))) (g_tup rfl (gs_cons (g_name (i := 2) nd rfl (.inl rfl)) (gs_cons (g_name (i := 3) nd rfl (.inl rfl)) gs_nil))) (ss_one (s_for PassesOwn.never rfl (i_seq (e_lst (a_cons (e_tup (a_cons (x_add (e_var (pv 2)) k_int) (a_cons (e_var (pv 3)) a_nil))) (a_cons (e_tup (a_cons (x_sub (e_var (pv 2)) k_int) (a_cons (e_var (pv 3)) a_nil))) (a_cons (e_tup (a_cons (e_var (pv 2)) (a_cons (x_add (e_var (pv 3)) k_int) a_nil))) (a_cons (e_tup (a_cons (e_var (pv 2)) (a_cons (x_sub (e_var (pv 3)) k_int) a_nil))) a_nil)))))) (g_name (i := 4) nd rfl (.inl rfl)) (ss_one (s_if (PW.pt (b_and (y_cmp (q_nin hr) (e_var (pv 4)) (e_var (pv 0))) (b_and (b_chain .le .lt k_int (x_ix (e_var (pv 4)) k_int) k_int) (b_and1 (b_chain .le .lt k_int (x_ix (e_var (pv 4)) k_int) k_int))))) (ss_one (s_asg k_bl (g_dsub (u9 hr) (e_var (pv 1)) (e_var (pv 4))))) ss_nil)))))
    (ss_one (s_ret (x_blt (w_srtD rfl hr) z_sorted (a_cons (e_var (pv 1)) a_nil))))))
abbrev s__law_floor : Stmt := topS 68
abbrev N__law_floor : List Str := ["_law_pen_here", "_law_kind", "_law_cells", "_law_turn", "_law_some"]
theorem sc__law_floor : FnScope N__law_floor ["_law_pen_here"] (defScope s__law_floor) := ⟨rfl, rfl, rfl, by decide +kernel, rfl, by decide +kernel, by decide +kernel⟩
def m__law_floor : SS := (sSeq (sSet 1 (eCall f__law_draw (eCons (eVar 0) (eCons (eC (.int 4)) eNil))))
  (sSeq (sIf (bT (eEq (eVar 1) (eC (.int 0)))) (sRet (eThen (eCons (eThen (eCons (eCall f__law_block (eCons (eVar 0) (eCons (eAdd (eC (.int 1)) (eCall f__law_draw (eCons (eVar 0) (eCons (eC (.int 4)) eNil)))) (eCons (eAdd (eC (.int 1)) (eCall f__law_draw (eCons (eVar 0) (eCons (eC (.int 2)) eNil)))) eNil)))) eNil) kSorted) eNil) kTupN)) sPass)
  (sSeq (sIf (bT (eEq (eVar 1) (eC (.int 1)))) (sSeq (sSet 2 (eThen (eCons (eCall f__law_block (eCons (eVar 0) (eCons (eC (.int 3)) (eCons (eC (.int 3)) eNil)))) eNil) kSorted))
  (sRet (eIf (bT (eEq (eCall f__law_draw (eCons (eVar 0) (eCons (eC (.int 2)) eNil))) (eC (.int 0)))) (eThen (eCons (eAdd (eSl (eVar 2) oNo (oSome (eC (.int 4)))) (eSl (eVar 2) (oSome (eC (.int 5))) oNo)) eNil) kTupN) (eThen (eCons (eVar 2) eNil) kTupN)))) sPass)
  (sSeq (sSet 2 (eThen (eCons (eThen (eCons (eCall f__law_draw (eCons (eVar 0) (eCons (eC (.int 4)) eNil))) (eCons (eCall f__law_draw (eCons (eVar 0) (eCons (eC (.int 4)) eNil))) eNil)) kTup) eNil) kLst))
  (sSeq (sFor (iRg1 (eCons (eCall f__law_draw (eCons (eVar 0) (eCons (eC (.int 9)) eNil))) eNil)) (gN 3) (sSeq (sSet 4 (eCall f__law_near (eCons (eVar 2) eNil)))
  (sExpr (eBM isL (eVar 2) (eCons (eIx (eVar 4) (eCall f__law_draw (eCons (eVar 0) (eCons (eThen (eCons (eVar 4) eNil) (kE oLen)) eNil)))) eNil) kAppend))))
  (sSeq (sIf (bT (eEq (eVar 1) (eC (.int 2)))) (sRet (eThen (eCons (eThen (eCons (eVar 2) eNil) kSorted) eNil) kTupN)) sPass)
  (sRet (eThen (eCons (eThen (eOne (eLc (iRg1 (eCons (eAdd (eC (.int 1)) (eCall f__law_draw (eCons (eVar 0) (eCons (eC (.int 9)) eNil)))) eNil)) (gN 3) bYes (eThen (eCons (eCall f__law_draw (eCons (eVar 0) (eCons (eC (.int 4)) eNil))) (eCons (eCall f__law_draw (eCons (eVar 0) (eCons (eC (.int 4)) eNil))) eNil)) kTup) [3])) kSrtSet) eNil) kTupN))))))))
def f__law_floor : FnD := runFn 5 m__law_floor
theorem p__law_floor {P : Program} {w : World} {K : PySem.W.Frag} {mg : Str → Option Value} {base : Heap} (at_ : At0 K mg "_law_floor" s__law_floor ["_law_pen_here"]) (h__law_draw : Has P w K mg base "_law_draw" 2 f__law_draw 1) (h__law_block : Has P w K mg base "_law_block" 3 f__law_block 2) (h__law_near : Has P w K mg base "_law_near" 1 f__law_near 1) (z_tuple : mg "tuple" = none) (z_sorted : mg "sorted" = none) (z_range : mg "range" = none) (z_len : mg "len" = none) (z_set : mg "set" = none) : Has P w K mg base "_law_floor" 1 f__law_floor 3 := by
  have nd := sc__law_floor.nd
  refine has_of (b := m__law_floor) (N := N__law_floor) (k := 2) at_ sc__law_floor rfl fun f cdv A outer s H E hr => ?_
  exact (ss_cons (s_set (i := 1) nd rfl (.inl rfl) (e_fn h__law_draw (hr.mono (by decide)) (lenA_cons (lenA_cons lenA_nil)) (a_cons (e_var (pv 0)) (a_cons k_int a_nil))))
    (ss_cons (s_if (y_cmp (q_eq hr) (e_var (pv 1)) k_int) (ss_one (s_ret (x_bty (w_tuple rfl hr) z_tuple (a_cons (x_blt (w_sorted rfl hr) z_sorted (a_cons (e_fn h__law_block (hr.mono (by decide)) (lenA_cons (lenA_cons (lenA_cons lenA_nil))) (a_cons (e_var (pv 0)) (a_cons (x_add k_int (e_fn h__law_draw (hr.mono (by decide)) (lenA_cons (lenA_cons lenA_nil)) (a_cons (e_var (pv 0)) (a_cons k_int a_nil)))) (a_cons (x_add k_int (e_fn h__law_draw (hr.mono (by decide)) (lenA_cons (lenA_cons lenA_nil)) (a_cons (e_var (pv 0)) (a_cons k_int a_nil)))) a_nil)))) a_nil)) a_nil)))) ss_nil)
    (ss_cons (s_if (y_cmp (q_eq hr) (e_var (pv 1)) k_int) (ss_cons (s_set (i := 2) nd rfl (.inl rfl) (x_blt (w_sorted rfl hr) z_sorted (a_cons (e_fn h__law_block (hr.mono (by decide)) (lenA_cons (lenA_cons (lenA_cons lenA_nil))) (a_cons (e_var (pv 0)) (a_cons k_int (a_cons k_int a_nil)))) a_nil)))
    (ss_one (s_ret (e_if (y_cmp (q_eq hr) (e_fn h__law_draw (hr.mono (by decide)) (lenA_cons (lenA_cons lenA_nil)) (a_cons (e_var (pv 0)) (a_cons k_int a_nil))) k_int) (x_bty (w_tuple rfl hr) z_tuple (a_cons (x_add (e_sl (e_var (pv 2)) o_no (o_some k_int)) (e_sl (e_var (pv 2)) (o_some k_int) o_no)) a_nil)) (x_bty (w_tuple rfl hr) z_tuple (a_cons (e_var (pv 2)) a_nil)))))) ss_nil)
    (ss_cons (s_set (i := 2) nd rfl (.inl rfl) (e_lst (a_cons (e_tup (a_cons (e_fn h__law_draw (hr.mono (by decide)) (lenA_cons (lenA_cons lenA_nil)) (a_cons (e_var (pv 0)) (a_cons k_int a_nil))) (a_cons (e_fn h__law_draw (hr.mono (by decide)) (lenA_cons (lenA_cons lenA_nil)) (a_cons (e_var (pv 0)) (a_cons k_int a_nil))) a_nil))) a_nil)))
    (ss_cons (s_for PassesOwn.never rfl (i_rg1 (by rfl) z_range (a_cons (e_fn h__law_draw (hr.mono (by decide)) (lenA_cons (lenA_cons lenA_nil)) (a_cons (e_var (pv 0)) (a_cons k_int a_nil))) a_nil)) (g_name (i := 3) nd rfl (.inl rfl)) (ss_cons (s_set (i := 4) nd rfl (.inl rfl) (e_fn h__law_near (hr.mono (by decide)) (lenA_cons lenA_nil) (a_cons (e_var (pv 2)) a_nil)))
    (ss_one (s_expr (m_append (e_var (pv 2)) (a_cons (x_ix (e_var (pv 4)) (e_fn h__law_draw (hr.mono (by decide)) (lenA_cons (lenA_cons lenA_nil)) (a_cons (e_var (pv 0)) (a_cons (x_blt (w_len rfl hr) z_len (a_cons (e_var (pv 4)) a_nil)) a_nil)))) a_nil))))))
    (ss_cons (s_if (y_cmp (q_eq hr) (e_var (pv 1)) k_int) (ss_one (s_ret (x_bty (w_tuple rfl hr) z_tuple (a_cons (x_blt (w_sorted rfl hr) z_sorted (a_cons (e_var (pv 2)) a_nil)) a_nil)))) ss_nil)
    (ss_one (s_ret (x_bty (w_tuple rfl hr) z_tuple (a_cons (x_srtSet (u64 hr) z_sorted z_set (x_lc [("_law_turn", 3)] rfl nd rfl (i_rg1 (by rfl) z_range (a_cons (x_add k_int (e_fn h__law_draw (hr.mono (by decide)) (lenA_cons (lenA_cons lenA_nil)) (a_cons (e_var (pv 0)) (a_cons k_int a_nil)))) a_nil)) (blkOk_by (N := N__law_floor) (sc := defScope s__law_floor) (by decide +kernel)) (only_gN (by decide)) (fun _ _ _ _ _ => (v_name (i := 3) (by decide) nd rfl (.inl rfl))) (fun _ _ _ _ _ => ts_yes) (fun _ _ _ _ _ => (e_tup (a_cons (e_fn h__law_draw (hr.mono (by decide)) (lenA_cons (lenA_cons lenA_nil)) (a_cons (e_var (pv 0)) (a_cons k_int a_nil))) (a_cons (e_fn h__law_draw (hr.mono (by decide)) (lenA_cons (lenA_cons lenA_nil)) (a_cons (e_var (pv 0)) (a_cons k_int a_nil))) a_nil)))))) a_nil))))))))))
abbrev s__law_beside : Stmt := topS 69
abbrev N__law_beside : List Str := ["_law_cell", "_law_letter", "_law_spot"]
theorem sc__law_beside : FnScope N__law_beside ["_law_cell", "_law_letter"] (defScope s__law_beside) := ⟨rfl, rfl, rfl, by decide +kernel, rfl, by decide +kernel, by decide +kernel⟩
def m__law_beside : SS := (sSeq (sSet 2 (eBM isS (eC (.str "ensw")) (eCons (eVar 1) eNil) (kE oSix)))
  (sRet (eThen (eCons (eAdd (eIx (eVar 0) (eC (.int 0))) (eIx (eThen (eCons (eC (.int 1)) (eCons (eC (.int 0)) (eCons (eC (.int 0)) (eCons (eNeg (eC (.int 1))) eNil)))) kLst) (eVar 2))) (eCons (eAdd (eIx (eVar 0) (eC (.int 1))) (eIx (eThen (eCons (eC (.int 0)) (eCons (eC (.int 1)) (eCons (eNeg (eC (.int 1))) (eCons (eC (.int 0)) eNil)))) kLst) (eVar 2))) eNil)) kTup)))
def f__law_beside : FnD := runFn 3 m__law_beside
theorem p__law_beside {P : Program} {w : World} {K : PySem.W.Frag} {mg : Str → Option Value} {base : Heap} (at_ : At0 K mg "_law_beside" s__law_beside ["_law_cell", "_law_letter"])  : Has P w K mg base "_law_beside" 2 f__law_beside 1 := by
  have nd := sc__law_beside.nd
  refine has_of (b := m__law_beside) (N := N__law_beside) (k := 0) at_ sc__law_beside rfl fun f cdv A outer s H E hr => ?_
  exact (ss_cons (s_set (i := 2) nd rfl (.inl rfl) (m_six k_str (a_cons (e_var (pv 1)) a_nil)))
    (ss_one (s_ret (e_tup (a_cons (x_add (x_ix (e_var (pv 0)) k_int) (x_ix (e_lst (a_cons k_int (a_cons k_int (a_cons k_int (a_cons (x_neg k_int) a_nil))))) (e_var (pv 2)))) (a_cons (x_add (x_ix (e_var (pv 0)) k_int) (x_ix (e_lst (a_cons k_int (a_cons k_int (a_cons (x_neg k_int) (a_cons k_int a_nil))))) (e_var (pv 2)))) a_nil))))))
abbrev s__law_rolled : Stmt := topS 70
abbrev N__law_rolled : List Str := ["_law_lying", "_law_letter", "_law_low", "_law_north", "_law_east", "_law_some"]
theorem sc__law_rolled : FnScope N__law_rolled ["_law_lying", "_law_letter"] (defScope s__law_rolled) := ⟨rfl, rfl, rfl, by decide +kernel, rfl, by decide +kernel, by decide +kernel⟩
def m__law_rolled : SS := (sSeq (sAsg (eVar 0) (gT 3 (gCn (gN 2) (gCn (gN 3) (gCn (gN 4) gNl)))))
  (sSeq (sSet 5 (eThen (eCons (eThen (eCons (eVar 4) (eCons (eVar 3) (eCons (eSub (eC (.int 5)) (eVar 2)) eNil))) kTup) (eCons (eThen (eCons (eVar 3) (eCons (eSub (eC (.int 5)) (eVar 2)) (eCons (eVar 4) eNil))) kTup) (eCons (eThen (eCons (eSub (eC (.int 5)) (eVar 3)) (eCons (eVar 2) (eCons (eVar 4) eNil))) kTup) (eCons (eThen (eCons (eSub (eC (.int 5)) (eVar 4)) (eCons (eVar 3) (eCons (eVar 2) eNil))) kTup) eNil)))) kLst))
  (sRet (eIx (eVar 5) (eBM isS (eC (.str "ensw")) (eCons (eVar 1) eNil) (kE oSix))))))
def f__law_rolled : FnD := runFn 6 m__law_rolled
theorem p__law_rolled {P : Program} {w : World} {K : PySem.W.Frag} {mg : Str → Option Value} {base : Heap} (at_ : At0 K mg "_law_rolled" s__law_rolled ["_law_lying", "_law_letter"])  : Has P w K mg base "_law_rolled" 2 f__law_rolled 1 := by
  have nd := sc__law_rolled.nd
  refine has_of (b := m__law_rolled) (N := N__law_rolled) (k := 0) at_ sc__law_rolled rfl fun f cdv A outer s H E hr => ?_
  exact (ss_cons (s_asg (e_var (pv 0)) (g_tup rfl (gs_cons (g_name (i := 2) nd rfl (.inl rfl)) (gs_cons (g_name (i := 3) nd rfl (.inl rfl)) (gs_cons (g_name (i := 4) nd rfl (.inl rfl)) gs_nil)))))
    (ss_cons (s_set (i := 5) nd rfl (.inl rfl) (e_lst (a_cons (e_tup (a_cons (e_var (pv 4)) (a_cons (e_var (pv 3)) (a_cons (x_sub k_int (e_var (pv 2))) a_nil)))) (a_cons (e_tup (a_cons (e_var (pv 3)) (a_cons (x_sub k_int (e_var (pv 2))) (a_cons (e_var (pv 4)) a_nil)))) (a_cons (e_tup (a_cons (x_sub k_int (e_var (pv 3))) (a_cons (e_var (pv 2)) (a_cons (e_var (pv 4)) a_nil)))) (a_cons (e_tup (a_cons (x_sub k_int (e_var (pv 4))) (a_cons (e_var (pv 3)) (a_cons (e_var (pv 2)) a_nil)))) a_nil))))))
    (ss_one (s_ret (x_ix (e_var (pv 5)) (m_six k_str (a_cons (e_var (pv 1)) a_nil)))))))
abbrev s__law_rolls : Stmt := topS 71
abbrev N__law_rolls : List Str := ["_law_floor_here", "_law_stand_here", "_law_row", "_law_now", "_law_cell", "_law_lying", "_law_marks", "_law_letter", "_law_here", "_law_low", "_law_kept"]
theorem sc__law_rolls : FnScope N__law_rolls ["_law_floor_here", "_law_stand_here", "_law_row", "_law_now"] (defScope s__law_rolls) := ⟨rfl, rfl, rfl, by decide +kernel, rfl, by decide +kernel, by decide +kernel⟩
def m__law_rolls : SS := (sSeq (sNst 4 5 6 (eCons (eVar 1) (eCons (eThen (eCons (eVar 3) eNil) (kL oList)) eNil)))
  (sSeq (sFor (iSeq (eVar 2)) (gN 7) (sSeq (sPar 4 5 (eCons (eCall f__law_beside (eCons (eVar 4) (eCons (eVar 7) eNil))) (eCons (eCall f__law_rolled (eCons (eVar 5) (eCons (eVar 7) eNil))) eNil)))
  (sSeq (sPar 8 9 (eCons (eAdd (eC (.int 6)) (eBM isNt (eVar 0) (eCons (eVar 4) eNil) kIxT)) (eCons (eIx (eVar 5) (eC (.int 0))) eNil)))
  (sSeq (sSet 10 (eIx (eVar 6) (eVar 8)))
  (sSeq (sAsg (eIx (eVar 6) (eVar 9)) (gS (eVar 6) (eVar 8)))
  (sAsg (eVar 10) (gS (eVar 6) (eVar 9))))))))
  (sRet (eThen (eCons (eThen (eCons (eVar 4) (eCons (eVar 5) eNil)) kTup) (eCons (eThen (eCons (eVar 6) eNil) kTupN) eNil)) kTup))))
def f__law_rolls : FnD := runFn 11 m__law_rolls
theorem p__law_rolls {P : Program} {w : World} {K : PySem.W.Frag} {mg : Str → Option Value} {base : Heap} (at_ : At0 K mg "_law_rolls" s__law_rolls ["_law_floor_here", "_law_stand_here", "_law_row", "_law_now"]) (h__law_rolled : Has P w K mg base "_law_rolled" 2 f__law_rolled 1) (h__law_beside : Has P w K mg base "_law_beside" 2 f__law_beside 1) (z_list : mg "list" = none) (z_tuple : mg "tuple" = none) : Has P w K mg base "_law_rolls" 4 f__law_rolls 2 := by
  have nd := sc__law_rolls.nd
  refine has_of (b := m__law_rolls) (N := N__law_rolls) (k := 1) at_ sc__law_rolls rfl fun f cdv A outer s H E hr => ?_
  exact (ss_cons (s_nst (i := 4) (k := 5) (j := 6) rfl nd rfl rfl rfl (.inl rfl) (.inl rfl) (.inl rfl) (a_cons (e_var (pv 1)) (a_cons (x_bty (w_list rfl hr) z_list (a_cons (e_var (pv 3)) a_nil)) a_nil)))
    (ss_cons (s_for PassesOwn.never rfl (i_seq (e_var (pv 2))) (g_name (i := 7) nd rfl (.inl rfl)) (ss_cons (s_par (i := 4) (j := 5) rfl nd rfl rfl (by decide) rfl rfl (a_cons (e_fn h__law_beside (hr.mono (by decide)) (lenA_cons (lenA_cons lenA_nil)) (a_cons (e_var (pv 4)) (a_cons (e_var (pv 7)) a_nil))) (a_cons (e_fn h__law_rolled (hr.mono (by decide)) (lenA_cons (lenA_cons lenA_nil)) (a_cons (e_var (pv 5)) (a_cons (e_var (pv 7)) a_nil))) a_nil)) rfl)
    (ss_cons (s_par (i := 8) (j := 9) rfl nd rfl rfl (by decide) rfl rfl (a_cons (x_add k_int (e_tix (u65 hr) (e_var (pv 0)) (a_cons (e_var (pv 4)) a_nil))) (a_cons (x_ix (e_var (pv 5)) k_int) a_nil)) rfl)
    (ss_cons (s_set (i := 10) nd rfl (.inl rfl) (x_ix (e_var (pv 6)) (e_var (pv 8))))
    (ss_cons (s_asg (x_ix (e_var (pv 6)) (e_var (pv 9))) (g_sub (e_var (pv 6)) (e_var (pv 8))))
    (ss_one (s_asg (e_var (pv 10)) (g_sub (e_var (pv 6)) (e_var (pv 9))))))))))
    (ss_one (s_ret (e_tup (a_cons (e_tup (a_cons (e_var (pv 4)) (a_cons (e_var (pv 5)) a_nil))) (a_cons (x_bty (w_tuple rfl hr) z_tuple (a_cons (e_var (pv 6)) a_nil)) a_nil)))))))
abbrev s__law_stand : Stmt := topS 72
abbrev N__law_stand : List Str := ["_law_pen_here", "_law_floor_here", "_law_lying", "_law_turn"]
theorem sc__law_stand : FnScope N__law_stand ["_law_pen_here", "_law_floor_here"] (defScope s__law_stand) := ⟨rfl, rfl, rfl, by decide +kernel, rfl, by decide +kernel, by decide +kernel⟩
def m__law_stand : SS := (sSeq (sSet 2 (eThen (eCons (eC (.int 0)) (eCons (eC (.int 1)) (eCons (eC (.int 2)) eNil))) kTup))
  (sSeq (sFor (iRg1 (eCons (eCall f__law_draw (eCons (eVar 0) (eCons (eC (.int 7)) eNil))) eNil)) (gN 3) (sSet 2 (eCall f__law_rolled (eCons (eVar 2) (eCons (eIx (eC (.str "ensw")) (eCall f__law_draw (eCons (eVar 0) (eCons (eC (.int 4)) eNil)))) eNil)))))
  (sRet (eThen (eCons (eIx (eVar 1) (eCall f__law_draw (eCons (eVar 0) (eCons (eThen (eCons (eVar 1) eNil) (kE oLen)) eNil)))) (eCons (eVar 2) eNil)) kTup))))
def f__law_stand : FnD := runFn 4 m__law_stand
theorem p__law_stand {P : Program} {w : World} {K : PySem.W.Frag} {mg : Str → Option Value} {base : Heap} (at_ : At0 K mg "_law_stand" s__law_stand ["_law_pen_here", "_law_floor_here"]) (h__law_draw : Has P w K mg base "_law_draw" 2 f__law_draw 1) (h__law_rolled : Has P w K mg base "_law_rolled" 2 f__law_rolled 1) (z_range : mg "range" = none) (z_len : mg "len" = none) : Has P w K mg base "_law_stand" 2 f__law_stand 2 := by
  have nd := sc__law_stand.nd
  refine has_of (b := m__law_stand) (N := N__law_stand) (k := 1) at_ sc__law_stand rfl fun f cdv A outer s H E hr => ?_
  exact (ss_cons (s_set (i := 2) nd rfl (.inl rfl) (e_tup (a_cons k_int (a_cons k_int (a_cons k_int a_nil)))))
    (ss_cons (s_for PassesOwn.never rfl (i_rg1 (by rfl) z_range (a_cons (e_fn h__law_draw (hr.mono (by decide)) (lenA_cons (lenA_cons lenA_nil)) (a_cons (e_var (pv 0)) (a_cons k_int a_nil))) a_nil)) (g_name (i := 3) nd rfl (.inl rfl)) (ss_one (s_set (i := 2) nd rfl (.inl rfl) (e_fn h__law_rolled (hr.mono (by decide)) (lenA_cons (lenA_cons lenA_nil)) (a_cons (e_var (pv 2)) (a_cons (x_ix k_str (e_fn h__law_draw (hr.mono (by decide)) (lenA_cons (lenA_cons lenA_nil)) (a_cons (e_var (pv 0)) (a_cons k_int a_nil)))) a_nil))))))
    (ss_one (s_ret (e_tup (a_cons (x_ix (e_var (pv 1)) (e_fn h__law_draw (hr.mono (by decide)) (lenA_cons (lenA_cons lenA_nil)) (a_cons (e_var (pv 0)) (a_cons (x_blt (w_len rfl hr) z_len (a_cons (e_var (pv 1)) a_nil)) a_nil)))) (a_cons (e_var (pv 2)) a_nil)))))))
abbrev s__law_walk : Stmt := topS 73
abbrev N__law_walk : List Str := ["_law_pen_here", "_law_floor_here", "_law_cell", "_law_most", "_law_found", "_law_turn", "_law_some", "_law_letter"]
theorem sc__law_walk : FnScope N__law_walk ["_law_pen_here", "_law_floor_here", "_law_cell", "_law_most"] (defScope s__law_walk) := ⟨rfl, rfl, rfl, by decide +kernel, rfl, by decide +kernel, by decide +kernel⟩
def m__law_walk : SS := (sSeq (sSet 4 (eC (.str "")))
  (sSeq (sFor (iRg1 (eCons (eCall f__law_draw (eCons (eVar 0) (eCons (eAdd (eVar 3) (eC (.int 1))) eNil))) eNil)) (gN 5) (sSeq (sSet 6 (eLc (iSeq (eC (.str "ensw"))) (gN 7) (bT (eIn (eCall f__law_beside (eCons (eVar 2) (eCons (eVar 7) eNil))) (eVar 1))) (eVar 7) [7]))
  (sIf (bT (eNe (eVar 6) (eThen eNil kLst))) (sSeq (sSet 7 (eIx (eVar 6) (eCall f__law_draw (eCons (eVar 0) (eCons (eThen (eCons (eVar 6) eNil) (kE oLen)) eNil)))))
  (sParN [4, 2] (eCons (eAdd (eVar 4) (eVar 7)) (eCons (eCall f__law_beside (eCons (eVar 2) (eCons (eVar 7) eNil))) eNil)))) sPass)))
  (sRet (eVar 4))))
def f__law_walk : FnD := runFn 8 m__law_walk
theorem p__law_walk {P : Program} {w : World} {K : PySem.W.Frag} {mg : Str → Option Value} {base : Heap} (at_ : At0 K mg "_law_walk" s__law_walk ["_law_pen_here", "_law_floor_here", "_law_cell", "_law_most"]) (h__law_draw : Has P w K mg base "_law_draw" 2 f__law_draw 1) (h__law_beside : Has P w K mg base "_law_beside" 2 f__law_beside 1) (z_range : mg "range" = none) (z_len : mg "len" = none) : Has P w K mg base "_law_walk" 4 f__law_walk 2 := by
  have nd := sc__law_walk.nd
  refine has_of (b := m__law_walk) (N := N__law_walk) (k := 1) at_ sc__law_walk rfl fun f cdv A outer s H E hr => ?_
  exact (ss_cons (s_set (i := 4) nd rfl (.inl rfl) k_str)
    (ss_cons (s_for PassesOwn.never rfl (i_rg1 (by rfl) z_range (a_cons (e_fn h__law_draw (hr.mono (by decide)) (lenA_cons (lenA_cons lenA_nil)) (a_cons (e_var (pv 0)) (a_cons (x_add (e_var (pv 3)) k_int) a_nil))) a_nil)) (g_name (i := 5) nd rfl (.inl rfl)) (ss_cons (x_setLc (i := 6) [("_law_letter", 7)] rfl nd rfl rfl rfl (sw_true rfl rfl rfl (by decide +kernel)) (i_seq k_str) (blkOk_by (N := N__law_walk) (sc := defScope s__law_walk) (by decide +kernel)) (only_gN (by decide)) (fun _ _ _ _ _ => (v_name (i := 7) (by decide) nd rfl (.inl rfl))) (fun _ _ _ _ _ => (ts_one (y_cmp (q_in hr) (e_fn h__law_beside (hr.mono (by decide)) (lenA_cons (lenA_cons lenA_nil)) (a_cons (e_var (pv 2)) (a_cons (e_var (pv 7)) a_nil))) (e_var (pv 1))))) (fun _ _ _ _ _ => (e_var (pv 7))))
    (ss_one (s_if (y_cmp (q_ne hr) (e_var (pv 6)) (e_lst a_nil)) (ss_cons (s_set (i := 7) nd rfl (.inl rfl) (x_ix (e_var (pv 6)) (e_fn h__law_draw (hr.mono (by decide)) (lenA_cons (lenA_cons lenA_nil)) (a_cons (e_var (pv 0)) (a_cons (x_blt (w_len rfl hr) z_len (a_cons (e_var (pv 6)) a_nil)) a_nil)))))
    (ss_one (s_parN rfl (a_cons (x_add (e_var (pv 4)) (e_var (pv 7))) (a_cons (e_fn h__law_beside (hr.mono (by decide)) (lenA_cons (lenA_cons lenA_nil)) (a_cons (e_var (pv 2)) (a_cons (e_var (pv 7)) a_nil))) a_nil)) (ns_cons (pg_name (i := 4) nd rfl (.inl rfl)) (ns_cons (pg_name (i := 2) nd rfl (.inr rfl)) ns_nil))))) ss_nil))))
    (ss_one (s_ret (e_var (pv 4))))))
abbrev s__law_back_to : Stmt := topS 74
abbrev N__law_back_to : List Str := ["_law_floor_here", "_law_cell", "_law_goal", "_law_found", "_law_waiting", "_law_here", "_law_letter", "_law_other"]
theorem sc__law_back_to : FnScope N__law_back_to ["_law_floor_here", "_law_cell", "_law_goal"] (defScope s__law_back_to) := ⟨rfl, rfl, rfl, by decide +kernel, rfl, by decide +kernel, by decide +kernel⟩
noncomputable def m__law_back_to : SS := (sSeq (sPar 3 4 (eCons (eDisp [((eVar 1), (eC (.str "")))]) (eCons (eThen (eCons (eVar 1) eNil) kLst) eNil)))
  (sSeq (sWhile (bT (eDi true (eVar 2) (eVar 3))) (sSeq (sSet 5 (eBM isL (eVar 4) (eCons (eC (.int 0)) eNil) kPop0))
  (sFor (iSeq (eC (.str "ensw"))) (gN 6) (sSeq (sSet 7 (eCall f__law_beside (eCons (eVar 5) (eCons (eVar 6) eNil))))
  (sIf (bAnd (bT (eIn (eVar 7) (eVar 0))) (bT (eDi true (eVar 7) (eVar 3)))) (sSeq (sAsg (eAdd (eDg (eVar 3) (eVar 5)) (eVar 6)) (gDs (eVar 3) (eVar 7)))
  (sExpr (eBM isL (eVar 4) (eCons (eVar 7) eNil) kAppend))) sPass)))))
  (sRet (eDg (eVar 3) (eVar 2)))))
noncomputable def f__law_back_to : FnD := runFn 8 m__law_back_to
theorem p__law_back_to {P : Program} {w : World} {K : PySem.W.Frag} {mg : Str → Option Value} {base : Heap} (at_ : At0 K mg "_law_back_to" s__law_back_to ["_law_floor_here", "_law_cell", "_law_goal"]) (h__law_beside : Has P w K mg base "_law_beside" 2 f__law_beside 1) : Has P w K mg base "_law_back_to" 3 f__law_back_to 2 := by
  have nd := sc__law_back_to.nd
  refine has_of (b := m__law_back_to) (N := N__law_back_to) (k := 1) at_ sc__law_back_to rfl fun f cdv A outer s H E hr => ?_
  exact (ss_cons (s_par (i := 3) (j := 4) rfl nd rfl rfl (by decide) rfl rfl (a_cons (e_disp (u9 hr) (ds_cons (e_var (pv 1)) k_str ds_nil)) (a_cons (e_lst (a_cons (e_var (pv 1)) a_nil)) a_nil)) rfl)
    (ss_cons (s_while PassesOwn.never (y_dni (u9 hr) (e_var (pv 2)) (e_var (pv 3))) (ss_cons (s_set (i := 5) nd rfl (.inl rfl) (m_pop0 (e_var (pv 4)) (a_cons k_int a_nil)))
    (ss_one (s_for PassesOwn.never rfl (i_seq k_str) (g_name (i := 6) nd rfl (.inl rfl)) (ss_cons (s_set (i := 7) nd rfl (.inl rfl) (e_fn h__law_beside (hr.mono (by decide)) (lenA_cons (lenA_cons lenA_nil)) (a_cons (e_var (pv 5)) (a_cons (e_var (pv 6)) a_nil))))
    (ss_one (s_if (PW.pt (b_and (y_cmp (q_in hr) (e_var (pv 7)) (e_var (pv 0))) (b_and1 (y_dni (u9 hr) (e_var (pv 7)) (e_var (pv 3)))))) (ss_cons (s_asg (x_add (e_dg (u9 hr) (e_var (pv 3)) (e_var (pv 5))) (e_var (pv 6))) (g_dsub (u9 hr) (e_var (pv 3)) (e_var (pv 7))))
    (ss_one (s_expr (m_append (e_var (pv 4)) (a_cons (e_var (pv 7)) a_nil))))) ss_nil)))))))
    (ss_one (s_ret (e_dg (u9 hr) (e_var (pv 3)) (e_var (pv 2)))))))
abbrev s__law_closed : Stmt := topS 75
abbrev N__law_closed : List Str := ["_law_pen_here", "_law_floor_here", "_law_stand_here", "_law_most", "_law_row", "_law_end", "_law_letter"]
theorem sc__law_closed : FnScope N__law_closed ["_law_pen_here", "_law_floor_here", "_law_stand_here", "_law_most"] (defScope s__law_closed) := ⟨rfl, rfl, rfl, by decide +kernel, rfl, by decide +kernel, by decide +kernel⟩
noncomputable def m__law_closed : SS := (sSeq (sSet 4 (eCall f__law_walk (eCons (eVar 0) (eCons (eVar 1) (eCons (eIx (eVar 2) (eC (.int 0))) (eCons (eVar 3) eNil))))))
  (sSeq (sSet 5 (eIx (eVar 2) (eC (.int 0))))
  (sSeq (sFor (iSeq (eVar 4)) (gN 6) (sSet 5 (eCall f__law_beside (eCons (eVar 5) (eCons (eVar 6) eNil)))))
  (sSeq (sIf (bT (eEq (eCall f__law_draw (eCons (eVar 0) (eCons (eC (.int 2)) eNil))) (eC (.int 0)))) (sRet (eAdd (eVar 4) (eCall f__law_back_to (eCons (eVar 1) (eCons (eVar 5) (eCons (eIx (eVar 2) (eC (.int 0))) eNil)))))) sPass)
  (sRet (eAdd (eVar 4) (eBM isS (eC (.str "")) (eCons (eLc (iSeq (eRevS (eVar 4))) (gN 6) bYes (eIx (eC (.str "wsne")) (eBM isS (eC (.str "ensw")) (eCons (eVar 6) eNil) (kE oSix))) [6]) eNil) (kE oJoin))))))))
noncomputable def f__law_closed : FnD := runFn 7 m__law_closed
theorem p__law_closed {P : Program} {w : World} {K : PySem.W.Frag} {mg : Str → Option Value} {base : Heap} (at_ : At0 K mg "_law_closed" s__law_closed ["_law_pen_here", "_law_floor_here", "_law_stand_here", "_law_most"]) (h__law_walk : Has P w K mg base "_law_walk" 4 f__law_walk 2) (h__law_beside : Has P w K mg base "_law_beside" 2 f__law_beside 1) (h__law_draw : Has P w K mg base "_law_draw" 2 f__law_draw 1) (h__law_back_to : Has P w K mg base "_law_back_to" 3 f__law_back_to 2) : Has P w K mg base "_law_closed" 4 f__law_closed 3 := by
  have nd := sc__law_closed.nd
  refine has_of (b := m__law_closed) (N := N__law_closed) (k := 2) at_ sc__law_closed rfl fun f cdv A outer s H E hr => ?_
  exact (ss_cons (s_set (i := 4) nd rfl (.inl rfl) (e_fn h__law_walk (hr.mono (by decide)) (lenA_cons (lenA_cons (lenA_cons (lenA_cons lenA_nil)))) (a_cons (e_var (pv 0)) (a_cons (e_var (pv 1)) (a_cons (x_ix (e_var (pv 2)) k_int) (a_cons (e_var (pv 3)) a_nil))))))
    (ss_cons (s_set (i := 5) nd rfl (.inl rfl) (x_ix (e_var (pv 2)) k_int))
    (ss_cons (s_for PassesOwn.never rfl (i_seq (e_var (pv 4))) (g_name (i := 6) nd rfl (.inl rfl)) (ss_one (s_set (i := 5) nd rfl (.inl rfl) (e_fn h__law_beside (hr.mono (by decide)) (lenA_cons (lenA_cons lenA_nil)) (a_cons (e_var (pv 5)) (a_cons (e_var (pv 6)) a_nil))))))
    (ss_cons (s_if (y_cmp (q_eq hr) (e_fn h__law_draw (hr.mono (by decide)) (lenA_cons (lenA_cons lenA_nil)) (a_cons (e_var (pv 0)) (a_cons k_int a_nil))) k_int) (ss_one (s_ret (x_add (e_var (pv 4)) (e_fn h__law_back_to (hr.mono (by decide)) (lenA_cons (lenA_cons (lenA_cons lenA_nil))) (a_cons (e_var (pv 1)) (a_cons (e_var (pv 5)) (a_cons (x_ix (e_var (pv 2)) k_int) a_nil))))))) ss_nil)
    (ss_one (s_ret (x_add (e_var (pv 4)) (m_join k_str (a_cons (x_lc [("_law_letter", 6)] rfl nd rfl (i_seq (e_revS (e_var (pv 4)))) (blkOk_by (N := N__law_closed) (sc := defScope s__law_closed) (by decide +kernel)) (only_gN (by decide)) (fun _ _ _ _ _ => (v_name (i := 6) (by decide) nd rfl (.inl rfl))) (fun _ _ _ _ _ => ts_yes) (fun _ _ _ _ _ => (x_ix k_str (m_six k_str (a_cons (e_var (pv 6)) a_nil))))) a_nil)))))))))
abbrev s__law_noted : Stmt := topS 76
abbrev N__law_noted : List Str := ["_law_floor_here", "_law_stand_here", "_law_row", "_law_cells", "_law_first", "_law_here", "_law_found", "_law_rolls_here", "_law_lap", "_law_letter", "_law_cell"]
theorem sc__law_noted : FnScope N__law_noted ["_law_floor_here", "_law_stand_here", "_law_row", "_law_cells"] (defScope s__law_noted) := ⟨rfl, rfl, rfl, by decide +kernel, rfl, by decide +kernel, by decide +kernel⟩
def m__law_noted : SS := (sSeq (sSet 4 (eThen (eCons (eVar 1) (eCons (eTrg (eCons (eAdd (eC (.int 6)) (eThen (eCons (eVar 0) eNil) (kE oLen))) eNil)) eNil)) kTup))
  (sSeq (sPar3 5 6 7 (eCons (eVar 4) (eCons eDnew (eCons (eC (.int 0)) eNil))))
  (sSeq (sFor (iRg1 (eCons (eC (.int 400)) eNil)) (gN 8) (sSeq (sFor (iSeq (eAdd (eVar 2) (eMul2 (eC (.str ".")) (eThen (eCons (eEq (eVar 2) (eC (.str ""))) eNil) (kE oInt1))))) (gN 9) (sSeq (sFor (iSeq (eVar 3)) (gN 10) (sExpr (eSdf (eVar 6) (eIx (eIx (eVar 5) (eC (.int 1))) (eAdd (eC (.int 6)) (eBM isNt (eVar 0) (eCons (eVar 10) eNil) kIxT))) (eVar 7))))
  (sSeq (sSet 5 (eIf (bT (eNe (eVar 9) (eC (.str ".")))) (eCall f__law_rolls (eCons (eVar 0) (eCons (eIx (eVar 5) (eC (.int 0))) (eCons (eVar 9) (eCons (eIx (eVar 5) (eC (.int 1))) eNil))))) (eVar 5)))
  (sSet 7 (eAdd (eVar 7) (eC (.int 1)))))))
  (sIf (bT (eEq (eVar 5) (eVar 4))) (sRet (eVar 6)) sPass)))
  (sRet (eVar 6)))))
def f__law_noted : FnD := runFn 11 m__law_noted
theorem p__law_noted {P : Program} {w : World} {K : PySem.W.Frag} {mg : Str → Option Value} {base : Heap} (at_ : At0 K mg "_law_noted" s__law_noted ["_law_floor_here", "_law_stand_here", "_law_row", "_law_cells"]) (h__law_rolls : Has P w K mg base "_law_rolls" 4 f__law_rolls 2) (z_tuple : mg "tuple" = none) (z_range : mg "range" = none) (z_len : mg "len" = none) (z_int : mg "int" = none) : Has P w K mg base "_law_noted" 4 f__law_noted 3 := by
  have nd := sc__law_noted.nd
  refine has_of (b := m__law_noted) (N := N__law_noted) (k := 2) at_ sc__law_noted rfl fun f cdv A outer s H E hr => ?_
  exact (ss_cons (s_set (i := 4) nd rfl (.inl rfl) (e_tup (a_cons (e_var (pv 1)) (a_cons (x_trg1 z_tuple z_range (x_add k_int (x_blt (w_len rfl hr) z_len (a_cons (e_var (pv 0)) a_nil)))) a_nil))))
    (ss_cons (s_par3 (i := 5) (j := 6) (l := 7) rfl nd rfl rfl rfl (by decide) (by decide) (by decide) rfl rfl rfl (a_cons (e_var (pv 4)) (a_cons x_dnew (a_cons k_int a_nil))) rfl)
    (ss_cons (s_for PassesOwn.never rfl (i_rg1 (by rfl) z_range (a_cons k_int a_nil)) (g_name (i := 8) nd rfl (.inl rfl)) (ss_cons (s_for PassesOwn.never rfl (i_seq (x_add (e_var (pv 2)) (x_mul2 k_str (x_bty (w_int rfl hr) z_int (a_cons (x_cmp (q_eq hr) (e_var (pv 2)) k_str) a_nil))))) (g_name (i := 9) nd rfl (.inl rfl)) (ss_cons (s_for PassesOwn.never rfl (i_seq (e_var (pv 3))) (g_name (i := 10) nd rfl (.inl rfl)) (ss_one (s_expr (e_sdf (e_var (pv 6)) (x_ix (x_ix (e_var (pv 5)) k_int) (x_add k_int (e_tix (u65 hr) (e_var (pv 0)) (a_cons (e_var (pv 10)) a_nil)))) (e_var (pv 7))))))
    (ss_cons (s_set (i := 5) nd rfl (.inl rfl) (e_if (y_cmp (q_ne hr) (e_var (pv 9)) k_str) (e_fn h__law_rolls (hr.mono (by decide)) (lenA_cons (lenA_cons (lenA_cons (lenA_cons lenA_nil)))) (a_cons (e_var (pv 0)) (a_cons (x_ix (e_var (pv 5)) k_int) (a_cons (e_var (pv 9)) (a_cons (x_ix (e_var (pv 5)) k_int) a_nil))))) (e_var (pv 5))))
    (ss_one (s_set (i := 7) nd rfl (.inl rfl) (x_add (e_var (pv 7)) k_int))))))
    (ss_one (s_if (y_cmp (q_eq hr) (e_var (pv 5)) (e_var (pv 4))) (ss_one (s_ret (e_var (pv 6)))) ss_nil))))
    (ss_one (s_ret (e_var (pv 6)))))))
abbrev s_need_let : Stmt := topS 31
abbrev N_need_let : List Str := ["floor", "cell", "row"]
theorem sc_need_let : FnScope N_need_let ["floor", "cell", "row"] (defScope s_need_let) := ⟨rfl, rfl, rfl, by decide +kernel, rfl, by decide +kernel, by decide +kernel⟩
def m_need_let : SS := (sIf (bT (eIsn (eCall f_place_off (eCons (eVar 0) (eCons (eVar 1) (eCons (eVar 2) eNil)))) (eC .none))) sNever sPass)
def f_need_let : FnD := runFn 3 m_need_let
theorem p_need_let {P : Program} {w : World} {K : PySem.W.Frag} {mg : Str → Option Value} {base : Heap} (at_ : At0 K mg "need_let" s_need_let ["floor", "cell", "row"]) (h_place_off : Has P w K mg base "place_off" 3 f_place_off 2) : Has P w K mg base "need_let" 3 f_need_let 3 := by
  have nd := sc_need_let.nd
  refine has_of (b := m_need_let) (N := N_need_let) (k := 2) at_ sc_need_let rfl fun f cdv A outer s H E hr => ?_
  exact (ss_one (s_if (y_cmp (q_isn hr) (e_fn h_place_off (hr.mono (by decide)) (lenA_cons (lenA_cons (lenA_cons lenA_nil))) (a_cons (e_var (pv 0)) (a_cons (e_var (pv 1)) (a_cons (e_var (pv 2)) a_nil)))) k_non) (ss_one s_never) ss_nil))
abbrev s_stand_behind : Stmt := topS 36
abbrev N_stand_behind : List Str := ["floor", "cell", "lying", "row", "stand", "letter"]
theorem sc_stand_behind : FnScope N_stand_behind ["floor", "cell", "lying", "row"] (defScope s_stand_behind) := ⟨rfl, rfl, rfl, by decide +kernel, rfl, by decide +kernel, by decide +kernel⟩
def m_stand_behind : SS := (sSeq (sExpr (eCall f_need_floor (eCons (eVar 0) eNil)))
  (sSeq (sExpr (eCall f_need_cell (eCons (eVar 0) (eCons (eVar 1) eNil))))
  (sSeq (sExpr (eCall f_need_lying (eCons (eVar 2) eNil)))
  (sSeq (sExpr (eCall f_need_row (eCons (eVar 3) eNil)))
  (sSeq (sExpr (eCall f_need_let (eCons (eVar 0) (eCons (eVar 1) (eCons (eVar 3) eNil)))))
  (sSeq (sSet 4 (eThen (eCons (eVar 1) (eCons (eVar 2) eNil)) kTup))
  (sSeq (sFor (iSeq (eVar 3)) (gN 5) (sSet 4 (eCall f_rolled_stand (eCons (eVar 4) (eCons (eVar 5) eNil)))))
  (sRet (eVar 4)))))))))
def f_stand_behind : FnD := runFn 6 m_stand_behind
theorem p_stand_behind {P : Program} {w : World} {K : PySem.W.Frag} {mg : Str → Option Value} {base : Heap} (at_ : At0 K mg "stand_behind" s_stand_behind ["floor", "cell", "lying", "row"]) (h_need_floor : Has P w K mg base "need_floor" 1 f_need_floor 4) (h_need_cell : Has P w K mg base "need_cell" 2 f_need_cell 4) (h_need_lying : Has P w K mg base "need_lying" 1 f_need_lying 3) (h_need_row : Has P w K mg base "need_row" 1 f_need_row 3) (h_need_let : Has P w K mg base "need_let" 3 f_need_let 3) (h_rolled_stand : Has P w K mg base "rolled_stand" 2 f_rolled_stand 2) : Has P w K mg base "stand_behind" 4 f_stand_behind 5 := by
  have nd := sc_stand_behind.nd
  refine has_of (b := m_stand_behind) (N := N_stand_behind) (k := 4) at_ sc_stand_behind rfl fun f cdv A outer s H E hr => ?_
  exact (ss_cons (s_expr (e_fn h_need_floor (hr.mono (by decide)) (lenA_cons lenA_nil) (a_cons (e_var (pv 0)) a_nil)))
    (ss_cons (s_expr (e_fn h_need_cell (hr.mono (by decide)) (lenA_cons (lenA_cons lenA_nil)) (a_cons (e_var (pv 0)) (a_cons (e_var (pv 1)) a_nil))))
    (ss_cons (s_expr (e_fn h_need_lying (hr.mono (by decide)) (lenA_cons lenA_nil) (a_cons (e_var (pv 2)) a_nil)))
    (ss_cons (s_expr (e_fn h_need_row (hr.mono (by decide)) (lenA_cons lenA_nil) (a_cons (e_var (pv 3)) a_nil)))
    (ss_cons (s_expr (e_fn h_need_let (hr.mono (by decide)) (lenA_cons (lenA_cons (lenA_cons lenA_nil))) (a_cons (e_var (pv 0)) (a_cons (e_var (pv 1)) (a_cons (e_var (pv 3)) a_nil)))))
    (ss_cons (s_set (i := 4) nd rfl (.inl rfl) (e_tup (a_cons (e_var (pv 1)) (a_cons (e_var (pv 2)) a_nil))))
    (ss_cons (s_for PassesOwn.never rfl (i_seq (e_var (pv 3))) (g_name (i := 5) nd rfl (.inl rfl)) (ss_one (s_set (i := 4) nd rfl (.inl rfl) (e_fn h_rolled_stand (hr.mono (by decide)) (lenA_cons (lenA_cons lenA_nil)) (a_cons (e_var (pv 4)) (a_cons (e_var (pv 5)) a_nil))))))
    (ss_one (s_ret (e_var (pv 4)))))))))))
abbrev s_exchange : Stmt := topS 49
abbrev N_exchange : List Str := ["floor", "stand", "row"]
theorem sc_exchange : FnScope N_exchange ["floor", "stand", "row"] (defScope s_exchange) := ⟨rfl, rfl, rfl, by decide +kernel, rfl, by decide +kernel, by decide +kernel⟩
def m_exchange : SS := (sSeq (sExpr (eCall f_need_floor (eCons (eVar 0) eNil)))
  (sSeq (sExpr (eCall f_need_stand (eCons (eVar 0) (eCons (eVar 1) eNil))))
  (sSeq (sExpr (eCall f_need_row (eCons (eVar 2) eNil)))
  (sSeq (sExpr (eCall f_need_let (eCons (eVar 0) (eCons (eIx (eVar 1) (eC (.int 0))) (eCons (eVar 2) eNil)))))
  (sRet (eCall f_exchange_by (eCons (eCall f_trades (eCons (eVar 0) (eCons (eVar 1) (eCons (eVar 2) eNil)))) (eCons (eCall f_spots_of (eCons (eVar 0) eNil)) eNil))))))))
def f_exchange : FnD := runFn 3 m_exchange
theorem p_exchange {P : Program} {w : World} {K : PySem.W.Frag} {mg : Str → Option Value} {base : Heap} (at_ : At0 K mg "exchange" s_exchange ["floor", "stand", "row"]) (h_need_floor : Has P w K mg base "need_floor" 1 f_need_floor 4) (h_need_stand : Has P w K mg base "need_stand" 2 f_need_stand 5) (h_need_row : Has P w K mg base "need_row" 1 f_need_row 3) (h_need_let : Has P w K mg base "need_let" 3 f_need_let 3) (h_exchange_by : Has P w K mg base "exchange_by" 2 f_exchange_by 2) (h_spots_of : Has P w K mg base "spots_of" 1 f_spots_of 1) (h_trades : Has P w K mg base "trades" 3 f_trades 3) : Has P w K mg base "exchange" 3 f_exchange 6 := by
  have nd := sc_exchange.nd
  refine has_of (b := m_exchange) (N := N_exchange) (k := 5) at_ sc_exchange rfl fun f cdv A outer s H E hr => ?_
  exact (ss_cons (s_expr (e_fn h_need_floor (hr.mono (by decide)) (lenA_cons lenA_nil) (a_cons (e_var (pv 0)) a_nil)))
    (ss_cons (s_expr (e_fn h_need_stand (hr.mono (by decide)) (lenA_cons (lenA_cons lenA_nil)) (a_cons (e_var (pv 0)) (a_cons (e_var (pv 1)) a_nil))))
    (ss_cons (s_expr (e_fn h_need_row (hr.mono (by decide)) (lenA_cons lenA_nil) (a_cons (e_var (pv 2)) a_nil)))
    (ss_cons (s_expr (e_fn h_need_let (hr.mono (by decide)) (lenA_cons (lenA_cons (lenA_cons lenA_nil))) (a_cons (e_var (pv 0)) (a_cons (x_ix (e_var (pv 1)) k_int) (a_cons (e_var (pv 2)) a_nil)))))
    (ss_one (s_ret (e_fn h_exchange_by (hr.mono (by decide)) (lenA_cons (lenA_cons lenA_nil)) (a_cons (e_fn h_trades (hr.mono (by decide)) (lenA_cons (lenA_cons (lenA_cons lenA_nil))) (a_cons (e_var (pv 0)) (a_cons (e_var (pv 1)) (a_cons (e_var (pv 2)) a_nil)))) (a_cons (e_fn h_spots_of (hr.mono (by decide)) (lenA_cons lenA_nil) (a_cons (e_var (pv 0)) a_nil)) a_nil)))))))))
abbrev s_turn_plays : Stmt := topS 54
abbrev N_turn_plays : List Str := ["floor", "stand", "row", "cell", "lying", "plays", "here"]
theorem sc_turn_plays : FnScope N_turn_plays ["floor", "stand", "row"] (defScope s_turn_plays) := ⟨rfl, rfl, rfl, by decide +kernel, rfl, by decide +kernel, by decide +kernel⟩
noncomputable def m_turn_plays : SS := (sSeq (sAsg (eVar 1) (gT 2 (gCn (gN 3) (gCn (gN 4) gNl))))
  (sSeq (sSet 5 (eC (.int 1)))
  (sSeq (sSet 6 (eCall f_stand_behind (eCons (eVar 0) (eCons (eVar 3) (eCons (eVar 4) (eCons (eVar 2) eNil))))))
  (sSeq (sWhile (bT (eNe (eVar 6) (eVar 1))) (sSeq (sSet 6 (eCall f_stand_behind (eCons (eVar 0) (eCons (eVar 3) (eCons (eIx (eVar 6) (eC (.int 1))) (eCons (eVar 2) eNil))))))
  (sAug 5 (eC (.int 1)))))
  (sRet (eVar 5))))))
noncomputable def f_turn_plays : FnD := runFn 7 m_turn_plays
theorem p_turn_plays {P : Program} {w : World} {K : PySem.W.Frag} {mg : Str → Option Value} {base : Heap} (at_ : At0 K mg "turn_plays" s_turn_plays ["floor", "stand", "row"]) (h_stand_behind : Has P w K mg base "stand_behind" 4 f_stand_behind 5) : Has P w K mg base "turn_plays" 3 f_turn_plays 6 := by
  have nd := sc_turn_plays.nd
  refine has_of (b := m_turn_plays) (N := N_turn_plays) (k := 5) at_ sc_turn_plays rfl fun f cdv A outer s H E hr => ?_
  exact (ss_cons (s_asg (e_var (pv 1)) (g_tup rfl (gs_cons (g_name (i := 3) nd rfl (.inl rfl)) (gs_cons (g_name (i := 4) nd rfl (.inl rfl)) gs_nil))))
    (ss_cons (s_set (i := 5) nd rfl (.inl rfl) k_int)
    (ss_cons (s_set (i := 6) nd rfl (.inl rfl) (e_fn h_stand_behind (hr.mono (by decide)) (lenA_cons (lenA_cons (lenA_cons (lenA_cons lenA_nil)))) (a_cons (e_var (pv 0)) (a_cons (e_var (pv 3)) (a_cons (e_var (pv 4)) (a_cons (e_var (pv 2)) a_nil))))))
    (ss_cons (s_while PassesOwn.never (y_cmp (q_ne hr) (e_var (pv 6)) (e_var (pv 1))) (ss_cons (s_set (i := 6) nd rfl (.inl rfl) (e_fn h_stand_behind (hr.mono (by decide)) (lenA_cons (lenA_cons (lenA_cons (lenA_cons lenA_nil)))) (a_cons (e_var (pv 0)) (a_cons (e_var (pv 3)) (a_cons (x_ix (e_var (pv 6)) k_int) (a_cons (e_var (pv 2)) a_nil))))))
    (ss_one (s_aug (i := 5) nd rfl (.inl rfl) k_int))))
    (ss_one (s_ret (e_var (pv 5))))))))
abbrev s_rolls_seen : Stmt := topS 59
abbrev N_rolls_seen : List Str := ["floor", "stand", "row", "cells", "spot", "turn", "traded", "watched", "turns", "here", "beat", "cell"]
theorem sc_rolls_seen : FnScope N_rolls_seen ["floor", "stand", "row", "cells", "spot"] (defScope s_rolls_seen) := ⟨rfl, rfl, rfl, by decide +kernel, rfl, by decide +kernel, by decide +kernel⟩
noncomputable def m_rolls_seen : SS := (sSeq (sSet 5 (eMul2 (eVar 2) (eCall f_turn_plays (eCons (eVar 0) (eCons (eVar 1) (eCons (eVar 2) eNil))))))
  (sSeq (sSet 6 (eCall f_trades (eCons (eVar 0) (eCons (eVar 1) (eCons (eVar 5) eNil)))))
  (sSeq (sSet 7 (eLc (iSeq (eVar 3)) (gN 11) bYes (eCall f_spot_of_cell (eCons (eVar 0) (eCons (eVar 11) eNil))) [11]))
  (sSeq (sFor (iEnT (eCall f_round_from (eCons (eCall f_exchange (eCons (eVar 0) (eCons (eVar 1) (eCons (eVar 5) eNil)))) (eCons (eVar 4) eNil)))) (gT 2 (gCn (gN 8) (gCn (gN 9) gNl))) (sSeq (sSet 10 (eCall f_beat_seen (eCons (eVar 6) (eCons (eVar 7) (eCons (eVar 9) eNil)))))
  (sIf (bT (eIsn (eVar 10) (eC .none))) (sRet (eAdd (eMul (eVar 8) (eThen (eCons (eVar 5) eNil) (kE oLen))) (eVar 10))) sPass)))
  (sRet (eC .none))))))
noncomputable def f_rolls_seen : FnD := runFn 12 m_rolls_seen
theorem p_rolls_seen {P : Program} {w : World} {K : PySem.W.Frag} {mg : Str → Option Value} {base : Heap} (at_ : At0 K mg "rolls_seen" s_rolls_seen ["floor", "stand", "row", "cells", "spot"]) (h_turn_plays : Has P w K mg base "turn_plays" 3 f_turn_plays 6) (h_trades : Has P w K mg base "trades" 3 f_trades 3) (h_spot_of_cell : Has P w K mg base "spot_of_cell" 2 f_spot_of_cell 1) (h_round_from : Has P w K mg base "round_from" 2 f_round_from 1) (h_exchange : Has P w K mg base "exchange" 3 f_exchange 6) (h_beat_seen : Has P w K mg base "beat_seen" 3 f_beat_seen 2) (z_enumerate : mg "enumerate" = none) (z_len : mg "len" = none) : Has P w K mg base "rolls_seen" 5 f_rolls_seen 7 := by
  have nd := sc_rolls_seen.nd
  refine has_of (b := m_rolls_seen) (N := N_rolls_seen) (k := 6) at_ sc_rolls_seen rfl fun f cdv A outer s H E hr => ?_
  exact (ss_cons (s_set (i := 5) nd rfl (.inl rfl) (x_mul2 (e_var (pv 2)) (e_fn h_turn_plays (hr.mono (by decide)) (lenA_cons (lenA_cons (lenA_cons lenA_nil))) (a_cons (e_var (pv 0)) (a_cons (e_var (pv 1)) (a_cons (e_var (pv 2)) a_nil))))))
    (ss_cons (s_set (i := 6) nd rfl (.inl rfl) (e_fn h_trades (hr.mono (by decide)) (lenA_cons (lenA_cons (lenA_cons lenA_nil))) (a_cons (e_var (pv 0)) (a_cons (e_var (pv 1)) (a_cons (e_var (pv 5)) a_nil)))))
    (ss_cons (x_setLc (i := 7) [("cell", 11)] rfl nd rfl rfl rfl (sw_true rfl rfl rfl (by decide +kernel)) (i_seq (e_var (pv 3))) (blkOk_by (N := N_rolls_seen) (sc := defScope s_rolls_seen) (by decide +kernel)) (only_gN (by decide)) (fun _ _ _ _ _ => (v_name (i := 11) (by decide) nd rfl (.inl rfl))) (fun _ _ _ _ _ => ts_yes) (fun _ _ _ _ _ => (e_fn h_spot_of_cell (hr.mono (by decide)) (lenA_cons (lenA_cons lenA_nil)) (a_cons (e_var (pv 0)) (a_cons (e_var (pv 11)) a_nil)))))
    (ss_cons (s_for PassesOwn.never rfl (i_enT (by rfl) z_enumerate (e_fn h_round_from (hr.mono (by decide)) (lenA_cons (lenA_cons lenA_nil)) (a_cons (e_fn h_exchange (hr.mono (by decide)) (lenA_cons (lenA_cons (lenA_cons lenA_nil))) (a_cons (e_var (pv 0)) (a_cons (e_var (pv 1)) (a_cons (e_var (pv 5)) a_nil)))) (a_cons (e_var (pv 4)) a_nil)))) (g_tup rfl (gs_cons (g_name (i := 8) nd rfl (.inl rfl)) (gs_cons (g_name (i := 9) nd rfl (.inl rfl)) gs_nil))) (ss_cons (s_set (i := 10) nd rfl (.inl rfl) (e_fn h_beat_seen (hr.mono (by decide)) (lenA_cons (lenA_cons (lenA_cons lenA_nil))) (a_cons (e_var (pv 6)) (a_cons (e_var (pv 7)) (a_cons (e_var (pv 9)) a_nil)))))
    (ss_one (s_if (y_cmp (q_isn hr) (e_var (pv 10)) k_non) (ss_one (s_ret (x_add (x_mul (e_var (pv 8)) (x_blt (w_len rfl hr) z_len (a_cons (e_var (pv 5)) a_nil))) (e_var (pv 10))))) ss_nil))))
    (ss_one (s_ret k_non))))))
abbrev s_seen_spots : Stmt := topS 60
abbrev N_seen_spots : List Str := ["floor", "stand", "row", "cells", "spot"]
theorem sc_seen_spots : FnScope N_seen_spots ["floor", "stand", "row", "cells"] (defScope s_seen_spots) := ⟨rfl, rfl, rfl, by decide +kernel, rfl, by decide +kernel, by decide +kernel⟩
noncomputable def m_seen_spots : SS := (sSeq (sExpr (eCall f_need_floor (eCons (eVar 0) eNil)))
  (sSeq (sExpr (eCall f_need_stand (eCons (eVar 0) (eCons (eVar 1) eNil))))
  (sSeq (sExpr (eCall f_need_row (eCons (eVar 2) eNil)))
  (sSeq (sExpr (eCall f_need_cells (eCons (eVar 0) (eCons (eVar 3) eNil))))
  (sSeq (sExpr (eCall f_need_endless (eCons (eVar 0) (eCons (eIx (eVar 1) (eC (.int 0))) (eCons (eVar 2) eNil)))))
  (sRet (eThen (eCons (eLc (iSeq (eCall f_spots_of (eCons (eVar 0) eNil))) (gN 4) (bT (eIsn (eCall f_rolls_seen (eCons (eVar 0) (eCons (eVar 1) (eCons (eVar 2) (eCons (eVar 3) (eCons (eVar 4) eNil)))))) (eC .none))) (eVar 4) [4]) eNil) kTupN)))))))
noncomputable def f_seen_spots : FnD := runFn 5 m_seen_spots
theorem p_seen_spots {P : Program} {w : World} {K : PySem.W.Frag} {mg : Str → Option Value} {base : Heap} (at_ : At0 K mg "seen_spots" s_seen_spots ["floor", "stand", "row", "cells"]) (h_need_floor : Has P w K mg base "need_floor" 1 f_need_floor 4) (h_need_stand : Has P w K mg base "need_stand" 2 f_need_stand 5) (h_need_row : Has P w K mg base "need_row" 1 f_need_row 3) (h_need_cells : Has P w K mg base "need_cells" 2 f_need_cells 5) (h_need_endless : Has P w K mg base "need_endless" 3 f_need_endless 4) (h_spots_of : Has P w K mg base "spots_of" 1 f_spots_of 1) (h_rolls_seen : Has P w K mg base "rolls_seen" 5 f_rolls_seen 7) (z_tuple : mg "tuple" = none) : Has P w K mg base "seen_spots" 4 f_seen_spots 8 := by
  have nd := sc_seen_spots.nd
  refine has_of (b := m_seen_spots) (N := N_seen_spots) (k := 7) at_ sc_seen_spots rfl fun f cdv A outer s H E hr => ?_
  exact (ss_cons (s_expr (e_fn h_need_floor (hr.mono (by decide)) (lenA_cons lenA_nil) (a_cons (e_var (pv 0)) a_nil)))
    (ss_cons (s_expr (e_fn h_need_stand (hr.mono (by decide)) (lenA_cons (lenA_cons lenA_nil)) (a_cons (e_var (pv 0)) (a_cons (e_var (pv 1)) a_nil))))
    (ss_cons (s_expr (e_fn h_need_row (hr.mono (by decide)) (lenA_cons lenA_nil) (a_cons (e_var (pv 2)) a_nil)))
    (ss_cons (s_expr (e_fn h_need_cells (hr.mono (by decide)) (lenA_cons (lenA_cons lenA_nil)) (a_cons (e_var (pv 0)) (a_cons (e_var (pv 3)) a_nil))))
    (ss_cons (s_expr (e_fn h_need_endless (hr.mono (by decide)) (lenA_cons (lenA_cons (lenA_cons lenA_nil))) (a_cons (e_var (pv 0)) (a_cons (x_ix (e_var (pv 1)) k_int) (a_cons (e_var (pv 2)) a_nil)))))
    (ss_one (s_ret (x_bty (w_tuple rfl hr) z_tuple (a_cons (x_lc [("spot", 4)] rfl nd rfl (i_seq (e_fn h_spots_of (hr.mono (by decide)) (lenA_cons lenA_nil) (a_cons (e_var (pv 0)) a_nil))) (blkOk_by (N := N_seen_spots) (sc := defScope s_seen_spots) (by decide +kernel)) (only_gN (by decide)) (fun _ _ _ _ _ => (v_name (i := 4) (by decide) nd rfl (.inl rfl))) (fun _ _ _ _ _ => (ts_one (y_cmp (q_isn hr) (e_fn h_rolls_seen (hr.mono (by decide)) (lenA_cons (lenA_cons (lenA_cons (lenA_cons (lenA_cons lenA_nil))))) (a_cons (e_var (pv 0)) (a_cons (e_var (pv 1)) (a_cons (e_var (pv 2)) (a_cons (e_var (pv 3)) (a_cons (e_var (pv 4)) a_nil)))))) k_non))) (fun _ _ _ _ _ => (e_var (pv 4)))) a_nil)))))))))
abbrev s_seen_first : Stmt := topS 61
abbrev N_seen_first : List Str := ["floor", "stand", "row", "cells", "spot"]
theorem sc_seen_first : FnScope N_seen_first ["floor", "stand", "row", "cells", "spot"] (defScope s_seen_first) := ⟨rfl, rfl, rfl, by decide +kernel, rfl, by decide +kernel, by decide +kernel⟩
noncomputable def m_seen_first : SS := (sSeq (sExpr (eCall f_need_floor (eCons (eVar 0) eNil)))
  (sSeq (sExpr (eCall f_need_stand (eCons (eVar 0) (eCons (eVar 1) eNil))))
  (sSeq (sExpr (eCall f_need_row (eCons (eVar 2) eNil)))
  (sSeq (sExpr (eCall f_need_cells (eCons (eVar 0) (eCons (eVar 3) eNil))))
  (sSeq (sExpr (eCall f_need_spot (eCons (eVar 0) (eCons (eVar 4) eNil))))
  (sSeq (sExpr (eCall f_need_endless (eCons (eVar 0) (eCons (eIx (eVar 1) (eC (.int 0))) (eCons (eVar 2) eNil)))))
  (sRet (eCall f_rolls_seen (eCons (eVar 0) (eCons (eVar 1) (eCons (eVar 2) (eCons (eVar 3) (eCons (eVar 4) eNil)))))))))))))
noncomputable def f_seen_first : FnD := runFn 5 m_seen_first
theorem p_seen_first {P : Program} {w : World} {K : PySem.W.Frag} {mg : Str → Option Value} {base : Heap} (at_ : At0 K mg "seen_first" s_seen_first ["floor", "stand", "row", "cells", "spot"]) (h_need_floor : Has P w K mg base "need_floor" 1 f_need_floor 4) (h_need_stand : Has P w K mg base "need_stand" 2 f_need_stand 5) (h_need_row : Has P w K mg base "need_row" 1 f_need_row 3) (h_need_cells : Has P w K mg base "need_cells" 2 f_need_cells 5) (h_need_spot : Has P w K mg base "need_spot" 2 f_need_spot 3) (h_need_endless : Has P w K mg base "need_endless" 3 f_need_endless 4) (h_rolls_seen : Has P w K mg base "rolls_seen" 5 f_rolls_seen 7) : Has P w K mg base "seen_first" 5 f_seen_first 8 := by
  have nd := sc_seen_first.nd
  refine has_of (b := m_seen_first) (N := N_seen_first) (k := 7) at_ sc_seen_first rfl fun f cdv A outer s H E hr => ?_
  exact (ss_cons (s_expr (e_fn h_need_floor (hr.mono (by decide)) (lenA_cons lenA_nil) (a_cons (e_var (pv 0)) a_nil)))
    (ss_cons (s_expr (e_fn h_need_stand (hr.mono (by decide)) (lenA_cons (lenA_cons lenA_nil)) (a_cons (e_var (pv 0)) (a_cons (e_var (pv 1)) a_nil))))
    (ss_cons (s_expr (e_fn h_need_row (hr.mono (by decide)) (lenA_cons lenA_nil) (a_cons (e_var (pv 2)) a_nil)))
    (ss_cons (s_expr (e_fn h_need_cells (hr.mono (by decide)) (lenA_cons (lenA_cons lenA_nil)) (a_cons (e_var (pv 0)) (a_cons (e_var (pv 3)) a_nil))))
    (ss_cons (s_expr (e_fn h_need_spot (hr.mono (by decide)) (lenA_cons (lenA_cons lenA_nil)) (a_cons (e_var (pv 0)) (a_cons (e_var (pv 4)) a_nil))))
    (ss_cons (s_expr (e_fn h_need_endless (hr.mono (by decide)) (lenA_cons (lenA_cons (lenA_cons lenA_nil))) (a_cons (e_var (pv 0)) (a_cons (x_ix (e_var (pv 1)) k_int) (a_cons (e_var (pv 2)) a_nil)))))
    (ss_one (s_ret (e_fn h_rolls_seen (hr.mono (by decide)) (lenA_cons (lenA_cons (lenA_cons (lenA_cons (lenA_cons lenA_nil))))) (a_cons (e_var (pv 0)) (a_cons (e_var (pv 1)) (a_cons (e_var (pv 2)) (a_cons (e_var (pv 3)) (a_cons (e_var (pv 4)) a_nil))))))))))))))
abbrev s_law : Stmt := topS 77
abbrev N_law : List Str := ["_law_script", "_law_k", "_law_pen_here", "_law_turn", "_law_floor_here", "_law_stand_here", "_law_row", "_law_some", "_law_cells", "_law_kept", "_law_found", "_law_due", "_law_spot", "_law_cell", "_law_lap"]
theorem sc_law : FnScope N_law ["_law_script"] (defScope s_law) := ⟨rfl, rfl, rfl, by decide +kernel, rfl, by decide +kernel, by decide +kernel⟩
noncomputable def m_law : SS := (sSeq (sFor (iRg1 (eCons (eThen (eCons (eC (.int 1)) (eCons (eThen (eCons (eThen (eCons (eVar 0) eNil) (kE oLen)) (eCons (eC (.int 3)) eNil)) (kE oMin)) eNil)) (kE oMax)) eNil)) (gN 1) (sSeq (sSet 2 (eCall f__law_pen (eCons (eCall f__law_cell_at (eCons (eVar 0) (eCons (eVar 1) eNil))) eNil)))
  (sFor (iRg1 (eCons (eC (.int 2)) eNil)) (gN 3) (sSeq (sSet 4 (eCall f__law_floor (eCons (eVar 2) eNil)))
  (sSeq (sSet 5 (eCall f__law_stand (eCons (eVar 2) (eCons (eVar 4) eNil))))
  (sSeq (sSet 6 (eCall f__law_closed (eCons (eVar 2) (eCons (eVar 4) (eCons (eVar 5) (eCons (eC (.int 8)) eNil))))))
  (sSeq (sSet 7 (eThen (eCons (eLc (iSeq (eVar 4)) (gN 13) (bT (eEqx (eCall f__law_draw (eCons (eVar 2) (eCons (eC (.int 3)) eNil))) (eC (.int 0)))) (eVar 13) [13]) eNil) kTupN))
  (sFor (iSeq (eThen (eCons (eVar 7) (eCons (eVar 4) eNil)) kLst)) (gN 8) (sSeq (sPar 9 10 (eCons (eThen (eCons (eThen (eCons (eVar 4) (eCons (eVar 5) (eCons (eVar 6) (eCons (eVar 8) eNil)))) kTup) eNil) (kE oReprY)) (eCons (eCall f__law_noted (eCons (eVar 4) (eCons (eVar 5) (eCons (eVar 6) (eCons (eVar 8) eNil))))) eNil)))
  (sSeq (sSet 11 (eThen (eCons (eThen (eCons (eVar 10) eNil) kSrtG) eNil) kTupN))
  (sSeq (sIf (bT (eNex (eThen (eCons (eLc (iRg1 (eCons (eC (.int 2)) eNil)) (gN 14) bYes (eCall f_seen_spots (eCons (eVar 4) (eCons (eVar 5) (eCons (eVar 6) (eCons (eVar 8) eNil))))) [14]) eNil) (kE oReprY)) (eThen (eCons (eThen (eCons (eVar 11) (eCons (eVar 11) eNil)) kLst) eNil) (kE oReprY)))) (sRet (eC (.bool false))) sPass)
  (sSeq (sFor (iSeq (eThen (eCons (eC (.int 0)) (eCons (eC (.int 5)) (eCons (eC (.int 6)) (eCons (eCall f__law_draw (eCons (eVar 2) (eCons (eAdd (eC (.int 6)) (eThen (eCons (eVar 4) eNil) (kE oLen))) eNil))) eNil)))) kLst)) (gN 12) (sIf (bT (eNex (eThen (eCons (eCall f_seen_first (eCons (eVar 4) (eCons (eVar 5) (eCons (eVar 6) (eCons (eVar 8) (eCons (eVar 12) eNil)))))) eNil) (kE oReprY)) (eThen (eCons (eGt2 (eVar 10) (eVar 12) (eC .none)) eNil) (kE oReprY)))) (sRet (eC (.bool false))) sPass))
  (sIf (bT (eNex (eThen (eCons (eThen (eCons (eVar 4) (eCons (eVar 5) (eCons (eVar 6) (eCons (eVar 8) eNil)))) kTup) eNil) (kE oReprY)) (eVar 9))) (sRet (eC (.bool false))) sPass)))))))))))))
  (sRet (eC (.bool true))))
noncomputable def f_law : FnD := runFn 15 m_law
theorem q_law {P : Program} {w : World} {K : PySem.W.Frag} {mg : Str → Option Value} {base : Heap} {f : Addr} {fd : FuncData} (Fn : Fun K "law" "law" s_law f fd) (h__law_pen : Has P w K mg base "_law_pen" 1 f__law_pen 1) (h__law_cell_at : Has P w K mg base "_law_cell_at" 2 f__law_cell_at 1) (h__law_floor : Has P w K mg base "_law_floor" 1 f__law_floor 3) (h__law_stand : Has P w K mg base "_law_stand" 2 f__law_stand 2) (h__law_closed : Has P w K mg base "_law_closed" 4 f__law_closed 3) (h__law_draw : Has P w K mg base "_law_draw" 2 f__law_draw 1) (h__law_noted : Has P w K mg base "_law_noted" 4 f__law_noted 3) (h_seen_spots : Has P w K mg base "seen_spots" 4 f_seen_spots 8) (h_seen_first : Has P w K mg base "seen_first" 5 f_seen_first 8) (z_range : mg "range" = none) (z_max : mg "max" = none) (z_min : mg "min" = none) (z_len : mg "len" = none) (z_tuple : mg "tuple" = none) (z_repr : mg "repr" = none) (z_sorted : mg "sorted" = none) : FnG P w K mg base 9 f fd ["_law_script"] (spF K f_law 1) := by
  have nd := sc_law.nd
  refine fn_okG (b := m_law) (N := N_law) (k := 8) Fn sc_law rfl fun cdv A outer s H E hr gd => ?_
  exact (ss_cons (s_for PassesOwn.never rfl (i_rg1 (by rfl) z_range (a_cons (x_blt (w_max rfl hr) z_max (a_cons k_int (a_cons (x_blt (w_min rfl hr) z_min (a_cons (x_blt (w_len rfl hr) z_len (a_cons (e_var (pv 0)) a_nil)) (a_cons k_int a_nil))) a_nil))) a_nil)) (g_name (i := 1) nd rfl (.inl rfl)) (ss_cons (s_set (i := 2) nd rfl (.inr rfl) (e_fn h__law_pen (hr.mono (by decide)) (lenA_cons lenA_nil) (a_cons (e_fn h__law_cell_at (hr.mono (by decide)) (lenA_cons (lenA_cons lenA_nil)) (a_cons (e_var (pv 0)) (a_cons (e_var (pv 1)) a_nil))) a_nil)))
    (ss_one (s_for PassesOwn.never rfl (i_rg1 (by rfl) z_range (a_cons k_int a_nil)) (g_name (i := 3) nd rfl (.inl rfl)) (ss_cons (s_set (i := 4) nd rfl (.inr rfl) (e_fn h__law_floor (hr.mono (by decide)) (lenA_cons lenA_nil) (a_cons (e_var (pv 2)) a_nil)))
    (ss_cons (s_set (i := 5) nd rfl (.inr rfl) (e_fn h__law_stand (hr.mono (by decide)) (lenA_cons (lenA_cons lenA_nil)) (a_cons (e_var (pv 2)) (a_cons (e_var (pv 4)) a_nil))))
    (ss_cons (s_set (i := 6) nd rfl (.inr rfl) (e_fn h__law_closed (hr.mono (by decide)) (lenA_cons (lenA_cons (lenA_cons (lenA_cons lenA_nil)))) (a_cons (e_var (pv 2)) (a_cons (e_var (pv 4)) (a_cons (e_var (pv 5)) (a_cons k_int a_nil))))))
    (ss_cons (s_set (i := 7) nd rfl (.inl rfl) (x_bty (w_tuple rfl hr) z_tuple (a_cons (x_lc [("_law_cell", 13)] rfl nd rfl (i_seq (e_var (pv 4))) (blkOk_by (N := N_law) (sc := defScope s_law) (by decide +kernel)) (only_gN (by decide)) (fun _ _ _ _ _ => (v_name (i := 13) (by decide) nd rfl (.inl rfl))) (fun _ _ _ _ _ => (ts_one (y_cmp (q_eqx hr) (e_fn h__law_draw (hr.mono (by decide)) (lenA_cons (lenA_cons lenA_nil)) (a_cons (e_var (pv 2)) (a_cons k_int a_nil))) k_int))) (fun _ _ _ _ _ => (e_var (pv 13)))) a_nil)))
    (ss_one (s_for PassesOwn.never rfl (i_seq (e_lst (a_cons (e_var (pv 7)) (a_cons (e_var (pv 4)) a_nil)))) (g_name (i := 8) nd rfl (.inr rfl)) (ss_cons (s_par (i := 9) (j := 10) rfl nd rfl rfl (by decide) rfl rfl (a_cons (x_blt (w_reprY gd hr) z_repr (a_cons (e_tup (a_cons (e_var (pv 4)) (a_cons (e_var (pv 5)) (a_cons (e_var (pv 6)) (a_cons (e_var (pv 8)) a_nil))))) a_nil)) (a_cons (e_fn h__law_noted (hr.mono (by decide)) (lenA_cons (lenA_cons (lenA_cons (lenA_cons lenA_nil)))) (a_cons (e_var (pv 4)) (a_cons (e_var (pv 5)) (a_cons (e_var (pv 6)) (a_cons (e_var (pv 8)) a_nil))))) a_nil)) rfl)
    (ss_cons (s_set (i := 11) nd rfl (.inl rfl) (x_bty (w_tuple rfl hr) z_tuple (a_cons (x_blt (w_srtG rfl hr) z_sorted (a_cons (e_var (pv 10)) a_nil)) a_nil)))
    (ss_cons (s_if (y_cmp (q_nex hr) (x_blt (w_reprY gd hr) z_repr (a_cons (x_lc [("_law_lap", 14)] rfl nd rfl (i_rg1 (by rfl) z_range (a_cons k_int a_nil)) (blkOk_by (N := N_law) (sc := defScope s_law) (by decide +kernel)) (only_gN (by decide)) (fun _ _ _ _ _ => (v_name (i := 14) (by decide) nd rfl (.inl rfl))) (fun _ _ _ _ _ => ts_yes) (fun _ _ _ _ _ => (e_fn h_seen_spots (hr.mono (by decide)) (lenA_cons (lenA_cons (lenA_cons (lenA_cons lenA_nil)))) (a_cons (e_var (pv 4)) (a_cons (e_var (pv 5)) (a_cons (e_var (pv 6)) (a_cons (e_var (pv 8)) a_nil))))))) a_nil)) (x_blt (w_reprY gd hr) z_repr (a_cons (e_lst (a_cons (e_var (pv 11)) (a_cons (e_var (pv 11)) a_nil))) a_nil))) (ss_one (s_ret k_bl)) ss_nil)
    (ss_cons (s_for PassesOwn.never rfl (i_seq (e_lst (a_cons k_int (a_cons k_int (a_cons k_int (a_cons (e_fn h__law_draw (hr.mono (by decide)) (lenA_cons (lenA_cons lenA_nil)) (a_cons (e_var (pv 2)) (a_cons (x_add k_int (x_blt (w_len rfl hr) z_len (a_cons (e_var (pv 4)) a_nil))) a_nil))) a_nil)))))) (g_name (i := 12) nd rfl (.inl rfl)) (ss_one (s_if (y_cmp (q_nex hr) (x_blt (w_reprY gd hr) z_repr (a_cons (e_fn h_seen_first (hr.mono (by decide)) (lenA_cons (lenA_cons (lenA_cons (lenA_cons (lenA_cons lenA_nil))))) (a_cons (e_var (pv 4)) (a_cons (e_var (pv 5)) (a_cons (e_var (pv 6)) (a_cons (e_var (pv 8)) (a_cons (e_var (pv 12)) a_nil)))))) a_nil)) (x_blt (w_reprY gd hr) z_repr (a_cons (e_gt2 (u9 hr) (e_var (pv 10)) (e_var (pv 12)) k_non) a_nil))) (ss_one (s_ret k_bl)) ss_nil)))
    (ss_one (s_if (y_cmp (q_nex hr) (x_blt (w_reprY gd hr) z_repr (a_cons (e_tup (a_cons (e_var (pv 4)) (a_cons (e_var (pv 5)) (a_cons (e_var (pv 6)) (a_cons (e_var (pv 8)) a_nil))))) a_nil)) (e_var (pv 9))) (ss_one (s_ret k_bl)) ss_nil))))))))))))))))
    (ss_one (s_ret k_bl)))
end
end L39

end
section
set_option linter.all false
set_option autoImplicit false
set_option Elab.async false
namespace MM
open PySem L2 T3
theorem pl_cell (c : Cell) : pl 1 (clD c) = true := rfl
theorem pl_row (n : Nat) (ds : List Dir) : pl n (.str (rowS ds)) = true := by
  have : PyData.strOk (rowS ds) = true := by
    simp only [PyData.strOk, rowS]
    rw [Array.all_eq_true']
    intro x hx
    simp at hx
    obtain ⟨d, _, rfl⟩ := hx
    cases d <;> decide
  cases n <;> exact this
end MM

end
section
set_option linter.all false
set_option autoImplicit false
set_option Elab.async false
namespace MM
open PySem L2 T3
theorem pl_in1 {x : PyData} {xs : List PyData} {n m : Nat} (h : pl n x = true) (h' : ∀ y ∈ xs, pl m y = true) (hn : n ≤ 50) (hm : m ≤ 50) (neg : Bool) {c : PyData} (hc : c = .tuple xs ∨ c = .list xs) (hx : x ∈ xs) : oIn neg [x, c] = some (.bool (!neg)) := by
  haveI := Classical.propDecidable (x ∈ xs)
  rw [pl_in h h' hn hm neg c hc]
  cases neg <;> simp [hx]
theorem pl_in0 {x : PyData} {xs : List PyData} {n m : Nat} (h : pl n x = true) (h' : ∀ y ∈ xs, pl m y = true) (hn : n ≤ 50) (hm : m ≤ 50) (neg : Bool) {c : PyData} (hc : c = .tuple xs ∨ c = .list xs) (hx : x ∉ xs) : oIn neg [x, c] = some (.bool neg) := by
  haveI := Classical.propDecidable (x ∈ xs)
  rw [pl_in h h' hn hm neg c hc]
  cases neg <;> simp [hx]
theorem clD_inj {a b : Cell} (h : clD a = clD b) : a = b := by
  obtain ⟨a1, a2⟩ := a
  obtain ⟨b1, b2⟩ := b
  simp [clD] at h
  rw [h.1, h.2]
theorem mem_clD {c : Cell} {F : List Cell} : clD c ∈ F.map clD ↔ c ∈ F := by
  constructor
  · intro h
    obtain ⟨d, hd, e⟩ := List.mem_map.mp h
    rw [← clD_inj e]
    exact hd
  · exact fun h => List.mem_map.mpr ⟨c, h, rfl⟩
theorem pl_cells (F : List Cell) : ∀ y ∈ F.map clD, pl 1 y = true := by
  intro y hy
  obtain ⟨c, _, rfl⟩ := List.mem_map.mp hy
  rfl
theorem ix20 (a b : PyData) : oIx [.tuple [a, b], .int 0] = some a := rfl
theorem ix21 (a b : PyData) : oIx [.tuple [a, b], .int 1] = some b := rfl
theorem Kp_put {e e' : Sl} {vs : List Nat} {j : Nat} {s : Option S} (h : Kp e e' vs) : Kp (e.set j s) (e'.set j s) vs :=
  ⟨by rw [List.length_set, List.length_set, h.len], fun i hi => by
    rw [List.getElem?_set, List.getElem?_set, h.len, h.at_ i hi]⟩
theorem Kp_pen {E e' : Sl} {vs : List Nat} {j : Nat} {a b : Option S} (h : Kp (E.set j a) e' vs) : Kp (E.set j b) (e'.set j b) vs := by
  have := Kp_put (j := j) (s := b) h
  rwa [List.set_set] at this
theorem wS_gen {f : SS} {env : Sl} {P : Fl → Sl → Prop} (h : ∀ E, E = env → wS f E P) : wS f env P := h env rfl
theorem al_start {k n : Nat} {as : List S} (h : as.length = k) (l : k ≤ n) : Al k n (startE n as) := by
  subst h
  exact Al.start as l
end MM

end
section
set_option linter.all false
set_option autoImplicit false
set_option Elab.async false
namespace MM
open PySem L2 T3
section
variable {n : Nat} {m : Nat → Nat}
def sw (m : Nat → Nat) (i k : Nat) : Nat → Nat := fun y => if y = i then m k else if y = k then m i else m y
end
end MM

end
section
set_option linter.all false
set_option autoImplicit false
set_option Elab.async false
set_option maxRecDepth 10000
namespace MM
open PySem L2 T3
section
variable {n : Nat} {m m' : Nat → Nat}
end
end MM

end
section
set_option linter.all false
set_option autoImplicit false
set_option Elab.async false
set_option maxRecDepth 100000
set_option maxHeartbeats 4000000
namespace MM
open PySem L2 T3
noncomputable section
structure Sk (α : Type) where
  dat : α → PyData
  key : α → NestedKey
  cel : α → PyData
  lets : α → List Dir
  go : α → Dir → α
  tk : ∀ a, tk? (dat a) = some (key a)
  inj : ∀ a b, key a = key b → a = b
  cl : ∀ a, oIx [dat a, .int 0] = some (cel a)
section
variable {α : Type} [DecidableEq α] (M : Sk α)
abbrev Rws (α : Type) := List (α × List Dir)
def look (rows : Rws α) (a : α) : Option (List Dir) := (rows.find? fun q => decide (q.1 = a)).map (·.2)
def rkv (rows : Rws α) : List (NestedKey × PyData) := rows.map fun q => (M.key q.1, .str (rowS q.2))
theorem rkv_val (rows : Rws α) (a : α) : valN (rkv M rows) (M.key a) = (look rows a).map fun ds => .str (rowS ds) := by
  unfold valN rkv look
  rw [List.find?_map, Option.map_map, Option.map_map]
  have : (fun q : NestedKey × PyData => decide (q.1 = M.key a)) ∘ (fun q : α × List Dir => (M.key q.1, PyData.str (rowS q.2))) = fun q => decide (q.1 = a) := by
    funext q
    simp only [Function.comp]
    by_cases h : q.1 = a
    · simp [h]
    · have : M.key q.1 ≠ M.key a := fun z => h (M.inj _ _ z)
      simp [h, this]
  rw [this]
  rfl
theorem rkv_put {rows : Rws α} {a : α} {ds : List Dir} (h : look rows a = none) : putN (rkv M rows) (M.key a) (.str (rowS ds)) = rkv M (rows ++ [(a, ds)]) := by
  unfold putN
  rw [rkv_val, h]
  simp [rkv]
def one (a : α) (st : Rws α × List α) (d : Dir) : Rws α × List α := if (look st.1 (M.go a d)).isSome then st else (st.1 ++ [(M.go a d, (look st.1 a).getD [] ++ [d])], st.2 ++ [M.go a d])
def scan (st : Rws α × List α) (a : α) : Rws α × List α := (M.lets a).foldl (one M a) st
def lap (rows : Rws α) (edge : List α) : Rws α × List α := edge.foldl (scan M) (rows, [])
theorem look_old {rows : Rws α} {a : α} {ds : List Dir} (r : Rws α) (h : look rows a = some ds) : look (rows ++ r) a = some ds := by
  unfold look at h ⊢
  rw [List.find?_append]
  cases e : rows.find? fun q => decide (q.1 = a) with
  | none => rw [e] at h; cases h
  | some q => rw [e] at h; exact h
theorem rowS_snoc (ds : List Dir) (d : Dir) : rowS ds ++ chS d = rowS (ds ++ [d]) := by
  show Str.mk (_ ++ _) = _
  simp [rowS, chS]
variable (fl : List PyData) (st : PyData) (lv : PyData)
def Frz (s : Option S) : Prop := s = none ∨ ∃ x, s = some (.pd x)
variable {cal : EE} {FL : FnD}
def CalOk (cal : EE) (a : α) (d : Dir) : Prop := ∀ env : Sl, env[2]? = some (some (.pd lv)) → env[7]? = some (some (.pd (M.dat a))) → env[8]? = some (some (.pd (.str (chS d)))) → cal env = some (.pd (M.dat (M.go a d)), env)
def RSp (cal : EE) (a : α) : Prop := ∀ d ∈ M.lets a, CalOk M lv cal a d
def LSp (FL : FnD) (a : α) : Prop := FL [.nt fl, .pd (M.cel a)] = some (.tmp (.ls ((M.lets a).map fun d => .str (chS d))), [.nt fl, .pd (M.cel a)])
structure Lp (cal : EE) (FL : FnD) (J : Rws α → List α → Prop) (μ : Rws α → List α → Nat) : Prop where
  ok : ∀ rows edge, J rows edge → (∀ a ∈ edge, (∃ ds, look rows a = some ds ∧ ds.length < 1000000) ∧ (M.lets a).length ≤ 4 ∧ RSp M lv cal a ∧ LSp M fl FL a) ∧ rows.length + 4 * edge.length ≤ 1000000
  go : ∀ rows edge, J rows edge → edge ≠ [] → J (lap M rows edge).1 (lap M rows edge).2 ∧ μ (lap M rows edge).1 (lap M rows edge).2 < μ rows edge
end
end
end MM

end
section
set_option linter.all false
set_option autoImplicit false
set_option Elab.async false
set_option maxRecDepth 100000
set_option maxHeartbeats 4000000
namespace MM
open PySem L2 T3
def rk : Dir → Nat
  | .e => 0
  | .n => 1
  | .s => 2
  | .w => 3
def lx : List Dir → List Dir → Prop
  | d :: ds, e :: es => rk d < rk e ∨ (d = e ∧ lx ds es)
  | _, _ => False
def sle (es ds : List Dir) : Prop := es.length < ds.length ∨ (es.length = ds.length ∧ (es = ds ∨ lx es ds))
section
variable {α : Type} [DecidableEq α] (M : Sk α)
def Ld (a : α) : List Dir → α → Prop
  | [], b => a = b
  | d :: ds, b => d ∈ M.lets a ∧ Ld (M.go a d) ds b
theorem look_key {rows : Rws α} {a : α} : (look rows a).isSome = true ↔ a ∈ rows.map (·.1) := by
  unfold look
  rw [Option.isSome_map, List.find?_isSome]
  simp
end
end MM

end
section
set_option linter.all false
set_option autoImplicit false
set_option Elab.async false
set_option maxRecDepth 100000
set_option maxHeartbeats 4000000
namespace MM
open PySem L2 T3
section
variable {α : Type} [DecidableEq α] (M : Sk α) (U : List α) (a0 : α)
structure Wd : Prop where
  len : U.length ≤ 10000
  go : ∀ a ∈ U, ∀ d ∈ M.lets a, M.go a d ∈ U
  four : ∀ a ∈ U, (M.lets a).length ≤ 4
  up : ∀ a ∈ U, (M.lets a).Pairwise fun d e => rk d < rk e
structure Lv (n : Nat) (rows : Rws α) (edge : List α) : Prop where
  nd : (rows.map (·.1)).Nodup
  inU : ∀ q ∈ rows, q.1 ∈ U
  snd : ∀ q ∈ rows, Ld M a0 q.2 q.1 ∧ q.2.length ≤ n
  edg : ∃ el : Rws α, edge = el.map (·.1) ∧ el.Sublist rows ∧ el.Pairwise (fun p q => lx p.2 q.2) ∧ ∀ q ∈ rows, q.2.length = n ↔ q ∈ el
  cmp : ∀ ds b, Ld M a0 ds b → ds.length ≤ n → ∃ es, (b, es) ∈ rows ∧ sle es ds
  lev : n + (if edge = [] then 0 else 1) ≤ rows.length
variable {M U a0}
theorem Lv.len {n : Nat} {rows : Rws α} {edge : List α} (h : Lv M U a0 n rows edge) : rows.length ≤ U.length := by
  have := List.Nodup.length_le_of_subset h.nd (l₂ := U) fun a ha => by
    obtain ⟨q, hq, rfl⟩ := List.mem_map.mp ha
    exact h.inU q hq
  simpa using this
open Classical in
noncomputable def mu (U : List α) (rows : Rws α) (edge : List α) : Nat := 2 * (U.length - rows.length) + if edge = [] then 0 else 1
end
end MM

end
section
set_option linter.all false
set_option autoImplicit false
set_option Elab.async false
set_option maxRecDepth 100000
namespace MM
open PySem L2 T3
noncomputable section
variable {α : Type} [DecidableEq α] {M : Sk α} {U : List α} {a0 : α}
end
end MM

end
section
set_option linter.all false
set_option autoImplicit false
set_option Elab.async false
set_option maxRecDepth 100000
set_option maxHeartbeats 4000000
namespace MM
open PySem L2 T3
section
variable {α : Type} [DecidableEq α] (M : Sk α) (fl : List PyData) (st : PyData) (lv : PyData) (mo : Int) {cal : EE} {FL : FnD}
end
end MM

end
section
set_option linter.all false
set_option autoImplicit false
set_option Elab.async false
set_option maxRecDepth 100000
namespace MM
open PySem L2 T3
noncomputable section
variable {α : Type} [DecidableEq α] {M : Sk α} {U : List α} {a0 : α}
def Ord (rows : Rws α) : Prop := rows.Pairwise fun p q => sle p.2 q.2
end
end MM

end
section
set_option linter.all false
set_option autoImplicit false
set_option Elab.async false
set_option maxRecDepth 10000
set_option maxHeartbeats 4000000
namespace L39
open PySem L2 T3 MM
theorem is_whole_int (i m : Int) : f_is_whole [.pd (.int i), .pd (.int m)] = some (.pd (.bool (decide (0 ≤ i) && decide (i ≤ m))), [.pd (.int i), .pd (.int m)]) := by
  unfold f_is_whole
  rw [run_of (e := [some (.pd (.int i)), some (.pd (.int m))]) rfl]
  simp [m_is_whole, oIsi, isi5, eCh, Cm.f]
  by_cases h : 0 ≤ i <;> simp [h]
def inB (c : Cell) : Bool := (decide (0 ≤ c.1) && decide (c.1 ≤ 3)) && (decide (0 ≤ c.2) && decide (c.2 ≤ 3))
theorem is_cell_sp (c : Cell) : f_is_cell [.pd (clD c)] = some (.pd (.bool (inB c)), [.pd (clD c)]) := by
  unfold f_is_cell
  rw [run_of (e := [some (.pd (clD c)), none, none]) rfl]
  simp [m_is_cell, clD, oIsi, isi5, oLen, eNe, oNe, sh_int, eqv_int, is_whole_int, v_LAST_LINE, inB]
  by_cases h1 : 0 ≤ c.1 <;> by_cases h2 : c.1 ≤ 3 <;> simp [h1, h2]
def ltC (c d : Cell) : Bool := HT.lexLt [c.1, c.2] [d.1, d.2]
def chain : List Cell → Bool
  | c :: d :: r => ltC c d && chain (d :: r)
  | _ => true
theorem zip_cells : ∀ cs : List Cell, zipD (cs.map clD) (cs.tail.map clD) = (cs.zip cs.tail).map fun p => .tuple [clD p.1, clD p.2] := by
  intro cs
  have : ∀ (as bs : List Cell), zipD (as.map clD) (bs.map clD) = (as.zip bs).map fun p => .tuple [clD p.1, clD p.2] := by
    intro as
    induction as with
    | nil => intro bs; simp [zipD]
    | cons a as ih =>
      intro bs
      cases bs with
      | nil => simp [zipD]
      | cons b bs =>
        have := ih bs
        simp only [zipD] at this ⊢
        simp [this]
  exact this cs cs.tail
theorem chain_all : ∀ cs : List Cell, ((cs.zip cs.tail).map fun p => ltC p.1 p.2).all id = chain cs
  | [] => rfl
  | [_] => rfl
  | c :: d :: r => by
    have := chain_all (d :: r)
    simp only [List.tail_cons] at this ⊢
    simp [chain, this]
theorem cut1_d (xs : List PyData) : cutD xs (some 1) none = xs.tail := by
  unfold cutD
  rw [show HT.sIx xs.length 0 (some 1) = min 1 xs.length from HT.sIx_nat xs.length 0 1, HT.sIx_none]
  cases xs with
  | nil => rfl
  | cons x r => simp
theorem is_rising_sp (cs : List Cell) (h9 : cs.length ≤ 1000) : f_is_rising [.nt (cs.map clD)] = some (.pd (.bool (chain cs)), [.nt (cs.map clD)]) := by
  unfold f_is_rising
  rw [run_of (e := [some (.nt (cs.map clD)), none, none]) rfl]
  have e : lcL (gT 2 (gCn (gN 1) (gCn (gN 2) gNl))) bYes (eLt (eVar 1) (eVar 2)) [1, 2] ((cs.zip cs.tail).map fun p => .tuple [clD p.1, clD p.2]) [some (.nt (cs.map clD)), none, none] [] = some ((cs.zip cs.tail).map (fun p => .bool (ltC p.1 p.2)), [some (.nt (cs.map clD)), none, none]) :=
    lcL_all (cs.zip cs.tail) fun p _ => ⟨[some (.nt (cs.map clD)), some (.pd (clD p.1)), some (.pd (clD p.2))], .pd (.bool (ltC p.1 p.2)), [some (.nt (cs.map clD)), some (.pd (clD p.1)), some (.pd (clD p.2))], by simp [wipeE], by simp [eLt, kLt, kLt0, oI, oLtT, clD, ints?, ltC], rfl, by simp [unwipe]⟩
  have ht : (cs.map clD).tail = cs.tail.map clD := by simp
  have hl : cs.length ≤ 1000001 := by omega
  have hc := chain_all cs
  simp [m_is_rising, eLc, iZt, eSl, oSome, oNo, kSl, cut1_d, tupOf, ht, zip_cells, e, oAll, bools_of, hl, -List.map_tail, -List.all_map, hc]
def okFl (cs : List Cell) : Prop := 1 ≤ cs.length ∧ cs.length ≤ 9 ∧ (∀ c ∈ cs, inB c = true) ∧ chain cs = true
theorem is_floor_sp (cs : List Cell) (h : okFl cs) : f_is_floor [.nt (cs.map clD)] = some (.pd (.bool true), [.nt (cs.map clD)]) := by
  unfold f_is_floor
  rw [run_of (e := [some (.nt (cs.map clD)), none]) rfl]
  have e : lcL (gN 1) bYes (eCall f_is_cell (eCons (eVar 1) eNil)) [1] (cs.map clD) [some (.nt (cs.map clD)), none] [] = some (cs.map (fun c => .bool (inB c)), [some (.nt (cs.map clD)), none]) :=
    lcL_all cs fun c _ => ⟨[some (.nt (cs.map clD)), some (.pd (clD c))], .pd (.bool (inB c)), [some (.nt (cs.map clD)), some (.pd (clD c))], by simp [wipeE], by simp [is_cell_sp], rfl, by simp [unwipe]⟩
  obtain ⟨h1, h2, h3, h4⟩ := h
  have ha : (cs.map inB).all id = true := by simpa using h3
  have l1 : (1 : Int) ≤ cs.length := by omega
  have l2 : (cs.length : Int) ≤ 9 := by omega
  have l3 : cs.length ≤ 1000000 := by omega
  simp [m_is_floor, oIsi, isi5, eCh, Cm.f, oLen, v_MOST_CELLS, eLc, iSeq, e, oAll, bools_of, is_rising_sp cs (by omega), l1, l2, l3, h4, ha, -List.all_map, -List.length_map]
  simp [l1, l2, l3, e, oAll, bools_of, is_rising_sp cs (by omega), ha, h4, List.length_map, -List.all_map]
theorem need_floor_sp (cs : List Cell) (h : okFl cs) : f_need_floor [.nt (cs.map clD)] = some (.pd .none, [.nt (cs.map clD)]) := by
  unfold f_need_floor
  rw [run_of (e := [some (.nt (cs.map clD))]) rfl]
  simp [m_need_floor, is_floor_sp cs h]
theorem is_cell_of_sp (cs : List Cell) (c : Cell) (hc : c ∈ cs) (hb : inB c = true) : f_is_cell_of [.nt (cs.map clD), .pd (clD c)] = some (.pd (.bool true), [.nt (cs.map clD), .pd (clD c)]) := by
  unfold f_is_cell_of
  rw [run_of (e := [some (.nt (cs.map clD)), some (.pd (clD c))]) rfl]
  simp [m_is_cell_of, is_cell_sp, hb, eIn, oIn, sh_cell, sh_cells, any_cell, hc, -List.any_map, -List.any_eq_true]
theorem ly_all : ∀ l ∈ lyings, 0 ≤ l.1 ∧ l.1 ≤ 5 ∧ 0 ≤ l.2.1 ∧ l.2.1 ≤ 5 ∧ 0 ≤ l.2.2 ∧ l.2.2 ≤ 5 := by decide
theorem is_lying_sp (l : Ly) (hl : l ∈ lyings) : f_is_lying [.pd (lyD l)] = some (.pd (.bool true), [.pd (lyD l)]) := by
  have e : lcL (gN 1) bYes (eCall f_is_whole (eCons (eVar 1) (eCons (eC v_OPPOSITE_SUM) eNil))) [1] ([l.1, l.2.1, l.2.2].map .int) [some (.pd (lyD l)), none] [] = some ([l.1, l.2.1, l.2.2].map (fun i => .bool (decide (0 ≤ i) && decide (i ≤ 5))), [some (.pd (lyD l)), none]) :=
    lcL_all [l.1, l.2.1, l.2.2] fun i _ => ⟨[some (.pd (lyD l)), some (.pd (.int i))], .pd (.bool (decide (0 ≤ i) && decide (i ≤ 5))), [some (.pd (lyD l)), some (.pd (.int i))], by simp [wipeE], by simp [is_whole_int, v_OPPOSITE_SUM], rfl, by simp [unwipe]⟩
  obtain ⟨b1, b2, b3, b4, b5, b6⟩ := ly_all l hl
  have hv : v_LYINGS = .tuple (lyings.map lyD) := by rfl
  have hs : SeqAt.shaped (.tuple (lyings.map lyD)) = true := sh_tup lyD (fun c => by simp [lyD, PyData.canLay0, PyData.canLayAll0]) (fun c => by simp [lyD, PyData.depth, PyData.depthAll]) lyings
  have hi : ((lyings.map lyD).any fun z => PyData.eqv z (lyD l)) = true := by
    rw [List.any_eq_true]
    exact ⟨lyD l, List.mem_map.mpr ⟨l, hl, rfl⟩, by rw [eqv_ly]; simp⟩
  unfold f_is_lying
  rw [run_of (e := [some (.pd (lyD l)), none]) rfl]
  have es : iSeq (eVar 0) [some (.pd (lyD l)), none] = some ([l.1, l.2.1, l.2.2].map .int, none, [some (.pd (lyD l)), none]) := by simp [iSeq, lyD]
  have eo : oIsi .tuple [lyD l] = some (.bool true) := rfl
  simp only [m_is_lying, z_seq, z_if, z_bNot, z_bT, z_then, z_one, z_cons, z_var, z_nil, List.getElem?_cons_zero, z_kE, z_ctns1, z_ctns0, z_ctn1, eo, Bool.not_true, Bool.false_eq_true, if_false, z_pass, z_ret, z_eB, z_bAnd, eLc, es, e, List.length_map, z_unl, z_ctn3, oAll]
  simp [bools?, b1, b2, b3, b4, b5, b6, eIn, oIn, hv, sh_ly, hs, hi, -List.any_map, -List.any_eq_true]
theorem is_stand_sp (cs : List Cell) (c : Cell) (l : Ly) (hc : c ∈ cs) (hb : inB c = true) (hl : l ∈ lyings) : f_is_stand [.nt (cs.map clD), .pd (stD c l)] = some (.pd (.bool true), [.nt (cs.map clD), .pd (stD c l)]) := by
  unfold f_is_stand
  rw [run_of (e := [some (.nt (cs.map clD)), some (.pd (stD c l)), none, none]) rfl]
  simp [m_is_stand, stD, oIsi, isi5, oLen, eNe, oNe, sh_int, eqv_int, is_cell_of_sp cs c hc hb, is_lying_sp l hl]
theorem need_stand_sp (cs : List Cell) (c : Cell) (l : Ly) (hc : c ∈ cs) (hb : inB c = true) (hl : l ∈ lyings) : f_need_stand [.nt (cs.map clD), .pd (stD c l)] = some (.pd .none, [.nt (cs.map clD), .pd (stD c l)]) := by
  unfold f_need_stand
  rw [run_of (e := [some (.nt (cs.map clD)), some (.pd (stD c l))]) rfl]
  simp [m_need_stand, is_stand_sp cs c l hc hb hl]
theorem is_letter_sp (d : Dir) : f_is_letter [.pd (.str (chS d))] = some (.pd (.bool true), [.pd (.str (chS d))]) := by
  unfold f_is_letter
  rw [run_of (e := [some (.pd (.str (chS d)))]) rfl]
  have hv : v_LETTERS = .tuple ([Dir.n, .e, .s, .w].map fun d => .str (chS d)) := by
    simp only [v_LETTERS, List.map_cons, List.map_nil, chS_n, chS_e, chS_s, chS_w]
  have hs : SeqAt.shaped (.tuple ([Dir.n, .e, .s, .w].map fun d => .str (chS d))) = true := sh_tup _ (fun d => by have := SeqAt.canLay_of_shaped (sh_ch d); exact this) (fun d => by simp [PyData.depth]) _
  have hi : (([Dir.n, .e, .s, .w].map fun d => PyData.str (chS d)).any fun z => PyData.eqv z (.str (chS d))) = true := by
    rw [List.any_eq_true]
    exact ⟨.str (chS d), List.mem_map.mpr ⟨d, by cases d <;> simp, rfl⟩, by rw [eqv_ch]; simp⟩
  simp only [m_is_letter, hv]
  simp only [z_ret, z_eB, z_bAnd, z_bT, z_then, z_one, z_cons, z_var, z_nil, List.getElem?_cons_zero, z_kE, z_ctns1, z_ctns0, z_ctn1, oIsi, isi5, if_true, eIn, z_two, z_c, oIn, sh_ch, hs, hi, and_self, z_out1, z_fin1, z_fin0]
  rfl
theorem is_row_sp (ds : List Dir) (hl : ds.length ≤ 1000) : f_is_row [.pd (.str (rowS ds))] = some (.pd (.bool true), [.pd (.str (rowS ds))]) := by
  unfold f_is_row
  rw [run_of (e := [some (.pd (.str (rowS ds))), none]) rfl]
  have e : lcL (gN 1) bYes (eCall f_is_letter (eCons (eVar 1) eNil)) [1] (ds.map fun d => .str (chS d)) [some (.pd (.str (rowS ds))), none] [] = some (ds.map (fun _ => .bool true), [some (.pd (.str (rowS ds))), none]) :=
    lcL_all ds fun d _ => ⟨[some (.pd (.str (rowS ds))), some (.pd (.str (chS d)))], .pd (.bool true), [some (.pd (.str (rowS ds))), some (.pd (.str (chS d)))], by simp [wipeE], by simp [is_letter_sp], rfl, by simp [unwipe]⟩
  have l3 : ds.length ≤ 1000000 := by omega
  have bs := bools_of (fun _ : Dir => true) ds
  have hb : (ds.map (fun _ : Dir => true)).all id = true := by simp
  simp [m_is_row, oIsi, isi5, eLc, iSeq, signs_row, e, l3, oAll, bs, hb, -List.all_map, -List.map_const']
theorem need_row_sp (ds : List Dir) (hl : ds.length ≤ 1000) : f_need_row [.pd (.str (rowS ds))] = some (.pd .none, [.pd (.str (rowS ds))]) := by
  unfold f_need_row
  rw [run_of (e := [some (.pd (.str (rowS ds)))]) rfl]
  simp [m_need_row, is_row_sp ds hl]
theorem steps_look (d : Dir) : v_STEPS.lookup (chS d) = some (.tuple [.int (stepC (0, 0) d).1, .int (stepC (0, 0) d).2]) := by
  cases d <;> rfl
theorem rolled_cell_sp (c : Cell) (d : Dir) : f_rolled_cell [.pd (clD c), .pd (.str (chS d))] = some (.pd (clD (stepC c d)), [.pd (clD c), .pd (.str (chS d))]) := by
  unfold f_rolled_cell
  rw [run_of (e := [some (.pd (clD c)), some (.pd (.str (chS d))), none, none, none, none]) rfl]
  simp [m_rolled_cell, clD, eKd, steps_look, eAdd, kAdd, oI]
  cases d <;> simp [stepC] <;> omega
theorem rolled_lying_sp (l : Ly) (d : Dir) : f_rolled_lying [.pd (lyD l), .pd (.str (chS d))] = some (.pd (lyD (roll l d)), [.pd (lyD l), .pd (.str (chS d))]) := by
  unfold f_rolled_lying
  rw [run_of (e := [some (.pd (lyD l)), some (.pd (.str (chS d))), none, none, none]) rfl]
  cases d <;> simp [m_rolled_lying, lyD, eEq, oEq, ← chS_n, ← chS_s, ← chS_e, sh_ch, eqv_ch, eSub, kSub, oI, v_OPPOSITE_SUM, roll]
theorem rolled_stand_sp (c : Cell) (l : Ly) (d : Dir) : f_rolled_stand [.pd (stD c l), .pd (.str (chS d))] = some (.pd (stD (stepC c d) (roll l d)), [.pd (stD c l), .pd (.str (chS d))]) := by
  unfold f_rolled_stand
  rw [run_of (e := [some (.pd (stD c l)), some (.pd (.str (chS d))), none, none]) rfl]
  simp [m_rolled_stand, stD, rolled_cell_sp, rolled_lying_sp]
def letR (cs : List Cell) : Cell → List Dir → Prop
  | _, [] => True
  | c, d :: ds => stepC c d ∈ cs ∧ letR cs (stepC c d) ds
def endC (c : Cell) (ds : List Dir) : Cell := ds.foldl stepC c
def endL (l : Ly) (ds : List Dir) : Ly := ds.foldl roll l
theorem enum_row (ds : List Dir) : enumD (signs (rowS ds)) 0 = (ds.zipIdx).map fun p => .tuple [.int (p.2 : Nat), .str (chS p.1)] := by
  rw [signs_row]
  apply List.ext_getElem?
  intro i
  by_cases h : i < ds.length
  · simp [enumD, h]
  · simp [enumD, h]
theorem place_off_loop (cs : List Cell) (a1 a2 : S) : ∀ (ds : List Dir) (k : Nat) (c : Cell) (s4 s5 : Option S), letR cs c ds → (s4 = none ∨ ∃ x, s4 = some (.pd x)) → (s5 = none ∨ ∃ x, s5 = some (.pd x)) →
    ∃ c' s4' s5', forL (gT 2 (gCn (gN 4) (gCn (gN 5) gNl))) (sSeq (sSet 3 (eCall f_rolled_cell (eCons (eVar 3) (eCons (eVar 5) eNil)))) (sIf (bT (eNin (eVar 3) (eVar 0))) (sRet (eVar 4)) sPass)) ((ds.zipIdx k).map fun p => .tuple [.int (p.2 : Nat), .str (chS p.1)]) [some (.nt (cs.map clD)), some a1, some a2, some (.pd (clD c)), s4, s5] = some (.nx, [some (.nt (cs.map clD)), some a1, some a2, some (.pd (clD c')), s4', s5'])
  | [], k, c, s4, s5, _, _, _ => ⟨c, s4, s5, rfl⟩
  | d :: ds, k, c, s4, s5, h, h4, h5 => by
    obtain ⟨h1, h2⟩ := h
    obtain ⟨c', s4', s5', ih⟩ := place_off_loop cs a1 a2 ds (k + 1) (stepC c d) (some (.pd (.int (k : Nat)))) (some (.pd (.str (chS d)))) h2 (.inr ⟨_, rfl⟩) (.inr ⟨_, rfl⟩)
    refine ⟨c', s4', s5', ?_⟩
    rw [List.zipIdx_cons, List.map_cons]
    unfold forL
    have hn : ¬ ((cs.map clD).any fun z => PyData.eqv z (clD (stepC c d))) = false := by rw [any_cell]; simp [h1]
    rcases h4 with rfl | ⟨x4, rfl⟩ <;> rcases h5 with rfl | ⟨x5, rfl⟩ <;>
      (simp [rolled_cell_sp, eNin, oIn, sh_cell, sh_cells, any_cell, h1, -List.any_map, -List.any_eq_true]; exact ih)
theorem place_off_sp (cs : List Cell) (c : Cell) (ds : List Dir) (h : letR cs c ds) : f_place_off [.nt (cs.map clD), .pd (clD c), .pd (.str (rowS ds))] = some (.pd .none, [.nt (cs.map clD), .pd (clD c), .pd (.str (rowS ds))]) := by
  unfold f_place_off
  rw [run_of (e := [some (.nt (cs.map clD)), some (.pd (clD c)), some (.pd (.str (rowS ds))), none, none, none]) rfl]
  obtain ⟨c', s4', s5', e⟩ := place_off_loop cs (.pd (clD c)) (.pd (.str (rowS ds))) ds 0 c none none h (.inl rfl) (.inl rfl)
  simp [m_place_off, iEn, enum_row, e]
theorem need_let_sp (cs : List Cell) (c : Cell) (ds : List Dir) (h : letR cs c ds) : f_need_let [.nt (cs.map clD), .pd (clD c), .pd (.str (rowS ds))] = some (.pd .none, [.nt (cs.map clD), .pd (clD c), .pd (.str (rowS ds))]) := by
  unfold f_need_let
  rw [run_of (e := [some (.nt (cs.map clD)), some (.pd (clD c)), some (.pd (.str (rowS ds)))]) rfl]
  simp [m_need_let, place_off_sp cs c ds h, eIsn, oIsN, isN]
theorem atI_at {α : Type} {xs : List α} {i : Int} {x : α} (h0 : 0 ≤ i) (h : xs[i.toNat]? = some x) : atI xs i = some x := by
  obtain ⟨hl, e⟩ := List.getElem?_eq_some_iff.mp h
  unfold atI ixN
  have : i < xs.length := by omega
  simp [h0, this, e]
theorem ixN_at {n : Nat} {i : Int} (h0 : 0 ≤ i) (h : i < n) : ixN n i = some i.toNat := by
  unfold ixN; simp [h0, h]
def ups (n : Nat) : List Int := (List.range n).map fun k => ((k : Nat) : Int)
theorem ups_len (n : Nat) : (ups n).length = n := by simp [ups]
theorem rgT_ups (n : Nat) : rgT 0 (n : Int) = (ups n).map .int := by
  simp [rgT, ups]
theorem rgD_ups (n : Nat) : rgD 0 n 1 = (ups n).map .int := by
  simp [rgD, ups]
theorem rgOk_of (n : Nat) (h : n ≤ 1000) : RgOk 0 (n : Int) := by
  refine ⟨by decide, by decide, ?_, ?_, ?_⟩
  · have : (-2 ^ 62 : Int) ≤ 0 := by decide
    omega
  · have : (1000 : Int) < 2 ^ 62 := by decide
    omega
  · have : 1000 ≤ 2 ^ 24 := by decide
    omega
theorem kTrg1 (n : Int) (env : Sl) (h : RgOk 0 n) : kTrg [.pd (.int n)] env = some (.pd (.tuple (rgT 0 n)), env) := by
  show (if RgOk 0 n then some (R.pd (.tuple (rgT 0 n)), env) else none) = _
  exact if_pos h
theorem spots_of_sp (cs : List Cell) (h9 : cs.length ≤ 9) : f_spots_of [.nt (cs.map clD)] = some (.pd (.tuple ((ups (6 + cs.length)).map .int)), [.nt (cs.map clD)]) := by
  unfold f_spots_of
  rw [run_of (e := [some (.nt (cs.map clD))]) rfl]
  have r : RgOk 0 (6 + (cs.length : Int)) := by
    have := rgOk_of (6 + cs.length) (by omega)
    rw [show ((6 + cs.length : Nat) : Int) = 6 + (cs.length : Int) by omega] at this
    exact this
  have e : rgT 0 (6 + (cs.length : Int)) = (ups (6 + cs.length)).map .int := by
    rw [← rgT_ups]; simp
  simp [m_spots_of, eTrg, eAdd, kAdd, oI, v_FACES, oLen, kTrg1 _ _ r, e]
def isT (s : S) (xs : List PyData) : Prop := s = .pd (.tuple xs) ∨ s = .nt xs
theorem forL_cons {g : GG} {body : SS} {x : PyData} {xs : List PyData} {env e1 e2 : Sl} (h1 : g x env = some e1) (h2 : body e1 = some (.nx, e2)) : forL g body (x :: xs) env = forL g body xs e2 := by
  simp [forL, h1, h2]
theorem firstIx_cell (c : Cell) : ∀ cs : List Cell, c ∈ cs → firstIx (clD c) (cs.map clD) = some (cs.idxOf c)
  | [], h => by simp at h
  | a :: cs, h => by
    rw [List.map_cons, firstIx, eqv_cell]
    by_cases e : a = c
    · simp [e]
    · have : c ∈ cs := by
        rcases List.mem_cons.mp h with h | h
        · exact absurd h.symm e
        · exact h
      simp [e, firstIx_cell c cs this, List.idxOf_cons, beq_eq_false_iff_ne.mpr e]
theorem firstIx_nat (c : Nat) : ∀ cs : List Nat, c ∈ cs → firstIx (.int (c : Int)) (cs.map fun k => .int ((k : Nat) : Int)) = some (cs.idxOf c)
  | [], h => by simp at h
  | a :: cs, h => by
    rw [List.map_cons, firstIx, eqv_int]
    by_cases e : a = c
    · simp [e]
    · have : c ∈ cs := by
        rcases List.mem_cons.mp h with h | h
        · exact absurd h.symm e
        · exact h
      have e' : ¬ (a : Int) = c := by omega
      simp [e, e', firstIx_nat c cs this, List.idxOf_cons, beq_eq_false_iff_ne.mpr e]
def trd (cs : List Cell) : Cell → Ly → List Dir → List (Int × Int)
  | _, _, [] => []
  | c, l, d :: ds => ((roll l d).1, 6 + (cs.idxOf (stepC c d) : Int)) :: trd cs (stepC c d) (roll l d) ds
theorem trd_len (cs : List Cell) : ∀ (ds : List Dir) (c : Cell) (l : Ly), (trd cs c l ds).length = ds.length
  | [], _, _ => rfl
  | d :: ds, c, l => by simp [trd, trd_len cs ds]
def Fr (s : Option S) : Prop := s = none ∨ ∃ x, s = some (.pd x)
theorem spot_of_cell_sp (cs : List Cell) (c : Cell) (h : c ∈ cs) : f_spot_of_cell [.nt (cs.map clD), .pd (clD c)] = some (.pd (.int (6 + (cs.idxOf c : Int))), [.nt (cs.map clD), .pd (clD c)]) := by
  have hf := firstIx_cell c cs h
  unfold f_spot_of_cell
  rw [run_of (e := [some (.nt (cs.map clD)), some (.pd (clD c))]) rfl]
  simp [m_spot_of_cell, eBM, eAdd, kAdd, oI, v_FACES, isNt, kIxT, oIxT, sh_cells, sh_cell, hf]
theorem trade_at_sp (cs : List Cell) (c : Cell) (l : Ly) (h : c ∈ cs) : f_trade_at [.nt (cs.map clD), .pd (stD c l)] = some (.pd (clD (l.1, 6 + (cs.idxOf c : Int))), [.nt (cs.map clD), .pd (stD c l)]) := by
  have hz : atI [PyData.int l.1, .int l.2.1, .int l.2.2] 0 = some (.int l.1) := rfl
  have sl : stD c l = .tuple [clD c, lyD l] := rfl
  have ll : lyD l = .tuple [.int l.1, .int l.2.1, .int l.2.2] := rfl
  have hd : clD (l.1, 6 + (cs.idxOf c : Int)) = .tuple [.int l.1, .int (6 + (cs.idxOf c : Int))] := rfl
  unfold f_trade_at
  rw [run_of (e := [some (.nt (cs.map clD)), some (.pd (stD c l)), none, none]) rfl]
  simp [m_trade_at, sl, spot_of_cell_sp cs c h, eIx, oIx, ll, hz, hd]
theorem trades_loop (cs : List Cell) (a1 a2 : S) : ∀ (ds : List Dir) (c : Cell) (l : Ly) (acc : List PyData) (s5 : Option S), letR cs c ds → acc.length + ds.length ≤ 1000 → Fr s5 →
    ∃ x s5', forL (gN 5) (sSeq (sSet 4 (eCall f_rolled_stand (eCons (eVar 4) (eCons (eVar 5) eNil))))
  (sExpr (eBM isL (eVar 3) (eCons (eCall f_trade_at (eCons (eVar 0) (eCons (eVar 4) eNil))) eNil) kAppend))) (ds.map fun d => .str (chS d)) [some (.nt (cs.map clD)), some a1, some a2, some (.mu .own (.ls acc)), some (.pd (stD c l)), s5] = some (.nx, [some (.nt (cs.map clD)), some a1, some a2, some (.mu .own (.ls (acc ++ (trd cs c l ds).map clD))), some (.pd x), s5'])
  | [], c, l, acc, s5, _, _, _ => ⟨stD c l, s5, by simp [forL, trd]⟩
  | d :: ds, c, l, acc, s5, h, ha, h5 => by
    obtain ⟨h1, h2⟩ := h
    obtain ⟨x, s5', ih⟩ := trades_loop cs a1 a2 ds (stepC c d) (roll l d) (acc ++ [clD ((roll l d).1, 6 + (cs.idxOf (stepC c d) : Int))]) (some (.pd (.str (chS d)))) h2 (by simp at ha ⊢; omega) (.inr ⟨_, rfl⟩)
    refine ⟨x, s5', ?_⟩
    have hl : acc.length ≤ 1000000 := by omega
    rw [List.map_cons, forL_cons (e1 := [some (.nt (cs.map clD)), some a1, some a2, some (.mu .own (.ls acc)), some (.pd (stD c l)), some (.pd (.str (chS d)))]) (e2 := [some (.nt (cs.map clD)), some a1, some a2, some (.mu .own (.ls (acc ++ [clD ((roll l d).1, 6 + (cs.idxOf (stepC c d) : Int))]))), some (.pd (stD (stepC c d) (roll l d))), some (.pd (.str (chS d)))]) ?_ ?_, ih]
    · simp [trd]
    · rcases h5 with rfl | ⟨x5, rfl⟩ <;> simp
    · simp [rolled_stand_sp, trade_at_sp cs _ (roll l d) h1, eBM, isL, kAppend, hl]
theorem trades_sp (cs : List Cell) (c : Cell) (l : Ly) (ds : List Dir) (h : letR cs c ds) (hl : ds.length ≤ 1000) : f_trades [.nt (cs.map clD), .pd (stD c l), .pd (.str (rowS ds))] = some (.tmp (.ls ((trd cs c l ds).map clD)), [.nt (cs.map clD), .pd (stD c l), .pd (.str (rowS ds))]) := by
  obtain ⟨x, s5', e⟩ := trades_loop cs (.pd (stD c l)) (.pd (.str (rowS ds))) ds c l [] none h (by simpa using hl) (.inl rfl)
  unfold f_trades
  rw [run_of (e := [some (.nt (cs.map clD)), some (.pd (stD c l)), some (.pd (.str (rowS ds))), none, none, none]) rfl]
  simp [m_trades, iSeq, signs_row, e]
theorem held_loop (a0 a1 : S) : ∀ (ps : List (Int × Int)) (xs : List PyData) (s3 s4 : Option S), (∀ p ∈ ps, 0 ≤ p.1 ∧ p.1 < xs.length ∧ 0 ≤ p.2 ∧ p.2 < xs.length) → Fr s3 → Fr s4 →
    ∃ s3' s4', forL (gT 2 (gCn (gN 3) (gCn (gN 4) gNl))) (sAsg (eThen (eCons (eIx (eVar 2) (eVar 4)) (eCons (eIx (eVar 2) (eVar 3)) eNil)) kTup) (gT 2 (gCn (gS (eVar 2) (eVar 3)) (gCn (gS (eVar 2) (eVar 4)) gNl)))) (ps.map clD) [some a0, some a1, some (.mu .own (.ls xs)), s3, s4] = some (.nx, [some a0, some a1, some (.mu .own (.ls (held xs ps))), s3', s4'])
  | [], xs, s5, s6, _, _, _ => ⟨s5, s6, rfl⟩
  | p :: ps, xs, s5, s6, h, h5, h6 => by
    obtain ⟨b1, b2, b3, b4⟩ := h p (by simp)
    obtain ⟨s5', s6', ih⟩ := held_loop a0 a1 ps (swp xs p) (some (.pd (.int p.1))) (some (.pd (.int p.2))) (fun q hq => by rw [swp_len]; exact h q (by simp [hq])) (.inr ⟨_, rfl⟩) (.inr ⟨_, rfl⟩)
    refine ⟨s5', s6', ?_⟩
    have l1 : p.1.toNat < xs.length := by omega
    have l2 : p.2.toNat < xs.length := by omega
    have g1 := atI_at (x := xs[p.1.toNat]) b1 (List.getElem?_eq_getElem l1)
    have g2 := atI_at (x := xs[p.2.toNat]) b3 (List.getElem?_eq_getElem l2)
    have sw : swp xs p = (xs.set p.1.toNat xs[p.2.toNat]).set p.2.toNat xs[p.1.toNat] := by
      simp [swp, List.getElem?_eq_getElem l1, List.getElem?_eq_getElem l2]
    have i1 := ixN_at b1 b2
    have i2 := ixN_at b3 b4
    rw [List.map_cons, forL_cons (e1 := [some a0, some a1, some (.mu .own (.ls xs)), some (.pd (.int p.1)), some (.pd (.int p.2))]) (e2 := [some a0, some a1, some (.mu .own (.ls (swp xs p))), some (.pd (.int p.1)), some (.pd (.int p.2))]) ?_ ?_, ih]
    · rfl
    · rcases h5 with rfl | ⟨x5, rfl⟩ <;> rcases h6 with rfl | ⟨x6, rfl⟩ <;> simp [clD]
    · simp [eIx, oIx, g1, g2, gS, putL, i1, i2, sw]
theorem held_traded_sp (ps : List (Int × Int)) (xs : List PyData) (s : S) (hs : isT s xs) (hp : ∀ p ∈ ps, 0 ≤ p.1 ∧ p.1 < xs.length ∧ 0 ≤ p.2 ∧ p.2 < xs.length) : f_held_traded [.mu .bor (.ls (ps.map clD)), s] = some (.nt (held xs ps), [.mu .bor (.ls (ps.map clD)), s]) := by
  obtain ⟨s5', s6', e⟩ := held_loop (.mu .fro (.ls (ps.map clD))) s ps xs none none hp (.inl rfl) (.inl rfl)
  rcases hs with rfl | rfl
  · unfold f_held_traded
    rw [run_of (e := [some (.mu .bor (.ls (ps.map clD))), some (.pd (.tuple xs)), none, none, none]) rfl]
    simp [m_held_traded, oList, iSeq, e, kTupN]
  · unfold f_held_traded
    rw [run_of (e := [some (.mu .bor (.ls (ps.map clD))), some (.nt xs), none, none, none]) rfl]
    simp [m_held_traded, oList, iSeq, e, kTupN]
structure Sit (cs : List Cell) (c : Cell) (l : Ly) (ds : List Dir) : Prop where
  fl : okFl cs
  mem : c ∈ cs
  ly : l ∈ lyings
  lt : letR cs c ds
  ln : ds.length ≤ 1000
theorem trd_ok (cs : List Cell) : ∀ (ds : List Dir) (c : Cell) (l : Ly), l ∈ lyings → letR cs c ds → ∀ p ∈ trd cs c l ds, 0 ≤ p.1 ∧ p.1 < 6 ∧ 6 ≤ p.2 ∧ p.2 < 6 + (cs.length : Int)
  | [], _, _, _, _, p, hp => by simp [trd] at hp
  | d :: ds, c, l, hl, h, p, hp => by
    obtain ⟨h1, h2⟩ := h
    rcases List.mem_cons.mp hp with rfl | hp
    · have b := ly_bound _ (roll_mem l hl d)
      have i := List.idxOf_lt_length_iff.mpr h1
      simp only
      omega
    · exact trd_ok cs ds _ _ (roll_mem l hl d) h2 p hp
theorem Sit.trd {cs : List Cell} {c : Cell} {l : Ly} {ds : List Dir} (h : Sit cs c l ds) {n : Nat} (hn : n = 6 + cs.length) : ∀ p ∈ trd cs c l ds, 0 ≤ p.1 ∧ p.1 < n ∧ 0 ≤ p.2 ∧ p.2 < n := by
  intro p hp
  have := trd_ok cs ds c l h.ly h.lt p hp
  omega
theorem Sit.b {cs : List Cell} {c : Cell} {l : Ly} {ds : List Dir} (h : Sit cs c l ds) : inB c = true := h.fl.2.2.1 c h.mem
theorem ups_map (n : Nat) : (ups n).map PyData.int = (List.range n).map fun k => .int ((k : Nat) : Int) := by simp [ups]
def exI (n : Nat) (ps : List (Int × Int)) : List Int := (List.range n).map fun j => ((mv n ps j : Nat) : Int)
theorem exchange_by_sp (n : Nat) (T : List (Int × Int)) (hn : n ≤ 1000) (hp : ∀ p ∈ T, 0 ≤ p.1 ∧ p.1 < n ∧ 0 ≤ p.2 ∧ p.2 < n) : f_exchange_by [.mu .bor (.ls (T.map clD)), .pd (.tuple ((ups n).map .int))] = some (.nt ((exI n T).map .int), [.mu .bor (.ls (T.map clD)), .pd (.tuple ((ups n).map .int))]) := by
  have e6 := held_traded_sp T ((ups n).map .int) (.pd (.tuple ((ups n).map .int))) (.inl rfl) (by simpa [ups_len] using hp)
  rw [ups_map] at e6 ⊢
  rw [held_map] at e6
  have el : lcL (gN 3) bYes (eBM isNt (eVar 2) (eCons (eVar 3) eNil) kIxT) [3] ((List.range n).map fun k => .int ((k : Nat) : Int)) [some (.mu .bor (.ls (T.map clD))), some (.pd (.tuple ((List.range n).map fun k => .int ((k : Nat) : Int)))), some (.nt ((org n T).map fun k => .int ((k : Nat) : Int))), none] [] = some ((List.range n).map (fun j => .int ((mv n T j : Nat) : Int)), [some (.mu .bor (.ls (T.map clD))), some (.pd (.tuple ((List.range n).map fun k => .int ((k : Nat) : Int)))), some (.nt ((org n T).map fun k => .int ((k : Nat) : Int))), none]) :=
    lcL_all (List.range n) fun j hj => ⟨[some (.mu .bor (.ls (T.map clD))), some (.pd (.tuple ((List.range n).map fun k => .int ((k : Nat) : Int)))), some (.nt ((org n T).map fun k => .int ((k : Nat) : Int))), some (.pd (.int (j : Nat)))], .pd (.int ((mv n T j : Nat) : Int)), [some (.mu .bor (.ls (T.map clD))), some (.pd (.tuple ((List.range n).map fun k => .int ((k : Nat) : Int)))), some (.nt ((org n T).map fun k => .int ((k : Nat) : Int))), some (.pd (.int (j : Nat)))], by simp [wipeE], by
        have hs : SeqAt.shaped (.tuple ((org n T).map fun k => .int ((k : Nat) : Int))) = true := sh_tup _ (fun c => by simp [PyData.canLay0]) (fun c => by simp [PyData.depth]) _
        have hf := firstIx_nat j (org n T) (org_mem.mpr (List.mem_range.mp hj))
        simp [eBM, isNt, kIxT, oIxT, hs, sh_int, hf, mv], rfl, by simp [unwipe]⟩
  have hl : (List.range n).length ≤ 1000000 := by simp; omega
  unfold f_exchange_by
  rw [run_of (e := [some (.mu .bor (.ls (T.map clD))), some (.pd (.tuple ((List.range n).map fun k => .int ((k : Nat) : Int)))), none, none]) rfl]
  have hx : (exI n T).map PyData.int = (List.range n).map (fun j => .int ((mv n T j : Nat) : Int)) := by simp [exI]
  rw [hx]
  rw [show held (List.range n) T = org n T from rfl] at e6
  have hn2 : n ≤ 1000000 := by omega
  simp [m_exchange_by, e6, eLc, iSeq, el, hn2, kTupN]
theorem exchange_sp {cs : List Cell} {c : Cell} {l : Ly} {ds : List Dir} (h : Sit cs c l ds) : f_exchange [.nt (cs.map clD), .pd (stD c l), .pd (.str (rowS ds))] = some (.nt ((exI (6 + cs.length) (trd cs c l ds)).map .int), [.nt (cs.map clD), .pd (stD c l), .pd (.str (rowS ds))]) := by
  have h9 := h.fl.2.1
  have e1 := need_floor_sp cs h.fl
  have e2 := need_stand_sp cs c l h.mem h.b h.ly
  have e3 := need_row_sp ds h.ln
  have e5 := need_let_sp cs c ds h.lt
  have e4 := trades_sp cs c l ds h.lt h.ln
  have e6 := exchange_by_sp (6 + cs.length) (trd cs c l ds) (by omega) (h.trd rfl)
  have es := spots_of_sp cs h9
  have hz : atI [clD c, lyD l] 0 = some (clD c) := rfl
  have sl : stD c l = .tuple [clD c, lyD l] := rfl
  rw [sl] at e2 e4 ⊢
  unfold f_exchange
  rw [run_of (e := [some (.nt (cs.map clD)), some (.pd (.tuple [clD c, lyD l])), some (.pd (.str (rowS ds)))]) rfl]
  simp [m_exchange, e1, e2, e3, e4, eIx, oIx, hz, e5, es, e6]
def nD (xs : List Nat) : List PyData := xs.map fun k => .int ((k : Nat) : Int)
theorem nD_at {xs : List Nat} {i y : Nat} (h : xs[i]? = some y) : atI (nD xs) (i : Int) = some (.int (y : Int)) := by
  apply atI_at (by omega)
  simp [nD, h]
theorem rf_loop {n : Nat} {m : Nat → Nat} (x k : Nat) (hm : ∀ j, j < n → m j < n) (hx : x < n) (hp : PerP n m x k) (hn : n ≤ 1000) : ∀ (j i : Nat), 1 ≤ i → i + j = k → whileN (bT (eNe (eVar 3) (eVar 1))) (sSeq (sExpr (eBM isL (eVar 2) (eCons (eVar 3) eNil) kAppend))
  (sSet 3 (eIx (eVar 0) (eVar 3)))) (j + 1) [some (.nt (nD ((List.range n).map m))), some (.pd (.int (x : Nat))), some (.mu .own (.ls (nD (orb m i x)))), some (.pd (.int (itr m i x : Nat)))] = some (.nx, [some (.nt (nD ((List.range n).map m))), some (.pd (.int (x : Nat))), some (.mu .own (.ls (nD (orb m k x)))), some (.pd (.int (x : Nat)))])
  | 0, i, h1, hk => by
    have e : i = k := by omega
    subst e
    unfold whileN
    simp [eNe, oNe, sh_int, eqv_int, hp.2.2.1]
  | j + 1, i, h1, hk => by
    have ne := hp.2.2.2 i h1 (by omega)
    have ne' : ¬ (itr m i x : Int) = x := by omega
    have lt := itr_lt hm i x hx
    have ih := rf_loop x k hm hx hp hn j (i + 1) (by omega) (by omega)
    have g : atI (nD ((List.range n).map m)) (itr m i x : Nat) = some (.int (m (itr m i x) : Nat)) := nD_at (by simp [lt])
    have hl : (nD (orb m i x)).length ≤ 1000000 := by simp [nD, orb_len]; have := hp.2.1; omega
    unfold whileN
    have c : bT (eNe (eVar 3) (eVar 1)) [some (.nt (nD ((List.range n).map m))), some (.pd (.int (x : Nat))), some (.mu .own (.ls (nD (orb m i x)))), some (.pd (.int (itr m i x : Nat)))] = some (true, [some (.nt (nD ((List.range n).map m))), some (.pd (.int (x : Nat))), some (.mu .own (.ls (nD (orb m i x)))), some (.pd (.int (itr m i x : Nat)))]) := by
      simp [eNe, oNe, sh_int, eqv_int, ne']
    have b : sSeq (sExpr (eBM isL (eVar 2) (eCons (eVar 3) eNil) kAppend)) (sSet 3 (eIx (eVar 0) (eVar 3))) [some (.nt (nD ((List.range n).map m))), some (.pd (.int (x : Nat))), some (.mu .own (.ls (nD (orb m i x)))), some (.pd (.int (itr m i x : Nat)))] = some (.nx, [some (.nt (nD ((List.range n).map m))), some (.pd (.int (x : Nat))), some (.mu .own (.ls (nD (orb m (i + 1) x)))), some (.pd (.int (itr m (i + 1) x : Nat)))]) := by
      have os : nD (orb m (i + 1) x) = nD (orb m i x) ++ [.int (itr m i x : Nat)] := by simp [orb_succ, nD]
      rw [os]
      simp [eBM, isL, kAppend, hl, eIx, oIx, g, itr_succ]
    simp only [c, b]
    exact ih
theorem round_from_sp {n : Nat} {m : Nat → Nat} (hm : ∀ j, j < n → m j < n) (hi : ∀ i j, i < n → j < n → m i = m j → i = j) {x : Nat} (hx : x < n) (hn : n ≤ 1000) : f_round_from [.nt (nD ((List.range n).map m)), .pd (.int (x : Nat))] = some (.nt (nD (orb m (per n m x) x)), [.nt (nD ((List.range n).map m)), .pd (.int (x : Nat))]) := by
  have hp := per_spec hm hi hx
  have g : atI (nD ((List.range n).map m)) (x : Nat) = some (.int (m x : Nat)) := nD_at (by simp [hx])
  have e := sWhile_of (rf_loop x (per n m x) hm hx hp hn (per n m x - 1) 1 (Nat.le_refl _) (by have := hp.1; omega))
  have o1 : nD (orb m 1 x) = [.int (x : Nat)] := rfl
  rw [o1] at e
  unfold f_round_from
  rw [run_of (e := [some (.nt (nD ((List.range n).map m))), some (.pd (.int (x : Nat))), none, none]) rfl]
  have i1 : itr m 1 x = m x := rfl
  rw [i1] at e
  simp [m_round_from, eIx, oIx, g, -z_seq]
  simp only [z_seq]
  simp [eIx, oIx, g]
  simp only [eIx, z_two] at e
  simp [e, kTupN]
theorem iRg1_of {f : EA} {env e : Sl} {n : Nat} (h : f env = some ([.pd (.int (n : Nat))], e)) (hn : n ≤ 1000) : iRg1 f env = some ((ups n).map .int, none, e) := by
  have b : RgI1 (n : Int) := by
    unfold RgI1
    have h1 : (-(2 ^ 62) : Int) ≤ 0 := by decide
    have h2 : (1000 : Int) < 2 ^ 62 := by decide
    omega
  unfold iRg1
  rw [h]
  show (if RgI1 (n : Int) then some (rgD 0 (n : Int).toNat 1, none, e) else none) = _
  rw [if_pos b, Int.toNat_natCast, rgD_ups]
theorem cmul_r (i j : Int) (h : 0 ≤ j ∧ j < 2147483648) : CMul i j := .inr (by
  have h1 : (2147483648 : Int) < 2 ^ 64 := by decide
  have h2 : (-2 ^ 64 : Int) < 0 := by decide
  omega)
theorem cmul_l (i j : Int) (h : 0 ≤ i ∧ i < 2147483648) : CMul i j := .inl (by
  have h1 : (2147483648 : Int) < 2 ^ 64 := by decide
  have h2 : (-2 ^ 64 : Int) < 0 := by decide
  omega)
def dirAt (r : Int) : Dir := if r = 0 then .e else if r = 1 then .n else if r = 2 then .s else .w
theorem ensw_eq : ("ensw" : Str) = ⟨#[101, 110, 115, 119]⟩ := by decide
theorem ensw_ix (r : Int) (h0 : 0 ≤ r) (h1 : r < 4) : oIx [.str "ensw", .int r] = some (.str (chS (dirAt r))) := by
  have : r = 0 ∨ r = 1 ∨ r = 2 ∨ r = 3 := by omega
  rw [ensw_eq]
  rcases this with rfl | rfl | rfl | rfl <;> rfl
def good (cs : List Cell) : Prop := 0 < cs.length ∧ cs.Nodup ∧ ∀ c ∈ cs, inB c = true
theorem inB_b {c : Cell} (h : inB c = true) : 0 ≤ c.1 ∧ c.1 ≤ 3 ∧ 0 ≤ c.2 ∧ c.2 ≤ 3 := by
  unfold inB at h
  simp at h
  omega
theorem pairs_of : ∀ cs : List Cell, (∀ c ∈ cs, inB c = true) → pairs? (cs.map clD) = some cs
  | [], _ => rfl
  | c :: cs, h => by
    have b := inB_b (h c (by simp))
    have e : pair? (clD c) = some c := by
      show (if 0 ≤ c.1 ∧ c.1 < 64 ∧ 0 ≤ c.2 ∧ c.2 < 64 then some (c.1, c.2) else none) = _
      rw [if_pos (by omega)]
    rw [List.map_cons, pairs?, e, pairs_of cs (fun d hd => h d (by simp [hd]))]
theorem ltC_of {c d : Cell} (hc : inB c = true) (hd : inB d = true) (h : prLe c d = true) (hne : c ≠ d) : ltC c d = true := by
  have b1 := inB_b hc
  have b2 := inB_b hd
  unfold prLe at h
  have h' : c.1 * 64 + c.2 ≤ d.1 * 64 + d.2 := by simpa using h
  have hne' : ¬ (c.1 = d.1 ∧ c.2 = d.2) := fun ⟨x, y⟩ => hne (Prod.ext x y)
  unfold ltC
  simp only [HT.lexLt]
  by_cases e : c.1 = d.1
  · simp [e]; omega
  · simp [e]; omega
theorem chain_of : ∀ cs : List Cell, (∀ c ∈ cs, inB c = true) → cs.Pairwise (fun a b => prLe a b = true) → cs.Nodup → chain cs = true
  | [], _, _, _ => rfl
  | [c], _, _, _ => rfl
  | c :: d :: r, h, hp, hn => by
    have ih := chain_of (d :: r) (fun x hx => h x (by simp [hx])) (List.pairwise_cons.mp hp).2 (List.nodup_cons.mp hn).2
    have l := ltC_of (h c (by simp)) (h d (by simp)) ((List.pairwise_cons.mp hp).1 d (by simp)) (fun e => (List.nodup_cons.mp hn).1 (by simp [e]))
    simp [chain, ih, l]
def all4 : List Dir := [.e, .n, .s, .w]
theorem ensw_row : ("ensw" : Str) = rowS all4 := by decide
def chD (d : Dir) : PyData := .str (chS d)
def ops (cs : List Cell) (c : Cell) : List Dir := all4.filter fun d => decide (stepC c d ∈ cs)
theorem sh_chs (l : List Dir) : SeqAt.shaped (.list (l.map chD)) = true := sh_lst chD (fun d => by have := SeqAt.canLay_of_shaped (sh_ch d); exact this) (fun d => by simp [chD, PyData.depth]) l
theorem eqv_nil (xs : List PyData) : PyData.eqv (.list xs) (.list []) = decide (xs = []) := by
  cases xs <;> simp [PyData.eqv, PyData.eqvAll]
theorem row_len (ds : List Dir) : (rowS ds).length = ds.length := by
  show (rowS ds).cps.size = _
  simp [rowS]
theorem letR_app {cs : List Cell} : ∀ (ds : List Dir) (c : Cell) (d : Dir), letR cs c ds → stepC (endC c ds) d ∈ cs → letR cs c (ds ++ [d])
  | [], c, d, _, h => ⟨h, trivial⟩
  | x :: ds, c, d, h1, h => ⟨h1.1, letR_app ds (stepC c x) d h1.2 h⟩
theorem endC_app (c : Cell) (ds : List Dir) (d : Dir) : endC c (ds ++ [d]) = stepC (endC c ds) d := by simp [endC]
theorem int_at {xs : List Int} {i : Nat} (h : i < xs.length) : atI (xs.map PyData.int) (i : Int) = some (.int (xs.getD i 0)) := by
  apply atI_at (by omega)
  simp [h]
def fre : Option S → Bool
  | none => true
  | some (.pd _) => true
  | some (.nt _) => true
  | some (.mu .own _) => true
  | _ => false
def freO : Option (Option S) → Bool
  | some s => fre s
  | none => false
theorem z_free2 (env : Sl) (i : Nat) : free env i = freO env[i]? := by
  rw [z_free]
  cases env[i]? with
  | none => rfl
  | some s =>
    cases s with
    | none => rfl
    | some s =>
      cases s with
      | pd x => rfl
      | nt x => rfl
      | mu m c => cases m <;> rfl
theorem freO_some (s : Option S) : freO (some s) = fre s := rfl
theorem cell_at_sp (ns : List Int) (k : Nat) : ∃ i, f__law_cell_at [.pd (.list (ns.map .int)), .pd (.int (k : Nat))] = some (.pd (.int i), [.pd (.list (ns.map .int)), .pd (.int (k : Nat))]) := by
  by_cases h : k < ns.length
  · refine ⟨ns.getD k 0, ?_⟩
    have g := int_at h
    have h' : (k : Int) < ns.length := by omega
    unfold f__law_cell_at
    rw [run_of (e := [some (.pd (.list (ns.map .int))), some (.pd (.int (k : Nat)))]) rfl]
    simp only [m__law_cell_at]
    simp [kLt, kLt0, oI, oLen, h', oIx, g, h, -List.getD_eq_getElem?_getD]
  · refine ⟨0, ?_⟩
    have h' : ¬ (k : Int) < ns.length := by omega
    unfold f__law_cell_at
    rw [run_of (e := [some (.pd (.list (ns.map .int))), some (.pd (.int (k : Nat)))]) rfl]
    simp only [m__law_cell_at]
    simp [kLt, kLt0, oI, oLen, h', h]
theorem need_cell_sp (cs : List Cell) (c : Cell) (hc : c ∈ cs) (hb : inB c = true) : f_need_cell [.nt (cs.map clD), .pd (clD c)] = some (.pd .none, [.nt (cs.map clD), .pd (clD c)]) := by
  unfold f_need_cell
  rw [run_of (e := [some (.nt (cs.map clD)), some (.pd (clD c))]) rfl]
  simp [m_need_cell, is_cell_of_sp cs c hc hb]
theorem need_lying_sp (l : Ly) (hl : l ∈ lyings) : f_need_lying [.pd (lyD l)] = some (.pd .none, [.pd (lyD l)]) := by
  unfold f_need_lying
  rw [run_of (e := [some (.pd (lyD l))]) rfl]
  simp [m_need_lying, is_lying_sp l hl]
def off (cs : List Cell) : Cell → List Dir → Option Nat
  | _, [] => none
  | c, d :: ds => if stepC c d ∈ cs then (off cs (stepC c d) ds).map (· + 1) else some 0
theorem off_cons (cs : List Cell) (c : Cell) (d : Dir) (ds : List Dir) : off cs c (d :: ds) = if stepC c d ∈ cs then (off cs (stepC c d) ds).map (· + 1) else some 0 := rfl
theorem off_let {cs : List Cell} : ∀ {ds : List Dir} {c : Cell}, off cs c ds = none ↔ letR cs c ds
  | [], c => by simp [off, letR]
  | d :: ds, c => by
    unfold off letR
    split
    · rename_i h
      have := off_let (cs := cs) (ds := ds) (c := stepC c d)
      simp [h, this]
    · rename_i h
      simp [h]
theorem place_off_loop2 (cs : List Cell) (a1 a2 : S) : ∀ (ds : List Dir) (k : Nat) (c : Cell) (s4 s5 : Option S), Fr s4 → Fr s5 →
    ∃ e', forL (gT 2 (gCn (gN 4) (gCn (gN 5) gNl))) (sSeq (sSet 3 (eCall f_rolled_cell (eCons (eVar 3) (eCons (eVar 5) eNil)))) (sIf (bT (eNin (eVar 3) (eVar 0))) (sRet (eVar 4)) sPass)) ((ds.zipIdx k).map fun p => .tuple [.int (p.2 : Nat), .str (chS p.1)]) [some (.nt (cs.map clD)), some a1, some a2, some (.pd (clD c)), s4, s5] = some (match off cs c ds with
      | none => .nx
      | some i => .rt (.pd (.int ((k + i : Nat) : Int))), some (.nt (cs.map clD)) :: some a1 :: some a2 :: e')
  | [], k, c, s4, s5, _, _ => ⟨_, rfl⟩
  | d :: ds, k, c, s4, s5, h4, h5 => by
    have st : gT 2 (gCn (gN 4) (gCn (gN 5) gNl)) (.tuple [.int (k : Nat), .str (chS d)]) [some (.nt (cs.map clD)), some a1, some a2, some (.pd (clD c)), s4, s5] = some [some (.nt (cs.map clD)), some a1, some a2, some (.pd (clD c)), some (.pd (.int (k : Nat))), some (.pd (.str (chS d)))] := by
      rcases h4 with rfl | ⟨x4, rfl⟩ <;> rcases h5 with rfl | ⟨x5, rfl⟩ <;> simp
    rw [List.zipIdx_cons, List.map_cons]
    by_cases h : stepC c d ∈ cs
    · obtain ⟨e', ih⟩ := place_off_loop2 cs a1 a2 ds (k + 1) (stepC c d) (some (.pd (.int (k : Nat)))) (some (.pd (.str (chS d)))) (.inr ⟨_, rfl⟩) (.inr ⟨_, rfl⟩)
      refine ⟨e', ?_⟩
      rw [forL_cons (e2 := [some (.nt (cs.map clD)), some a1, some a2, some (.pd (clD (stepC c d))), some (.pd (.int (k : Nat))), some (.pd (.str (chS d)))]) st ?_, ih]
      · rw [off_cons, if_pos h]
        cases off cs (stepC c d) ds with
        | none => rfl
        | some i =>
          simp only [Option.map_some]
          rw [show k + 1 + i = k + (i + 1) by omega]
      · simp [rolled_cell_sp, oIn, sh_cell, sh_cells, any_cell, h, -List.any_map, -List.any_eq_true]
    · refine ⟨[some (.pd (clD (stepC c d))), some (.pd (.int (k : Nat))), some (.pd (.str (chS d)))], ?_⟩
      unfold forL
      simp only [] at st ⊢
      rw [st]
      rw [off_cons, if_neg h]
      simp [rolled_cell_sp, oIn, sh_cell, sh_cells, any_cell, h, -List.any_map, -List.any_eq_true]
def offD : Option Nat → PyData
  | none => .none
  | some i => .int (i : Nat)
theorem place_off_sp2 (cs : List Cell) (c : Cell) (ds : List Dir) : f_place_off [.nt (cs.map clD), .pd (clD c), .pd (.str (rowS ds))] = some (.pd (offD (off cs c ds)), [.nt (cs.map clD), .pd (clD c), .pd (.str (rowS ds))]) := by
  unfold f_place_off
  rw [run_of (e := [some (.nt (cs.map clD)), some (.pd (clD c)), some (.pd (.str (rowS ds))), none, none, none]) rfl]
  obtain ⟨e', e⟩ := place_off_loop2 cs (.pd (clD c)) (.pd (.str (rowS ds))) ds 0 c none none (.inl rfl) (.inl rfl)
  cases h : off cs c ds with
  | none =>
    rw [h] at e
    simp [m_place_off, iEn, enum_row, e, offD]
  | some i =>
    rw [h] at e
    simp [m_place_off, iEn, enum_row, e, offD]
theorem stand_loop (a0 a1 a2 a3 : S) : ∀ (ds : List Dir) (c : Cell) (l : Ly) (s5 : Option S), Fr s5 → ∃ s5', forL (gN 5) (sSet 4 (eCall f_rolled_stand (eCons (eVar 4) (eCons (eVar 5) eNil)))) (ds.map fun d => .str (chS d)) [some a0, some a1, some a2, some a3, some (.pd (stD c l)), s5] = some (.nx, [some a0, some a1, some a2, some a3, some (.pd (stD (endC c ds) (endL l ds))), s5'])
  | [], c, l, s5, _ => ⟨s5, rfl⟩
  | d :: ds, c, l, s5, h5 => by
    obtain ⟨s5', ih⟩ := stand_loop a0 a1 a2 a3 ds (stepC c d) (roll l d) (some (.pd (.str (chS d)))) (.inr ⟨_, rfl⟩)
    refine ⟨s5', ?_⟩
    rw [List.map_cons, forL_cons (e1 := [some a0, some a1, some a2, some a3, some (.pd (stD c l)), some (.pd (.str (chS d)))]) (e2 := [some a0, some a1, some a2, some a3, some (.pd (stD (stepC c d) (roll l d))), some (.pd (.str (chS d)))]) ?_ ?_, ih]
    · rfl
    · rcases h5 with rfl | ⟨x5, rfl⟩ <;> simp
    · simp [rolled_stand_sp]
theorem stand_behind_sp {cs : List Cell} {c : Cell} {l : Ly} {ds : List Dir} (h : Sit cs c l ds) : f_stand_behind [.nt (cs.map clD), .pd (clD c), .pd (lyD l), .pd (.str (rowS ds))] = some (.pd (stD (endC c ds) (endL l ds)), [.nt (cs.map clD), .pd (clD c), .pd (lyD l), .pd (.str (rowS ds))]) := by
  unfold f_stand_behind
  rw [run_of (e := [some (.nt (cs.map clD)), some (.pd (clD c)), some (.pd (lyD l)), some (.pd (.str (rowS ds))), none, none]) rfl]
  obtain ⟨s5', e⟩ := stand_loop (.nt (cs.map clD)) (.pd (clD c)) (.pd (lyD l)) (.pd (.str (rowS ds))) ds c l none (.inl rfl)
  have sl : PyData.tuple [clD c, lyD l] = stD c l := rfl
  simp [m_stand_behind, need_floor_sp cs h.fl, need_cell_sp cs c h.mem h.b, need_lying_sp l h.ly, need_row_sp ds h.ln, need_let_sp cs c ds h.lt, sl, signs_row, e]
theorem join_fold : ∀ (ds : List Dir) (acc : Array Nat), (ds.map chS).foldl (fun acc p => acc ++ (Str.ofString "").cps ++ p.cps) acc = acc ++ (ds.map Dir.code).toArray
  | [], acc => by simp
  | d :: ds, acc => by
    rw [List.map_cons, List.foldl_cons, join_fold ds]
    have : (Str.ofString "").cps = #[] := by decide
    rw [this]
    simp [chS]
theorem join_row (ds : List Dir) : Txt.join "" (ds.map chS) = rowS ds := by
  cases ds with
  | nil => decide
  | cons d ds =>
    show (⟨(ds.map chS).foldl (fun acc p => acc ++ (Str.ofString "").cps ++ p.cps) (chS d).cps⟩ : Str) = _
    rw [join_fold]
    simp [chS, rowS]
theorem strs_ch : ∀ ds : List Dir, strs? (ds.map chD) = some (ds.map chS)
  | [] => rfl
  | d :: ds => by
    show (match strs? (ds.map chD) with | none => none | some ys => some (chS d :: ys)) = _
    rw [strs_ch ds]
    rfl
theorem oJoin_row (ds : List Dir) (h : ds.length ≤ 1000) : oJoin [.str "", .list (ds.map chD)] = some (.str (rowS ds)) := by
  show (match strs? (ds.map chD) with | some ys => if JoOk "" ys then some (PyData.str (Txt.join "" ys)) else none | none => none) = _
  rw [strs_ch]
  have hs : ∀ ds : List Dir, ((ds.map chS).map (·.length)).sum = ds.length := by
    intro ds
    induction ds with
    | nil => rfl
    | cons d ds ih => rw [List.map_cons, List.map_cons, List.sum_cons, ih]; show 1 + ds.length = _; simp; omega
  have j : JoOk "" (ds.map chS) := by
    unfold JoOk
    rw [hs, List.length_map]
    show ds.length + ds.length * 0 ≤ _
    omega
  simp only [if_pos j, join_row]
def opp : Dir → Dir
  | .e => .w
  | .n => .s
  | .s => .n
  | .w => .e
def bk (ds : List Dir) : List Dir := ds.reverse.map opp
theorem rev_row (ds : List Dir) : revS (rowS ds) = rowS ds.reverse := by simp [revS, rowS]
theorem six_ensw (d : Dir) : oSix [.str "ensw", chD d] = some (.int (match d with | .e => 0 | .n => 1 | .s => 2 | .w => 3)) := by
  have h : ∀ i, Builtin.Str.occurrences "ensw" (chS d) 0 4 1 = [i] → oSix [.str "ensw", chD d] = some (.int (i : Nat)) := by
    intro i hi
    show (match Builtin.Str.occurrences "ensw" (chS d) 0 4 1 with | i :: _ => some (PyData.int (i : Nat)) | [] => none) = _
    rw [hi]
  cases d
  · exact h 1 (by decide +kernel)
  · exact h 0 (by decide +kernel)
  · exact h 2 (by decide +kernel)
  · exact h 3 (by decide +kernel)
theorem wsne_eq : ("wsne" : Str) = ⟨#[119, 115, 110, 101]⟩ := by decide
theorem wsne_ix (d : Dir) : oIx [.str "wsne", .int (match d with | .e => 0 | .n => 1 | .s => 2 | .w => 3)] = some (chD (opp d)) := by
  rw [wsne_eq]
  cases d <;> rfl
theorem step_opp (c : Cell) (d : Dir) : stepC (stepC c d) (opp d) = c := by
  cases d <;> simp [stepC, opp] <;> (apply Prod.ext <;> simp <;> omega)
theorem roll_opp (l : Ly) (d : Dir) : roll (roll l d) (opp d) = l := by
  obtain ⟨a, b, c⟩ := l
  cases d <;> simp [roll, opp] <;> omega
theorem endC_snoc (c : Cell) (ds es : List Dir) : endC c (ds ++ es) = endC (endC c ds) es := by simp [endC]
theorem endL_snoc (c : Ly) (ds es : List Dir) : endL c (ds ++ es) = endL (endL c ds) es := by simp [endL]
theorem bk_cons (d : Dir) (ds : List Dir) : bk (d :: ds) = bk ds ++ [opp d] := by simp [bk]
theorem bk_len (ds : List Dir) : (bk ds).length = ds.length := by simp [bk]
theorem bk_end (c : Cell) (l : Ly) : ∀ ds : List Dir, endC (endC c ds) (bk ds) = c ∧ endL (endL l ds) (bk ds) = l := by
  intro ds
  induction ds generalizing c l with
  | nil => exact ⟨rfl, rfl⟩
  | cons d ds ih =>
    obtain ⟨h1, h2⟩ := ih (stepC c d) (roll l d)
    rw [bk_cons, endC_snoc, endL_snoc]
    refine ⟨?_, ?_⟩
    · show stepC (endC (endC (stepC c d) ds) (bk ds)) (opp d) = c
      rw [h1, step_opp]
    · show roll (endL (endL (roll l d) ds) (bk ds)) (opp d) = l
      rw [h2, roll_opp]
theorem letR_snoc {cs : List Cell} : ∀ (ds es : List Dir) (c : Cell), letR cs c ds → letR cs (endC c ds) es → letR cs c (ds ++ es)
  | [], es, c, _, h => h
  | d :: ds, es, c, h1, h => ⟨h1.1, letR_snoc ds es _ h1.2 h⟩
theorem letR_bk {cs : List Cell} : ∀ (ds : List Dir) (c : Cell), c ∈ cs → letR cs c ds → letR cs (endC c ds) (bk ds)
  | [], c, _, _ => trivial
  | d :: ds, c, hc, h => by
    rw [bk_cons]
    refine letR_snoc _ _ _ (letR_bk ds (stepC c d) h.1 h.2) ⟨?_, trivial⟩
    have := (bk_end (stepC c d) (0, 0, 0) ds).1
    show stepC (endC (endC (stepC c d) ds) (bk ds)) (opp d) ∈ cs
    rw [this, step_opp]
    exact hc
theorem letR_take {cs : List Cell} : ∀ (n : Nat) (ds : List Dir) (c : Cell), letR cs c ds → letR cs c (ds.take n)
  | 0, ds, c, _ => by simp [letR]
  | n + 1, [], c, _ => trivial
  | n + 1, d :: ds, c, h => ⟨h.1, letR_take n ds _ h.2⟩
theorem row_app (ds es : List Dir) : rowS ds ++ rowS es = rowS (ds ++ es) := by
  show Str.mk (_ ++ _) = _
  simp [rowS]
theorem rd_floor (cs : List Cell) (h : okFl cs) : RD 2 747 (.tuple (cs.map clD)) := RD.tup (k := 82) (n := 9) (by
  intro x hx
  obtain ⟨c, hc, rfl⟩ := List.mem_map.mp hx
  have := inB_b (h.2.2.1 c hc)
  exact RD.cell (by omega)) (by rw [List.length_map]; exact h.2.1)
theorem ltC_iff (a b : Cell) : ltC a b = true ↔ a.1 < b.1 ∨ (a.1 = b.1 ∧ a.2 < b.2) := by
  unfold ltC
  simp only [HT.lexLt]
  by_cases e : a.1 = b.1
  · by_cases e2 : a.2 = b.2
    · simp [e, e2]
    · simp [e, e2]
  · simp [e]
theorem chain_nd {cs : List Cell} (h : chain cs = true) : cs.Nodup := by
  have tr : ∀ a b c : Cell, ltC a b = true → ltC b c = true → ltC a c = true := by
    intro a b c h1 h2
    rw [ltC_iff] at *
    omega
  have ir : ∀ a : Cell, ltC a a ≠ true := by
    intro a h
    rw [ltC_iff] at h
    omega
  have go : ∀ (cs : List Cell), chain cs = true → cs.Pairwise (fun a b => ltC a b = true) := by
    intro cs
    induction cs with
    | nil => intro _; exact .nil
    | cons a cs ih =>
      intro h
      cases cs with
      | nil => exact List.pairwise_singleton _ _
      | cons b cs =>
        simp only [chain, Bool.and_eq_true] at h
        have hp := ih h.2
        refine List.pairwise_cons.mpr ⟨fun c hc => ?_, hp⟩
        rcases List.mem_cons.mp hc with rfl | hc
        · exact h.1
        · exact tr a b c h.1 ((List.pairwise_cons.mp hp).1 c hc)
  exact List.Pairwise.imp (fun {a b} h e => by subst e; exact ir a h) (go cs h)
theorem rd_stand {c : Cell} {l : Ly} (hc : inB c = true) (hl : l ∈ lyings) : RD 2 248 (stD c l) := RD.tup (k := 123) (n := 2) (by
  intro x hx
  have := inB_b hc
  simp only [List.mem_cons, List.not_mem_nil, or_false] at hx
  rcases hx with rfl | rfl
  · exact (RD.cell (by omega)).mono (by omega) (by omega)
  · exact RD.ly hl) (by simp)
theorem pmv (n : Nat) (T : List (Int × Int)) : Pm n (mv n T) := ⟨fun j hj => mv_lt hj, fun i j hi hj e => mv_inj hi hj e⟩
theorem add_row (ds es : List Dir) (env : Sl) (h1 : ds.length ≤ 1000) (h2 : es.length ≤ 1000) : kAdd [.pd (.str (rowS ds)), .pd (.str (rowS es))] env = some (.pd (.str (rowS (ds ++ es))), env) := by
  have h : ds.length + es.length ≤ 1000000 := by omega
  have cat : oCatS [.str (rowS ds), .str (rowS es)] = some (.str (rowS (ds ++ es))) := by
    show (if (rowS ds).length + (rowS es).length ≤ 1000000 then some (PyData.str (rowS ds ++ rowS es)) else none) = _
    rw [row_len, row_len, if_pos h, row_app]
  simp [kAdd, oI, cat]
theorem trd_app (cs : List Cell) : ∀ (ds es : List Dir) (c : Cell) (l : Ly), trd cs c l (ds ++ es) = trd cs c l ds ++ trd cs (endC c ds) (endL l ds) es
  | [], es, c, l => rfl
  | d :: ds, es, c, l => by
    show _ :: trd cs (stepC c d) (roll l d) (ds ++ es) = _ :: (trd cs (stepC c d) (roll l d) ds ++ trd cs (endC (stepC c d) ds) (endL (roll l d) ds) es)
    rw [trd_app cs ds es]
theorem endC_mem {cs : List Cell} : ∀ (ds : List Dir) (c : Cell), c ∈ cs → letR cs c ds → endC c ds ∈ cs
  | [], c, h, _ => h
  | d :: ds, c, h, hl => endC_mem ds (stepC c d) hl.1 hl.2
theorem endL_mem : ∀ (ds : List Dir) (l : Ly), l ∈ lyings → endL l ds ∈ lyings
  | [], l, h => h
  | d :: ds, l, h => endL_mem ds (roll l d) (roll_mem l h d)
theorem sh_st (c : Cell) (l : Ly) : SeqAt.shaped (stD c l) = true := by simp [stD, clD, lyD, SeqAt.shaped, PyData.canLay0, PyData.canLayAll0, PyData.depth, PyData.depthAll]
def rep : Nat → List Dir → List Dir
  | 0, _ => []
  | k + 1, ds => rep k ds ++ ds
theorem rep_len (ds : List Dir) : ∀ k, (rep k ds).length = k * ds.length
  | 0 => by simp [rep]
  | k + 1 => by simp [rep, rep_len ds k, Nat.succ_mul]
theorem rep_add (ds : List Dir) (a : Nat) : ∀ b, rep (a + b) ds = rep a ds ++ rep b ds
  | 0 => by simp [rep]
  | b + 1 => by
    show rep (a + b) ds ++ ds = rep a ds ++ (rep b ds ++ ds)
    rw [rep_add ds a b, List.append_assoc]
theorem rep1 (ds : List Dir) : rep 1 ds = ds := by simp [rep]
theorem rep_mul (ds : List Dir) (a : Nat) : ∀ b, rep (a * b) ds = rep b (rep a ds)
  | 0 => rfl
  | b + 1 => by
    show rep (a * b + a) ds = rep b (rep a ds) ++ rep a ds
    rw [rep_add, rep_mul ds a b]
theorem rep_home {c : Cell} {ds : List Dir} (h : endC c ds = c) : ∀ k, endC c (rep k ds) = c
  | 0 => rfl
  | k + 1 => by
    show endC c (rep k ds ++ ds) = c
    rw [endC_snoc, rep_home h k, h]
theorem rep_let {cs : List Cell} {c : Cell} {ds : List Dir} (h : endC c ds = c) (hl : letR cs c ds) : ∀ k, letR cs c (rep k ds)
  | 0 => trivial
  | k + 1 => letR_snoc _ _ _ (rep_let h hl k) (by rw [rep_home h k]; exact hl)
theorem endL_inj (ds : List Dir) {l l' : Ly} (h : endL l ds = endL l' ds) : l = l' := by
  have h1 := (bk_end (0, 0) l ds).2
  have h2 := (bk_end (0, 0) l' ds).2
  rw [← h1, ← h2, h]
def lyI (l : Ly) : Nat := lyings.idxOf l
def lyA (i : Nat) : Ly := lyings.getD i (0, 1, 2)
theorem lyA_I {l : Ly} (h : l ∈ lyings) : lyA (lyI l) = l := by
  unfold lyA lyI
  rw [List.getD_eq_getElem?_getD, List.getElem?_eq_getElem (List.idxOf_lt_length_iff.mpr h), List.getElem_idxOf]
  rfl
theorem lyI_lt {l : Ly} (h : l ∈ lyings) : lyI l < 24 := List.idxOf_lt_length_iff.mpr h
theorem lyA_mem {i : Nat} (h : i < 24) : lyA i ∈ lyings := by
  unfold lyA
  rw [List.getD_eq_getElem?_getD, List.getElem?_eq_getElem (show i < lyings.length from h)]
  exact List.getElem_mem _
theorem lyI_A : ∀ i, i < 24 → lyI (lyA i) = i := by decide +kernel
def trn (ds : List Dir) (i : Nat) : Nat := lyI (endL (lyA i) ds)
theorem trn_pm (ds : List Dir) : Pm 24 (trn ds) := ⟨fun i hi => lyI_lt (endL_mem ds _ (lyA_mem hi)), fun i j hi hj e => by
  have := congrArg lyA e
  unfold trn at this
  rw [lyA_I (endL_mem ds _ (lyA_mem hi)), lyA_I (endL_mem ds _ (lyA_mem hj))] at this
  have := congrArg lyI (endL_inj ds this)
  rw [lyI_A i hi, lyI_A j hj] at this
  exact this⟩
theorem trn_itr (ds : List Dir) {l : Ly} (h : l ∈ lyings) : ∀ k, itr (trn ds) k (lyI l) = lyI (endL l (rep k ds))
  | 0 => rfl
  | k + 1 => by
    rw [itr_succ, trn_itr ds h k]
    unfold trn
    rw [lyA_I (endL_mem _ _ h)]
    show _ = lyI (endL l (rep k ds ++ ds))
    rw [endL_snoc]
noncomputable def trns (l : Ly) (ds : List Dir) : Nat := per 24 (trn ds) (lyI l)
theorem trns_iff {l : Ly} (h : l ∈ lyings) (ds : List Dir) (k : Nat) : endL l (rep k ds) = l ↔ trns l ds ∣ k := by
  have p := (trn_pm ds).prd (lyI_lt h)
  unfold trns
  rw [← per_dvd p k, trn_itr ds h]
  constructor
  · intro e; rw [e]
  · intro e
    have := congrArg lyA e
    rw [lyA_I (endL_mem _ _ h), lyA_I h] at this
    exact this
theorem trns_b {l : Ly} (h : l ∈ lyings) (ds : List Dir) : 1 ≤ trns l ds ∧ trns l ds ≤ 24 := by
  have p := (trn_pm ds).prd (lyI_lt h)
  exact ⟨p.1, p.2.1⟩
def exM (cs : List Cell) (c : Cell) (l : Ly) (ds : List Dir) : Nat → Nat := mv (6 + cs.length) (trd cs c l ds)
theorem exM_app {cs : List Cell} {c : Cell} {l : Ly} (ds es : List Dir) {j : Nat} (h : j < 6 + cs.length) : exM cs c l (ds ++ es) j = exM cs (endC c ds) (endL l ds) es (exM cs c l ds j) := by
  unfold exM
  rw [trd_app, mv_app h]
theorem exM_pm (cs : List Cell) (c : Cell) (l : Ly) (ds : List Dir) : Pm (6 + cs.length) (exM cs c l ds) := pmv _ _
theorem exM_mul {cs : List Cell} {c : Cell} {l : Ly} {ds : List Dir} (hc : endC c ds = c) {r : Nat} (hr : endL l (rep r ds) = l) {j : Nat} (h : j < 6 + cs.length) : ∀ q, endL l (rep (r * q) ds) = l ∧ exM cs c l (rep (r * q) ds) j = itr (exM cs c l (rep r ds)) q j
  | 0 => ⟨rfl, by
    show exM cs c l [] j = j
    unfold exM
    exact mv_org (by unfold org held trd; simp [List.getElem?_range h])⟩
  | q + 1 => by
    obtain ⟨h1, h2⟩ := exM_mul hc hr h q
    rw [Nat.mul_succ, rep_add]
    refine ⟨by rw [endL_snoc, h1, hr], ?_⟩
    rw [exM_app _ _ h, rep_home hc, h1, h2, itr_succ]
theorem eqv_st2 (c : Cell) (l l' : Ly) : PyData.eqv (stD c l) (stD c l') = decide (l = l') := by
  have h1 := eqv_cell c c
  have h2 := eqv_ly l l'
  simp only [decide_true] at h1
  simp [stD, PyData.eqv, PyData.eqvAll, h1, h2]
theorem letR_mid {cs : List Cell} : ∀ (ds es : List Dir) (c : Cell), letR cs c (ds ++ es) → letR cs c ds ∧ letR cs (endC c ds) es
  | [], es, c, h => ⟨trivial, h⟩
  | d :: ds, es, c, h => by
    obtain ⟨h1, h2⟩ := letR_mid ds es (stepC c d) h.2
    exact ⟨⟨h.1, h1⟩, h2⟩
theorem rep_nil : ∀ k, rep k [] = []
  | 0 => rfl
  | k + 1 => by show rep k [] ++ [] = []; rw [rep_nil k]; rfl
theorem rep_fold (ds : List Dir) : ∀ (k : Nat) (acc : Array Nat), (List.replicate k (rowS ds).cps).foldl (· ++ ·) acc = acc ++ ((rep k ds).map Dir.code).toArray
  | 0, acc => by simp [rep]
  | k + 1, acc => by
    rw [List.replicate_succ, List.foldl_cons, rep_fold ds k, Nat.add_comm k 1, rep_add, rep1]
    simp [rowS]
theorem mul_row (ds : List Dir) (k : Nat) : Txt.mul (rowS ds) (k : Nat) = rowS (rep k ds) := by
  unfold Txt.mul
  split
  · have : k = 0 := by omega
    subst this
    rfl
  · split
    · rename_i h1 h2
      rw [Bool.or_eq_true, beq_iff_eq, beq_iff_eq, row_len] at h2
      rcases h2 with h2 | h2
      · have : k = 1 := by omega
        subst this
        rw [rep1]
      · have : ds = [] := List.length_eq_zero_iff.mp h2
        subst this
        rw [rep_nil]
    · rw [show ((k : Int)).toNat = k by omega, rep_fold]
      simp [rowS]
def sw1 (a b j : Nat) : Nat := if j = a then b else if j = b then a else j
theorem mv_one {n : Nat} {p : Int × Int} (h1 : 0 ≤ p.1 ∧ p.1 < n) (h2 : 0 ≤ p.2 ∧ p.2 < n) {j : Nat} (hj : j < n) : mv n [p] j = sw1 p.1.toNat p.2.toNat j := by
  obtain ⟨a, ha⟩ : ∃ a : Nat, p.1 = a := ⟨p.1.toNat, by omega⟩
  obtain ⟨b, hb⟩ : ∃ b : Nat, p.2 = b := ⟨p.2.toNat, by omega⟩
  have ga : (List.range n)[a]? = some a := List.getElem?_range (by omega)
  have gb : (List.range n)[b]? = some b := List.getElem?_range (by omega)
  have e : org n [p] = ((List.range n).set a b).set b a := by
    show swp (List.range n) p = _
    unfold swp
    rw [ha, hb]
    simp only [Int.toNat_natCast, ga, gb]
  refine mv_org ?_
  rw [e, ha, hb, Int.toNat_natCast, Int.toNat_natCast]
  unfold sw1
  have la : a < n := by omega
  have lb : b < n := by omega
  by_cases z1 : j = a
  · rw [if_pos z1, List.getElem?_set_self (by simpa using lb), z1]
  · rw [if_neg z1]
    by_cases z2 : j = b
    · rw [if_pos z2]
      by_cases z3 : a = b
      · omega
      · rw [List.getElem?_set_ne (by omega), List.getElem?_set_self (by simpa using la), z2]
    · rw [if_neg z2, List.getElem?_set_ne (by omega), List.getElem?_set_ne (by omega)]
      exact List.getElem?_range hj
def stirB (b : Int) (t : Nat) : Int := (b + 17 * ((t + 1 : Nat) : Int)) * (69621 + 2 * ((t + 1 : Nat) : Int)) % 2147483647
def stirS (s : Int) (t : Nat) : Int := (s * s + 40503 * ((t + 1 : Nat) : Int) + 5) % 2147483629
theorem draw2_sp (p : Pk) (n : Int) (h0 : 0 < n) (h1 : n < 1000000000000000) (ht : p.t ≤ 1000000000000) : ∃ (r : Int) (q : Pk), 0 ≤ r ∧ r < n ∧ q.t ≤ p.t + 1 ∧ f__law_draw [.mu .bor (penK p), .pd (.int n)] = some (.pd (.int r), [.mu .bor (penK q), .pd (.int n)]) := by
  obtain ⟨a, b, t⟩ := p
  have x0 : ∀ x y z : PyData, atI [x, y, z] 0 = some x := fun _ _ _ => rfl
  have x1 : ∀ x y z : PyData, atI [x, y, z] 1 = some y := fun _ _ _ => rfl
  have x2 : ∀ x y z : PyData, atI [x, y, z] 2 = some z := fun _ _ _ => rfl
  have i0 : ixN 3 0 = some 0 := rfl
  have i1 : ixN 3 1 = some 1 := rfl
  have i2 : ixN 3 2 = some 2 := rfl
  by_cases ha : 0 < a
  · refine ⟨a % n, ⟨a / n, b, t⟩, Int.emod_nonneg _ (by omega), Int.emod_lt_of_pos _ h0, by simp, ?_⟩
    have cd : CDivW a n := cdv _ _ h0 h1
    unfold f__law_draw
    rw [run_of (e := [some (.mu .bor (penK ⟨a, b, t⟩)), some (.pd (.int n)), none, none]) rfl]
    simp [m__law_draw, penK, oIx, x0, kGt, oI, ha, kMod, h0, kFdiv, cd, putL, i0]
  · have tt : (t : Int) + 1 = ((t + 1 : Nat) : Int) := by omega
    have ht' : t ≤ 1000000000000 := ht
    have e64 : (2 : Int) ^ 64 = 18446744073709551616 := by decide
    have c1 := cmul_l 17 ((t + 1 : Nat) : Int) (by omega)
    have c2 := cmul_l 2 ((t + 1 : Nat) : Int) (by omega)
    have c3 : CMul (b + 17 * ((t + 1 : Nat) : Int)) (69621 + 2 * ((t + 1 : Nat) : Int)) := .inr (by rw [e64]; omega)
    have s1 : 0 ≤ stirB b t ∧ stirB b t < 2147483647 := ⟨Int.emod_nonneg _ (by decide), Int.emod_lt_of_pos _ (by decide)⟩
    have c4 := cmul_l (stirB b t) (stirB b t) (by omega)
    have c5 := cmul_l 40503 ((t + 1 : Nat) : Int) (by omega)
    have c6 : ∀ i, CMul i 48271 := fun i => cmul_r i 48271 (by omega)
    have cd2 : ∀ i, CDivW i 32 := fun i => cdv _ _ (by decide) (by decide)
    have e1 : (b + 17 * ((t + 1 : Nat) : Int)) * (69621 + 2 * ((t + 1 : Nat) : Int)) % 2147483647 = stirB b t := rfl
    have e2 : (stirB b t * stirB b t + 40503 * ((t + 1 : Nat) : Int) + 5) % 2147483629 = stirS (stirB b t) t := rfl
    refine ⟨stirS (stirB b t) t * 48271 % 2147483647 / 32 % n, ⟨a, b, t + 1⟩, Int.emod_nonneg _ (by omega), Int.emod_lt_of_pos _ h0, by simp, ?_⟩
    unfold f__law_draw
    rw [run_of (e := [some (.mu .bor (penK ⟨a, b, t⟩)), some (.pd (.int n)), none, none]) rfl]
    simp [m__law_draw, penK, oIx, x0, x1, x2, kGt, oI, ha, kMod, kMul, kAdd, h0, kFdiv, cd2, putL, i2, tt, c1, c2, c3, c4, c5, c6, e1, e2, -Int.natCast_add]
theorem pen2_sp (i : Int) : ∃ p : Pk, p.t = 0 ∧ f__law_pen [.pd (.int i)] = some (.tmp (penK p), [.pd (.int i)]) := by
  have cp : CPow 10 18 := ⟨by decide, by decide, by decide⟩
  refine ⟨⟨if i - 10 ^ 18 > 0 then i - 10 ^ 18 else 0, i % 1000000007, 0⟩, rfl, ?_⟩
  unfold f__law_pen
  rw [run_of (e := [some (.pd (.int i))]) rfl]
  simp [m__law_pen, kPow, oI, cp, kSub, oMax, kMod, penK]
theorem at_mem {xs : List PyData} {r : Int} (h0 : 0 ≤ r) (h1 : r < xs.length) : ∃ x ∈ xs, atI xs r = some x := by
  obtain ⟨k, rfl⟩ : ∃ k : Nat, r = k := ⟨r.toNat, by omega⟩
  have hk : k < xs.length := by omega
  exact ⟨xs[k], List.getElem_mem _, atI_at (by omega) (by simp [hk])⟩
section
variable {cs : List Cell} (cl : ∀ c ∈ cs, ∀ d, inB (stepC c d) = true → stepC c d ∈ cs)
include cl
theorem goE : ∀ (k : Nat) (x y : Int), (x, y) ∈ cs → 0 ≤ x → x + k ≤ 3 → 0 ≤ y → y ≤ 3 → (x + k, y) ∈ cs
  | 0, x, y, h, _, _, _, _ => by simpa using h
  | k + 1, x, y, h, h0, h1, h2, h3 => by
    have := goE k (x + 1) y (cl (x, y) h .e (by show inB (x + 1, y) = true; unfold inB; simp only [Bool.and_eq_true, decide_eq_true_eq]; omega)) (by omega) (by omega) h2 h3
    rw [show x + ((k + 1 : Nat) : Int) = x + 1 + k by omega]
    exact this
theorem goW : ∀ (k : Nat) (x y : Int), (x, y) ∈ cs → 0 ≤ x - k → x ≤ 3 → 0 ≤ y → y ≤ 3 → (x - k, y) ∈ cs
  | 0, x, y, h, _, _, _, _ => by simpa using h
  | k + 1, x, y, h, h0, h1, h2, h3 => by
    have := goW k (x - 1) y (cl (x, y) h .w (by show inB (x - 1, y) = true; unfold inB; simp only [Bool.and_eq_true, decide_eq_true_eq]; omega)) (by omega) (by omega) h2 h3
    rw [show x - ((k + 1 : Nat) : Int) = x - 1 - k by omega]
    exact this
theorem goN : ∀ (k : Nat) (x y : Int), (x, y) ∈ cs → 0 ≤ y → y + k ≤ 3 → 0 ≤ x → x ≤ 3 → (x, y + k) ∈ cs
  | 0, x, y, h, _, _, _, _ => by simpa using h
  | k + 1, x, y, h, h0, h1, h2, h3 => by
    have := goN k x (y + 1) (cl (x, y) h .n (by show inB (x, y + 1) = true; unfold inB; simp only [Bool.and_eq_true, decide_eq_true_eq]; omega)) (by omega) (by omega) h2 h3
    rw [show y + ((k + 1 : Nat) : Int) = y + 1 + k by omega]
    exact this
theorem goS : ∀ (k : Nat) (x y : Int), (x, y) ∈ cs → 0 ≤ y - k → y ≤ 3 → 0 ≤ x → x ≤ 3 → (x, y - k) ∈ cs
  | 0, x, y, h, _, _, _, _ => by simpa using h
  | k + 1, x, y, h, h0, h1, h2, h3 => by
    have := goS k x (y - 1) (cl (x, y) h .s (by show inB (x, y - 1) = true; unfold inB; simp only [Bool.and_eq_true, decide_eq_true_eq]; omega)) (by omega) (by omega) h2 h3
    rw [show y - ((k + 1 : Nat) : Int) = y - 1 - k by omega]
    exact this
theorem goAny {c g : Cell} (h : c ∈ cs) (hc : inB c = true) (hg : inB g = true) : g ∈ cs := by
  obtain ⟨x, y⟩ := c
  obtain ⟨a, b⟩ := g
  simp [inB] at hc hg
  have h1 : (a, y) ∈ cs := by
    rcases Int.le_total x a with z | z
    · have := goE cl (a - x).toNat x y h (by omega) (by omega) (by omega) (by omega)
      rw [show x + ((a - x).toNat : Int) = a by omega] at this
      exact this
    · have := goW cl (x - a).toNat x y h (by omega) (by omega) (by omega) (by omega)
      rw [show x - ((x - a).toNat : Int) = a by omega] at this
      exact this
  rcases Int.le_total y b with z | z
  · have := goN cl (b - y).toNat a y h1 (by omega) (by omega) (by omega) (by omega)
    rw [show y + ((b - y).toNat : Int) = b by omega] at this
    exact this
  · have := goS cl (y - b).toNat a y h1 (by omega) (by omega) (by omega) (by omega)
    rw [show y - ((y - b).toNat : Int) = b by omega] at this
    exact this
end
def grid : List Cell := [(0, 0), (0, 1), (0, 2), (0, 3), (1, 0), (1, 1), (1, 2), (1, 3), (2, 0), (2, 1), (2, 2), (2, 3), (3, 0), (3, 1), (3, 2), (3, 3)]
theorem grid_in : ∀ c ∈ grid, inB c = true := by decide
theorem some_near {cs : List Cell} (hg : good cs) (hl : cs.length < 16) : ∃ c ∈ cs, ∃ d, inB (stepC c d) = true ∧ stepC c d ∉ cs := by
  refine Classical.byContradiction fun no => ?_
  have cl : ∀ c ∈ cs, ∀ d, inB (stepC c d) = true → stepC c d ∈ cs := fun c hc d hi => Classical.byContradiction fun z => no ⟨c, hc, d, hi, z⟩
  obtain ⟨c, hc⟩ := List.exists_mem_of_length_pos hg.1
  have sub : ∀ g ∈ grid, g ∈ cs := fun g h => goAny cl hc (hg.2.2 c hc) (grid_in g h)
  have nd : grid.Nodup := by decide
  have := nd.length_le_of_subset sub
  simp [grid] at this
  omega
def atF (l : Ly) (f : Int) : Int := if f = 0 then l.1 else if f = 5 then 5 - l.1 else if f = 1 then l.2.1 else if f = 4 then 5 - l.2.1 else if f = 2 then l.2.2 else 5 - l.2.2
def lab (l m : Ly) : Ly := (atF l m.1, atF l m.2.1, atF l m.2.2)
theorem lab_roll4 : ∀ l ∈ lyings, ∀ m ∈ lyings, lab l (roll m .n) = roll (lab l m) .n ∧ lab l (roll m .e) = roll (lab l m) .e ∧ lab l (roll m .s) = roll (lab l m) .s ∧ lab l (roll m .w) = roll (lab l m) .w := by decide +kernel
theorem lab_roll {l m : Ly} (hl : l ∈ lyings) (hm : m ∈ lyings) (d : Dir) : lab l (roll m d) = roll (lab l m) d := by
  have := lab_roll4 l hl m hm
  cases d
  · exact this.1
  · exact this.2.1
  · exact this.2.2.1
  · exact this.2.2.2
theorem lab_one : ∀ l ∈ lyings, lab l (0, 1, 2) = l := by decide +kernel
theorem lab_end {l : Ly} (hl : l ∈ lyings) : ∀ (ds : List Dir) (m : Ly), m ∈ lyings → endL (lab l m) ds = lab l (endL m ds)
  | [], m, _ => rfl
  | d :: ds, m, hm => by
    show endL (roll (lab l m) d) ds = lab l (endL (roll m d) ds)
    rw [← lab_roll hl hm, lab_end hl ds _ (roll_mem m hm d)]
theorem end_lab {l : Ly} (hl : l ∈ lyings) (ds : List Dir) : endL l ds = lab l (endL (0, 1, 2) ds) := by
  have := lab_end hl ds (0, 1, 2) (by decide)
  rw [lab_one l hl] at this
  exact this
theorem lab_four : ∀ l ∈ lyings, ∀ m ∈ lyings, lab l m = l ∨ lab (lab l m) m = l ∨ lab (lab (lab l m) m) m = l ∨ lab (lab (lab (lab l m) m) m) m = l := by decide +kernel
theorem trns_four {l : Ly} (hl : l ∈ lyings) (ds : List Dir) : trns l ds ≤ 4 := by
  have e1 : ∀ k, endL l (rep (k + 1) ds) = lab (endL l (rep k ds)) (endL (0, 1, 2) ds) := fun k => by
    show endL l (rep k ds ++ ds) = _
    rw [endL_snoc, end_lab (endL_mem _ _ hl)]
  have e0 : endL l (rep 0 ds) = l := rfl
  have mm := endL_mem ds (0, 1, 2) (by decide)
  rcases lab_four l hl _ mm with h | h | h | h
  · have := Nat.le_of_dvd (by omega) ((trns_iff hl ds 1).mp (by rw [e1, e0]; exact h)); omega
  · have := Nat.le_of_dvd (by omega) ((trns_iff hl ds 2).mp (by rw [e1, e1, e0]; exact h)); omega
  · have := Nat.le_of_dvd (by omega) ((trns_iff hl ds 3).mp (by rw [e1, e1, e1, e0]; exact h)); omega
  · exact Nat.le_of_dvd (by omega) ((trns_iff hl ds 4).mp (by rw [e1, e1, e1, e1, e0]; exact h))
theorem mul_row2 (ds : List Dir) (k : Nat) (env : Sl) (hk : k ≤ 1000) (hd : ds.length ≤ 1000) : kMul2 [.pd (.str (rowS ds)), .pd (.int (k : Nat))] env = some (.pd (.str (rowS (rep k ds))), env) := by
  have e := mul_row ds k
  have hk' : (k : Int) ≤ 1000 := by omega
  have hk0 : (0 : Int) ≤ k := by omega
  simp [kMul2, kRepL, lsOf, oRepS, row_len, e, hk', hk0, hd]
theorem cell_behind_loop (a0 a1 : S) : ∀ (ds : List Dir) (c : Cell) (s3 : Option S), Fr s3 → ∃ s3', forL (gN 3) (sSet 2 (eCall f_rolled_cell (eCons (eVar 2) (eCons (eVar 3) eNil)))) (ds.map fun d => .str (chS d)) [some a0, some a1, some (.pd (clD c)), s3] = some (.nx, [some a0, some a1, some (.pd (clD (endC c ds))), s3'])
  | [], c, s3, _ => ⟨s3, rfl⟩
  | d :: ds, c, s3, h3 => by
    obtain ⟨s3', ih⟩ := cell_behind_loop a0 a1 ds (stepC c d) (some (.pd (.str (chS d)))) (.inr ⟨_, rfl⟩)
    refine ⟨s3', ?_⟩
    rw [List.map_cons, forL_cons (e1 := [some a0, some a1, some (.pd (clD c)), some (.pd (.str (chS d)))]) (e2 := [some a0, some a1, some (.pd (clD (stepC c d))), some (.pd (.str (chS d)))]) ?_ ?_, ih]
    · rfl
    · rcases h3 with rfl | ⟨x5, rfl⟩ <;> simp
    · simp [rolled_cell_sp]
theorem cell_behind_sp (c : Cell) (ds : List Dir) : f_cell_behind [.pd (clD c), .pd (.str (rowS ds))] = some (.pd (clD (endC c ds)), [.pd (clD c), .pd (.str (rowS ds))]) := by
  unfold f_cell_behind
  rw [run_of (e := [some (.pd (clD c)), some (.pd (.str (rowS ds))), none, none]) rfl]
  obtain ⟨s', e⟩ := cell_behind_loop (.pd (clD c)) (.pd (.str (rowS ds))) ds c none (.inl rfl)
  simp [m_cell_behind, signs_row, e]
theorem is_endless_sp (cs : List Cell) (c : Cell) (ds : List Dir) : f_is_endless [.nt (cs.map clD), .pd (clD c), .pd (.str (rowS ds))] = some (.pd (.bool (decide (off cs c ds = none ∧ endC c ds = c))), [.nt (cs.map clD), .pd (clD c), .pd (.str (rowS ds))]) := by
  unfold f_is_endless
  rw [run_of (e := [some (.nt (cs.map clD)), some (.pd (clD c)), some (.pd (.str (rowS ds)))]) rfl]
  cases h : off cs c ds with
  | none => simp [m_is_endless, place_off_sp2, h, offD, oIsN, isN, cell_behind_sp, oEq, sh_cell, eqv_cell]
  | some i => simp [m_is_endless, place_off_sp2, h, offD, oIsN, isN, cell_behind_sp, oEq, sh_cell, eqv_cell]
theorem need_endless_sp {cs : List Cell} {c : Cell} {ds : List Dir} (h : letR cs c ds) (hc : endC c ds = c) : f_need_endless [.nt (cs.map clD), .pd (clD c), .pd (.str (rowS ds))] = some (.pd .none, [.nt (cs.map clD), .pd (clD c), .pd (.str (rowS ds))]) := by
  unfold f_need_endless
  rw [run_of (e := [some (.nt (cs.map clD)), some (.pd (clD c)), some (.pd (.str (rowS ds)))]) rfl]
  simp [m_need_endless, is_endless_sp, off_let.mpr h, hc]
def Itp (cs : List Cell) (c : Cell) (l : Ly) (ds : List Dir) (n : Nat) (e : Sl) : Prop := ∃ k, 1 ≤ k ∧ k + n = trns l ds ∧ e = [some (.nt (cs.map clD)), some (.pd (stD c l)), some (.pd (.str (rowS ds))), some (.pd (clD c)), some (.pd (lyD l)), some (.pd (.int (k : Nat))), some (.pd (stD c (endL l (rep k ds))))]
theorem turn_plays_sp {cs : List Cell} {c : Cell} {l : Ly} {ds : List Dir} (h : Sit cs c l ds) (hc : endC c ds = c) : f_turn_plays [.nt (cs.map clD), .pd (stD c l), .pd (.str (rowS ds))] = some (.pd (.int (trns l ds : Nat)), [.nt (cs.map clD), .pd (stD c l), .pd (.str (rowS ds))]) := by
  have b1 := trns_b h.ly ds
  have sb : ∀ m, m ∈ lyings → f_stand_behind [.nt (cs.map clD), .pd (clD c), .pd (lyD m), .pd (.str (rowS ds))] = some (.pd (stD c (endL m ds)), [.nt (cs.map clD), .pd (clD c), .pd (lyD m), .pd (.str (rowS ds))]) := fun m hm => by
    have := stand_behind_sp (cs := cs) (c := c) (l := m) (ds := ds) ⟨h.fl, h.mem, hm, h.lt, h.ln⟩
    rw [hc] at this
    exact this
  have key : wF f_turn_plays [.nt (cs.map clD), .pd (stD c l), .pd (.str (rowS ds))] (fun r as => r = .pd (.int (trns l ds : Nat)) ∧ as = [.nt (cs.map clD), .pd (stD c l), .pd (.str (rowS ds))]) := by
    have sl : stD c l = .tuple [clD c, lyD l] := rfl
    refine wF_run (e := [some (.nt (cs.map clD)), some (.pd (stD c l)), some (.pd (.str (rowS ds))), none, none, none, none]) rfl ?_
    refine wS_seq ?_
    refine wS_of (fl := .nx) (e := [some (.nt (cs.map clD)), some (.pd (stD c l)), some (.pd (.str (rowS ds))), some (.pd (clD c)), some (.pd (lyD l)), none, none]) (by simp [sl]) ?_
    rw [nxt_nx, go]
    refine wS_seq (wS_of (fl := .nx) (e := [some (.nt (cs.map clD)), some (.pd (stD c l)), some (.pd (.str (rowS ds))), some (.pd (clD c)), some (.pd (lyD l)), some (.pd (.int 1)), none]) (by simp) ?_)
    rw [nxt_nx, go]
    refine wS_seq (wS_of (fl := .nx) (e := [some (.nt (cs.map clD)), some (.pd (stD c l)), some (.pd (.str (rowS ds))), some (.pd (clD c)), some (.pd (lyD l)), some (.pd (.int 1)), some (.pd (stD c (endL l ds)))]) (by simp [sb l h.ly]) ?_)
    rw [nxt_nx, go]
    refine wS_seq ?_
    refine wS_while (Itp cs c l ds) (trns l ds - 1) ⟨1, Nat.le_refl _, by omega, by rw [rep1]; rfl⟩ ?_
    rintro n e ⟨k, h1, h2, rfl⟩
    by_cases hk : endL l (rep k ds) = l
    · have hd := Nat.le_of_dvd (by omega) ((trns_iff h.ly ds k).mp hk)
      have ek : k = trns l ds := by omega
      simp only [bW, z_bT, z_ne, z_then, z_cons, z_var, z_nil, z_kE, z_ctns1, z_ctns0, z_ctn1, oNe, sh_st, eqv_st2, hk, List.getElem?_cons_succ, List.getElem?_cons_zero, and_self, if_true, decide_true, Bool.not_true, Bool.false_eq_true, if_false]
      subst ek
      simp only [nxt_nx]
      rw [go]
      simp [wS]
    · have hn : 1 ≤ n := by
        rcases Nat.eq_zero_or_pos n with z | z
        · exact absurd ((trns_iff h.ly ds k).mpr (by rw [show k = trns l ds by omega]; exact Nat.dvd_refl _)) hk
        · exact z
      have s2 := sb _ (endL_mem (rep k ds) l h.ly)
      rw [← endL_snoc] at s2
      have x1 : oIx [stD c (endL l (rep k ds)), .int 1] = some (lyD (endL l (rep k ds))) := rfl
      simp only [bW, z_bT, z_ne, z_then, z_cons, z_var, z_nil, z_kE, z_ctns1, z_ctns0, z_ctn1, oNe, sh_st, eqv_st2, hk, List.getElem?_cons_succ, List.getElem?_cons_zero, and_self, if_true, decide_false, Bool.not_false]
      refine wS_of (fl := .nx) (e := [some (.nt (cs.map clD)), some (.pd (stD c l)), some (.pd (.str (rowS ds))), some (.pd (clD c)), some (.pd (lyD l)), some (.pd (.int ((k + 1 : Nat) : Int))), some (.pd (stD c (endL l (rep (k + 1) ds))))]) ?_ ⟨n - 1, by omega, k + 1, by omega, by omega, rfl⟩
      simp [x1, s2, rep]
  obtain ⟨r, as, e, rfl, rfl⟩ := key
  exact e
structure Far (cs : List Cell) (c : Cell) (l : Ly) (ds : List Dir) (k : Nat) : Prop where
  fl : okFl cs
  mem : c ∈ cs
  ly : l ∈ lyings
  ln : ds.length ≤ 60
  lt : letR cs c (rep k ds)
  bd : k ≤ 1000000000000
noncomputable section
end
theorem ok_pw {cs : List Cell} (h : okFl cs) : cs.Pairwise (fun a b => ltC a b = true) := by
  have tr : ∀ a b c : Cell, ltC a b = true → ltC b c = true → ltC a c = true := by
    intro a b c h1 h2
    rw [ltC_iff] at *
    omega
  have go : ∀ cs : List Cell, chain cs = true → cs.Pairwise (fun a b => ltC a b = true) := by
    intro cs
    induction cs with
    | nil => intro _; exact .nil
    | cons a cs ih =>
      intro h
      cases cs with
      | nil => exact List.pairwise_singleton _ _
      | cons b cs =>
        simp only [chain, Bool.and_eq_true] at h
        have hp := ih h.2
        refine List.pairwise_cons.mpr ⟨fun c hc => ?_, hp⟩
        rcases List.mem_cons.mp hc with rfl | hc
        · exact h.1
        · exact tr a b c h.1 ((List.pairwise_cons.mp hp).1 c hc)
  exact go cs h.2.2.2
noncomputable section
abbrev Mk := Cell × Ly × Int
def trS (t : Int × Int) (s : Int) : Int := if s = t.1 then t.2 else if s = t.2 then t.1 else s
theorem traded_spot_sp (t : Int × Int) (s : Int) : f_traded_spot [.pd (clD t), .pd (.int s)] = some (.pd (.int (trS t s)), [.pd (clD t), .pd (.int s)]) := by
  have ht : clD t = .tuple [.int t.1, .int t.2] := rfl
  unfold f_traded_spot
  rw [run_of (e := [some (.pd (clD t)), some (.pd (.int s)), none, none]) rfl]
  by_cases h1 : s = t.1
  · simp [m_traded_spot, ht, trS, eEq, oEq, sh_int, eqv_int, h1]
  · by_cases h2 : s = t.2
    · have h3 : ¬ t.2 = t.1 := fun e => h1 (h2.trans e)
      simp [m_traded_spot, ht, trS, eEq, oEq, sh_int, eqv_int, h2, h3]
    · simp [m_traded_spot, ht, trS, eEq, oEq, sh_int, eqv_int, h1, h2]
end
theorem need_spot_sp (cs : List Cell) (s : Int) (h : 0 ≤ s ∧ s < 6 + (cs.length : Int)) : f_need_spot [.nt (cs.map clD), .pd (.int s)] = some (.pd .none, [.nt (cs.map clD), .pd (.int s)]) := by
  have e : f_is_spot [.nt (cs.map clD), .pd (.int s)] = some (.pd (.bool true), [.nt (cs.map clD), .pd (.int s)]) := by
    have w := is_whole_int s (6 + (cs.length : Int) - 1)
    have h1 : decide (s ≤ 6 + (cs.length : Int) - 1) = true := by simp; omega
    have h2 : decide (0 ≤ s) = true := by simp; omega
    rw [h1, h2] at w
    unfold f_is_spot
    rw [run_of (e := [some (.nt (cs.map clD)), some (.pd (.int s))]) rfl]
    simp [m_is_spot, v_FACES, oLen, kAdd, kSub, oI, w]
  unfold f_need_spot
  rw [run_of (e := [some (.nt (cs.map clD)), some (.pd (.int s))]) rfl]
  simp [m_need_spot, e]
theorem is_rising_pd (cs : List Cell) (h9 : cs.length ≤ 1000) : f_is_rising [.pd (.tuple (cs.map clD))] = some (.pd (.bool (chain cs)), [.pd (.tuple (cs.map clD))]) := by
  unfold f_is_rising
  rw [run_of (e := [some (.pd (.tuple (cs.map clD))), none, none]) rfl]
  have e : lcL (gT 2 (gCn (gN 1) (gCn (gN 2) gNl))) bYes (eLt (eVar 1) (eVar 2)) [1, 2] ((cs.zip cs.tail).map fun p => .tuple [clD p.1, clD p.2]) [some (.pd (.tuple (cs.map clD))), none, none] [] = some ((cs.zip cs.tail).map (fun p => .bool (ltC p.1 p.2)), [some (.pd (.tuple (cs.map clD))), none, none]) :=
    lcL_all (cs.zip cs.tail) fun p _ => ⟨[some (.pd (.tuple (cs.map clD))), some (.pd (clD p.1)), some (.pd (clD p.2))], .pd (.bool (ltC p.1 p.2)), [some (.pd (.tuple (cs.map clD))), some (.pd (clD p.1)), some (.pd (clD p.2))], by simp [wipeE], by simp [eLt, kLt, kLt0, oI, oLtT, clD, ints?, ltC], rfl, by simp [unwipe]⟩
  have ht : (cs.map clD).tail = cs.tail.map clD := by simp
  have hl : cs.length ≤ 1000001 := by omega
  have hc := chain_all cs
  simp [m_is_rising, eLc, iZt, eSl, oSome, oNo, kSl, cut1_d, tupOf, ht, zip_cells, e, oAll, bools_of, hl, -List.map_tail, -List.all_map, hc]
theorem in_cells (c : Cell) (F : List Cell) (neg : Bool) : oIn neg [clD c, .tuple (F.map clD)] = some (.bool (if neg = true then !decide (c ∈ F) else decide (c ∈ F))) := by
  by_cases h : c ∈ F
  · rw [pl_in1 (pl_cell c) (pl_cells F) (by decide) (by decide) neg (.inl rfl) (mem_clD.mpr h)]
    cases neg <;> simp [h]
  · rw [pl_in0 (pl_cell c) (pl_cells F) (by decide) (by decide) neg (.inl rfl) (fun z => h (mem_clD.mp z))]
    cases neg <;> simp [h]
theorem in_cellsL (c : Cell) (F : List Cell) (neg : Bool) : oIn neg [clD c, .list (F.map clD)] = some (.bool (if neg = true then !decide (c ∈ F) else decide (c ∈ F))) := by
  by_cases h : c ∈ F
  · rw [pl_in1 (pl_cell c) (pl_cells F) (by decide) (by decide) neg (.inr rfl) (mem_clD.mpr h)]
    cases neg <;> simp [h]
  · rw [pl_in0 (pl_cell c) (pl_cells F) (by decide) (by decide) neg (.inr rfl) (fun z => h (mem_clD.mp z))]
    cases neg <;> simp [h]
theorem eq_int (i j : Int) : oEq [.int i, .int j] = some (.bool (decide (i = j))) := by
  simp [oEq, sh_int, eqv_int]
def sixI : Dir → Int
  | .e => 0
  | .n => 1
  | .s => 2
  | .w => 3
theorem six_at (d : Dir) : oSix [.str "ensw", .str (chS d)] = some (.int (sixI d)) := by
  have := six_ensw d
  rw [show chD d = .str (chS d) from rfl] at this
  rw [this]
  cases d <;> rfl
theorem besC_sp (c : Cell) (d : Dir) : f__law_beside [.pd (clD c), .pd (.str (chS d))] = some (.pd (clD (stepC c d)), [.pd (clD c), .pd (.str (chS d))]) := by
  have cl : clD c = .tuple [.int c.1, .int c.2] := rfl
  unfold f__law_beside
  rw [run_of (e := [some (.pd (clD c)), some (.pd (.str (chS d))), none]) rfl]
  have ng : kNeg [.pd (.int 1)] = fun env => some (.pd (.int (-1)), env) := rfl
  have i1 : oIx [.list [.int 1, .int 0, .int 0, .int (-1)], .int (sixI d)] = some (.int (stepC (0, 0) d).1) := by cases d <;> rfl
  have i2 : oIx [.list [.int 0, .int 1, .int (-1), .int 0], .int (sixI d)] = some (.int (stepC (0, 0) d).2) := by cases d <;> rfl
  simp [m__law_beside, cl, eBM, isS, six_at, ng, i1, i2, ix20, ix21, kAdd, oI]
  cases d <;> simp [stepC, clD] <;> omega
theorem rolC_sp (l : Ly) (d : Dir) : f__law_rolled [.pd (lyD l), .pd (.str (chS d))] = some (.pd (lyD (roll l d)), [.pd (lyD l), .pd (.str (chS d))]) := by
  unfold f__law_rolled
  rw [run_of (e := [some (.pd (lyD l)), some (.pd (.str (chS d))), none, none, none, none]) rfl]
  have i1 : oIx [.list [.tuple [.int l.2.2, .int l.2.1, .int (5 - l.1)], .tuple [.int l.2.1, .int (5 - l.1), .int l.2.2], .tuple [.int (5 - l.2.1), .int l.1, .int l.2.2], .tuple [.int (5 - l.2.2), .int l.2.1, .int l.1]], .int (sixI d)] = some (lyD (roll l d)) := by cases d <;> rfl
  have lyd : lyD l = .tuple [.int l.1, .int l.2.1, .int l.2.2] := rfl
  simp [m__law_rolled, lyd, eBM, isS, six_at, kSub, oI, i1]
theorem drawIx (p : Pk) (ht : p.t ≤ 1000000000000) : ∃ (d : Dir) (q : Pk), q.t ≤ p.t + 1 ∧ ∀ (j : Nat) (env : Sl), env[j]? = some (some (.mu .bor (penK p))) → eIx (eC (.str "ensw")) (eCall f__law_draw (eCons (eVar j) (eCons (eC (.int 4)) eNil))) env = some (.pd (.str (chS d)), env.set j (some (.mu .bor (penK q)))) := by
  obtain ⟨r, q, b0, b1, hq, d⟩ := draw2_sp p 4 (by omega) (by omega) ht
  exact ⟨dirAt r, q, hq, fun j env h => by simp [h, d, ensw_ix r b0 b1]⟩
def StI (cs : List Cell) (N : Nat) (rest : List PyData) (e : Sl) : Prop := ∃ (p : Pk) (l : Ly) (s3 : Option S), p.t + rest.length ≤ N ∧ l ∈ lyings ∧ fre s3 = true ∧ e = [some (.mu .bor (penK p)), some (.nt (cs.map clD)), some (.pd (lyD l)), s3]
theorem stC_sp (p : Pk) (cs : List Cell) (h0 : 0 < cs.length) (h9 : cs.length ≤ 9) (ht : p.t ≤ 1000000000) : ∃ (q : Pk) (c : Cell) (l : Ly), q.t ≤ p.t + 8 ∧ c ∈ cs ∧ l ∈ lyings ∧ f__law_stand [.mu .bor (penK p), .nt (cs.map clD)] = some (.pd (stD c l), [.mu .bor (penK q), .nt (cs.map clD)]) := by
  have key : wF f__law_stand [.mu .bor (penK p), .nt (cs.map clD)] (fun r as => ∃ (q : Pk) (c : Cell) (l : Ly), q.t ≤ p.t + 8 ∧ c ∈ cs ∧ l ∈ lyings ∧ r = .pd (stD c l) ∧ as = [.mu .bor (penK q), .nt (cs.map clD)]) := by
    refine wF_run (e := [some (.mu .bor (penK p)), some (.nt (cs.map clD)), none, none]) rfl ?_
    obtain ⟨r, q, b0, b1, hq, d⟩ := draw2_sp p 7 (by omega) (by omega) (by omega)
    obtain ⟨k, rfl⟩ : ∃ k : Nat, r = k := ⟨r.toNat, by omega⟩
    refine wS_seq (wS_of (fl := .nx) (e := [some (.mu .bor (penK p)), some (.nt (cs.map clD)), some (.pd (lyD (0, 1, 2))), none]) (by simp [lyD]) ?_)
    rw [nxt_nx, go]
    refine wS_seq ?_
    refine wS_for (xs := nD (List.range k)) (lk := none) (e := [some (.mu .bor (penK q)), some (.nt (cs.map clD)), some (.pd (lyD (0, 1, 2))), none]) ?_ (StI cs (p.t + 7)) ⟨q, _, none, by simp [nD]; omega, by decide, rfl, rfl⟩ ?_ ?_
    · unfold nD
      rw [← ups_map]
      exact iRg1_of (n := k) (by simp [d]) (by omega)
    · rintro x rest e ⟨p1, l, s3, hb, hl, f3, rfl⟩
      simp only [List.length_cons] at hb
      simp only [gW, z_gN, z_setR, z_free2, List.getElem?_cons_succ, List.getElem?_cons_zero, freO_some, f3, if_true, List.set_cons_succ, List.set_cons_zero]
      rw [go]
      obtain ⟨dd, q1, hq1, di⟩ := drawIx p1 (by omega)
      have di := di 0 [some (.mu .bor (penK p1)), some (.nt (cs.map clD)), some (.pd (lyD l)), some (.pd x)] rfl
      refine wS_of (fl := .nx) (e := [some (.mu .bor (penK q1)), some (.nt (cs.map clD)), some (.pd (lyD (roll l dd))), some (.pd x)]) ?_ ⟨q1, _, _, by omega, roll_mem l hl dd, rfl, rfl⟩
      simp [di, rolC_sp, -z_ix]
    · rintro e ⟨p1, l, s3, hb, hl, f3, rfl⟩
      simp only [z_unl, nxt_nx]
      rw [go]
      obtain ⟨r2, q2, c0, c1, hq2, d2⟩ := draw2_sp p1 (cs.length : Int) (by omega) (by omega) (by simp at hb; omega)
      obtain ⟨x, hx, ex⟩ := at_mem (xs := cs.map clD) c0 (by simpa using c1)
      obtain ⟨c, hc, rfl⟩ := List.mem_map.mp hx
      have ix : oIx [.tuple (cs.map clD), .int r2] = some (clD c) := by simp [oIx, ex]
      refine wS_of (fl := .rt (.pd (stD c l))) (e := [some (.mu .bor (penK q2)), some (.nt (cs.map clD)), some (.pd (lyD l)), s3]) (by simp [oLen, d2, ix, stD]) ?_
      exact ⟨_, [.mu .bor (penK q2), .nt (cs.map clD)], rfl, rfl, q2, c, l, by simp at hb; omega, hc, hl, rfl, rfl⟩
  obtain ⟨r, as, e, q, c, l, h1, h2, h3, rfl, rfl⟩ := key
  exact ⟨q, c, l, h1, h2, h3, e⟩
def WkJ (cs : List Cell) (c0 : Cell) (a3 : Option S) (N M : Nat) (rest : List PyData) (e : Sl) : Prop := ∃ (p : Pk) (ds : List Dir) (s5 s6 s7 : Option S), p.t + rest.length ≤ N ∧ letR cs c0 ds ∧ ds.length + rest.length ≤ M ∧ (fre s5 = true ∧ fre s6 = true ∧ fre s7 = true) ∧ e = [some (.mu .bor (penK p)), some (.nt (cs.map clD)), some (.pd (clD (endC c0 ds))), a3, some (.pd (.str (rowS ds))), s5, s6, s7]
theorem opsC_lc (cs : List Cell) (c : Cell) (a0 a3 a4 a5 s6 s7 : Option S) :
    eLc (iSeq (eC (.str "ensw"))) (gN 7) (bT (eIn (eCall f__law_beside (eCons (eVar 2) (eCons (eVar 7) eNil))) (eVar 1))) (eVar 7) [7] [a0, some (.nt (cs.map clD)), some (.pd (clD c)), a3, a4, a5, s6, s7] = some (.tmp (.ls ((ops cs c).map chD)), [a0, some (.nt (cs.map clD)), some (.pd (clD c)), a3, a4, a5, s6, s7]) := by
  have sg : signs "ensw" = all4.map chD := by rw [ensw_row, signs_row]; rfl
  have := lcF (it := iSeq (eC (.str "ensw"))) (g := gN 7) (t := bT (eIn (eCall f__law_beside (eCons (eVar 2) (eCons (eVar 7) eNil))) (eVar 1))) (f := eVar 7) (vs := [7]) (lk := none) (env := [a0, some (.nt (cs.map clD)), some (.pd (clD c)), a3, a4, a5, s6, s7]) (e := [a0, some (.nt (cs.map clD)), some (.pd (clD c)), a3, a4, a5, s6, s7]) (q := chD) (as := all4) (fun d => decide (stepC c d ∈ cs)) chD (by simp [sg]) (by decide) (fun d _ => by
    have b := besC_sp c d
    have i := in_cells (stepC c d) cs false
    by_cases z : stepC c d ∈ cs <;> simp [lcI, wipeE, chD, b, i, z] <;> exact ⟨rfl, fun i hi => by
      simp at hi
      match i, hi with
      | 0, _ => rfl
      | 1, _ => rfl
      | 2, _ => rfl
      | 3, _ => rfl
      | 4, _ => rfl
      | 5, _ => rfl
      | 6, _ => rfl
      | 7, h => exact absurd rfl h
      | n + 8, _ => rfl⟩)
  rw [z_unl] at this
  exact this
theorem wkC_sp (p : Pk) (cs : List Cell) (c : Cell) (m : Nat) (hm : m ≤ 100) (ht : p.t ≤ 1000000000) : ∃ (q : Pk) (ds : List Dir), q.t ≤ p.t + 1 + m ∧ letR cs c ds ∧ ds.length ≤ m ∧ f__law_walk [.mu .bor (penK p), .nt (cs.map clD), .pd (clD c), .pd (.int (m : Nat))] = some (.pd (.str (rowS ds)), [.mu .bor (penK q), .nt (cs.map clD), .pd (clD c), .pd (.int (m : Nat))]) := by
  have key : wF f__law_walk [.mu .bor (penK p), .nt (cs.map clD), .pd (clD c), .pd (.int (m : Nat))] (fun r as => ∃ (q : Pk) (ds : List Dir), q.t ≤ p.t + 1 + m ∧ letR cs c ds ∧ ds.length ≤ m ∧ r = .pd (.str (rowS ds)) ∧ as = [.mu .bor (penK q), .nt (cs.map clD), .pd (clD c), .pd (.int (m : Nat))]) := by
    have z0 : ("" : Str) = rowS [] := by decide
    refine wF_run (e := [some (.mu .bor (penK p)), some (.nt (cs.map clD)), some (.pd (clD c)), some (.pd (.int (m : Nat))), none, none, none, none]) rfl ?_
    refine wS_seq (wS_of (fl := .nx) (e := [some (.mu .bor (penK p)), some (.nt (cs.map clD)), some (.pd (clD c)), some (.pd (.int (m : Nat))), some (.pd (.str (rowS []))), none, none, none]) (by rw [z0]; simp) ?_)
    rw [nxt_nx, go]
    refine wS_seq ?_
    have e1 : (m : Int) + 1 = ((m + 1 : Nat) : Int) := by omega
    obtain ⟨r, q, b0, b1, hq, d⟩ := draw2_sp p ((m + 1 : Nat) : Int) (by omega) (by omega) (by omega)
    obtain ⟨k, rfl⟩ : ∃ k : Nat, r = k := ⟨r.toNat, by omega⟩
    refine wS_for (xs := nD (List.range k)) (lk := none) (e := [some (.mu .bor (penK q)), some (.nt (cs.map clD)), some (.pd (clD c)), some (.pd (.int (m : Nat))), some (.pd (.str (rowS []))), none, none, none]) ?_ (WkJ cs c (some (.pd (.int (m : Nat)))) (p.t + 1 + m) m) ⟨q, [], none, none, none, by simp [nD]; omega, trivial, by simp [nD]; omega, ⟨rfl, rfl, rfl⟩, rfl⟩ ?_ ?_
    · unfold nD
      rw [← ups_map]
      exact iRg1_of (n := k) (by simp [kAdd, oI, e1, d, -Int.natCast_add]) (by omega)
    · rintro x rest e ⟨p1, ds, s5, s6, s7, hb, hl, hd, ⟨f5, f6, f7⟩, rfl⟩
      simp only [List.length_cons] at hb hd
      simp only [gW, z_gN, z_setR, z_free2, List.getElem?_cons_succ, List.getElem?_cons_zero, freO_some, f5, if_true, List.set_cons_succ, List.set_cons_zero]
      rw [go]
      have lc := opsC_lc cs (endC c ds) (some (.mu .bor (penK p1))) (some (.pd (.int (m : Nat)))) (some (.pd (.str (rowS ds)))) (some (.pd x)) s6 s7
      have sh := sh_chs (ops cs (endC c ds))
      have sh0 : SeqAt.shaped (.list []) = true := sh_chs []
      have ne := eqv_nil ((ops cs (endC c ds)).map chD)
      refine wS_seq (wS_of (fl := .nx) (e := [some (.mu .bor (penK p1)), some (.nt (cs.map clD)), some (.pd (clD (endC c ds))), some (.pd (.int (m : Nat))), some (.pd (.str (rowS ds))), some (.pd x), some (.mu .own (.ls ((ops cs (endC c ds)).map chD))), s7]) (by simp [lc, z_free2, freO_some, f6, -z_free, -z_lc]) ?_)
      rw [nxt_nx, go]
      by_cases ho : ops cs (endC c ds) = []
      · refine wS_of (fl := .nx) (e := [some (.mu .bor (penK p1)), some (.nt (cs.map clD)), some (.pd (clD (endC c ds))), some (.pd (.int (m : Nat))), some (.pd (.str (rowS ds))), some (.pd x), some (.mu .own (.ls ((ops cs (endC c ds)).map chD))), s7]) ?_ ⟨p1, ds, _, _, _, by omega, hl, by omega, ⟨rfl, rfl, f7⟩, rfl⟩
        have ne0 : PyData.eqv (.list []) (.list []) = true := by rw [eqv_nil]; rfl
        rw [ho]
        simp [oNe, sh0, ne0]
      · have hp : 0 < (ops cs (endC c ds)).length := List.length_pos_iff.mpr ho
        have h4 : (ops cs (endC c ds)).length ≤ 4 := List.length_filter_le _ _
        obtain ⟨r2, q1, c0, c1, hq1, d2⟩ := draw2_sp p1 ((ops cs (endC c ds)).length : Int) (by omega) (by omega) (by omega)
        obtain ⟨y, hy, ey⟩ := at_mem (xs := (ops cs (endC c ds)).map chD) c0 (by simpa using c1)
        obtain ⟨dd, hdd, rfl⟩ := List.mem_map.mp hy
        have ix : oIx [.list ((ops cs (endC c ds)).map chD), .int r2] = some (chD dd) := by simp [oIx, ey]
        have hs : stepC (endC c ds) dd ∈ cs := by simpa [ops] using (List.mem_filter.mp hdd).2
        have ad := fun env => add_row ds [dd] env (by omega) (by simp)
        have ch1 : rowS [dd] = chS dd := rfl
        rw [ch1] at ad
        have nn : (ops cs (endC c ds)).map chD ≠ [] := by simpa using ho
        have bs := besC_sp (endC c ds) dd
        refine wS_of (fl := .nx) (e := [some (.mu .bor (penK q1)), some (.nt (cs.map clD)), some (.pd (clD (endC c (ds ++ [dd])))), some (.pd (.int (m : Nat))), some (.pd (.str (rowS (ds ++ [dd])))), some (.pd x), some (.mu .own (.ls ((ops cs (endC c ds)).map chD))), some (.pd (chD dd))]) ?_ ⟨q1, ds ++ [dd], _, _, _, by omega, letR_app ds c dd hl hs, by simp; omega, ⟨rfl, rfl, rfl⟩, rfl⟩
        rw [endC_app]
        have fp : ∀ x, fre (some (S.pd x)) = true := fun _ => rfl
        simp [oNe, sh, sh0, ne, ho, oLen, d2, ix, chD, ad, bs, z_free2, freO_some, f7, fp, -z_free]
    · rintro e ⟨p1, ds, s5, s6, s7, hb, hl, hd, _, rfl⟩
      simp only [z_unl, nxt_nx]
      rw [go]
      refine wS_of (fl := .rt (.pd (.str (rowS ds)))) (e := [some (.mu .bor (penK p1)), some (.nt (cs.map clD)), some (.pd (clD (endC c ds))), some (.pd (.int (m : Nat))), some (.pd (.str (rowS ds))), s5, s6, s7]) (by simp) ?_
      exact ⟨_, [.mu .bor (penK p1), .nt (cs.map clD), .pd (clD c), .pd (.int (m : Nat))], rfl, rfl, p1, ds, by simp at hb; omega, hl, by simpa using hd, rfl, rfl⟩
  obtain ⟨r, as, e, q, ds, h1, h2, h3, rfl, rfl⟩ := key
  exact ⟨q, ds, h1, h2, h3, e⟩
def blkC (x y : Int) (w h : Nat) : List Cell := (List.range (w * h)).map fun (k : Nat) => (x + (k : Int) / (h : Nat), y + (k : Int) % (h : Nat))
theorem blk_good (x y : Int) (w h : Nat) (hw : 1 ≤ w) (hh : 1 ≤ h) (x0 : 0 ≤ x) (x1 : x + w ≤ 4) (y0 : 0 ≤ y) (y1 : y + h ≤ 4) : good (blkC x y w h) ∧ (blkC x y w h).length = w * h := by
  have ln : (blkC x y w h).length = w * h := by simp [blkC]
  have pos : 0 < w * h := Nat.mul_pos hw hh
  refine ⟨⟨by omega, ?_, ?_⟩, ln⟩
  · unfold blkC
    rw [List.nodup_iff_pairwise_ne]
    rw [List.pairwise_map]
    refine List.Pairwise.imp ?_ List.pairwise_lt_range
    intro a b hab e
    have e1 : (a : Int) / (h : Nat) = (b : Int) / (h : Nat) := by have := congrArg Prod.fst e; simp only at this; omega
    have e2 : (a : Int) % (h : Nat) = (b : Int) % (h : Nat) := by have := congrArg Prod.snd e; simp only at this; omega
    have d1 := Int.mul_ediv_add_emod (a : Int) (h : Nat)
    have d2 := Int.mul_ediv_add_emod (b : Int) (h : Nat)
    rw [e1, e2] at d1
    omega
  · intro c hc
    obtain ⟨k, hk, rfl⟩ := List.mem_map.mp hc
    rw [List.mem_range] at hk
    have hp : (0 : Int) < (h : Nat) := by omega
    have q0 : 0 ≤ (k : Int) / (h : Nat) := Int.ediv_nonneg (by omega) (by omega)
    have q1 : (k : Int) / (h : Nat) < w := by
      rw [Int.ediv_lt_iff_lt_mul hp]
      exact_mod_cast hk
    have r0 := Int.emod_nonneg (k : Int) (show ((h : Nat) : Int) ≠ 0 by omega)
    have r1 := Int.emod_lt_of_pos (k : Int) hp
    unfold inB
    simp only [Bool.and_eq_true, decide_eq_true_eq]
    omega
theorem block_sp (p : Pk) (w h : Nat) (hw : 1 ≤ w ∧ w ≤ 4) (hh : 1 ≤ h ∧ h ≤ 4) (ht : p.t ≤ 1000000000) : ∃ (q : Pk) (cs : List Cell), q.t ≤ p.t + 2 ∧ good cs ∧ cs.length = w * h ∧ f__law_block [.mu .bor (penK p), .pd (.int (w : Nat)), .pd (.int (h : Nat))] = some (.tmp (.ls (cs.map clD)), [.mu .bor (penK q), .pd (.int (w : Nat)), .pd (.int (h : Nat))]) := by
  obtain ⟨x, p1, x0, x1, hp1, d1⟩ := draw2_sp p (5 - (w : Int)) (by omega) (by omega) (by omega)
  obtain ⟨y, p2, y0, y1, hp2, d2⟩ := draw2_sp p1 (5 - (h : Int)) (by omega) (by omega) (by omega)
  obtain ⟨g, ln⟩ := blk_good x y w h hw.1 hh.1 x0 (by omega) y0 (by omega)
  refine ⟨p2, blkC x y w h, by omega, g, ln, ?_⟩
  have wh : w * h ≤ 16 := Nat.mul_le_mul hw.2 hh.2
  have cm := cmul_l (w : Int) (h : Int) (by omega)
  have cd : ∀ i, CDivW i (h : Int) := fun i => cdv _ _ (by omega) (by omega)
  have lc := lcA (it := iRg1 (eCons (eMul (eVar 1) (eVar 2)) eNil)) (g := gN 5) (f := eThen (eCons (eAdd (eVar 3) (eFdiv (eVar 5) (eVar 2))) (eCons (eAdd (eVar 4) (eMod (eVar 5) (eVar 2))) eNil)) kTup) (vs := [5]) (lk := none) (env := [some (.mu .bor (penK p2)), some (.pd (.int (w : Nat))), some (.pd (.int (h : Nat))), some (.pd (.int x)), some (.pd (.int y)), none]) (e := [some (.mu .bor (penK p2)), some (.pd (.int (w : Nat))), some (.pd (.int (h : Nat))), some (.pd (.int x)), some (.pd (.int y)), none]) (q := fun (b : Nat) => .int ((b : Nat) : Int)) (as := List.range (w * h)) (fun (k : Nat) => clD (x + (k : Int) / (h : Nat), y + (k : Int) % (h : Nat))) (rg1_up (n := w * h) (by simp [kMul, oI, cm]) (by omega)) (by simp; omega) (fun k hk => by
    have hp : (0 : Int) < (h : Nat) := by omega
    have hp' : 0 < h := hh.1
    simp [lcO, wipeE, kAdd, kFdiv, kMod, oI, hp', cd, clD]
    exact ⟨rfl, fun i hi => by
      simp at hi
      match i, hi with
      | 0, _ => rfl
      | 1, _ => rfl
      | 2, _ => rfl
      | 3, _ => rfl
      | 4, _ => rfl
      | 5, h => exact absurd rfl h
      | n + 6, _ => rfl⟩)
  have e5 : ∀ (a b : Int), kSub [.pd (.int a), .pd (.int b)] = fun env => some (.pd (.int (a - b)), env) := fun a b => by funext env; simp [kSub, oI]
  unfold f__law_block
  rw [run_of (e := [some (.mu .bor (penK p)), some (.pd (.int (w : Nat))), some (.pd (.int (h : Nat))), none, none, none]) rfl]
  simp [m__law_block, e5, d1, d2, lc, -z_lc]
  unfold blkC
  simp [List.map_map, Function.comp]
def nbC (cs : List Cell) (c : Cell) : Bool := !decide (c ∈ cs) && inB c
def fdk (F : List Cell) : List (NestedKey × PyData) := F.map fun c => (ck c, .bool true)
theorem fdk_val (F : List Cell) (c : Cell) : valN (fdk F) (ck c) = if c ∈ F then some (.bool true) else none := by
  unfold fdk valN
  rw [List.find?_map, Option.map_map]
  have : (fun q : NestedKey × PyData => decide (q.1 = ck c)) ∘ (fun a : Cell => (ck a, PyData.bool true)) = fun a => decide (a = c) := by
    funext a
    simp only [Function.comp]
    by_cases h : a = c
    · simp [h]
    · have : ck a ≠ ck c := fun z => h (ck_inj z)
      simp [h, this]
  rw [this]
  by_cases h : c ∈ F
  · rw [if_pos h]
    cases e : F.find? fun a => decide (a = c) with
    | none =>
      rw [List.find?_eq_none] at e
      exact absurd (by simp) (e c h)
    | some a => rfl
  · rw [if_neg h]
    cases e : F.find? fun a => decide (a = c) with
    | none => rfl
    | some a =>
      have h1 := List.find?_some e
      have h2 := List.mem_of_find?_eq_some e
      simp at h1
      exact absurd (h1 ▸ h2) h
def addF (F : List Cell) (c : Cell) : List Cell := if c ∈ F then F else F ++ [c]
theorem fdk_put (F : List Cell) (c : Cell) : putN (fdk F) (ck c) (.bool true) = fdk (addF F c) := by
  unfold putN addF
  rw [fdk_val]
  by_cases h : c ∈ F
  · simp [h]
    unfold fdk
    rw [List.map_map]
    refine List.map_congr_left fun a _ => ?_
    simp only [Function.comp]
    split <;> simp_all
  · simp [h, fdk]
def goF (cs : List Cell) (F : List Cell) (c : Cell) : List Cell := if nbC cs c = true then addF F c else F
theorem goF_ok {cs F : List Cell} (c : Cell) (nd : F.Nodup) (hF : ∀ x ∈ F, x ∉ cs ∧ inB x = true) : (goF cs F c).Nodup ∧ (∀ x ∈ goF cs F c, x ∉ cs ∧ inB x = true) ∧ (∀ x ∈ F, x ∈ goF cs F c) ∧ (c ∉ cs → inB c = true → c ∈ goF cs F c) := by
  unfold goF addF nbC
  by_cases h1 : c ∈ cs
  · simp [h1]
    exact ⟨nd, fun a b h => hF (a, b) h⟩
  · by_cases h2 : inB c = true
    · by_cases h3 : c ∈ F
      · simp [h1, h2, h3]
        exact ⟨nd, fun a b h => hF (a, b) h⟩
      · simp [h1, h2, h3]
        refine ⟨?_, ?_, ?_⟩
        · rw [List.nodup_append]
          exact ⟨nd, by simp, fun a ha b hb => by
            rw [List.mem_singleton] at hb
            subst hb
            exact fun z => h3 (z ▸ ha)⟩
        · rintro a b (h | ⟨rfl, rfl⟩)
          · exact hF (a, b) h
          · exact ⟨h1, h2⟩
        · intro a b h
          exact .inl h
    · simp [h1, h2]
      exact ⟨nd, fun a b h => hF (a, b) h⟩
theorem goF_len {cs F : List Cell} (nd : F.Nodup) (hF : ∀ x ∈ F, x ∉ cs ∧ inB x = true) : F.length ≤ 16 := by
  have : ∀ x ∈ F, x ∈ grid := fun x hx => by
    have := (hF x hx).2
    obtain ⟨a, b⟩ := x
    unfold inB at this
    simp only [Bool.and_eq_true, decide_eq_true_eq] at this
    obtain ⟨⟨a0, a1⟩, b0, b1⟩ := this
    obtain rfl | rfl | rfl | rfl : a = 0 ∨ a = 1 ∨ a = 2 ∨ a = 3 := by omega
    all_goals
      obtain rfl | rfl | rfl | rfl : b = 0 ∨ b = 1 ∨ b = 2 ∨ b = 3 := by omega
      all_goals decide
  exact nd.length_le_of_subset this
theorem fdk_pairs (F : List Cell) (hF : ∀ x ∈ F, inB x = true) : pairs? ((fdk F).map fun q => q.1.data) = some F := by
  have hd : ∀ c, (ck c).data = clD c := fun c => (tk_ok (tk_cell c)).2
  have : ((fdk F).map fun q => q.1.data) = F.map clD := by
    unfold fdk
    rw [List.map_map]
    exact List.map_congr_left fun c _ => hd c
  rw [this]
  exact pairs_of F hF
theorem fdk_len (F : List Cell) : (fdk F).length = F.length := by simp [fdk]
def mNr : SS := sIf (bAnd (bT (eNin (eVar 4) (eVar 0))) (bAnd (bT (eCh (Cm.f .le) (Cm.f .lt) (eC (.int 0)) (eIx (eVar 4) (eC (.int 0))) (eC (.int 4)))) (bT (eCh (Cm.f .le) (Cm.f .lt) (eC (.int 0)) (eIx (eVar 4) (eC (.int 1))) (eC (.int 4)))))) (sAsg (eC (.bool true)) (gDs (eVar 1) (eVar 4))) sPass
def fct (F : List Cell) : Ct := if F = [] then .dk [] else .dn (fdk F)
theorem fct_put (F : List Cell) (c : Cell) (hl : F.length ≤ 16) : cPut (fct F) (clD c) (.bool true) = some (fct (addF F c)) := by
  have ll : (fdk F).length ≤ 1000000 := by rw [fdk_len]; omega
  have pt := fdk_put F c
  have ky : key? (clD c) = none := rfl
  have ne : addF F c ≠ [] := by
    unfold addF
    split
    · rename_i h; intro z; rw [z] at h; simp at h
    · simp
  by_cases h : F = []
  · subst h
    simp [fct, cPut, ky, tk_cell, addF, fdk]
  · simp [fct, h, ne, cPut, tk_cell, ll, pt]
theorem mNr_sp (cs F : List Cell) (c : Cell) (hl : F.length ≤ 16) (s2 s3 : Option S) : mNr [some (.mu .fro (.ls (cs.map clD))), some (.mu .own (fct F)), s2, s3, some (.pd (clD c))] = some (.nx, [some (.mu .fro (.ls (cs.map clD))), some (.mu .own (fct (goF cs F c))), s2, s3, some (.pd (clD c))]) := by
  have i0 : oIx [clD c, .int 0] = some (.int c.1) := rfl
  have i1 : oIx [clD c, .int 1] = some (.int c.2) := rfl
  have ni := in_cellsL c cs true
  have pt := fct_put F c hl
  unfold mNr goF nbC
  by_cases h : c ∈ cs
  · simp [ni, h]
  · by_cases h1 : 0 ≤ c.1
    · by_cases h1' : c.1 < 4
      · by_cases h2 : 0 ≤ c.2
        · by_cases h2' : c.2 < 4
          · have hb : inB c = true := by unfold inB; simp only [Bool.and_eq_true, decide_eq_true_eq]; omega
            simp [ni, h, i0, i1, h1, h2, h1', h2', hb, pt, eCh, Cm.f]
          · have hb : inB c = false := by unfold inB; simp only [Bool.and_eq_false_iff, decide_eq_false_iff_not]; omega
            simp [ni, h, i0, i1, h1, h2, h1', h2', hb, eCh, Cm.f]
        · have hb : inB c = false := by unfold inB; simp only [Bool.and_eq_false_iff, decide_eq_false_iff_not]; omega
          simp [ni, h, i0, i1, h1, h2, h1', hb, eCh, Cm.f]
      · have hb : inB c = false := by unfold inB; simp only [Bool.and_eq_false_iff, decide_eq_false_iff_not]; omega
        simp [ni, h, i0, i1, h1, h1', hb, eCh, Cm.f]
    · have hb : inB c = false := by unfold inB; simp only [Bool.and_eq_false_iff, decide_eq_false_iff_not]; omega
      simp [ni, h, i0, i1, h1, hb, eCh, Cm.f]
def OkF (cs F : List Cell) : Prop := F.Nodup ∧ ∀ x ∈ F, x ∉ cs ∧ inB x = true
theorem near_in (cs : List Cell) : ∀ (xs F : List Cell) (s2 s3 s4 : Option S), fre s4 = true → OkF cs F → ∃ F' s4', fre s4' = true ∧ OkF cs F' ∧ (∀ x ∈ F, x ∈ F') ∧ (∀ x ∈ xs, x ∉ cs → inB x = true → x ∈ F') ∧
    forL (gN 4) mNr (xs.map clD) [some (.mu .fro (.ls (cs.map clD))), some (.mu .own (fct F)), s2, s3, s4] = some (.nx, [some (.mu .fro (.ls (cs.map clD))), some (.mu .own (fct F')), s2, s3, s4'])
  | [], F, s2, s3, s4, f4, ok => ⟨F, s4, f4, ok, fun _ h => h, by simp, rfl⟩
  | c :: xs, F, s2, s3, s4, f4, ok => by
    obtain ⟨g1, g2, g3, g4⟩ := goF_ok c ok.1 ok.2
    obtain ⟨F', s4', h1, h2, h3, h4, h5⟩ := near_in cs xs (goF cs F c) s2 s3 (some (.pd (clD c))) rfl ⟨g1, g2⟩
    refine ⟨F', s4', h1, h2, fun x hx => h3 x (g3 x hx), fun x hx => ?_, ?_⟩
    · rcases List.mem_cons.mp hx with rfl | hx
      · exact fun a b => h3 _ (g4 a b)
      · exact h4 x hx
    · rw [List.map_cons, forL_cons (e1 := [some (.mu .fro (.ls (cs.map clD))), some (.mu .own (fct F)), s2, s3, some (.pd (clD c))]) ?_ (mNr_sp cs F c (goF_len ok.1 ok.2) s2 s3), h5]
      simp [z_free2, freO_some, f4, -z_free]
def NrJ (cs : List Cell) (rest : List PyData) (e : Sl) : Prop := ∃ (dn td F : List Cell) (s2 s3 s4 : Option S), cs = dn ++ td ∧ rest = td.map clD ∧ OkF cs F ∧ (∀ c ∈ dn, ∀ d, stepC c d ∉ cs → inB (stepC c d) = true → stepC c d ∈ F) ∧ (fre s2 = true ∧ fre s3 = true ∧ fre s4 = true) ∧ e = [some (.mu .fro (.ls (cs.map clD))), some (.mu .own (fct F)), s2, s3, s4]
theorem near_sp (cs : List Cell) (hg : good cs) (hl : cs.length < 16) : ∃ F : List Cell, OkF cs F ∧ 0 < F.length ∧ f__law_near [.mu .bor (.ls (cs.map clD))] = some (.tmp (.ls ((F.mergeSort prLe).map clD)), [.mu .bor (.ls (cs.map clD))]) := by
  have key : wF f__law_near [.mu .bor (.ls (cs.map clD))] (fun r as => ∃ F : List Cell, OkF cs F ∧ 0 < F.length ∧ r = .tmp (.ls ((F.mergeSort prLe).map clD)) ∧ as = [.mu .bor (.ls (cs.map clD))]) := by
    refine wF_run (e := [some (.mu .bor (.ls (cs.map clD))), none, none, none, none]) rfl ?_
    have f0 : fct [] = .dk [] := by simp [fct]
    refine wS_seq (wS_of (fl := .nx) (e := [some (.mu .bor (.ls (cs.map clD))), some (.mu .own (fct [])), none, none, none]) (by rw [f0]; simp) ?_)
    rw [nxt_nx, go]
    refine wS_seq ?_
    refine wS_for (xs := cs.map clD) (lk := some (0, .bor)) (e := [some (.mu .fro (.ls (cs.map clD))), some (.mu .own (fct [])), none, none, none]) (by simp) (NrJ cs) ⟨[], cs, [], none, none, none, rfl, rfl, ⟨by simp, by simp⟩, by simp, ⟨rfl, rfl, rfl⟩, rfl⟩ ?_ ?_
    · rintro x rest e ⟨dn, td, F, s2, s3, s4, hc, er, ok, hF, ⟨f2, f3, f4⟩, rfl⟩
      cases td with
      | nil => simp at er
      | cons c td =>
        obtain ⟨rfl, rfl⟩ : x = clD c ∧ rest = td.map clD := by simpa using er
        have cl : clD c = .tuple [.int c.1, .int c.2] := rfl
        obtain ⟨F', s4', h1, h2, h3, h4, h5⟩ := near_in cs [(c.1 + 1, c.2), (c.1 - 1, c.2), (c.1, c.2 + 1), (c.1, c.2 - 1)] F (some (.pd (.int c.1))) (some (.pd (.int c.2))) s4 f4 ok
        have g : gT 2 (gCn (gN 2) (gCn (gN 3) gNl)) (clD c) [some (.mu .fro (.ls (cs.map clD))), some (.mu .own (fct F)), s2, s3, s4] = some [some (.mu .fro (.ls (cs.map clD))), some (.mu .own (fct F)), some (.pd (.int c.1)), some (.pd (.int c.2)), s4] := by
          rw [cl]
          simp [z_free2, freO_some, f2, f3, -z_free]
        simp only [gW, g]
        rw [go]
        refine wS_of (fl := .nx) (e := [some (.mu .fro (.ls (cs.map clD))), some (.mu .own (fct F')), some (.pd (.int c.1)), some (.pd (.int c.2)), s4']) ?_ ?_
        · have it : (iSeq (eThen (eCons (eThen (eCons (eAdd (eVar 2) (eC (.int 1))) (eCons (eVar 3) eNil)) kTup) (eCons (eThen (eCons (eSub (eVar 2) (eC (.int 1))) (eCons (eVar 3) eNil)) kTup) (eCons (eThen (eCons (eVar 2) (eCons (eAdd (eVar 3) (eC (.int 1))) eNil)) kTup) (eCons (eThen (eCons (eVar 2) (eCons (eSub (eVar 3) (eC (.int 1))) eNil)) kTup) eNil)))) kLst)) [some (.mu .fro (.ls (cs.map clD))), some (.mu .own (fct F)), some (.pd (.int c.1)), some (.pd (.int c.2)), s4] = some ([(c.1 + 1, c.2), (c.1 - 1, c.2), (c.1, c.2 + 1), (c.1, c.2 - 1)].map clD, none, [some (.mu .fro (.ls (cs.map clD))), some (.mu .own (fct F)), some (.pd (.int c.1)), some (.pd (.int c.2)), s4]) := by
            simp [kAdd, kSub, oI, clD]
          show sFor _ (gN 4) mNr _ = _
          rw [z_for, it]
          simp only [h5, z_unl]
        · refine ⟨dn ++ [c], td, F', _, _, _, by simp [hc], rfl, h2, fun x hx d => ?_, ⟨rfl, rfl, h1⟩, rfl⟩
          rcases List.mem_append.mp hx with hx | hx
          · exact fun a b => h3 _ (hF x hx d a b)
          · rw [List.mem_singleton] at hx
            subst hx
            refine h4 _ ?_
            cases d <;> simp [stepC]
    · rintro e ⟨dn, td, F, s2, s3, s4, hc, er, ok, hF, ⟨f2, f3, f4⟩, rfl⟩
      have ht : td = [] := by cases td with
        | nil => rfl
        | cons c td => simp at er
      subst ht
      rw [List.append_nil] at hc
      subst hc
      obtain ⟨c0, hc0, d0, hi0, hn0⟩ := some_near hg hl
      have hm := hF c0 hc0 d0 hn0 hi0
      have hp : 0 < F.length := List.length_pos_of_mem hm
      have hne : F ≠ [] := fun z => by rw [z] at hp; simp at hp
      have pr := fdk_pairs F (fun x hx => (ok.2 x hx).2)
      have l64 : (fdk F).length < 64 := by
        have := goF_len ok.1 ok.2
        rw [fdk_len]; omega
      rw [z_unl1]
      simp only [List.getElem?_cons_zero, List.set_cons_zero, nxt_nx]
      rw [go]
      have fn : fct F = .dn (fdk F) := by simp [fct, hne]
      refine wS_of (fl := .rt (.tmp (.ls ((F.mergeSort prLe).map clD)))) (e := [some (.mu .bor (.ls (cs.map clD))), some (.mu .own (fct F)), s2, s3, s4]) (by rw [fn]; simp [kSrtD, l64, pr]) ?_
      exact ⟨_, [.mu .bor (.ls (cs.map clD))], rfl, rfl, F, ok, hp, rfl, rfl⟩
  obtain ⟨r, as, e, F, h1, h2, rfl, rfl⟩ := key
  exact ⟨F, h1, h2, e⟩
theorem srtP (cs : List Cell) : (cs.mergeSort prLe).Pairwise (fun a b => prLe a b = true) := by
  have tr : ∀ a b c : Cell, prLe a b = true → prLe b c = true → prLe a c = true := by
    intro a b c h1 h2; simp [prLe] at *; omega
  have to : ∀ a b : Cell, (prLe a b || prLe b a) = true := by
    intro a b; simp [prLe]; omega
  exact List.pairwise_mergeSort tr to cs
theorem sort_good {cs : List Cell} (hg : good cs) : good (cs.mergeSort prLe) := by
  have pm := List.mergeSort_perm cs prLe
  exact ⟨by rw [List.length_mergeSort]; exact hg.1, pm.nodup_iff.mpr hg.2.1, fun c hc => hg.2.2 c (pm.mem_iff.mp hc)⟩
theorem sub_ok {cs fs : List Cell} (hg : good cs) (hs : fs.Sublist (cs.mergeSort prLe)) (h1 : 1 ≤ fs.length) (h9 : fs.length ≤ 9) : okFl fs := by
  have g := sort_good hg
  exact ⟨h1, h9, fun c hc => g.2.2 c (hs.subset hc), chain_of _ (fun c hc => g.2.2 c (hs.subset hc)) ((srtP cs).sublist hs) (g.2.1.sublist hs)⟩
theorem sort_ok {cs : List Cell} (hg : good cs) (h9 : cs.length ≤ 9) : okFl (cs.mergeSort prLe) := sub_ok hg (List.Sublist.refl _) (by rw [List.length_mergeSort]; exact hg.1) (by rw [List.length_mergeSort]; exact h9)
theorem ints_no (cs : List Cell) (h : 0 < cs.length) : ints? (cs.map clD) = none := by
  cases cs with
  | nil => simp at h
  | cons c cs => rfl
theorem kSort_t (cs : List Cell) (hg : good cs) (hl : cs.length < 64) (env : Sl) : kSorted [.tmp (.ls (cs.map clD))] env = some (.tmp (.ls ((cs.mergeSort prLe).map clD)), env) := by
  have i := ints_no cs hg.1
  have p := pairs_of cs hg.2.2
  simp [kSorted, i, p, hl]
theorem kSort_v (cs : List Cell) (hg : good cs) (hl : cs.length < 64) (env : Sl) (j : Nat) {m : Md} (h : env[j]? = some (some (.mu m (.ls (cs.map clD))))) : kSorted [.var j] env = some (.tmp (.ls ((cs.mergeSort prLe).map clD)), env) := by
  have i := ints_no cs hg.1
  have p := pairs_of cs hg.2.2
  simp [kSorted, i, p, hl, h]
theorem ddp_good {cs : List Cell} (h0 : 0 < cs.length) (hi : ∀ c ∈ cs, inB c = true) : good (ddp cs) := by
  refine ⟨?_, nd_ddp cs, fun c hc => hi c (mem_ddp.mp hc)⟩
  obtain ⟨c, hc⟩ := List.exists_mem_of_length_pos h0
  exact List.length_pos_of_mem (mem_ddp.mpr hc)
theorem ddp_len : ∀ cs : List Cell, (ddp cs).length ≤ cs.length
  | [] => by simp [ddp]
  | c :: cs => by
    unfold ddp
    have := ddp_len cs
    split <;> simp <;> omega
def FlJ (k0 : Int) (N : Nat) (rest : List PyData) (e : Sl) : Prop := ∃ (p : Pk) (cs : List Cell) (s3 s4 : Option S), p.t + rest.length ≤ N ∧ good cs ∧ cs.length + rest.length ≤ 9 ∧ (fre s3 = true ∧ fre s4 = true) ∧ e = [some (.mu .bor (penK p)), some (.pd (.int k0)), some (.mu .own (.ls (cs.map clD))), s3, s4]
theorem drawn2 (p : Pk) (ht : p.t ≤ 1000000000) : ∃ (q : Pk) (c : Cell), q.t ≤ p.t + 2 ∧ inB c = true ∧ ∀ (j : Nat) (env : Sl), env[j]? = some (some (.mu .bor (penK p))) → (eThen (eCons (eCall f__law_draw (eCons (eVar j) (eCons (eC (.int 4)) eNil))) (eCons (eCall f__law_draw (eCons (eVar j) (eCons (eC (.int 4)) eNil))) eNil)) kTup) env = some (.pd (clD c), env.set j (some (.mu .bor (penK q)))) := by
  obtain ⟨x, p1, x0, x1, hp1, d1⟩ := draw2_sp p 4 (by omega) (by omega) (by omega)
  obtain ⟨y, p2, y0, y1, hp2, d2⟩ := draw2_sp p1 4 (by omega) (by omega) (by omega)
  refine ⟨p2, (x, y), by omega, ?_, fun j env h => ?_⟩
  · unfold inB
    simp only [Bool.and_eq_true, decide_eq_true_eq]
    omega
  · have hl : j < env.length := (List.getElem?_eq_some_iff.mp h).1
    have g : (env.set j (some (.mu .bor (penK p1))))[j]? = some (some (.mu .bor (penK p1))) := by simp [hl]
    simp [h, d1, g, d2, clD, -getElem?_pos]
theorem flC_sp (p : Pk) (ht : p.t ≤ 100000000) : ∃ (q : Pk) (cs : List Cell), q.t ≤ p.t + 60 ∧ okFl cs ∧ f__law_floor [.mu .bor (penK p)] = some (.nt (cs.map clD), [.mu .bor (penK q)]) := by
  have key : ∀ Q : R → List S → Prop, (∀ (q : Pk) (cs : List Cell), q.t ≤ p.t + 60 → okFl cs → Q (.nt (cs.map clD)) [.mu .bor (penK q)]) → wF f__law_floor [.mu .bor (penK p)] Q := by
    intro Q hQ
    refine wF_run (e := [some (.mu .bor (penK p)), none, none, none, none]) rfl ?_
    obtain ⟨k0, p1, k00, k01, hp1, d1⟩ := draw2_sp p 4 (by omega) (by omega) (by omega)
    have dn : ∀ q : Pk, ∀ fs : List Cell, q.t ≤ p.t + 60 → okFl fs → ∀ s1 s2 s3 s4, retP [.mu .bor (penK p)] Q (.rt (.nt (fs.map clD))) [some (.mu .bor (penK q)), s1, s2, s3, s4] := fun q fs h1 h2 s1 s2 s3 s4 => ⟨_, [.mu .bor (penK q)], rfl, rfl, hQ q fs h1 h2⟩
    refine wS_seq (wS_of (fl := .nx) (e := [some (.mu .bor (penK p1)), some (.pd (.int k0)), none, none, none]) (by simp [d1]) ?_)
    rw [nxt_nx, go]
    refine wS_seq ?_
    by_cases z0 : k0 = 0
    · have q0 : oEq [.int k0, .int 0] = some (.bool true) := by rw [eq_int]; simp [z0]
      obtain ⟨w, p2, w0, w1, hp2, d2⟩ := draw2_sp p1 4 (by omega) (by omega) (by omega)
      obtain ⟨h, p3, h0, h1, hp3, d3⟩ := draw2_sp p2 2 (by omega) (by omega) (by omega)
      obtain ⟨W, hW⟩ : ∃ W : Nat, 1 + w = W := ⟨(1 + w).toNat, by omega⟩
      obtain ⟨H, hH⟩ : ∃ H : Nat, 1 + h = H := ⟨(1 + h).toNat, by omega⟩
      obtain ⟨p4, cs, hp4, hg, hl, b⟩ := block_sp p3 W H (by omega) (by omega) (by omega)
      have l9 : cs.length ≤ 9 := by
        rw [hl]
        have : W * H ≤ 4 * 2 := Nat.mul_le_mul (by omega) (by omega)
        omega
      have so := fun env => kSort_t cs hg (by omega) env
      refine wS_of (fl := .rt (.nt ((cs.mergeSort prLe).map clD))) (e := [some (.mu .bor (penK p4)), some (.pd (.int k0)), none, none, none]) ?_ ?_
      · simp [q0, d2, d3, kAdd, oI, hW, hH, b, so, kTupN]
      · exact dn p4 _ (by omega) (sort_ok hg l9) _ _ _ _
    have q0 : oEq [.int k0, .int 0] = some (.bool false) := by rw [eq_int]; simp [z0]
    refine wS_of (fl := .nx) (e := [some (.mu .bor (penK p1)), some (.pd (.int k0)), none, none, none]) (by simp [q0]) ?_
    rw [nxt_nx, go]
    refine wS_seq ?_
    by_cases z1 : k0 = 1
    · have q1 : oEq [.int k0, .int 1] = some (.bool true) := by rw [eq_int]; simp [z1]
      obtain ⟨p4, cs, hp4, hg, hl, b⟩ := block_sp p1 3 3 (by omega) (by omega) (by omega)
      have so := fun env => kSort_t cs hg (by omega) env
      obtain ⟨r, p5, r0, r1, hp5, d5⟩ := draw2_sp p4 2 (by omega) (by omega) (by omega)
      obtain ⟨fs, hfs⟩ : ∃ fs, fs = cs.mergeSort prLe := ⟨_, rfl⟩
      have lf : fs.length = 9 := by rw [hfs, List.length_mergeSort, hl]
      rw [← hfs] at so
      have b : f__law_block [.mu .bor (penK p1), .pd (.int 3), .pd (.int 3)] = some (.tmp (.ls (cs.map clD)), [.mu .bor (penK p4), .pd (.int 3), .pd (.int 3)]) := b
      by_cases zr : r = 0
      · have q2 : oEq [.int r, .int 0] = some (.bool true) := by rw [eq_int]; simp [zr]
        have c1 : kSl none (some 4) [.var 2] [some (.mu .bor (penK p5)), some (.pd (.int k0)), some (.mu .own (.ls (fs.map clD))), none, none] = some (.tmp (.ls ((fs.take 4).map clD)), [some (.mu .bor (penK p5)), some (.pd (.int k0)), some (.mu .own (.ls (fs.map clD))), none, none]) := by
          have : cutD (fs.map clD) none (some 4) = (fs.take 4).map clD := by
            rw [List.map_take]
            unfold cutD
            simp [HT.sIx, lf]
          simp [kSl, this, lf]
        have c2 : kSl (some 5) none [.var 2] [some (.mu .bor (penK p5)), some (.pd (.int k0)), some (.mu .own (.ls (fs.map clD))), none, none] = some (.tmp (.ls ((fs.drop 5).map clD)), [some (.mu .bor (penK p5)), some (.pd (.int k0)), some (.mu .own (.ls (fs.map clD))), none, none]) := by
          have : cutD (fs.map clD) (some 5) none = (fs.drop 5).map clD := by
            rw [List.map_drop]
            unfold cutD
            simp [HT.sIx, lf]
            exact List.take_of_length_le (by simp [lf])
          simp [kSl, this, lf]
        refine wS_of (fl := .rt (.nt ((fs.take 4 ++ fs.drop 5).map clD))) (e := [some (.mu .bor (penK p5)), some (.pd (.int k0)), some (.mu .own (.ls (fs.map clD))), none, none]) ?_ ?_
        · have ll : (fs.take 4).length + (fs.drop 5).length ≤ 1000000 := by simp [lf]
          have os : ∀ (i : Int) (env : Sl), oSome (eC (.int i)) env = some (some i, env) := fun _ _ => rfl
          simp [q1, b, so, d5, q2, os, c1, c2, kAdd, oI, oCatS, oCatT, kCatL, lsOf, kTupN, lf]
        · refine dn p5 _ (by omega) (sub_ok hg ?_ (by simp [lf]) (by simp [lf])) _ _ _ _
          rw [← hfs]
          have : fs.Sublist fs := List.Sublist.refl _
          have h1 : (fs.take 4 ++ fs.drop 5).Sublist (fs.take 4 ++ fs.drop 4) := (List.Sublist.refl _).append (by
            rw [show fs.drop 5 = (fs.drop 4).drop 1 by simp]
            exact List.drop_sublist _ _)
          rw [List.take_append_drop] at h1
          exact h1
      · have q2 : oEq [.int r, .int 0] = some (.bool false) := by rw [eq_int]; simp [zr]
        refine wS_of (fl := .rt (.nt (fs.map clD))) (e := [some (.mu .bor (penK p5)), some (.pd (.int k0)), some (.mu .own (.ls (fs.map clD))), none, none]) ?_ ?_
        · simp [q1, b, so, d5, q2, kTupN]
        · rw [hfs]
          exact dn p5 _ (by omega) (sort_ok hg (by omega)) _ _ _ _
    have q1 : oEq [.int k0, .int 1] = some (.bool false) := by rw [eq_int]; simp [z1]
    refine wS_of (fl := .nx) (e := [some (.mu .bor (penK p1)), some (.pd (.int k0)), none, none, none]) (by simp [q1]) ?_
    rw [nxt_nx, go]
    refine wS_seq ?_
    obtain ⟨p3, c0, hp3, hi0, dd⟩ := drawn2 p1 (by omega)
    have dd0 := dd 0 [some (.mu .bor (penK p1)), some (.pd (.int k0)), none, none, none] rfl
    have g0 : good [c0] := ⟨by simp, by simp, fun c hc => by rw [List.mem_singleton.mp hc]; exact hi0⟩
    refine wS_of (fl := .nx) (e := [some (.mu .bor (penK p3)), some (.pd (.int k0)), some (.mu .own (.ls ([c0].map clD))), none, none]) (by rw [z_set, z_then, z_cons, dd0]; simp) ?_
    rw [nxt_nx, go]
    refine wS_seq ?_
    obtain ⟨n, p4, n0, n1, hp4, d4⟩ := draw2_sp p3 9 (by omega) (by omega) (by omega)
    obtain ⟨k, rfl⟩ : ∃ k : Nat, n = k := ⟨n.toNat, by omega⟩
    refine wS_for (xs := upD k) (lk := none) (e := [some (.mu .bor (penK p4)), some (.pd (.int k0)), some (.mu .own (.ls ([c0].map clD))), none, none]) (rg1_up (by simp [d4]) (by omega)) (FlJ k0 (p.t + 20)) ⟨p4, [c0], none, none, by rw [upD_len]; omega, g0, by rw [upD_len]; simp; omega, ⟨rfl, rfl⟩, rfl⟩ ?_ ?_
    · rintro x rest e ⟨p5, cs, s3, s4, hb, hg, hl, ⟨f3, f4⟩, rfl⟩
      simp only [List.length_cons] at hb hl
      simp only [gW, z_gN, z_setR, z_free2, List.getElem?_cons_succ, List.getElem?_cons_zero, freO_some, f3, if_true, List.set_cons_succ, List.set_cons_zero]
      rw [go]
      obtain ⟨F, ok, hp, nr⟩ := near_sp cs hg (by omega)
      have lF := goF_len ok.1 ok.2
      obtain ⟨fs, hfs⟩ : ∃ fs, fs = F.mergeSort prLe := ⟨_, rfl⟩
      have lf : fs.length = F.length := by rw [hfs, List.length_mergeSort]
      rw [← hfs] at nr
      obtain ⟨r, p6, r0, r1, hp6, d6⟩ := draw2_sp p5 (fs.length : Int) (by omega) (by omega) (by omega)
      obtain ⟨y, hy, ey⟩ := at_mem (xs := fs.map clD) r0 (by simpa using r1)
      obtain ⟨c, hc, rfl⟩ := List.mem_map.mp hy
      have ix : oIx [.list (fs.map clD), .int r] = some (clD c) := by simp [oIx, ey]
      have hc' : c ∈ F := by rw [hfs] at hc; exact (List.mergeSort_perm F prLe).mem_iff.mp hc
      have hcn := ok.2 c hc'
      have hg' : good (cs ++ [c]) := ⟨by simp, by
        rw [List.nodup_append]
        exact ⟨hg.2.1, by simp, fun a ha b hb => by
          rw [List.mem_singleton] at hb
          subst hb
          exact fun z => hcn.1 (z ▸ ha)⟩, fun x hx => by
        rcases List.mem_append.mp hx with hx | hx
        · exact hg.2.2 x hx
        · rw [List.mem_singleton.mp hx]; exact hcn.2⟩
      refine wS_seq (wS_of (fl := .nx) (e := [some (.mu .bor (penK p5)), some (.pd (.int k0)), some (.mu .own (.ls (cs.map clD))), some (.pd x), some (.mu .own (.ls (fs.map clD)))]) (by simp [nr, z_free2, freO_some, f4, -z_free]) ?_)
      rw [nxt_nx, go]
      have l1 : cs.length ≤ 1000000 := by omega
      refine wS_of (fl := .nx) (e := [some (.mu .bor (penK p6)), some (.pd (.int k0)), some (.mu .own (.ls ((cs ++ [c]).map clD))), some (.pd x), some (.mu .own (.ls (fs.map clD)))]) (by simp [oLen, d6, ix, isL, kAppend, l1]) ?_
      exact ⟨p6, cs ++ [c], _, _, by omega, hg', by simp; omega, ⟨rfl, rfl⟩, rfl⟩
    · rintro e ⟨p5, cs, s3, s4, hb, hg, hl, ⟨f3, f4⟩, rfl⟩
      simp only [List.length_nil, Nat.add_zero] at hb hl
      simp only [z_unl, nxt_nx]
      rw [go]
      refine wS_seq ?_
      by_cases z2 : k0 = 2
      · have q2 : oEq [.int k0, .int 2] = some (.bool true) := by rw [eq_int]; simp [z2]
        have so := kSort_v cs hg (by omega) [some (.mu .bor (penK p5)), some (.pd (.int k0)), some (.mu .own (.ls (cs.map clD))), s3, s4] 2 rfl
        refine wS_of (fl := .rt (.nt ((cs.mergeSort prLe).map clD))) (e := [some (.mu .bor (penK p5)), some (.pd (.int k0)), some (.mu .own (.ls (cs.map clD))), s3, s4]) (by simp [q2, so, kTupN]) ?_
        exact dn p5 _ (by omega) (sort_ok hg hl) _ _ _ _
      · have q2 : oEq [.int k0, .int 2] = some (.bool false) := by rw [eq_int]; simp [z2]
        refine wS_of (fl := .nx) (e := [some (.mu .bor (penK p5)), some (.pd (.int k0)), some (.mu .own (.ls (cs.map clD))), s3, s4]) (by simp [q2]) ?_
        rw [nxt_nx, go]
        obtain ⟨n, p6, n0, n1, hp6, d6⟩ := draw2_sp p5 9 (by omega) (by omega) (by omega)
        obtain ⟨m, hm⟩ : ∃ m : Nat, 1 + n = (m : Int) := ⟨(1 + n).toNat, by omega⟩
        obtain ⟨ys, p7, lc, ly, hQ', hp7⟩ := lc_pen (it := iRg1 (eCons (eAdd (eC (.int 1)) (eCall f__law_draw (eCons (eVar 0) (eCons (eC (.int 9)) eNil)))) eNil)) (g := gN 3) (f := eThen (eCons (eCall f__law_draw (eCons (eVar 0) (eCons (eC (.int 4)) eNil))) (eCons (eCall f__law_draw (eCons (eVar 0) (eCons (eC (.int 4)) eNil))) eNil)) kTup) (vs := [3]) (env := [some (.mu .bor (penK p5)), some (.pd (.int k0)), some (.mu .own (.ls (cs.map clD))), s3, s4]) (e := [some (.mu .bor (penK p6)), some (.pd (.int k0)), some (.mu .own (.ls (cs.map clD))), s3, s4]) (j := 0) (m := .bor) (p0 := p6) (as := upD m) (fun y => ∃ c, inB c = true ∧ y = clD c) 2 200000000 (rg1_up (by simp [kAdd, oI, d6, hm]) (by omega)) (by rw [upD_len]; omega) (by decide) rfl (by rw [upD_len]; omega) (fun x _ q hq => by
            obtain ⟨q2, c, hq2, hc, dc⟩ := drawn2 q (by omega)
            refine ⟨q2, clD c, hq2, ⟨c, hc, rfl⟩, ?_⟩
            have dc := dc 0 [some (.mu .bor (penK q)), some (.pd (.int k0)), some (.mu .own (.ls (cs.map clD))), some (.pd x), s4] rfl
            simp [lcP, wipeE, dc, -z_then]
            exact ⟨rfl, fun i hi => by
              simp at hi
              match i, hi with
              | 0, _ => rfl
              | 1, _ => rfl
              | 2, _ => rfl
              | 3, h => exact absurd rfl h
              | 4, _ => rfl
              | n + 5, _ => rfl⟩)
        rw [upD_len] at ly hp7
        obtain ⟨zs, rfl, hzi⟩ : ∃ zs : List Cell, ys = zs.map clD ∧ ∀ z ∈ zs, inB z = true := by
          clear lc ly
          induction ys with
          | nil => exact ⟨[], rfl, by simp⟩
          | cons y ys ih =>
            obtain ⟨c, hc, rfl⟩ := hQ' y (by simp)
            obtain ⟨zs, rfl, hz⟩ := ih fun y hy => hQ' y (by simp [hy])
            exact ⟨c :: zs, rfl, fun z hz' => by
              rcases List.mem_cons.mp hz' with rfl | h
              · exact hc
              · exact hz z h⟩
        rw [List.length_map] at ly
        have gd := ddp_good (cs := zs) (by omega) hzi
        have ld := ddp_len zs
        have pr := pairs_of zs hzi
        have l64 : zs.length < 64 := by omega
        refine wS_of (fl := .rt (.nt (((ddp zs).mergeSort prLe).map clD))) (e := [some (.mu .bor (penK p7)), some (.pd (.int k0)), some (.mu .own (.ls (cs.map clD))), s3, s4]) ?_ ?_
        · simp [eOne, lc, kSrtSet, pr, l64, kTupN, -z_lc]
        · exact dn p7 _ (by omega) (sort_ok gd (by omega)) _ _ _ _
  obtain ⟨r, as, e, q, cs, h1, h2, rfl, rfl⟩ := key (fun r as => ∃ (q : Pk) (cs : List Cell), q.t ≤ p.t + 60 ∧ okFl cs ∧ r = .nt (cs.map clD) ∧ as = [.mu .bor (penK q)]) (fun q cs h1 h2 => ⟨q, cs, h1, h2, rfl, rfl⟩)
  exact ⟨q, cs, h1, h2, e⟩
noncomputable section
theorem org_eq {n : Nat} {T U : List (Int × Int)} : org n T = org n U ↔ ∀ j, j < n → mv n T j = mv n U j := by
  constructor
  · intro e j _
    unfold mv
    rw [e]
  · intro h
    refine List.ext_getElem? fun i => ?_
    by_cases hi : i < n
    · obtain ⟨j, hj⟩ : ∃ j, (org n T)[i]? = some j := ⟨_, List.getElem?_eq_getElem (by rw [org_len]; exact hi)⟩
      have jn : j < n := org_mem.mp (List.mem_of_getElem? hj)
      have e1 := mv_org hj
      rw [h j jn] at e1
      have e2 := org_mv (ps := U) jn
      rw [e1] at e2
      rw [hj, e2]
    · rw [List.getElem?_eq_none (by rw [org_len]; omega), List.getElem?_eq_none (by rw [org_len]; omega)]
def SameR (cs : List Cell) (c : Cell) (l : Ly) (ds es : List Dir) : Prop := endC c ds = endC c es ∧ endL l ds = endL l es ∧ ∀ j, j < 6 + cs.length → exM cs c l ds j = exM cs c l es j
instance (cs : List Cell) (c : Cell) (l : Ly) (ds es : List Dir) : Decidable (SameR cs c l ds es) := Classical.propDecidable _
theorem nD_inj {xs ys : List Nat} (h : nD xs = nD ys) : xs = ys := by
  have e : ∀ a b : Nat, PyData.int (a : Int) = .int (b : Int) → a = b := fun a b q => by injection q with q; omega
  exact List.map_inj_right (fun a b => e a b) |>.mp h
theorem lyD_inj {a b : Ly} (h : lyD a = lyD b) : a = b := by
  unfold lyD at h
  injection h with h
  simp only [List.cons.injEq, PyData.int.injEq, and_true] at h
  exact Prod.ext h.1 (Prod.ext h.2.1 h.2.2)
end
noncomputable section
theorem stD_inj {c c' : Cell} {l l' : Ly} (h : stD c l = stD c' l') : c = c' ∧ l = l' := by
  unfold stD at h
  injection h with h
  simp only [List.cons.injEq, and_true] at h
  exact ⟨MM.clD_inj h.1, lyD_inj h.2⟩
end
noncomputable section
theorem exM_nil {cs : List Cell} {c : Cell} {l : Ly} {j : Nat} (hj : j < 6 + cs.length) : exM cs c l [] j = j := by
  unfold exM
  exact mv_org (by unfold org held trd; simp [List.getElem?_range hj])
end
noncomputable section
abbrev Look := Nat × Cell × Int
structure OkL (cs : List Cell) (ds : List Dir) (L : List Look) : Prop where
  len : L.length ≤ 12
  beat : ∀ x ∈ L, x.1 ≤ ds.length
  cell : ∀ x ∈ L, x.2.1 ∈ cs
  mark : ∀ x ∈ L, 0 ≤ x.2.2 ∧ x.2.2 ≤ 999
end
noncomputable section
end
noncomputable section
end
noncomputable section
def skC : Sk Cell where
  dat := clD
  key := ck
  cel a := .int a.1
  lets _ := []
  go a d := stepC a d
  tk := tk_cell
  inj _ _ h := ck_inj h
  cl _ := rfl
structure Bk (cs : List Cell) (c0 : Cell) (rows : Rws Cell) (W : List Cell) (X : Cell → Dir → Prop) : Prop where
  st : look rows c0 = some []
  ok : ∀ a ds, look rows a = some ds → letR cs c0 ds ∧ endC c0 ds = a ∧ ds.length < rows.length
  nd : (rows.map (·.1)).Nodup
  mem : ∀ a, (look rows a).isSome = true → a ∈ cs
  wt : ∀ w ∈ W, (look rows w).isSome = true
  cl : ∀ a d, (look rows a).isSome = true → a ∉ W → stepC a d ∈ cs → (look rows (stepC a d)).isSome = true ∨ X a d
theorem Bk.len {cs : List Cell} {c0 : Cell} {rows : Rws Cell} {W : List Cell} {X : Cell → Dir → Prop} (h : Bk cs c0 rows W X) : rows.length ≤ cs.length := by
  have := List.Nodup.length_le_of_subset h.nd (l₂ := cs) (fun a ha => h.mem a (look_key.mpr ha))
  simpa using this
theorem look_snoc {rows : Rws Cell} {b : Cell} {x : List Dir} (a : Cell) : look (rows ++ [(b, x)]) a = (look rows a).or (if b = a then some x else none) := by
  unfold look
  rw [List.find?_append]
  cases e : rows.find? fun q => decide (q.1 = a) with
  | some q => rfl
  | none =>
    by_cases z : b = a
    · simp [z]
    · simp [z]
theorem Bk.add {cs : List Cell} {c0 : Cell} {rows : Rws Cell} {W : List Cell} {X : Cell → Dir → Prop} (h : Bk cs c0 rows W X) {a : Cell} {ds : List Dir} (ha : look rows a = some ds) {d : Dir} (hd : stepC a d ∈ cs) (hn : look rows (stepC a d) = none) :
    Bk cs c0 (rows ++ [(stepC a d, ds ++ [d])]) (W ++ [stepC a d]) (fun x e => X x e ∧ ¬ (x = a ∧ e = d)) := by
  obtain ⟨o1, o2, o3⟩ := h.ok a ds ha
  refine ⟨by rw [look_snoc, h.st]; rfl, ?_, ?_, ?_, ?_, ?_⟩
  · intro b es hb
    rw [look_snoc] at hb
    cases e : look rows b with
    | some y =>
      rw [e] at hb
      obtain ⟨h1, h2, h3⟩ := h.ok b y e
      have : y = es := by simpa using hb
      subst this
      exact ⟨h1, h2, by simp; omega⟩
    | none =>
      rw [e] at hb
      by_cases z : stepC a d = b
      · have : ds ++ [d] = es := by simpa [z] using hb
        subst this
        refine ⟨letR_app ds c0 d o1 (by rw [o2]; exact hd), by rw [endC_app, o2, z], by simp; omega⟩
      · simp [z] at hb
  · rw [List.map_append, List.map_cons, List.map_nil, List.nodup_append]
    refine ⟨h.nd, by simp, fun x hx y hy => ?_⟩
    rw [List.mem_singleton] at hy
    subst hy
    intro q
    subst q
    have := look_key.mpr hx
    rw [hn] at this
    cases this
  · intro b hb
    rw [look_snoc] at hb
    by_cases z : stepC a d = b
    · exact z ▸ hd
    · simp [z] at hb
      exact h.mem b hb
  · intro w hw
    rw [look_snoc]
    rcases List.mem_append.mp hw with q | q
    · obtain ⟨y, hy⟩ := Option.isSome_iff_exists.mp (h.wt w q)
      rw [hy]; rfl
    · rw [List.mem_singleton] at q
      subst q
      simp
  · intro b e hb hw he
    rw [look_snoc] at hb ⊢
    have nb : ¬ stepC a d = b := fun z => hw (by simp [z])
    have hb : (look rows b).isSome = true := by simpa [nb] using hb
    rcases h.cl b e hb (fun z => hw (by simp [z])) he with q | q
    · left
      obtain ⟨y, hy⟩ := Option.isSome_iff_exists.mp q
      rw [hy]; rfl
    · by_cases z : b = a ∧ e = d
      · left
        obtain ⟨rfl, rfl⟩ := z
        simp
      · exact .inr ⟨q, z⟩
theorem Bk.none {cs : List Cell} {c0 : Cell} {rows : Rws Cell} {W : List Cell} {X : Cell → Dir → Prop} (h : Bk cs c0 rows W X) {a : Cell} {d : Dir} (hn : stepC a d ∉ cs ∨ (look rows (stepC a d)).isSome = true) : Bk cs c0 rows W (fun x e => X x e ∧ ¬ (x = a ∧ e = d)) :=
  ⟨h.st, h.ok, h.nd, h.mem, h.wt, fun b e hb hw he => by
    rcases h.cl b e hb hw he with q | q
    · exact .inl q
    · by_cases z : b = a ∧ e = d
      · obtain ⟨rfl, rfl⟩ := z
        exact hn.elim (fun n => absurd he n) .inl
      · exact .inr ⟨q, z⟩⟩
theorem Bk.imp {cs : List Cell} {c0 : Cell} {rows : Rws Cell} {W : List Cell} {X Y : Cell → Dir → Prop} (h : Bk cs c0 rows W X) (i : ∀ a d, X a d → Y a d) : Bk cs c0 rows W Y :=
  ⟨h.st, h.ok, h.nd, h.mem, h.wt, fun b e hb hw he => (h.cl b e hb hw he).imp id (i b e)⟩
theorem Bk.pop {cs : List Cell} {c0 : Cell} {rows : Rws Cell} {a : Cell} {W : List Cell} (h : Bk cs c0 rows (a :: W) (fun _ _ => False)) : Bk cs c0 rows W (fun x _ => x = a) :=
  ⟨h.st, h.ok, h.nd, h.mem, fun w hw => h.wt w (by simp [hw]), fun b e hb hw he => by
    by_cases z : b = a
    · exact .inr z
    · rcases h.cl b e hb (by simp [z, hw]) he with q | q
      · exact .inl q
      · exact q.elim⟩
theorem Bk.all {cs : List Cell} {c0 : Cell} {rows : Rws Cell} (h : Bk cs c0 rows [] (fun _ _ => False)) : ∀ (es : List Dir) (a : Cell), (look rows a).isSome = true → letR cs a es → (look rows (endC a es)).isSome = true
  | [], a, ha, _ => ha
  | d :: es, a, ha, hl => by
    have hl' : stepC a d ∈ cs ∧ letR cs (stepC a d) es := hl
    have := (h.cl a d ha (by simp) hl'.1).resolve_right id
    exact Bk.all h es _ this hl'.2
def BkE (cs : List Cell) (c0 g : Cell) (rows : Rws Cell) (W : List Cell) (s5 s6 s7 : Option S) : Sl := [some (.nt (cs.map clD)), some (.pd (clD c0)), some (.pd (clD g)), some (.mu .own (.dn (rkv skC rows))), some (.mu .own (.ls (W.map clD))), s5, s6, s7]
def BkW (cs : List Cell) (c0 g : Cell) (n : Nat) (e : Sl) : Prop := ∃ (rows : Rws Cell) (W : List Cell) (s5 s6 s7 : Option S), Bk cs c0 rows W (fun _ _ => False) ∧ 2 * (cs.length - rows.length) + W.length = n ∧ n ≤ 100 ∧ Frz s5 ∧ Frz s6 ∧ Frz s7 ∧ e = BkE cs c0 g rows W s5 s6 s7
def BkI (cs : List Cell) (c0 g a : Cell) (ds : List Dir) (n : Nat) (rest : List PyData) (e : Sl) : Prop := ∃ (rows : Rws Cell) (W : List Cell) (s6 s7 : Option S) (td : List Dir), rest = td.map chD ∧ Bk cs c0 rows W (fun x d => x = a ∧ d ∈ td) ∧ 2 * (cs.length - rows.length) + W.length < n ∧ look rows a = some ds ∧ Frz s6 ∧ Frz s7 ∧ e = BkE cs c0 g rows W (some (.pd (clD a))) s6 s7
theorem frzF {s : Option S} (h : Frz s) : fre s = true := by rcases h with rfl | ⟨x, rfl⟩ <;> rfl
theorem rkvC_val (rows : Rws Cell) (a : Cell) : valN (rkv skC rows) (ck a) = (look rows a).map fun ds => .str (rowS ds) := rkv_val skC rows a
theorem back_to_sp {cs : List Cell} {c0 g : Cell} (h9 : cs.length ≤ 9) (hc : c0 ∈ cs) (hg : ∃ es, letR cs c0 es ∧ endC c0 es = g) : ∃ ds : List Dir, letR cs c0 ds ∧ endC c0 ds = g ∧ ds.length ≤ 8 ∧
    f__law_back_to [.nt (cs.map clD), .pd (clD c0), .pd (clD g)] = some (.pd (.str (rowS ds)), [.nt (cs.map clD), .pd (clD c0), .pd (clD g)]) := by
  have key : ∀ Q : R → List S → Prop, (∀ ds : List Dir, letR cs c0 ds → endC c0 ds = g → ds.length ≤ 8 → Q (.pd (.str (rowS ds))) [.nt (cs.map clD), .pd (clD c0), .pd (clD g)]) → wF f__law_back_to [.nt (cs.map clD), .pd (clD c0), .pd (clD g)] Q := by
    intro Q hQ
    refine wF_run (e := [some (.nt (cs.map clD)), some (.pd (clD c0)), some (.pd (clD g)), none, none, none, none, none]) rfl ?_
    have hk : key? (clD c0) = none := rfl
    have b0 : Bk cs c0 [(c0, [])] [c0] (fun _ _ => False) := ⟨by simp [look], fun a ds h => by
        by_cases z : c0 = a
        · subst z
          have : [] = ds := by simpa [look] using h
          subst this
          exact ⟨trivial, rfl, by simp⟩
        · simp [look, z] at h, by simp, fun a h => by
        by_cases z : c0 = a
        · exact z ▸ hc
        · simp [look, z] at h, fun w hw => by simp at hw; subst hw; simp [look], fun a d h hw _ => by
        by_cases z : c0 = a
        · exact absurd (by simp [z]) hw
        · simp [look, z] at h⟩
    refine wS_seq ?_
    refine wS_of (fl := .nx) (e := BkE cs c0 g [(c0, [])] [c0] none none none) ?_ ?_
    · simp [eDisp, keysK, keysN, hk, tk_cell, allN, putN, valN, BkE, rkv, skC, ePairs, rowS]
      rfl
    rw [nxt_nx, go]
    refine wS_seq ?_
    refine wS_while (BkW cs c0 g) _ ⟨_, _, none, none, none, b0, rfl, by simp; omega, .inl rfl, .inl rfl, .inl rfl, rfl⟩ ?_
    rintro n e ⟨rows, W, s5, s6, s7, bk, hn, n100, f5, f6, f7, rfl⟩
    have lr := bk.len
    have vg := rkvC_val rows g
    cases hl : look rows g with
    | some ds =>
      rw [hl] at vg
      obtain ⟨o1, o2, o3⟩ := bk.ok g ds hl
      unfold bW
      have : bT (eDi true (eVar 2) (eVar 3)) (BkE cs c0 g rows W s5 s6 s7) = some (false, BkE cs c0 g rows W s5 s6 s7) := by simp [BkE, cGet, tk_cell, vg]
      rw [this]
      simp only [Bool.false_eq_true, if_false, nxt_nx]
      rw [go]
      refine wS_of (fl := .rt (.pd (.str (rowS ds)))) (e := BkE cs c0 g rows W s5 s6 s7) (by simp [BkE, cGet, tk_cell, vg]) ?_
      exact ⟨_, _, rfl, rfl, hQ ds o1 o2 (by omega)⟩
    | none =>
      rw [hl] at vg
      unfold bW
      have : bT (eDi true (eVar 2) (eVar 3)) (BkE cs c0 g rows W s5 s6 s7) = some (true, BkE cs c0 g rows W s5 s6 s7) := by simp [BkE, cGet, tk_cell, vg]
      rw [this]
      simp only [if_true]
      cases W with
      | nil =>
        obtain ⟨es, h1, h2⟩ := hg
        have := bk.all es c0 (by rw [bk.st]; rfl) h1
        rw [h2, hl] at this
        cases this
      | cons a W =>
        obtain ⟨ds, ha⟩ := Option.isSome_iff_exists.mp (bk.wt a (by simp))
        obtain ⟨o1, o2, o3⟩ := bk.ok a ds ha
        have bp := bk.pop
        refine wS_seq ?_
        refine wS_of (fl := .nx) (e := BkE cs c0 g rows W (some (.pd (clD a))) s6 s7) (by simp [BkE, isL, z_free2, freO_some, frzF f5, -z_free]) ?_
        rw [nxt_nx, go]
        have sg : signs "ensw" = all4.map chD := by rw [ensw_row, signs_row]; rfl
        refine wS_for (xs := all4.map chD) (lk := none) (e := BkE cs c0 g rows W (some (.pd (clD a))) s6 s7) (by simp [sg]) (BkI cs c0 g a ds n) ⟨rows, W, s6, s7, all4, rfl, bp.imp fun x d z => ⟨z, by cases d <;> decide⟩, by simp at hn; omega, ha, f6, f7, rfl⟩ ?_ ?_
        · rintro x rest e ⟨rows, W, s6, s7, td, er, bk, hn, ha, f6, f7, rfl⟩
          cases td with
          | nil => simp at er
          | cons d td =>
            obtain ⟨rfl, rfl⟩ : x = chD d ∧ rest = td.map chD := by simpa using er
            have lr := bk.len
            simp only [gW, BkE, z_gN, z_setR, z_free2, List.getElem?_cons_succ, List.getElem?_cons_zero, freO_some, frzF f6, if_true, List.set_cons_succ, List.set_cons_zero]
            rw [go]
            have be := besC_sp a d
            have ii := in_cells (stepC a d) cs false
            have va := rkvC_val rows a
            have vb := rkvC_val rows (stepC a d)
            rw [ha] at va
            have nx : ∀ X : Cell → Dir → Prop, (∀ x e, X x e → x = a ∧ e ∈ d :: td) → ∀ x e, X x e ∧ ¬ (x = a ∧ e = d) → x = a ∧ e ∈ td := fun X hX x e q => by
              obtain ⟨h1, h2⟩ := hX x e q.1
              refine ⟨h1, ?_⟩
              rcases List.mem_cons.mp h2 with z | z
              · exact absurd ⟨h1, z⟩ q.2
              · exact z
            refine wS_seq ?_
            refine wS_of (fl := .nx) (e := BkE cs c0 g rows W (some (.pd (clD a))) (some (.pd (chD d))) (some (.pd (clD (stepC a d))))) (by simp [BkE, chD, be, z_free2, freO_some, frzF f7, -z_free]) ?_
            rw [nxt_nx, go]
            by_cases z : stepC a d ∈ cs
            · cases hb : look rows (stepC a d) with
              | some es =>
                rw [hb] at vb
                refine wS_of (fl := .nx) (e := BkE cs c0 g rows W (some (.pd (clD a))) (some (.pd (chD d))) (some (.pd (clD (stepC a d))))) (by simp [BkE, ii, z, cGet, tk_cell, vb]) ?_
                exact ⟨rows, W, _, _, td, rfl, (bk.none (a := a) (d := d) (.inr (by rw [hb]; rfl))).imp (nx _ fun _ _ q => q), hn, ha, .inr ⟨_, rfl⟩, .inr ⟨_, rfl⟩, rfl⟩
              | none =>
                rw [hb] at vb
                have bk2 := bk.add ha z hb
                have l2 := bk2.len
                simp at l2
                have p := rkv_put skC (ds := ds ++ [d]) hb
                have p : putN (rkv skC rows) (ck (stepC a d)) (.str (rowS (ds ++ [d]))) = rkv skC (rows ++ [(stepC a d, ds ++ [d])]) := p
                have lrr : (rkv skC rows).length ≤ 1000000 := by unfold rkv; rw [List.length_map]; omega
                have lw : W.length ≤ 1000000 := by omega
                obtain ⟨o1, o2, o3⟩ := bk.ok a ds ha
                have lt : (rowS ds).length + (chS d).length ≤ 1000000 := by
                  have : (rowS ds).length = ds.length := row_len ds
                  have : (chS d).length = 1 := rfl
                  omega
                have rs := rowS_snoc ds d
                refine wS_of (fl := .nx) (e := BkE cs c0 g (rows ++ [(stepC a d, ds ++ [d])]) (W ++ [stepC a d]) (some (.pd (clD a))) (some (.pd (chD d))) (some (.pd (clD (stepC a d))))) ?_ ?_
                · simp [BkE, ii, z, chD, cGet, tk_cell, vb, va, kAdd, oI, oCatS, lt, rs, cPut, lrr, p, isL, kAppend, lw]
                · exact ⟨_, _, _, _, td, rfl, bk2.imp (nx _ fun _ _ q => q), by simp; omega, look_old _ ha, .inr ⟨_, rfl⟩, .inr ⟨_, rfl⟩, rfl⟩
            · refine wS_of (fl := .nx) (e := BkE cs c0 g rows W (some (.pd (clD a))) (some (.pd (chD d))) (some (.pd (clD (stepC a d))))) (by simp [BkE, ii, z]) ?_
              exact ⟨rows, W, _, _, td, rfl, (bk.none (a := a) (d := d) (.inl z)).imp (nx _ fun _ _ q => q), hn, ha, .inr ⟨_, rfl⟩, .inr ⟨_, rfl⟩, rfl⟩
        · rintro e ⟨rows, W, s6, s7, td, er, bk, hn, ha, f6, f7, rfl⟩
          have : td = [] := by simpa using er.symm
          subst this
          exact ⟨_, hn, rows, W, _, s6, s7, bk.imp fun _ _ q => by simp at q, rfl, by omega, .inr ⟨_, rfl⟩, f6, f7, rfl⟩
  obtain ⟨r, as, e, ds, h1, h2, h3, rfl, rfl⟩ := key (fun r as => ∃ ds : List Dir, letR cs c0 ds ∧ endC c0 ds = g ∧ ds.length ≤ 8 ∧ r = .pd (.str (rowS ds)) ∧ as = [.nt (cs.map clD), .pd (clD c0), .pd (clD g)]) fun ds h1 h2 h3 => ⟨ds, h1, h2, h3, rfl, rfl⟩
  exact ⟨ds, h1, h2, h3, e⟩
end
noncomputable section
def ClI (cs : List Cell) (c : Cell) (l : Ly) (ds : List Dir) (p : Pk) (rest : List PyData) (e : Sl) : Prop := ∃ (as bs : List Dir) (s6 : Option S), ds = as ++ bs ∧ rest = bs.map chD ∧ Frz s6 ∧ e = [some (.mu .bor (penK p)), some (.nt (cs.map clD)), some (.pd (stD c l)), some (.pd (.int 8)), some (.pd (.str (rowS ds))), some (.pd (clD (endC c as))), s6]
theorem plain6 (ds : List Dir) (hn : ds.length ≤ 900) (G : Sl) (n j : Nat) (lG : G.length = n) (hv : 6 < n) (kj : G[j]? = some (some (.pd (.str (rowS ds))))) : eLc (iSeq (eRevS (eVar j))) (gN 6) bYes (eIx (eC (.str "wsne")) (eBM isS (eC (.str "ensw")) (eCons (eVar 6) eNil) (kE oSix))) [6] G = some (.tmp (.ls ((bk ds).map chD)), G) := by
  have sg : signs (rowS ds.reverse) = ds.reverse.map chD := by rw [signs_row]; rfl
  have hl : (rowS ds).length ≤ 1000000 := by rw [row_len]; omega
  have l8 : 6 < G.length := by omega
  have lp := lcA (it := iSeq (eRevS (eVar j))) (g := gN 6) (f := eIx (eC (.str "wsne")) (eBM isS (eC (.str "ensw")) (eCons (eVar 6) eNil) (kE oSix))) (vs := [6]) (lk := none) (env := G) (e := G) (q := chD) (as := ds.reverse) (fun d => chD (opp d)) (by simp [eRevS, kj, hl, rev_row, sg, -getElem?_pos]) (by simp; omega) (fun d _ => by
    have s := six_at d
    have w : oIx [.str "wsne", .int (sixI d)] = some (chD (opp d)) := by
      have := wsne_ix d
      cases d <;> exact this
    simp [lcO, wipe_at, wipe_free, wipeE_len, l8, chD, isS, s, Kp.set, -z_free, -getElem?_pos]
    simp [w, chD, Kp.set])
  rw [z_unl] at lp
  rw [lp]
  simp [bk]
theorem closed8_sp (p : Pk) {cs : List Cell} {c : Cell} {l : Ly} (ok : okFl cs) (hc : c ∈ cs) (ht : p.t ≤ 100000000) : ∃ (q : Pk) (ds : List Dir), q.t ≤ p.t + 14 ∧ letR cs c ds ∧ endC c ds = c ∧ ds.length ≤ 16 ∧
    f__law_closed [.mu .bor (penK p), .nt (cs.map clD), .pd (stD c l), .pd (.int 8)] = some (.pd (.str (rowS ds)), [.mu .bor (penK q), .nt (cs.map clD), .pd (stD c l), .pd (.int 8)]) := by
  have key : ∀ Q : R → List S → Prop, (∀ (q : Pk) (ds : List Dir), q.t ≤ p.t + 14 → letR cs c ds → endC c ds = c → ds.length ≤ 16 → Q (.pd (.str (rowS ds))) [.mu .bor (penK q), .nt (cs.map clD), .pd (stD c l), .pd (.int 8)]) → wF f__law_closed [.mu .bor (penK p), .nt (cs.map clD), .pd (stD c l), .pd (.int 8)] Q := by
    intro Q hQ
    refine wF_run (e := [some (.mu .bor (penK p)), some (.nt (cs.map clD)), some (.pd (stD c l)), some (.pd (.int 8)), none, none, none]) rfl ?_
    obtain ⟨p1, ds, hp1, lt, dl, ew⟩ := wkC_sp p cs c 8 (by omega) (by omega)
    have ew : f__law_walk [.mu .bor (penK p), .nt (cs.map clD), .pd (clD c), .pd (.int 8)] = some (.pd (.str (rowS ds)), [.mu .bor (penK p1), .nt (cs.map clD), .pd (clD c), .pd (.int 8)]) := ew
    have i0 : oIx [stD c l, .int 0] = some (clD c) := rfl
    refine wS_seq ?_
    simp [wS, i0, ew]
    rw [go]
    refine wS_seq ?_
    simp [wS, i0]
    rw [go]
    refine wS_seq ?_
    have sg : signs (rowS ds) = ds.map chD := by rw [signs_row]; rfl
    refine wS_for (xs := ds.map chD) (lk := none) (e := [some (.mu .bor (penK p1)), some (.nt (cs.map clD)), some (.pd (stD c l)), some (.pd (.int 8)), some (.pd (.str (rowS ds))), some (.pd (clD c)), none]) (by simp [sg]) (ClI cs c l ds p1) ⟨[], ds, none, rfl, rfl, .inl rfl, rfl⟩ ?_ ?_
    · rintro x rest e ⟨as, bs, s6, eL, er, f6, rfl⟩
      cases bs with
      | nil => simp at er
      | cons d bs =>
        obtain ⟨rfl, rfl⟩ : x = chD d ∧ rest = bs.map chD := by simpa using er
        simp only [gW, z_gN, z_setR, z_free2, List.getElem?_cons_succ, List.getElem?_cons_zero, freO_some, frzF f6, if_true, List.set_cons_succ, List.set_cons_zero]
        rw [go]
        have be := besC_sp (endC c as) d
        rw [← endC_app] at be
        refine wS_of (fl := .nx) (e := [some (.mu .bor (penK p1)), some (.nt (cs.map clD)), some (.pd (stD c l)), some (.pd (.int 8)), some (.pd (.str (rowS ds))), some (.pd (clD (endC c (as ++ [d])))), some (.pd (chD d))]) (by simp [chD, be]) ?_
        exact ⟨as ++ [d], bs, _, by rw [eL]; simp, rfl, .inr ⟨_, rfl⟩, rfl⟩
    · rintro e ⟨as, bs, s6, eL, er, f6, rfl⟩
      have hv : bs = [] := by cases bs with
        | nil => rfl
        | cons t vs => simp at er
      subst hv
      rw [List.append_nil] at eL
      subst eL
      rw [z_unl, nxt_nx, go]
      obtain ⟨r, p2, r0, r1, hp2, d2⟩ := draw2_sp p1 2 (by omega) (by omega) (by omega)
      have lb := letR_bk ds c hc lt
      have eb : endC (endC c ds) (bk ds) = c := (bk_end c (0, 1, 2) ds).1
      refine wS_seq ?_
      by_cases z : r = 0
      · subst z
        have q2 : oEq [.int 0, .int 0] = some (.bool true) := by rw [eq_int]; rfl
        obtain ⟨es, b1, b2, b3, b4⟩ := back_to_sp ok.2.1 (endC_mem ds c hc lt) ⟨bk ds, lb, eb⟩
        have ad := fun env => add_row ds es env (by omega) (by omega)
        refine wS_of (fl := .rt (.pd (.str (rowS (ds ++ es))))) (e := [some (.mu .bor (penK p2)), some (.nt (cs.map clD)), some (.pd (stD c l)), some (.pd (.int 8)), some (.pd (.str (rowS ds))), some (.pd (clD (endC c ds))), s6]) (by simp [d2, q2, i0, b4, ad]) ?_
        exact ⟨_, _, rfl, rfl, hQ p2 (ds ++ es) (by omega) (letR_snoc ds es c lt b1) (by rw [endC_snoc, b2]) (by simp; omega)⟩
      · have q2 : oEq [.int r, .int 0] = some (.bool false) := by rw [eq_int]; simp [z]
        refine wS_of (fl := .nx) (e := [some (.mu .bor (penK p2)), some (.nt (cs.map clD)), some (.pd (stD c l)), some (.pd (.int 8)), some (.pd (.str (rowS ds))), some (.pd (clD (endC c ds))), s6]) (by simp [d2, q2]) ?_
        rw [nxt_nx, go]
        have lc := plain6 ds (by omega) [some (.mu .bor (penK p2)), some (.nt (cs.map clD)), some (.pd (stD c l)), some (.pd (.int 8)), some (.pd (.str (rowS ds))), some (.pd (clD (endC c ds))), s6] 7 4 rfl (by decide) rfl
        have j := oJoin_row (bk ds) (by rw [bk_len]; omega)
        have ad := fun env => add_row ds (bk ds) env (by omega) (by rw [bk_len]; omega)
        refine wS_of (fl := .rt (.pd (.str (rowS (ds ++ bk ds))))) (e := [some (.mu .bor (penK p2)), some (.nt (cs.map clD)), some (.pd (stD c l)), some (.pd (.int 8)), some (.pd (.str (rowS ds))), some (.pd (clD (endC c ds))), s6]) (by simp [isS, lc, j, ad, -z_lc]) ?_
        exact ⟨_, _, rfl, rfl, hQ p2 (ds ++ bk ds) (by omega) (letR_snoc ds _ c lt lb) (by rw [endC_snoc, eb]) (by simp [bk_len]; omega)⟩
  obtain ⟨r, as, e, q, ds, h1, h2, h3, h4, rfl, rfl⟩ := key (fun r as => ∃ (q : Pk) (ds : List Dir), q.t ≤ p.t + 14 ∧ letR cs c ds ∧ endC c ds = c ∧ ds.length ≤ 16 ∧ r = .pd (.str (rowS ds)) ∧ as = [.mu .bor (penK q), .nt (cs.map clD), .pd (stD c l), .pd (.int 8)]) fun q ds h1 h2 h3 h4 => ⟨q, ds, h1, h2, h3, h4, rfl, rfl⟩
  exact ⟨q, ds, h1, h2, h3, h4, e⟩
end
theorem ok_cells {F cs : List Cell} (h9 : F.length ≤ 9) (hb : ∀ c ∈ F, inB c = true) (hm : ∀ c ∈ cs, c ∈ F) (hr : chain cs = true) (hl : cs.length ≤ 100) (s : S) (hs : isT s (cs.map clD)) : f_is_cells [.nt (F.map clD), s] = some (.pd (.bool true), [.nt (F.map clD), s]) := by
  have ro : f_is_rising [s] = some (.pd (.bool true), [s]) := by
    rcases hs with rfl | rfl
    · rw [is_rising_pd cs (by omega), hr]
    · rw [is_rising_sp cs (by omega), hr]
  unfold f_is_cells
  rw [run_of (e := [some (.nt (F.map clD)), some s, none]) rfl]
  have lc := lc_all (it := iSeq (eVar 1)) (g := gN 2) (f := eCall f_is_cell_of (eCons (eVar 0) (eCons (eVar 2) eNil))) (vs := [2]) (lk := none) (env := [some (.nt (F.map clD)), some s, none]) (e := [some (.nt (F.map clD)), some s, none]) (q := clD) (y := fun _ => .bool true) cs (by rcases hs with rfl | rfl <;> simp) (by omega) (fun c hc => by
    have := is_cell_of_sp F c (hm c hc) (hb c (hm c hc))
    simp [lcOk, wipeE, unwipe, this])
  rw [z_unl] at lc
  have al : oAll [.list (cs.map fun _ => PyData.bool true)] = some (.bool true) := by
    have b := bools_of (fun _ : Cell => true) cs
    simp only [oAll, b]
    simp
  generalize (cs.map fun _ => PyData.bool true) = B at *
  have t5 : isi5 .tuple (.tuple (cs.map clD)) = true := rfl
  rcases hs with rfl | rfl <;> simp [m_is_cells, oIsi, t5, lc, al, ro, -z_lc]
theorem need_cells_sp {F cs : List Cell} (h9 : F.length ≤ 9) (hb : ∀ c ∈ F, inB c = true) (hm : ∀ c ∈ cs, c ∈ F) (hr : chain cs = true) (hl : cs.length ≤ 100) (s : S) (hs : isT s (cs.map clD)) : f_need_cells [.nt (F.map clD), s] = some (.pd .none, [.nt (F.map clD), s]) := by
  have ok := ok_cells h9 hb hm hr hl s hs
  unfold f_need_cells
  rw [run_of (e := [some (.nt (F.map clD)), some s]) rfl]
  rcases hs with rfl | rfl <;> simp [m_need_cells, ok]
def beatL (W : List Nat) : List (Int × Int) → Nat → Option Nat
  | [], s => if s ∈ W then some 0 else none
  | q :: T, s => if s ∈ W then some 0 else (beatL W T (sw1 q.1.toNat q.2.toNat s)).map (· + 1)
theorem beat_in {W : List Nat} {s : Nat} (h : s ∈ W) : ∀ T, beatL W T s = some 0
  | [] => if_pos h
  | _ :: _ => if_pos h
theorem trS_nat {q : Int × Int} (h1 : 0 ≤ q.1) (h2 : 0 ≤ q.2) (s : Nat) : trS q ((s : Nat) : Int) = ((sw1 q.1.toNat q.2.toNat s : Nat) : Int) := by
  unfold trS sw1
  by_cases a : s = q.1.toNat
  · rw [if_pos (by omega), if_pos a]; omega
  · rw [if_neg (by omega), if_neg a]
    by_cases b : s = q.2.toNat
    · rw [if_pos (by omega), if_pos b]; omega
    · rw [if_neg (by omega), if_neg b]
theorem in_list (k : Nat) (xs : List Nat) : oIn false [.int ((k : Nat) : Int), .list (nD xs)] = some (.bool (decide (k ∈ xs))) := by
  classical
  have h := pl_in (n := 1) (m := 1) (x := .int ((k : Nat) : Int)) (xs := nD xs) rfl (fun y hy => by
    obtain ⟨a, _, rfl⟩ := List.mem_map.mp hy
    rfl) (by decide) (by decide) false (.list (nD xs)) (.inr rfl)
  rw [h]
  have : (.int ((k : Nat) : Int) ∈ nD xs) ↔ k ∈ xs := by
    unfold nD
    rw [List.mem_map]
    constructor
    · rintro ⟨a, ha, e⟩
      have : ((a : Nat) : Int) = ((k : Nat) : Int) := by injection e
      have : a = k := by omega
      exact this ▸ ha
    · intro hk
      exact ⟨k, hk, rfl⟩
  simp [this]
def BsE (T : List (Int × Int)) (W : List Nat) (x h : Nat) (s4 s5 : Option S) : Sl := [some (.mu .fro (.ls (T.map clD))), some (.mu .bor (.ls (nD W))), some (.pd (.int (x : Nat))), some (.pd (.int (h : Nat))), s4, s5]
def FrzU (s : Option S) : Prop := s = none ∨ ∃ x, s = some (.pd x)
theorem frzU {s : Option S} (h : FrzU s) : fre s = true := by rcases h with rfl | ⟨x, rfl⟩ <;> rfl
def BsI (T : List (Int × Int)) (W : List Nat) (x : Nat) (rest : List PyData) (e : Sl) : Prop := ∃ (k h : Nat) (T' : List (Int × Int)) (s4 s5 : Option S), rest = ((T'.zipIdx k).map fun q => .tuple [.int ((q.2 + 1 : Nat) : Int), clD q.1]) ∧ (∀ q ∈ T', 0 ≤ q.1 ∧ 0 ≤ q.2) ∧ h ∉ W ∧ beatL W T x = (beatL W T' h).map (· + k) ∧ FrzU s4 ∧ FrzU s5 ∧ e = BsE T W x h s4 s5
theorem beat_seen_sp {T : List (Int × Int)} (hT : ∀ q ∈ T, 0 ≤ q.1 ∧ 0 ≤ q.2) (W : List Nat) (x : Nat) : f_beat_seen [.mu .bor (.ls (T.map clD)), .mu .bor (.ls (nD W)), .pd (.int (x : Nat))] = some (.pd (offD (beatL W T x)), [.mu .bor (.ls (T.map clD)), .mu .bor (.ls (nD W)), .pd (.int (x : Nat))]) := by
  have key : ∀ Q : R → List S → Prop, Q (.pd (offD (beatL W T x))) [.mu .bor (.ls (T.map clD)), .mu .bor (.ls (nD W)), .pd (.int (x : Nat))] → wF f_beat_seen [.mu .bor (.ls (T.map clD)), .mu .bor (.ls (nD W)), .pd (.int (x : Nat))] Q := by
    intro Q hQ
    refine wF_run (e := [some (.mu .bor (.ls (T.map clD))), some (.mu .bor (.ls (nD W))), some (.pd (.int (x : Nat))), none, none, none]) rfl ?_
    have i0 := in_list x W
    by_cases hx : x ∈ W
    · rw [beat_in hx] at hQ
      refine wS_seq ?_
      refine wS_of (fl := .rt (.pd (.int 0))) (e := [some (.mu .bor (.ls (T.map clD))), some (.mu .bor (.ls (nD W))), some (.pd (.int (x : Nat))), none, none, none]) (by simp [i0, hx]) ?_
      rw [nxt_rt]
      exact ⟨_, _, rfl, rfl, hQ⟩
    · refine wS_seq ?_
      refine wS_of (fl := .nx) (e := [some (.mu .bor (.ls (T.map clD))), some (.mu .bor (.ls (nD W))), some (.pd (.int (x : Nat))), none, none, none]) (by simp [i0, hx]) ?_
      rw [nxt_nx, go]
      refine wS_seq ?_
      refine wS_of (fl := .nx) (e := [some (.mu .bor (.ls (T.map clD))), some (.mu .bor (.ls (nD W))), some (.pd (.int (x : Nat))), some (.pd (.int (x : Nat))), none, none]) (by simp [fre, z_free2, freO_some, -z_free]) ?_
      rw [nxt_nx, go]
      refine wS_seq ?_
      have en : enumD (T.map clD) 1 = (T.zipIdx).map fun q => .tuple [.int ((q.2 + 1 : Nat) : Int), clD q.1] := by
        refine List.ext_getElem (by simp [enumD]) fun i h1 h2 => ?_
        have hi : i < T.length := by simpa [enumD] using h1
        simp [enumD, hi]
        omega
      refine wS_for (xs := (T.zipIdx).map fun q => .tuple [.int ((q.2 + 1 : Nat) : Int), clD q.1]) (lk := some (0, .bor)) (e := BsE T W x x none none) (by rw [← en]; simp [iEnS, BsE]) (BsI T W x) ⟨0, x, T, none, none, rfl, hT, hx, by simp, .inl rfl, .inl rfl, rfl⟩ ?_ ?_
      · rintro y rest e ⟨k, h, T', s4, s5, er, h0, hh, hb, f4, f5, rfl⟩
        cases T' with
        | nil => simp at er
        | cons q T' =>
          obtain ⟨rfl, er2⟩ : y = .tuple [.int ((k + 1 : Nat) : Int), clD q] ∧ rest = (T'.zipIdx (k + 1)).map fun q => .tuple [.int ((q.2 + 1 : Nat) : Int), clD q.1] := by
            simpa [List.zipIdx_cons] using er
          obtain ⟨q1, q2⟩ := h0 q (by simp)
          have ts := traded_spot_sp q ((h : Nat) : Int)
          rw [trS_nat q1 q2] at ts
          have i1 := in_list (sw1 q.1.toNat q.2.toNat h) W
          simp only [gW, BsE, z_gT, z_gCn, z_gN, z_gNl, z_setR, itemsD, z_free2, List.getElem?_cons_succ, List.getElem?_cons_zero, freO_some, frzU f4, frzU f5, if_true, List.set_cons_succ, List.set_cons_zero]
          simp only [List.length_cons, List.length_nil, if_true]
          rw [go]
          refine wS_seq ?_
          refine wS_of (fl := .nx) (e := BsE T W x (sw1 q.1.toNat q.2.toNat h) (some (.pd (.int ((k + 1 : Nat) : Int)))) (some (.pd (clD q)))) (by simp [BsE, ts, fre, z_free2, freO_some, -z_free]) ?_
          rw [nxt_nx, go]
          have hb2 : beatL W T x = (beatL W T' (sw1 q.1.toNat q.2.toNat h)).map (· + (k + 1)) := by
            rw [hb]
            show (if h ∈ W then some 0 else (beatL W T' (sw1 q.1.toNat q.2.toNat h)).map (· + 1)).map (· + k) = _
            rw [if_neg hh, Option.map_map]
            congr 1
            funext a
            simp
            omega
          by_cases hs : sw1 q.1.toNat q.2.toNat h ∈ W
          · rw [beat_in hs] at hb2
            rw [show (some 0 : Option Nat).map (· + (k + 1)) = some (k + 1) by simp] at hb2
            rw [hb2] at hQ
            refine wS_of (fl := .rt (.pd (.int ((k + 1 : Nat) : Int)))) (e := BsE T W x (sw1 q.1.toNat q.2.toNat h) (some (.pd (.int ((k + 1 : Nat) : Int)))) (some (.pd (clD q)))) (by simp [BsE, i1, hs]) ?_
            refine ⟨_, _, rfl, ?_, hQ⟩
            simp [BsE, unlock, finals, offD]
          · refine wS_of (fl := .nx) (e := BsE T W x (sw1 q.1.toNat q.2.toNat h) (some (.pd (.int ((k + 1 : Nat) : Int)))) (some (.pd (clD q)))) (by simp [BsE, i1, hs]) ?_
            exact ⟨k + 1, _, T', _, _, er2, fun q hq => h0 q (by simp [hq]), hs, hb2, .inr ⟨_, rfl⟩, .inr ⟨_, rfl⟩, rfl⟩
      · rintro e ⟨k, h, T', s4, s5, er, h0, hh, hb, f4, f5, rfl⟩
        have t0 : T' = [] := by cases T' with
          | nil => rfl
          | cons q T' => simp [List.zipIdx_cons] at er
        subst t0
        rw [nxt_nx, go]
        have hn : beatL W T x = none := by
          rw [hb]
          show (if h ∈ W then some 0 else none).map (· + k) = none
          rw [if_neg hh]
          rfl
        rw [hn] at hQ
        refine wS_of (fl := .rt (.pd .none)) (e := [some (.mu .bor (.ls (T.map clD))), some (.mu .bor (.ls (nD W))), some (.pd (.int (x : Nat))), some (.pd (.int (h : Nat))), s4, s5]) (by simp [BsE, unlock]) ?_
        exact ⟨_, _, rfl, by simp [finals], hQ⟩
  obtain ⟨r, as, e, rfl, rfl⟩ := key (fun r as => r = _ ∧ as = _) ⟨rfl, rfl⟩
  exact e
def rollsL (W : List Nat) (T : List (Int × Int)) (L : Nat) : List Nat → Nat → Option Nat
  | [], _ => none
  | h :: hs, k => match beatL W T h with
    | some b => some (k * L + b)
    | none => rollsL W T L hs (k + 1)
def wtS (F cs : List Cell) : List Nat := cs.map fun c => 6 + F.idxOf c
noncomputable def turnR (l : Ly) (ds : List Dir) : List Dir := rep (trns l ds) ds
noncomputable def rollsA (F : List Cell) (c : Cell) (l : Ly) (ds : List Dir) (cs : List Cell) (x : Nat) : Option Nat :=
  rollsL (wtS F cs) (trd F c l (turnR l ds)) (turnR l ds).length (orb (mv (6 + F.length) (trd F c l (turnR l ds))) (per (6 + F.length) (mv (6 + F.length) (trd F c l (turnR l ds))) x) x) 0
noncomputable def RsE (F : List Cell) (c : Cell) (l : Ly) (ds : List Dir) (cs : List Cell) (s3 : S) (x : Nat) (s8 s9 s10 : Option S) : Sl := [some (.nt (F.map clD)), some (.pd (stD c l)), some (.pd (.str (rowS ds))), some s3, some (.pd (.int (x : Nat))), some (.pd (.str (rowS (turnR l ds)))), some (.mu .own (.ls ((trd F c l (turnR l ds)).map clD))), some (.mu .own (.ls (nD (wtS F cs)))), s8, s9, s10, none]
noncomputable def RsI (F : List Cell) (c : Cell) (l : Ly) (ds : List Dir) (cs : List Cell) (s3 : S) (x : Nat) (rest : List PyData) (e : Sl) : Prop := ∃ (k : Nat) (hs : List Nat) (s8 s9 s10 : Option S), rest = ((hs.zipIdx k).map fun q => .tuple [.int ((q.2 : Nat) : Int), .int ((q.1 : Nat) : Int)]) ∧ k + hs.length ≤ 100 ∧ rollsA F c l ds cs x = rollsL (wtS F cs) (trd F c l (turnR l ds)) (turnR l ds).length hs k ∧ FrzU s8 ∧ FrzU s9 ∧ FrzU s10 ∧ e = RsE F c l ds cs s3 x s8 s9 s10
theorem enum_mapQ {α : Type} (f : α → PyData) (xs : List α) : enumD (xs.map f) 0 = (xs.zipIdx).map fun q => .tuple [.int ((q.2 : Nat) : Int), f q.1] := by
  refine List.ext_getElem (by simp [enumD]) fun i h1 h2 => ?_
  have hi : i < xs.length := by simpa [enumD] using h1
  simp [enumD, hi]
theorem turn_sit {F : List Cell} {c : Cell} {l : Ly} {ds : List Dir} (h : Sit F c l ds) (hc : endC c ds = c) (n : ds.length ≤ 60) : Sit F c l (turnR l ds) := by
  refine ⟨h.fl, h.mem, h.ly, ?_, ?_⟩
  · exact rep_let hc h.lt _
  · unfold turnR
    rw [rep_len]
    have t4 := trns_four h.ly ds
    have : trns l ds * ds.length ≤ 4 * 60 := Nat.mul_le_mul t4 n
    omega
theorem rolls_seen_sp {F cs : List Cell} {c : Cell} {l : Ly} {ds : List Dir} (h : Sit F c l ds) (hc : endC c ds = c) (n : ds.length ≤ 60) (hm : ∀ c ∈ cs, c ∈ F) (hl : cs.length ≤ 100) (s3 : S) (hs : isT s3 (cs.map clD)) {x : Nat} (hx : x < 6 + F.length) :
    f_rolls_seen [.nt (F.map clD), .pd (stD c l), .pd (.str (rowS ds)), s3, .pd (.int (x : Nat))] = some (.pd (offD (rollsA F c l ds cs x)), [.nt (F.map clD), .pd (stD c l), .pd (.str (rowS ds)), s3, .pd (.int (x : Nat))]) := by
  have h9 := h.fl.2.1
  have tp := turn_plays_sp h hc
  have t4 := trns_four h.ly ds
  have mr := fun env => mul_row2 ds (trns l ds) env (by omega) (by omega)
  have ts := turn_sit h hc n
  have tl : (turnR l ds).length ≤ 240 := by
    unfold turnR
    rw [rep_len]
    have : trns l ds * ds.length ≤ 4 * 60 := Nat.mul_le_mul t4 n
    omega
  have tr := trades_sp F c l (turnR l ds) ts.lt (by omega)
  have ex := exchange_sp ts
  have exD' : (exI (6 + F.length) (trd F c l (turnR l ds))).map PyData.int = nD ((List.range (6 + F.length)).map (mv (6 + F.length) (trd F c l (turnR l ds)))) := by
    simp [exI, nD, Function.comp_def]
  rw [exD'] at ex
  have rf := round_from_sp (n := 6 + F.length) (m := mv (6 + F.length) (trd F c l (turnR l ds))) (fun j hj => mv_lt hj) (fun i j hi hj e => mv_inj hi hj e) hx (by omega)
  have pp := per_spec (n := 6 + F.length) (m := mv (6 + F.length) (trd F c l (turnR l ds))) (fun j hj => mv_lt hj) (fun i j hi hj e => mv_inj hi hj e) hx
  have tb := trd_ok F (turnR l ds) c l h.ly ts.lt
  have nm : nmu s3 = true := by rcases hs with rfl | rfl <;> rfl
  have key : ∀ Q : R → List S → Prop, Q (.pd (offD (rollsA F c l ds cs x))) [.nt (F.map clD), .pd (stD c l), .pd (.str (rowS ds)), s3, .pd (.int (x : Nat))] → wF f_rolls_seen [.nt (F.map clD), .pd (stD c l), .pd (.str (rowS ds)), s3, .pd (.int (x : Nat))] Q := by
    intro Q hQ
    have fin : ∀ e : Sl, e.length = 12 → finals [.nt (F.map clD), .pd (stD c l), .pd (.str (rowS ds)), s3, .pd (.int (x : Nat))] e = some [.nt (F.map clD), .pd (stD c l), .pd (.str (rowS ds)), s3, .pd (.int (x : Nat))] := fun e he => fin_pd (by simp [nmu]; exact nm) (by simp [he])
    refine wF_run (e := [some (.nt (F.map clD)), some (.pd (stD c l)), some (.pd (.str (rowS ds))), some s3, some (.pd (.int (x : Nat))), none, none, none, none, none, none, none]) rfl ?_
    refine wS_seq ?_
    refine wS_of (fl := .nx) (e := [some (.nt (F.map clD)), some (.pd (stD c l)), some (.pd (.str (rowS ds))), some s3, some (.pd (.int (x : Nat))), some (.pd (.str (rowS (turnR l ds)))), none, none, none, none, none, none]) (by
      have mr' : ∀ env, kMul2 [.pd (.str (rowS ds)), .pd (.int ((trns l ds : Nat) : Int))] env = some (.pd (.str (rowS (turnR l ds))), env) := mr
      rcases hs with rfl | rfl <;> simp [eMul2, tp, mr', fre, z_free2, freO_some, -z_free]) ?_
    rw [nxt_nx, go]
    refine wS_seq ?_
    refine wS_of (fl := .nx) (e := [some (.nt (F.map clD)), some (.pd (stD c l)), some (.pd (.str (rowS ds))), some s3, some (.pd (.int (x : Nat))), some (.pd (.str (rowS (turnR l ds)))), some (.mu .own (.ls ((trd F c l (turnR l ds)).map clD))), none, none, none, none, none]) (by
      rcases hs with rfl | rfl <;> simp [tr, fre, z_free2, freO_some, -z_free]) ?_
    rw [nxt_nx, go]
    refine wS_seq ?_
    generalize hE : ([some (.nt (F.map clD)), some (.pd (stD c l)), some (.pd (.str (rowS ds))), some s3, some (.pd (.int (x : Nat))), some (.pd (.str (rowS (turnR l ds)))), some (.mu .own (.ls ((trd F c l (turnR l ds)).map clD))), none, none, none, none, none] : Sl) = E
    have lc := lc_all (it := iSeq (eVar 3)) (g := gN 11) (f := eCall f_spot_of_cell (eCons (eVar 0) (eCons (eVar 11) eNil))) (vs := [11]) (lk := none) (env := E) (e := E) (q := clD) (y := fun c => .int ((6 + F.idxOf c : Nat) : Int)) cs (by rw [← hE]; rcases hs with rfl | rfl <;> simp) (by omega) (fun d hd => by
      have sp := spot_of_cell_sp F d (hm d hd)
      have e6 : (6 : Int) + ((F.idxOf d : Nat) : Int) = ((6 + F.idxOf d : Nat) : Int) := by omega
      rw [e6] at sp
      rw [← hE]
      simp [lcOk, wipeE, unwipe, sp, -Int.natCast_add])
    rw [z_unl, show cs.map (fun c => PyData.int ((6 + F.idxOf c : Nat) : Int)) = nD (wtS F cs) from by simp [nD, wtS, Function.comp_def]] at lc
    refine wS_of (fl := .nx) (e := RsE F c l ds cs s3 x none none none) (by
      simp only [z_set, lc]
      rw [← hE]
      simp [RsE, fre, z_free2, freO_some, -z_free]) ?_
    rw [nxt_nx, go]
    refine wS_seq ?_
    obtain ⟨O, hO⟩ : ∃ O, O = orb (mv (6 + F.length) (trd F c l (turnR l ds))) (per (6 + F.length) (mv (6 + F.length) (trd F c l (turnR l ds))) x) x := ⟨_, rfl⟩
    have ol : O.length ≤ 100 := by
      rw [hO]
      have := pp.2.1
      simp [orb]
      omega
    rw [← hO] at rf
    have en := enum_mapQ (fun k : Nat => PyData.int ((k : Nat) : Int)) O
    refine wS_for (xs := (O.zipIdx 0).map fun q => .tuple [.int ((q.2 : Nat) : Int), .int ((q.1 : Nat) : Int)]) (lk := none) (e := RsE F c l ds cs s3 x none none none) (by
      rw [← en]
      have : O.map (fun k : Nat => PyData.int ((k : Nat) : Int)) = nD O := rfl
      rw [this]
      rcases hs with rfl | rfl <;> simp [RsE, iEnT, ex, rf, tupOf]) (RsI F c l ds cs s3 x) ⟨0, O, none, none, none, rfl, by omega, by unfold rollsA; rw [← hO], .inl rfl, .inl rfl, .inl rfl, rfl⟩ ?_ ?_
    · rintro y rest e ⟨k, hs', s8, s9, s10, er, kl, hr, f8, f9, f10, rfl⟩
      cases hs' with
      | nil => simp at er
      | cons hh hs' =>
        obtain ⟨rfl, er2⟩ : y = .tuple [.int ((k : Nat) : Int), .int ((hh : Nat) : Int)] ∧ rest = (hs'.zipIdx (k + 1)).map fun q => .tuple [.int ((q.2 : Nat) : Int), .int ((q.1 : Nat) : Int)] := by
          simpa [List.zipIdx_cons] using er
        have bs := beat_seen_sp (T := trd F c l (turnR l ds)) (fun q hq => by have := tb q hq; omega) (wtS F cs) hh
        simp only [gW, RsE, z_gT, z_gCn, z_gN, z_gNl, z_setR, itemsD, z_free2, List.getElem?_cons_succ, List.getElem?_cons_zero, freO_some, frzU f8, frzU f9, if_true, List.set_cons_succ, List.set_cons_zero]
        simp only [List.length_cons, List.length_nil, if_true]
        rw [go]
        have hr2 : rollsA F c l ds cs x = (match beatL (wtS F cs) (trd F c l (turnR l ds)) hh with
          | some b => some (k * (turnR l ds).length + b)
          | none => rollsL (wtS F cs) (trd F c l (turnR l ds)) (turnR l ds).length hs' (k + 1)) := hr
        refine wS_seq ?_
        refine wS_of (fl := .nx) (e := RsE F c l ds cs s3 x (some (.pd (.int ((k : Nat) : Int)))) (some (.pd (.int ((hh : Nat) : Int)))) (some (.pd (offD (beatL (wtS F cs) (trd F c l (turnR l ds)) hh))))) (by
          generalize beatL (wtS F cs) (trd F c l (turnR l ds)) hh = B at *
          simp [RsE, bs, z_free2, freO_some, frzU f10, -z_free]) ?_
        rw [nxt_nx, go]
        cases hb : beatL (wtS F cs) (trd F c l (turnR l ds)) hh with
        | none =>
          rw [hb] at hr2
          have io : oIsN true [offD none, PyData.none] = some (.bool false) := rfl
          refine wS_of (fl := .nx) (e := RsE F c l ds cs s3 x (some (.pd (.int ((k : Nat) : Int)))) (some (.pd (.int ((hh : Nat) : Int)))) (some (.pd (offD none)))) (by simp [RsE, io]) ?_
          exact ⟨k + 1, hs', _, _, _, er2, by simp at kl; omega, hr2, .inr ⟨_, rfl⟩, .inr ⟨_, rfl⟩, .inr ⟨_, rfl⟩, rfl⟩
        | some b =>
          rw [hb] at hr2
          rw [hr2] at hQ
          have io : oIsN true [PyData.int ((b : Nat) : Int), PyData.none] = some (.bool true) := rfl
          have ll : (rowS (turnR l ds)).length = (turnR l ds).length := row_len _
          have l6 : (turnR l ds).length ≤ 1000000 := by omega
          have cm : CMul ((k : Nat) : Int) (((turnR l ds).length : Nat) : Int) := cmul_l _ _ (by omega)
          have ee : ((k : Nat) : Int) * (((turnR l ds).length : Nat) : Int) + ((b : Nat) : Int) = ((k * (turnR l ds).length + b : Nat) : Int) := by rw [Int.natCast_add, Int.natCast_mul]
          refine wS_of (fl := .rt (.pd (offD (some (k * (turnR l ds).length + b))))) (e := RsE F c l ds cs s3 x (some (.pd (.int ((k : Nat) : Int)))) (some (.pd (.int ((hh : Nat) : Int)))) (some (.pd (offD (some b))))) (by
            simp [RsE, io, oLen, ll, l6, kMul, kAdd, oI, cm, offD, ee, -Int.natCast_add, -Int.natCast_mul]) ?_
          exact ⟨_, _, rfl, by rw [z_unl]; exact fin _ rfl, hQ⟩
    · rintro e ⟨k, hs', s8, s9, s10, er, kl, hr, f8, f9, f10, rfl⟩
      have t0 : hs' = [] := by cases hs' with
        | nil => rfl
        | cons q T' => simp [List.zipIdx_cons] at er
      subst t0
      rw [z_unl, nxt_nx, go]
      have hn : rollsA F c l ds cs x = none := hr
      rw [hn] at hQ
      refine wS_of (fl := .rt (.pd .none)) (e := RsE F c l ds cs s3 x s8 s9 s10) (by simp) ?_
      exact ⟨_, _, rfl, fin _ rfl, hQ⟩
  obtain ⟨r, as, e, rfl, rfl⟩ := key (fun r as => r = _ ∧ as = _) ⟨rfl, rfl⟩
  exact e
structure Wat (F : List Cell) (c : Cell) (l : Ly) (ds : List Dir) (cs : List Cell) : Prop where
  si : Sit F c l ds
  hc : endC c ds = c
  n : ds.length ≤ 60
  hm : ∀ c ∈ cs, c ∈ F
  hr : chain cs = true
  hl : cs.length ≤ 100
theorem isN_off3 (o : Option Nat) : oIsN true [offD o, PyData.none] = some (.bool o.isSome) := by cases o <;> rfl
theorem seen_spots_sp {F cs : List Cell} {c : Cell} {l : Ly} {ds : List Dir} (h : Wat F c l ds cs) (s3 : S) (hs : isT s3 (cs.map clD)) :
    f_seen_spots [.nt (F.map clD), .pd (stD c l), .pd (.str (rowS ds)), s3] = some (.nt (nD ((List.range (6 + F.length)).filter fun x => (rollsA F c l ds cs x).isSome)), [.nt (F.map clD), .pd (stD c l), .pd (.str (rowS ds)), s3]) := by
  have h9 := h.si.fl.2.1
  have n1 := need_floor_sp F h.si.fl
  have n2 := need_stand_sp F c l h.si.mem (h.si.fl.2.2.1 c h.si.mem) h.si.ly
  have n3 := need_row_sp ds h.si.ln
  have n4 := need_cells_sp h9 h.si.fl.2.2.1 h.hm h.hr h.hl s3 hs
  have n5 := need_endless_sp h.si.lt h.hc
  have so := spots_of_sp F h9
  have i0 : oIx [stD c l, .int 0] = some (clD c) := rfl
  unfold f_seen_spots
  rw [run_of (e := [some (.nt (F.map clD)), some (.pd (stD c l)), some (.pd (.str (rowS ds))), some s3, none]) rfl]
  have lc := lc_if (it := iSeq (eCall f_spots_of (eCons (eVar 0) eNil))) (g := gN 4) (t := bT (eIsn (eCall f_rolls_seen (eCons (eVar 0) (eCons (eVar 1) (eCons (eVar 2) (eCons (eVar 3) (eCons (eVar 4) eNil)))))) (eC .none))) (f := eVar 4) (vs := [4]) (lk := none) (env := [some (.nt (F.map clD)), some (.pd (stD c l)), some (.pd (.str (rowS ds))), some s3, none]) (e := [some (.nt (F.map clD)), some (.pd (stD c l)), some (.pd (.str (rowS ds))), some s3, none]) (q := fun x : Nat => .int ((x : Nat) : Int)) (p := fun x => (rollsA F c l ds cs x).isSome) (y := fun x => .int ((x : Nat) : Int)) (List.range (6 + F.length)) (by
      rcases hs with rfl | rfl <;> simp [so, ups]) (by simp; omega) (fun x hx => by
      have hx := List.mem_range.mp hx
      have rs := rolls_seen_sp h.si h.hc h.n h.hm h.hl s3 hs hx
      have io := isN_off3 (rollsA F c l ds cs x)
      cases hb : (rollsA F c l ds cs x).isSome with
      | true =>
        rw [hb] at io
        rcases hs with rfl | rfl <;> simp [lcIf, wipeE, unwipe, rs, io]
      | false =>
        rw [hb] at io
        rcases hs with rfl | rfl <;> simp [lcIf, wipeE, unwipe, rs, io])
  rw [z_unl] at lc
  have e : ((List.range (6 + F.length)).filter fun x => (rollsA F c l ds cs x).isSome).map (fun x : Nat => PyData.int ((x : Nat) : Int)) = nD ((List.range (6 + F.length)).filter fun x => (rollsA F c l ds cs x).isSome) := rfl
  rw [e] at lc
  rcases hs with rfl | rfl <;> simp [m_seen_spots, n1, n2, n3, n4, n5, i0, lc, kTupN, ctn, -z_lc]
theorem seen_first_sp {F cs : List Cell} {c : Cell} {l : Ly} {ds : List Dir} (h : Wat F c l ds cs) (s3 : S) (hs : isT s3 (cs.map clD)) {x : Nat} (hx : x < 6 + F.length) :
    f_seen_first [.nt (F.map clD), .pd (stD c l), .pd (.str (rowS ds)), s3, .pd (.int (x : Nat))] = some (.pd (offD (rollsA F c l ds cs x)), [.nt (F.map clD), .pd (stD c l), .pd (.str (rowS ds)), s3, .pd (.int (x : Nat))]) := by
  have h9 := h.si.fl.2.1
  have n1 := need_floor_sp F h.si.fl
  have n2 := need_stand_sp F c l h.si.mem (h.si.fl.2.2.1 c h.si.mem) h.si.ly
  have n3 := need_row_sp ds h.si.ln
  have n4 := need_cells_sp h9 h.si.fl.2.2.1 h.hm h.hr h.hl s3 hs
  have n5 := need_endless_sp h.si.lt h.hc
  have n6 := need_spot_sp F ((x : Nat) : Int) (by omega)
  have i0 : oIx [stD c l, .int 0] = some (clD c) := rfl
  have rs := rolls_seen_sp h.si h.hc h.n h.hm h.hl s3 hs hx
  unfold f_seen_first
  rw [run_of (e := [some (.nt (F.map clD)), some (.pd (stD c l)), some (.pd (.str (rowS ds))), some s3, some (.pd (.int (x : Nat)))]) rfl]
  rcases hs with rfl | rfl <;> simp [m_seen_first, n1, n2, n3, n4, n5, n6, i0, rs]
def lcPF (g : GG) (t : EB) (f : EE) (vs : List Nat) (e : Sl) (x : PyData) (b : Bool) (e' : Sl) : Prop := match g x (wipeE e vs) with
  | none => False
  | some e1 => match t e1 with
    | none => False
    | some r => r.1 = b ∧ if b = true then match f r.2 with
        | none => False
        | some p => T3.data1 p.1 = some x ∧ Kp e' p.2 vs
      else Kp e' r.2 vs
theorem lc_penF {it : EI} {g : GG} {t : EB} {f : EE} {vs : List Nat} {env e : Sl} {j : Nat} {m : Md} {p0 : Pk} {as : List PyData} (c B : Nat) (hi : it env = some (as, none, e)) (hl : as.length ≤ 1000000) (hj : j ∉ vs) (he : e[j]? = some (some (.mu m (penK p0)))) (hb : p0.t + c * as.length ≤ B)
    (step : ∀ x ∈ as, ∀ p : Pk, p.t + c ≤ B → ∃ (q : Pk) (b : Bool), q.t ≤ p.t + c ∧ lcPF g t f vs (e.set j (some (.mu m (penK p)))) x b (e.set j (some (.mu m (penK q))))) :
    ∃ (ys : List PyData) (q : Pk), eLc it g t f vs env = some (.tmp (.ls ys), e.set j (some (.mu m (penK q)))) ∧ ys.Sublist as ∧ q.t ≤ p0.t + c * as.length := by
  have hjl : j < e.length := (List.getElem?_eq_some_iff.mp he).1
  have e0 : e.set j (some (.mu m (penK p0))) = e := by
    refine List.ext_getElem? fun i => ?_
    rw [List.getElem?_set]
    split
    · rename_i z; subst z; exact he.symm
    · rfl
  have go : ∀ (bs : List PyData) (p : Pk) (acc : List PyData), (∀ b ∈ bs, b ∈ as) → p.t + c * bs.length ≤ B → ∃ (ys : List PyData) (q : Pk), lcL g t f vs bs (e.set j (some (.mu m (penK p)))) acc = some (acc ++ ys, e.set j (some (.mu m (penK q)))) ∧ ys.Sublist bs ∧ q.t ≤ p.t + c * bs.length := by
    intro bs
    induction bs with
    | nil => intro p acc _ _; exact ⟨[], p, by simp [lcL], List.Sublist.refl _, by omega⟩
    | cons x bs ih =>
      intro p acc hm hB
      simp only [List.length_cons, Nat.mul_add, Nat.mul_one] at hB
      obtain ⟨q, b, h1, h3⟩ := step x (hm x (by simp)) p (by omega)
      unfold lcPF at h3
      split at h3
      · exact h3.elim
      rename_i e1 g1
      split at h3
      · exact h3.elim
      rename_i r t1
      obtain ⟨rb, h3⟩ := h3
      have ne : ∀ i ∈ vs, (e.set j (some (.mu m (penK q))))[i]? = (e.set j (some (.mu m (penK p))))[i]? := fun i hi => by
        have : j ≠ i := fun z => hj (by rw [z]; exact hi)
        rw [List.getElem?_set_ne this, List.getElem?_set_ne this]
      obtain ⟨r1, r2⟩ := r
      simp only at rb h3
      subst rb
      cases r1 with
      | true =>
        rw [if_pos rfl] at h3
        split at h3
        · exact h3.elim
        rename_i pr f1
        obtain ⟨d1, kp⟩ := h3
        have u := kp.un2 (e := e.set j (some (.mu m (penK p)))) (by simp) ne
        obtain ⟨ys, q2, h4, h5, h6⟩ := ih q (acc ++ [x]) (fun b hb => hm b (by simp [hb])) (by omega)
        refine ⟨x :: ys, q2, ?_, h5.cons_cons x, by simp only [List.length_cons, Nat.mul_add, Nat.mul_one]; omega⟩
        simp only [lcL, g1, t1, if_true, f1, d1, u, h4, List.append_assoc, List.singleton_append]
      | false =>
        rw [if_neg (by decide)] at h3
        have u := h3.un2 (e := e.set j (some (.mu m (penK p)))) (by simp) ne
        obtain ⟨ys, q2, h4, h5, h6⟩ := ih q acc (fun b hb => hm b (by simp [hb])) (by omega)
        refine ⟨ys, q2, ?_, h5.cons x, by simp only [List.length_cons, Nat.mul_add, Nat.mul_one]; omega⟩
        simp only [lcL, g1, t1, Bool.false_eq_true, if_false, u, h4]
  obtain ⟨ys, q, h1, h2, h3⟩ := go as p0 [] (fun _ h => h) hb
  rw [e0, List.nil_append] at h1
  refine ⟨ys, q, ?_, h2, h3⟩
  rw [z_lc, hi]
  simp only [hl, if_true, h1, z_unl]
theorem chain_pw : ∀ {cs : List Cell}, cs.Pairwise (fun a b => ltC a b = true) → chain cs = true
  | [], _ => rfl
  | [_], _ => rfl
  | a :: b :: r, h => by
    have h1 := List.pairwise_cons.mp h
    simp only [chain, h1.1 b (by simp), chain_pw h1.2, Bool.and_self]
theorem sub_chain {F cs : List Cell} (hF : okFl F) (h : cs.Sublist F) : chain cs = true := chain_pw ((ok_pw hF).sublist h)

end L39

end
section
set_option linter.all false
set_option autoImplicit false
set_option Elab.async false
set_option maxRecDepth 100000
set_option maxHeartbeats 4000000
namespace L39
open PySem L2 T3 MM
theorem take_rep (ds : List Dir) {r a b : Nat} (ha : r ≤ a * ds.length) (hb : r ≤ b * ds.length) : (rep a ds).take r = (rep b ds).take r := by
  have go : ∀ a b, a ≤ b → r ≤ a * ds.length → (rep b ds).take r = (rep a ds).take r := fun a b ab h => by
    obtain ⟨k, rfl⟩ : ∃ k, b = a + k := ⟨b - a, by omega⟩
    rw [rep_add, List.take_append_of_le_length (by rw [rep_len]; exact h)]
  rcases Nat.le_total a b with h | h
  · exact (go a b h ha).symm
  · exact go b a h hb
theorem rep_i (ds : List Dir) : rep 1 ds = ds := by simp [rep]
def wrow (ds : List Dir) (r : Nat) : List Dir := (rep r ds).take r
theorem wrow_at {ds : List Dir} {r k : Nat} (h : r ≤ k * ds.length) : wrow ds r = (rep k ds).take r := by
  unfold wrow
  cases ds with
  | nil => rw [rep_nil, rep_nil]
  | cons d ds => exact take_rep _ (Nat.le_mul_of_pos_right r (by simp)) h
theorem wrow_all (ds : List Dir) (k : Nat) : wrow ds (k * ds.length) = rep k ds := by
  rw [wrow_at (Nat.le_refl _), List.take_of_length_le (by rw [rep_len]; exact Nat.le_refl _)]
theorem wrow_add (ds : List Dir) (k r : Nat) : wrow ds (k * ds.length + r) = rep k ds ++ wrow ds r := by
  cases ds with
  | nil => unfold wrow; rw [rep_nil, rep_nil, rep_nil]; simp
  | cons d ds =>
    have hr : r ≤ r * (d :: ds).length := Nat.le_mul_of_pos_right r (by simp)
    rw [wrow_at (k := k + r) (by rw [Nat.add_mul]; omega), rep_add, List.take_append, rep_len]
    unfold wrow
    rw [List.take_of_length_le (by rw [rep_len]; omega)]
    congr 2
    omega
theorem wrow_succ {ds : List Dir} {k i : Nat} (h : i < ds.length) : wrow ds (k * ds.length + i + 1) = wrow ds (k * ds.length + i) ++ [ds[i]] := by
  rw [Nat.add_assoc, wrow_add, wrow_add, wrow_at (k := 1) (r := i + 1) (by omega), wrow_at (k := 1) (r := i) (by omega), rep_i, List.take_succ_eq_append_getElem h, List.append_assoc]
theorem trd_take {cs : List Cell} (ds : List Dir) (c : Cell) (l : Ly) (b : Nat) : (trd cs c l ds).take b = trd cs c l (ds.take b) := by
  by_cases h : b ≤ ds.length
  · have e : trd cs c l ds = trd cs c l (ds.take b) ++ trd cs (endC c (ds.take b)) (endL l (ds.take b)) (ds.drop b) := by
      rw [← trd_app, List.take_append_drop]
    have ln : (trd cs c l (ds.take b)).length = b := by rw [trd_len, List.length_take]; omega
    rw [e, List.take_append_of_le_length (by omega), List.take_of_length_le (by omega)]
  · rw [List.take_of_length_le (by rw [trd_len]; omega), List.take_of_length_le (by omega)]
theorem beat_spec {n : Nat} {W : List Nat} : ∀ (T : List (Int × Int)) (s : Nat), s < n → (∀ q ∈ T, 0 ≤ q.1 ∧ q.1 < n ∧ 0 ≤ q.2 ∧ q.2 < n) →
    (∀ b, beatL W T s = some b → b ≤ T.length ∧ mv n (T.take b) s ∈ W ∧ ∀ b', b' < b → mv n (T.take b') s ∉ W) ∧ (beatL W T s = none → ∀ b, b ≤ T.length → mv n (T.take b) s ∉ W)
  | [], s, hs, _ => by
    have id0 : mv n [] s = s := mv_org (by simp [org, held, hs])
    unfold beatL
    by_cases h : s ∈ W
    · rw [if_pos h]
      exact ⟨fun b hb => by cases hb; exact ⟨by simp, by simpa [id0] using h, fun b' hb' => absurd hb' (by omega)⟩, fun hb => by cases hb⟩
    · rw [if_neg h]
      exact ⟨(fun b hb => by cases hb), fun _ b hb => by simpa [id0] using h⟩
  | q :: T, s, hs, hT => by
    obtain ⟨q1, q2, q3, q4⟩ := hT q (by simp)
    have id0 : mv n [] s = s := mv_org (by simp [org, held, hs])
    have one := mv_one (n := n) (p := q) ⟨q1, q2⟩ ⟨q3, q4⟩ hs
    have lt : sw1 q.1.toNat q.2.toNat s < n := by rw [← one]; exact mv_lt hs
    have st : ∀ b, mv n ((q :: T).take (b + 1)) s = mv n (T.take b) (sw1 q.1.toNat q.2.toNat s) := fun b => by
      rw [List.take_succ_cons, show q :: T.take b = [q] ++ T.take b from rfl, mv_app hs, one]
    obtain ⟨ih1, ih2⟩ := beat_spec T (sw1 q.1.toNat q.2.toNat s) lt fun p hp => hT p (by simp [hp])
    show (∀ b, (if s ∈ W then some 0 else (beatL W T (sw1 q.1.toNat q.2.toNat s)).map (· + 1)) = some b → _) ∧ ((if s ∈ W then some 0 else (beatL W T (sw1 q.1.toNat q.2.toNat s)).map (· + 1)) = none → _)
    by_cases h : s ∈ W
    · rw [if_pos h]
      exact ⟨fun b hb => by cases hb; exact ⟨by simp, by simpa [id0] using h, fun b' hb' => absurd hb' (by omega)⟩, fun hb => by cases hb⟩
    · rw [if_neg h]
      refine ⟨fun b hb => ?_, fun hb b hl => ?_⟩
      · obtain ⟨b0, e0, rfl⟩ := Option.map_eq_some_iff.mp hb
        obtain ⟨a1, a2, a3⟩ := ih1 b0 e0
        refine ⟨by simp; omega, by rw [st]; exact a2, fun b' hb' => ?_⟩
        cases b' with
        | zero => simpa [id0] using h
        | succ b' => rw [st]; exact a3 b' (by omega)
      · have e0 := Option.map_eq_none_iff.mp hb
        cases b with
        | zero => simpa [id0] using h
        | succ b => rw [st]; exact ih2 e0 b (by simpa using hl)
theorem rolls_spec {n D : Nat} {W : List Nat} {T : List (Int × Int)} (lT : T.length = D) (hT : ∀ q ∈ T, 0 ≤ q.1 ∧ q.1 < n ∧ 0 ≤ q.2 ∧ q.2 < n) {q : Nat → Nat} : ∀ (hs : List Nat) (k : Nat), (∀ h ∈ hs, h < n) → (∀ i, (hi : i < hs.length) → ∀ b, b ≤ D → mv n (T.take b) hs[i] = q ((k + i) * D + b)) →
    (∀ r, rollsL W T D hs k = some r → q r ∈ W ∧ r ≤ (k + hs.length) * D ∧ ∀ r', k * D ≤ r' → r' < r → q r' ∉ W) ∧ (rollsL W T D hs k = none → ∀ i, i < hs.length → ∀ b, b ≤ D → q ((k + i) * D + b) ∉ W)
  | [], k, _, _ => ⟨(fun r h => by cases h), (fun _ i hi => absurd hi (by simp))⟩
  | h :: hs, k, hl, hq => by
    obtain ⟨b1, b2⟩ := beat_spec (n := n) (W := W) T h (hl h (by simp)) hT
    have h0 : ∀ b, b ≤ D → mv n (T.take b) h = q (k * D + b) := fun b hb => by
      have := hq 0 (by simp) b hb
      rw [Nat.add_zero] at this
      exact this
    have hk : (k + 1) * D = k * D + D := by rw [Nat.add_mul, Nat.one_mul]
    obtain ⟨ih1, ih2⟩ := rolls_spec lT hT (q := q) hs (k + 1) (fun x hx => hl x (by simp [hx])) (fun i hi b hb => by
      have := hq (i + 1) (by simp; omega) b hb
      rw [show k + 1 + i = k + (i + 1) by omega]
      exact this)
    unfold rollsL
    cases e : beatL W T h with
    | some b =>
      obtain ⟨a1, a2, a3⟩ := b1 b e
      rw [lT] at a1
      refine ⟨fun r hr => ?_, fun hr => by cases hr⟩
      cases hr
      refine ⟨by rw [← h0 b a1]; exact a2, ?_, fun r' g1 g2 => ?_⟩
      · have : (k + 1) * D ≤ (k + (h :: hs).length) * D := Nat.mul_le_mul_right D (by simp)
        omega
      · obtain ⟨b', rfl⟩ : ∃ b', r' = k * D + b' := ⟨r' - k * D, by omega⟩
        rw [← h0 b' (by omega)]
        exact a3 b' (by omega)
    | none =>
      have nb := b2 e
      rw [lT] at nb
      refine ⟨fun r hr => ?_, fun hr i hi b hb => ?_⟩
      · obtain ⟨a1, a2, a3⟩ := ih1 r hr
        refine ⟨a1, by rw [show k + (h :: hs).length = k + 1 + hs.length by simp; omega]; exact a2, fun r' g1 g2 => ?_⟩
        by_cases z : (k + 1) * D ≤ r'
        · exact a3 r' z g2
        · obtain ⟨b', rfl⟩ : ∃ b', r' = k * D + b' := ⟨r' - k * D, by omega⟩
          rw [← h0 b' (by omega)]
          exact nb b' (by omega)
      · cases i with
        | zero =>
          rw [show (k + 0) * D + b = k * D + b by simp, ← h0 b hb]
          exact nb b hb
        | succ i =>
          rw [show k + (i + 1) = k + 1 + i by omega]
          exact ih2 hr i (by simpa using hi) b hb

def psn (F : List Cell) (c : Cell) (l : Ly) (ds : List Dir) (x r : Nat) : Nat := exM F c l (wrow ds r) x
theorem rollsA_spec {F cs : List Cell} {c : Cell} {l : Ly} {ds : List Dir} (h : Wat F c l ds cs) {x : Nat} (hx : x < 6 + F.length) :
    (∀ r, rollsA F c l ds cs x = some r → psn F c l ds x r ∈ wtS F cs ∧ r ≤ 60 * ds.length ∧ ∀ r', r' < r → psn F c l ds x r' ∉ wtS F cs) ∧ (rollsA F c l ds cs x = none → ∀ r, psn F c l ds x r ∉ wtS F cs) := by
  have S := h.1
  have hc := h.2
  have h9 := S.fl.2.1
  obtain ⟨t1, _⟩ := trns_b S.ly ds
  have t4 := trns_four S.ly ds
  have hT : turnR l ds = rep (trns l ds) ds := rfl
  have D : (turnR l ds).length = trns l ds * ds.length := by rw [hT, rep_len]
  have TS := turn_sit S hc h.3
  have hcT : endC c (turnR l ds) = c := by rw [hT]; exact rep_home hc _
  have hlT : endL l (turnR l ds) = l := by rw [hT]; exact (trns_iff S.ly ds _).mpr (Nat.dvd_refl _)
  have pm := exM_pm F c l (turnR l ds)
  have P0 : mv (6 + F.length) (trd F c l (turnR l ds)) = exM F c l (turnR l ds) := rfl
  have pr := pm.prd hx
  -- so many turns
  have it : ∀ i, endL l (rep i (turnR l ds)) = l ∧ exM F c l (rep i (turnR l ds)) x = itr (exM F c l (turnR l ds)) i x := by
    intro i
    induction i with
    | zero => exact ⟨rfl, exM_nil hx⟩
    | succ i ih =>
      have e : rep (i + 1) (turnR l ds) = rep i (turnR l ds) ++ turnR l ds := by rw [rep_add, rep_i]
      rw [e]
      refine ⟨by rw [endL_snoc, ih.1, hlT], ?_⟩
      rw [exM_app _ _ hx, rep_home hcT, ih.1, ih.2, itr_succ]
  have at_ : ∀ i b, b ≤ (turnR l ds).length → psn F c l ds x (i * (turnR l ds).length + b) = mv (6 + F.length) ((trd F c l (turnR l ds)).take b) (itr (exM F c l (turnR l ds)) i x) := by
    intro i b hb
    unfold psn
    have e1 : i * (turnR l ds).length = (trns l ds * i) * ds.length := by rw [D, Nat.mul_comm (trns l ds) i, Nat.mul_assoc]
    have e2 : wrow ds b = (turnR l ds).take b := by rw [hT]; exact wrow_at (by rw [← D]; exact hb)
    rw [e1, wrow_add, rep_mul, ← hT, e2, exM_app _ _ hx, rep_home hcT, (it i).1, (it i).2, trd_take]
    rfl
  have lT : (trd F c l (turnR l ds)).length = (turnR l ds).length := trd_len _ _ _ _
  have bT := TS.trd (n := 6 + F.length) rfl
  obtain ⟨a1, a2⟩ := rolls_spec (n := 6 + F.length) (W := wtS F cs) lT bT (q := psn F c l ds x) (orb (exM F c l (turnR l ds)) (per (6 + F.length) (exM F c l (turnR l ds)) x) x) 0 (fun y hy => by
    obtain ⟨i, _, rfl⟩ := orb_mem.mp hy
    exact itr_lt pm.lt _ _ hx) (fun i hi b hb => by
    rw [Nat.zero_add, at_ i b hb]
    congr 1
    simp [orb])
  have e0 : rollsA F c l ds cs x = rollsL (wtS F cs) (trd F c l (turnR l ds)) (turnR l ds).length (orb (exM F c l (turnR l ds)) (per (6 + F.length) (exM F c l (turnR l ds)) x) x) 0 := rfl
  rw [← e0] at a1 a2
  refine ⟨fun r hr => ?_, fun hr r => ?_⟩
  · obtain ⟨b1, b2, b3⟩ := a1 r hr
    refine ⟨b1, ?_, fun r' g => b3 r' (by simp) g⟩
    rw [orb_len, Nat.zero_add, D, ← Nat.mul_assoc] at b2
    have p15 : per (6 + F.length) (exM F c l (turnR l ds)) x ≤ 15 := by have := pr.2.1; omega
    have : per (6 + F.length) (exM F c l (turnR l ds)) x * trns l ds ≤ 15 * 4 := Nat.mul_le_mul p15 t4
    exact Nat.le_trans b2 (Nat.mul_le_mul_right _ this)
  · by_cases z : (turnR l ds).length = 0
    · have hz : ds = [] := by
        rw [D] at z
        rcases Nat.mul_eq_zero.mp z with z | z
        · omega
        · exact List.eq_nil_of_length_eq_zero z
      have := a2 hr 0 (by rw [orb_len]; exact pr.1) 0 (by omega)
      subst hz
      have e : ∀ r, wrow [] r = [] := fun r => by unfold wrow; rw [rep_nil]; simp
      unfold psn at this ⊢
      rw [e] at this ⊢
      exact this
    · have rd : r = (r / (turnR l ds).length) * (turnR l ds).length + r % (turnR l ds).length := by
        rw [Nat.mul_comm]; exact (Nat.div_add_mod r _).symm
      have lb : r % (turnR l ds).length < (turnR l ds).length := Nat.mod_lt _ (by omega)
      obtain ⟨i, hi, ei⟩ := orb_mem.mp (orb_all pr (r / (turnR l ds).length))
      have := a2 hr i (by rw [orb_len]; exact hi) (r % (turnR l ds).length) (by omega)
      rw [Nat.zero_add, at_ _ _ (by omega), ei, ← at_ _ _ (by omega), ← rd] at this
      exact this
end L39

end
section
set_option linter.all false
set_option autoImplicit false
set_option Elab.async false
set_option maxRecDepth 100000
set_option maxHeartbeats 4000000
namespace L39
open PySem L2 T3 MM
noncomputable section
def Fz (s : Option S) : Prop := s = none ∨ ∃ x, s = some (.pd x)
theorem rolls_loop (cs : List Cell) (a1 a2 a3 : S) : ∀ (ds : List Dir) (c : Cell) (l : Ly) (xs : List PyData) (s7 s8 s9 s10 : Option S), letR cs c ds → (∀ p ∈ trd cs c l ds, 0 ≤ p.1 ∧ p.1 < 6 ∧ 6 ≤ p.2 ∧ p.2 < (xs.length : Int)) → Fz s7 → Fz s8 → Fz s9 → Fz s10 →
    ∃ s7' s8' s9' s10', forL (gN 7) (sSeq (sPar 4 5 (eCons (eCall f__law_beside (eCons (eVar 4) (eCons (eVar 7) eNil))) (eCons (eCall f__law_rolled (eCons (eVar 5) (eCons (eVar 7) eNil))) eNil)))
  (sSeq (sPar 8 9 (eCons (eAdd (eC (.int 6)) (eBM isNt (eVar 0) (eCons (eVar 4) eNil) kIxT)) (eCons (eIx (eVar 5) (eC (.int 0))) eNil)))
  (sSeq (sSet 10 (eIx (eVar 6) (eVar 8)))
  (sSeq (sAsg (eIx (eVar 6) (eVar 9)) (gS (eVar 6) (eVar 8)))
  (sAsg (eVar 10) (gS (eVar 6) (eVar 9))))))) (ds.map fun d => .str (chS d)) [some (.nt (cs.map clD)), some a1, some a2, some a3, some (.pd (clD c)), some (.pd (lyD l)), some (.mu .own (.ls xs)), s7, s8, s9, s10] =
      some (.nx, [some (.nt (cs.map clD)), some a1, some a2, some a3, some (.pd (clD (endC c ds))), some (.pd (lyD (endL l ds))), some (.mu .own (.ls (held xs (trd cs c l ds)))), s7', s8', s9', s10'])
  | [], c, l, xs, s7, s8, s9, s10, _, _, _, _, _, _ => ⟨s7, s8, s9, s10, rfl⟩
  | d :: ds, c, l, xs, s7, s8, s9, s10, hL, hp, h7, h8, h9, h10 => by
    obtain ⟨hc, hL'⟩ : stepC c d ∈ cs ∧ letR cs (stepC c d) ds := hL
    obtain ⟨I, hI⟩ : ∃ I : Int, I = 6 + (cs.idxOf (stepC c d) : Int) := ⟨_, rfl⟩
    have tr : trd cs c l (d :: ds) = ((roll l d).1, I) :: trd cs (stepC c d) (roll l d) ds := by rw [hI]; rfl
    rw [tr] at hp ⊢
    obtain ⟨b1, b2, b3, b4⟩ := hp ((roll l d).1, I) (List.mem_cons_self ..)
    simp only at b1 b2 b3 b4
    obtain ⟨t7, t8, t9, t10, ih⟩ := rolls_loop cs a1 a2 a3 ds (stepC c d) (roll l d) (swp xs ((roll l d).1, I)) (some (.pd (.str (chS d)))) (some (.pd (.int (I)))) (some (.pd (.int (roll l d).1))) (some (.pd xs[I.toNat])) hL' (fun q hq => by rw [swp_len]; exact hp q (List.mem_cons_of_mem _ hq)) (.inr ⟨_, rfl⟩) (.inr ⟨_, rfl⟩) (.inr ⟨_, rfl⟩) (.inr ⟨_, rfl⟩)
    refine ⟨t7, t8, t9, t10, ?_⟩
    have bs := besC_sp c d
    have rs := rolC_sp l d
    have hf := firstIx_cell (stepC c d) cs hc
    have x0 : oIx [lyD (roll l d), .int 0] = some (.int (roll l d).1) := rfl
    have l1 : (roll l d).1.toNat < xs.length := by omega
    have l2 : I.toNat < xs.length := by omega
    have g1 := atI_at (x := xs[(roll l d).1.toNat]) b1 (List.getElem?_eq_getElem l1)
    have g2 := atI_at (x := xs[I.toNat]) (by omega) (List.getElem?_eq_getElem l2)
    have y1 : oIx [.list xs, .int (roll l d).1] = some xs[(roll l d).1.toNat] := g1
    have y2 : oIx [.list xs, .int I] = some xs[I.toNat] := g2
    have i1 : ixN xs.length (roll l d).1 = some (roll l d).1.toNat := ixN_at b1 (by omega)
    have i2 : ixN xs.length (I) = some I.toNat := ixN_at (by omega) b4
    have ne : (roll l d).1.toNat ≠ I.toNat := by omega
    have sw : swp xs ((roll l d).1, I) = (xs.set I.toNat xs[(roll l d).1.toNat]).set (roll l d).1.toNat xs[I.toNat] := by
      rw [List.set_comm _ _ (Ne.symm ne)]
      simp [swp, List.getElem?_eq_getElem l1, List.getElem?_eq_getElem l2]
    rw [List.map_cons, forL_cons (e1 := [some (.nt (cs.map clD)), some a1, some a2, some a3, some (.pd (clD c)), some (.pd (lyD l)), some (.mu .own (.ls xs)), some (.pd (.str (chS d))), s8, s9, s10]) (e2 := [some (.nt (cs.map clD)), some a1, some a2, some a3, some (.pd (clD (stepC c d))), some (.pd (lyD (roll l d))), some (.mu .own (.ls (swp xs ((roll l d).1, I)))), some (.pd (.str (chS d))), some (.pd (.int (I))), some (.pd (.int (roll l d).1)), some (.pd xs[I.toNat])]) ?_ ?_, ih]
    · rfl
    · rcases h7 with rfl | ⟨x7, rfl⟩ <;> simp
    · rcases h8 with rfl | ⟨x8, rfl⟩ <;> rcases h9 with rfl | ⟨x9, rfl⟩ <;> rcases h10 with rfl | ⟨x10, rfl⟩ <;>
        simp [bs, rs, eBM, isNt, kIxT, oIxT, sh_cells, sh_cell, hf, kAdd, oI, ← hI, x0, y1, y2, gS, putL, i1, i2, sw]
theorem rolls_sp {cs : List Cell} {c : Cell} {l : Ly} {ds : List Dir} (h : Sit cs c l ds) (xs : List PyData) (hx : xs.length = 6 + cs.length) (s : S) (hs : isT s xs) :
    f__law_rolls [.nt (cs.map clD), .pd (stD c l), .pd (.str (rowS ds)), s] = some (.pd (.tuple [stD (endC c ds) (endL l ds), .tuple (held xs (trd cs c l ds))]), [.nt (cs.map clD), .pd (stD c l), .pd (.str (rowS ds)), s]) := by
  have tk := trd_ok cs ds c l h.ly h.lt
  obtain ⟨t7, t8, t9, t10, e⟩ := rolls_loop cs (.pd (stD c l)) (.pd (.str (rowS ds))) s ds c l xs none none none none h.lt (fun p hp => by have := tk p hp; rw [hx]; push_cast; exact ⟨this.1, this.2.1, this.2.2.1, this.2.2.2⟩) (.inl rfl) (.inl rfl) (.inl rfl) (.inl rfl)
  have sl : stD c l = .tuple [clD c, lyD l] := rfl
  have sl2 : stD (endC c ds) (endL l ds) = .tuple [clD (endC c ds), lyD (endL l ds)] := rfl
  have sg : signs (rowS ds) = ds.map fun d => .str (chS d) := signs_row ds
  rw [sl] at e
  unfold f__law_rolls
  rcases hs with rfl | rfl
  · rw [run_of (e := [some (.nt (cs.map clD)), some (.pd (stD c l)), some (.pd (.str (rowS ds))), some (.pd (.tuple xs)), none, none, none, none, none, none, none]) rfl]
    rw [sl, sl2]
    simp [m__law_rolls, oList, iSeq, sg, e, kTupN]
  · rw [run_of (e := [some (.nt (cs.map clD)), some (.pd (stD c l)), some (.pd (.str (rowS ds))), some (.nt xs), none, none, none, none, none, none, none]) rfl]
    rw [sl, sl2]
    simp [m__law_rolls, oList, iSeq, sg, e, kTupN]
end
end L39

end
section
set_option linter.all false
set_option autoImplicit false
set_option Elab.async false
set_option maxRecDepth 100000
set_option maxHeartbeats 4000000
namespace L39
open PySem L2 T3 MM
structure Nt (n : Nat) (W : List Nat) (q : Nat → Nat → Nat) (R : Nat) (done : List Nat) (P : List (Nat × Nat)) : Prop where
  nd : (P.map (·.1)).Nodup
  mem : ∀ a ∈ P, a.1 < n ∧ q a.1 a.2 ∈ W ∧ ∀ r, r < a.2 → q a.1 r ∉ W
  cov : ∀ x r, x < n → (r < R ∨ (r = R ∧ q x R ∈ done)) → q x r ∈ W → x ∈ P.map (·.1)
section
variable {n : Nat} {W : List Nat} {q : Nat → Nat → Nat} {R : Nat} {done : List Nat} {P : List (Nat × Nat)}
theorem Nt.there (h : Nt n W q R done P) (inj : ∀ x y, x < n → y < n → q x R = q y R → x = y) {x : Nat} (hx : x < n) (hm : x ∈ P.map (·.1)) : Nt n W q R (done ++ [q x R]) P :=
  ⟨h.nd, h.mem, fun y r hy hr hw => by
    rcases hr with hr | ⟨rfl, hr⟩
    · exact h.cov y r hy (.inl hr) hw
    · rcases List.mem_append.mp hr with hr | hr
      · exact h.cov y r hy (.inr ⟨rfl, hr⟩) hw
      · rw [inj y x hy hx (List.mem_singleton.mp hr)]; exact hm⟩
theorem Nt.new (h : Nt n W q R done P) (inj : ∀ x y, x < n → y < n → q x R = q y R → x = y) {x : Nat} (hx : x < n) (hw : q x R ∈ W) (hm : x ∉ P.map (·.1)) : Nt n W q R (done ++ [q x R]) (P ++ [(x, R)]) :=
  ⟨by
    rw [List.map_append]
    refine List.nodup_append.mpr ⟨h.nd, by simp, fun a ha b hb => ?_⟩
    rw [List.map_cons, List.map_nil, List.mem_singleton] at hb
    subst hb
    exact fun e => hm (e ▸ ha), fun a ha => by
    rcases List.mem_append.mp ha with ha | ha
    · exact h.mem a ha
    · rw [List.mem_singleton.mp ha]
      exact ⟨hx, hw, fun r hr hq => hm (h.cov x r hx (.inl hr) hq)⟩, fun y r hy hr hv => by
    rw [List.map_append]
    rcases hr with hr | ⟨rfl, hr⟩
    · exact List.mem_append_left _ (h.cov y r hy (.inl hr) hv)
    · rcases List.mem_append.mp hr with hr | hr
      · exact List.mem_append_left _ (h.cov y r hy (.inr ⟨rfl, hr⟩) hv)
      · rw [inj y x hy hx (List.mem_singleton.mp hr)]; simp⟩
theorem Nt.next (h : Nt n W q R done P) (hd : ∀ y ∈ W, y ∈ done) : Nt n W q (R + 1) [] P :=
  ⟨h.nd, h.mem, fun y r hy hr hw => by
    rcases hr with hr | ⟨_, hr⟩
    · by_cases z : r = R
      · subst z
        exact h.cov y r hy (.inr ⟨rfl, hd _ hw⟩) hw
      · exact h.cov y r hy (.inl (by omega)) hw
    · cases hr⟩
theorem Nt.len (h : Nt n W q R done P) : P.length ≤ n := by
  have := h.nd.length_le_of_subset (l₂ := List.range n) fun a ha => by
    obtain ⟨b, hb, rfl⟩ := List.mem_map.mp ha
    exact List.mem_range.mpr (h.mem b hb).1
  simpa using this
theorem Nt.start : Nt n W q 0 [] [] := ⟨by simp, by simp, fun y r hy hr hw => by
  rcases hr with hr | ⟨_, hr⟩
  · omega
  · cases hr⟩
end
def kvP (P : List (Nat × Nat)) : List (Key × PyData) := P.map fun a => (.inl ((a.1 : Nat) : Int), .int ((a.2 : Nat) : Int))
theorem valP (x : Nat) : ∀ P : List (Nat × Nat), valD (kvP P) (.inl ((x : Nat) : Int)) = (P.find? fun a => decide (a.1 = x)).map fun a => .int ((a.2 : Nat) : Int)
  | [] => rfl
  | a :: P => by
    have ih := valP x P
    unfold valD kvP at ih ⊢
    rw [List.map_cons, List.find?_cons, List.find?_cons]
    by_cases z : a.1 = x
    · have e : decide (((Sum.inl ((a.1 : Nat) : Int) : Key), PyData.int ((a.2 : Nat) : Int)).1 = .inl ((x : Nat) : Int)) = true := by simp [z]
      simp only [e, decide_eq_true z]
      rfl
    · have e : decide (((Sum.inl ((a.1 : Nat) : Int) : Key), PyData.int ((a.2 : Nat) : Int)).1 = .inl ((x : Nat) : Int)) = false := by
        refine decide_eq_false fun q => z ?_
        have := Sum.inl.inj q
        omega
      simp only [e, decide_eq_false z]
      exact ih
theorem findP {P : List (Nat × Nat)} {x : Nat} (h : x ∈ P.map (·.1)) : ∃ a ∈ P, a.1 = x ∧ P.find? (fun a => decide (a.1 = x)) = some a := by
  obtain ⟨b, hb, rfl⟩ := List.mem_map.mp h
  cases e : P.find? (fun a => decide (a.1 = b.1)) with
  | none => exact absurd (List.find?_eq_none.mp e b hb) (by simp)
  | some a => exact ⟨a, List.mem_of_find?_eq_some e, by simpa using List.find?_some e, rfl⟩
theorem findP0 {P : List (Nat × Nat)} {x : Nat} (h : x ∉ P.map (·.1)) : P.find? (fun a => decide (a.1 = x)) = none := by
  refine List.find?_eq_none.mpr fun a ha => ?_
  simp only [decide_eq_true_eq]
  exact fun e => h (e ▸ List.mem_map_of_mem ha)
theorem putP {P : List (Nat × Nat)} {x r : Nat} (h : x ∉ P.map (·.1)) : putD (kvP P) (.inl ((x : Nat) : Int)) (.int ((r : Nat) : Int)) = kvP (P ++ [(x, r)]) := by
  have : ((kvP P).any fun kv => decide (kv.1 = .inl ((x : Nat) : Int))) = false := by
    refine List.any_eq_false.mpr fun kv hk => ?_
    obtain ⟨a, ha, rfl⟩ := List.mem_map.mp hk
    simp only [decide_eq_true_eq]
    intro e
    have := Sum.inl.inj e
    exact h (List.mem_map.mpr ⟨a, ha, by omega⟩)
  unfold putD
  rw [this]
  simp [kvP]
end L39

end
section
set_option linter.all false
set_option autoImplicit false
set_option Elab.async false
set_option maxRecDepth 100000
set_option maxHeartbeats 4000000
namespace L39
open PySem L2 T3 MM
noncomputable section
def orgR (F : List Cell) (c : Cell) (l : Ly) (ds : List Dir) (r : Nat) : List Nat := org (6 + F.length) (trd F c l (wrow ds r))
def hereD (F : List Cell) (c : Cell) (l : Ly) (ds : List Dir) (r : Nat) : PyData := .tuple [stD (endC c (wrow ds r)) (endL l (wrow ds r)), .tuple (nD (orgR F c l ds r))]
def CellsB : SS := sFor (iSeq (eVar 3)) (gN 10) (sExpr (eSdf (eVar 6) (eIx (eIx (eVar 5) (eC (.int 1))) (eAdd (eC (.int 6)) (eBM isNt (eVar 0) (eCons (eVar 10) eNil) kIxT))) (eVar 7)))
def NE (F : List Cell) (c : Cell) (l : Ly) (ds : List Dir) (cs : List Cell) (r : Nat) (P : List (Nat × Nat)) (e : Sl) : Prop := Al 8 11 e ∧ e[0]? = some (some (.nt (F.map clD))) ∧ e[1]? = some (some (.pd (stD c l))) ∧ e[2]? = some (some (.pd (.str (rowS ds)))) ∧ e[3]? = some (some (.pd (.tuple (cs.map clD)))) ∧ e[4]? = some (some (.pd (hereD F c l ds 0))) ∧ e[5]? = some (some (.pd (hereD F c l ds r))) ∧ e[6]? = some (some (.mu .own (.dk (kvP P)))) ∧ e[7]? = some (some (.pd (.int ((r : Nat) : Int))))
def CeI (F : List Cell) (c : Cell) (l : Ly) (ds : List Dir) (cs : List Cell) (r : Nat) (a9 : Option (Option S)) (rest : List PyData) (e : Sl) : Prop := ∃ (as bs : List Cell) (P : List (Nat × Nat)), cs = as ++ bs ∧ rest = bs.map clD ∧ Nt (6 + F.length) (wtS F cs) (psn F c l ds) r (wtS F as) P ∧ NE F c l ds cs r P e ∧ e[9]? = a9
theorem sdf_there {P : List (Nat × Nat)} {x : Nat} {v : PyData} {e : Sl} (h6 : e[6]? = some (some (.mu .own (.dk (kvP P))))) (hl : P.length ≤ 15) (hx : x ∈ P.map (·.1)) : ∃ o, sdfP e 6 (.int ((x : Nat) : Int)) v = some (.pd o, e) := by
  obtain ⟨a, ha, ea, fa⟩ := findP hx
  have vl := valP x P
  rw [fa] at vl
  have l2 : (kvP P).length ≤ 1000000 := by unfold kvP; rw [List.length_map]; omega
  have ky : key? (.int ((x : Nat) : Int)) = some (.inl ((x : Nat) : Int)) := rfl
  refine ⟨.int ((a.2 : Nat) : Int), ?_⟩
  unfold sdfP
  simp only [h6, l2, if_true, ky, vl]
  rfl
theorem sdf_new {P : List (Nat × Nat)} {x r : Nat} {e : Sl} (h6 : e[6]? = some (some (.mu .own (.dk (kvP P))))) (hl : P.length ≤ 15) (hx : x ∉ P.map (·.1)) : sdfP e 6 (.int ((x : Nat) : Int)) (.int ((r : Nat) : Int)) = some (.pd (.int ((r : Nat) : Int)), e.set 6 (some (.mu .own (.dk (kvP (P ++ [(x, r)])))))) := by
  have vl := valP x P
  rw [findP0 hx] at vl
  have l2 : (kvP P).length ≤ 1000000 := by unfold kvP; rw [List.length_map]; omega
  have ky : key? (.int ((x : Nat) : Int)) = some (.inl ((x : Nat) : Int)) := rfl
  unfold sdfP
  simp only [h6, l2, if_true, ky, vl, putP hx]
  rfl
theorem cells_sp {F cs : List Cell} {c : Cell} {l : Ly} {ds : List Dir} (h9 : F.length ≤ 9) (hm : ∀ y ∈ cs, y ∈ F) (hl : cs.length ≤ 9) {r : Nat} (hr : r ≤ 100000) {P : List (Nat × Nat)} {E : Sl} (N : Nt (6 + F.length) (wtS F cs) (psn F c l ds) r [] P) (G : NE F c l ds cs r P E) (Q : Fl → Sl → Prop)
    (hQ : ∀ P' E', Nt (6 + F.length) (wtS F cs) (psn F c l ds) r (wtS F cs) P' → NE F c l ds cs r P' E' → E'[9]? = E[9]? → Q .nx E') : wS CellsB E Q := by
  have inj : ∀ x y, x < 6 + F.length → y < 6 + F.length → psn F c l ds x r = psn F c l ds y r → x = y := fun x y hx hy e => (exM_pm F c l (wrow ds r)).inj x y hx hy e
  refine wS_for (xs := cs.map clD) (lk := none) (e := E) (by simp [G.2.2.2.2.1, -getElem?_pos]) (CeI F c l ds cs r E[9]?) ⟨[], cs, P, rfl, rfl, N, G, rfl⟩ ?_ ?_
  · rintro x rest e ⟨as, bs, P, ec, er, N, ⟨A, h0, h1, h2, h3, h4, h5, h6, h7⟩, e9⟩
    cases bs with
    | nil => simp at er
    | cons y bs =>
      obtain ⟨rfl, rfl⟩ : x = clD y ∧ rest = bs.map clD := by simpa using er
      have hy : y ∈ F := hm y (by rw [ec]; simp)
      have fr := A.fre
      have ln := A.len
      simp only [gW, z_gN, z_setR, fr 10 (by decide) (by decide), if_true]
      rw [go]
      have hi := List.idxOf_lt_length_of_mem hy
      have lo : (orgR F c l ds r).length = 6 + F.length := org_len _ _
      obtain ⟨x, ex⟩ : ∃ x, (orgR F c l ds r)[6 + F.idxOf y]? = some x := ⟨_, List.getElem?_eq_getElem (by omega)⟩
      have hx : x < 6 + F.length := org_mem.mp (List.mem_of_getElem? ex)
      have px : psn F c l ds x r = 6 + F.idxOf y := mv_org ex
      have a1 : oIx [hereD F c l ds r, .int 1] = some (.tuple (nD (orgR F c l ds r))) := rfl
      have a2 : oIx [.tuple (nD (orgR F c l ds r)), .int ((6 + F.idxOf y : Nat) : Int)] = some (.int ((x : Nat) : Int)) := by
        have := nD_at ex
        simp [oIx] at this ⊢
        exact this
      have a6 : (6 : Int) + ((F.idxOf y : Nat) : Int) = ((6 + F.idxOf y : Nat) : Int) := by omega
      have hf := firstIx_cell y F hy
      have ix2 : ∀ env, kIxT [.nt (F.map clD), .pd (clD y)] env = some (.pd (.int (F.idxOf y : Nat)), env) := fun env => by
        simp [kIxT, oIxT, sh_cells, sh_cell, hf]
      have k6 : (e.set 10 (some (.pd (clD y))))[6]? = some (some (.mu .own (.dk (kvP P)))) := by simpa using h6
      have dc : isDc (e.set 10 (some (.pd (clD y)))) (.var 6) = true := by simp [isDc, k6, -getElem?_pos]
      have Pl : P.length ≤ 15 := by have := N.len; omega
      have wt : wtS F (as ++ [y]) = wtS F as ++ [psn F c l ds x r] := by rw [px]; simp [wtS]
      have hw : psn F c l ds x r ∈ wtS F cs := by rw [px, ec]; simp [wtS]
      by_cases hp : x ∈ P.map (·.1)
      · obtain ⟨o, sd⟩ := sdf_there (v := .int ((r : Nat) : Int)) k6 Pl hp
        refine wS_of (fl := .nx) (e := e.set 10 (some (.pd (clD y)))) (by
          simp [h0, h5, h6, h7, ln, dc, a1, eBM, isNt, ix2, kAdd, oI, a6, a2, sd, -getElem?_pos, -Int.natCast_add]) ?_
        exact ⟨as ++ [y], bs, P, by rw [ec]; simp, rfl, by rw [wt]; exact N.there inj hx hp, ⟨A.set rfl, by simpa using h0, by simpa using h1, by simpa using h2, by simpa using h3, by simpa using h4, by simpa using h5, by simpa using h6, by simpa using h7⟩, by rw [List.getElem?_set_ne (by decide)]; exact e9⟩
      · have sd := sdf_new (r := r) k6 Pl hp
        refine wS_of (fl := .nx) (e := (e.set 10 (some (.pd (clD y)))).set 6 (some (.mu .own (.dk (kvP (P ++ [(x, r)])))))) (by
          simp [h0, h5, h6, h7, ln, dc, a1, eBM, isNt, ix2, kAdd, oI, a6, a2, sd, -getElem?_pos, -Int.natCast_add]) ?_
        exact ⟨as ++ [y], bs, P ++ [(x, r)], by rw [ec]; simp, rfl, by rw [wt]; exact N.new inj hx hw hp, ⟨(A.set rfl).low (by decide), by simpa using h0, by simpa using h1, by simpa using h2, by simpa using h3, by simpa using h4, by simpa using h5, by simp [ln], by simpa using h7⟩, by rw [List.getElem?_set_ne (by decide), List.getElem?_set_ne (by decide)]; exact e9⟩
  · rintro e ⟨as, bs, P, ec, er, N, G, e9⟩
    have hb : bs = [] := by cases bs with
      | nil => rfl
      | cons t vs => simp at er
    subst hb
    rw [List.append_nil] at ec
    subst ec
    rw [z_unl]
    exact hQ P e N G e9
end
end L39

end
section
set_option linter.all false
set_option autoImplicit false
set_option Elab.async false
set_option maxRecDepth 100000
set_option maxHeartbeats 4000000
namespace L39
open PySem L2 T3 MM
noncomputable section
theorem here_next {F : List Cell} {c : Cell} {l : Ly} {ds : List Dir} (hF : okFl F) (hc : c ∈ F) (hl : l ∈ lyings) (lt : letR F c ds) (ec : endC c ds = c) {k i : Nat} (hi : i < ds.length) :
    f__law_rolls [.nt (F.map clD), .pd (stD (endC c (wrow ds (k * ds.length + i))) (endL l (wrow ds (k * ds.length + i)))), .pd (.str (chS ds[i])), .pd (.tuple (nD (orgR F c l ds (k * ds.length + i))))] = some (.pd (hereD F c l ds (k * ds.length + i + 1)), [.nt (F.map clD), .pd (stD (endC c (wrow ds (k * ds.length + i))) (endL l (wrow ds (k * ds.length + i)))), .pd (.str (chS ds[i])), .pd (.tuple (nD (orgR F c l ds (k * ds.length + i))))]) := by
  have ws := wrow_succ (k := k) hi
  have lw : letR F c (wrow ds (k * ds.length + i + 1)) := letR_take _ _ _ (rep_let ec lt _)
  rw [ws] at lw
  obtain ⟨l1, l2⟩ := letR_mid _ _ _ lw
  have S : Sit F (endC c (wrow ds (k * ds.length + i))) (endL l (wrow ds (k * ds.length + i))) [ds[i]] := ⟨hF, endC_mem _ _ hc l1, endL_mem _ _ hl, l2, by simp⟩
  have rs := rolls_sp S (nD (orgR F c l ds (k * ds.length + i))) (by simp [nD, orgR, org_len]) (.pd (.tuple (nD (orgR F c l ds (k * ds.length + i))))) (.inl rfl)
  have ch : rowS [ds[i]] = chS ds[i] := rfl
  rw [ch] at rs
  rw [rs]
  have e1 : endC (endC c (wrow ds (k * ds.length + i))) [ds[i]] = endC c (wrow ds (k * ds.length + i + 1)) := by rw [ws, endC_snoc]
  have e2 : endL (endL l (wrow ds (k * ds.length + i))) [ds[i]] = endL l (wrow ds (k * ds.length + i + 1)) := by rw [ws, endL_snoc]
  have e3 : held (nD (orgR F c l ds (k * ds.length + i))) (trd F (endC c (wrow ds (k * ds.length + i))) (endL l (wrow ds (k * ds.length + i))) [ds[i]]) = nD (orgR F c l ds (k * ds.length + i + 1)) := by
    unfold nD orgR
    rw [held_map, ws, trd_app]
    unfold org
    rw [held_app]
  rw [e1, e2, e3]
  rfl
def LetB : SS := sSeq CellsB (sSeq (sSet 5 (eIf (bT (eNe (eVar 9) (eC (.str ".")))) (eCall f__law_rolls (eCons (eVar 0) (eCons (eIx (eVar 5) (eC (.int 0))) (eCons (eVar 9) (eCons (eIx (eVar 5) (eC (.int 1))) eNil))))) (eVar 5))) (sSet 7 (eAdd (eVar 7) (eC (.int 1)))))
theorem w_dot : PyData.strOk (Str.ofString ".") = true := by decide +kernel
theorem ch_dot (d : Dir) : oNe [.str (chS d), .str "."] = some (.bool true) := by
  have h1 : pl 0 (.str (chS d)) = true := by cases d <;> decide +kernel
  have h2 : pl 0 (.str ".") = true := w_dot
  refine pl_ne' h1 h2 (by decide) (by decide) fun e => ?_
  cases d <;> exact absurd (PyData.str.inj e) (by decide +kernel)
def LeI (F : List Cell) (c : Cell) (l : Ly) (ds : List Dir) (cs : List Cell) (k : Nat) (rest : List PyData) (e : Sl) : Prop := ∃ (i : Nat) (P : List (Nat × Nat)), i ≤ ds.length ∧ rest = (ds.drop i).map chD ∧ Nt (6 + F.length) (wtS F cs) (psn F c l ds) (k * ds.length + i) [] P ∧ NE F c l ds cs (k * ds.length + i) P e
theorem lap_sp {F cs : List Cell} {c : Cell} {l : Ly} {ds : List Dir} (hF : okFl F) (hc : c ∈ F) (hl : l ∈ lyings) (lt : letR F c ds) (ec : endC c ds = c) (hn : ds.length ≤ 60) (hm : ∀ y ∈ cs, y ∈ F) (hcs : cs.length ≤ 9) {k : Nat} (hk : k < 400) {P : List (Nat × Nat)} {E : Sl} {it : EI} (hit : it E = some (ds.map chD, none, E)) (N : Nt (6 + F.length) (wtS F cs) (psn F c l ds) (k * ds.length) [] P) (G : NE F c l ds cs (k * ds.length) P E) (Q : Fl → Sl → Prop)
    (hQ : ∀ P' E', Nt (6 + F.length) (wtS F cs) (psn F c l ds) ((k + 1) * ds.length) [] P' → NE F c l ds cs ((k + 1) * ds.length) P' E' → Q .nx E') : wS (sFor it (gN 9) LetB) E Q := by
  refine wS_for (xs := ds.map chD) (lk := none) (e := E) hit (LeI F c l ds cs k) ⟨0, P, by omega, rfl, N, G⟩ ?_ ?_
  · rintro x rest e ⟨i, P, hi, er, N, G⟩
    have hi2 : i < ds.length := by
      apply Nat.lt_of_not_le
      intro z
      rw [List.drop_of_length_le z] at er
      simp at er
    rw [List.drop_eq_getElem_cons hi2, List.map_cons] at er
    obtain ⟨rfl, er2⟩ := List.cons.inj er
    have fr := G.1.fre
    simp only [gW, z_gN, z_setR, fr 9 (by decide) (by decide), if_true]
    rw [go]
    have rb : k * ds.length + i ≤ 100000 := by
      have : k * ds.length ≤ 400 * 60 := Nat.mul_le_mul (by omega) hn
      omega
    have G1 : NE F c l ds cs (k * ds.length + i) P (e.set 9 (some (.pd (chD ds[i])))) := by
      obtain ⟨A, h0, h1, h2, h3, h4, h5, h6, h7⟩ := G
      exact ⟨A.set rfl, by simpa using h0, by simpa using h1, by simpa using h2, by simpa using h3, by simpa using h4, by simpa using h5, by simpa using h6, by simpa using h7⟩
    refine wS_seq (cells_sp hF.2.1 hm hcs rb N G1 _ ?_)
    rintro P' E' N' ⟨A, h0, h1, h2, h3, h4, h5, h6, h7⟩ e9
    rw [nxt_nx, go]
    have l9 : 9 < e.length := by rw [G.1.len]; decide
    have h9 : E'[9]? = some (some (.pd (.str (chS ds[i])))) := by rw [e9, List.getElem?_set_self l9]; rfl
    have ne := ch_dot ds[i]
    have hn2 := here_next hF hc hl lt ec (k := k) hi2
    have a0 : oIx [hereD F c l ds (k * ds.length + i), .int 0] = some (stD (endC c (wrow ds (k * ds.length + i))) (endL l (wrow ds (k * ds.length + i)))) := rfl
    have a1 : oIx [hereD F c l ds (k * ds.length + i), .int 1] = some (.tuple (nD (orgR F c l ds (k * ds.length + i)))) := rfl
    have ln := A.len
    have fr5 : free E' 5 = true := by simp [free, h5]
    have fr7 : free E' 7 = true := by simp [free, h7]
    generalize hR : k * ds.length + i = R at *
    have s7 : ((R : Nat) : Int) + 1 = ((R + 1 : Nat) : Int) := by omega
    refine wS_seq ?_
    refine wS_of (fl := .nx) (e := E'.set 5 (some (.pd (hereD F c l ds (R + 1))))) (by simp [h0, h5, h9, ne, a0, a1, hn2, fr5, -z_free, -getElem?_pos]) ?_
    rw [nxt_nx, go]
    refine wS_of (fl := .nx) (e := (E'.set 5 (some (.pd (hereD F c l ds (R + 1))))).set 7 (some (.pd (.int ((R + 1 : Nat) : Int))))) (by simp only [z_set]; simp [h7, kAdd, oI, s7, free_ne_set, fr7, ln, -z_free, -getElem?_pos, -Int.natCast_add]) ?_
    exact ⟨i + 1, P', by omega, er2, by rw [← Nat.add_assoc, hR]; exact N'.next (fun y hy => hy), by
      rw [← Nat.add_assoc, hR]
      exact ⟨(A.low (by decide)).low (by decide), by simpa using h0, by simpa using h1, by simpa using h2, by simpa using h3, by simpa using h4, by simp [ln], by simpa using h6, by simp [ln]⟩⟩
  · rintro e ⟨i, P, hi, er, N, G⟩
    have hi2 : i = ds.length := by
      apply Nat.le_antisymm hi
      apply Nat.le_of_not_lt
      intro z
      have := congrArg List.length er
      rw [List.length_map, List.length_drop] at this
      simp at this
      omega
    subst hi2
    rw [z_unl]
    have e2 : k * ds.length + ds.length = (k + 1) * ds.length := by rw [Nat.add_mul, Nat.one_mul]
    rw [e2] at N G
    exact hQ P e N G
end
end L39

end
section
set_option linter.all false
set_option autoImplicit false
set_option Elab.async false
set_option maxRecDepth 100000
set_option maxHeartbeats 4000000
namespace L39
open PySem L2 T3 MM
noncomputable section
theorem here_zero (F : List Cell) (c : Cell) (l : Ly) (ds : List Dir) : hereD F c l ds 0 = .tuple [stD c l, .tuple (rgT 0 ((6 + F.length : Nat) : Int))] := by
  have : rgT 0 ((6 + F.length : Nat) : Int) = nD (List.range (6 + F.length)) := by rw [rgT_ups, ups_map]; rfl
  rw [this]
  have w0 : wrow ds 0 = [] := by simp [wrow]
  unfold hereD orgR
  rw [w0]
  rfl
theorem here_home {F : List Cell} {c : Cell} {l : Ly} {ds : List Dir} {r : Nat} (e : hereD F c l ds r = hereD F c l ds 0) : endL l (wrow ds r) = l ∧ ∀ x, x < 6 + F.length → psn F c l ds x r = x := by
  have w0 : wrow ds 0 = [] := by simp [wrow]
  unfold hereD at e
  have h := PyData.tuple.inj e
  have h1 := List.cons.inj h
  have h2 := stD_inj h1.1
  have h3 := nD_inj (PyData.tuple.inj (List.cons.inj h1.2).1)
  rw [w0] at h2
  refine ⟨h2.2, fun x hx => ?_⟩
  have h4 := org_eq.mp h3 x hx
  unfold psn exM
  rw [h4, w0]
  exact exM_nil hx
theorem Nt.told {F cs : List Cell} {c : Cell} {l : Ly} {ds : List Dir} (h : Wat F c l ds cs) {R : Nat} {P : List (Nat × Nat)} (N : Nt (6 + F.length) (wtS F cs) (psn F c l ds) R [] P) (H : ∀ x r, x < 6 + F.length → rollsA F c l ds cs x = some r → ∃ s, s < R ∧ psn F c l ds x s ∈ wtS F cs) {x : Nat} (hx : x < 6 + F.length) :
    (∀ r, rollsA F c l ds cs x = some r → (x, r) ∈ P) ∧ (rollsA F c l ds cs x = none → x ∉ P.map (·.1)) := by
  obtain ⟨s1, s2⟩ := rollsA_spec h hx
  refine ⟨fun r hr => ?_, fun hr hp => ?_⟩
  · obtain ⟨a1, a2, a3⟩ := s1 r hr
    obtain ⟨s, hs, hw⟩ := H x r hx hr
    obtain ⟨a, ha, ea⟩ := List.mem_map.mp (N.cov x s hx (.inl hs) hw)
    obtain ⟨m1, m2, m3⟩ := N.mem a ha
    rw [ea] at m2 m3
    have : a.2 = r := by
      rcases Nat.lt_trichotomy a.2 r with z | z | z
      · exact absurd m2 (a3 _ z)
      · exact z
      · exact absurd a1 (m3 _ z)
    have : a = (x, r) := Prod.ext ea this
    rw [← this]
    exact ha
  · obtain ⟨a, ha, ea⟩ := List.mem_map.mp hp
    obtain ⟨m1, m2, m3⟩ := N.mem a ha
    rw [ea] at m2
    exact s2 hr _ m2
theorem home_mod {F : List Cell} {c : Cell} {l : Ly} {ds : List Dir} (hc : endC c ds = c) {k : Nat} (hl : endL l (rep k ds) = l) (hm : ∀ x, x < 6 + F.length → exM F c l (rep k ds) x = x) {x : Nat} (hx : x < 6 + F.length) (a b : Nat) : psn F c l ds x (a * (k * ds.length) + b) = psn F c l ds x b := by
  obtain ⟨e1, e2⟩ := exM_mul (cs := F) (c := c) (l := l) (ds := ds) hc hl hx a
  unfold psn
  rw [← Nat.mul_assoc, Nat.mul_comm a k, wrow_add, exM_app _ _ hx, rep_home hc, e1, e2, itr_fix (hm x hx)]
def Told (F : List Cell) (c : Cell) (l : Ly) (ds : List Dir) (cs : List Cell) (P : List (Nat × Nat)) : Prop := (P.map (·.1)).Nodup ∧ (∀ a ∈ P, a.1 < 6 + F.length) ∧ ∀ x, x < 6 + F.length → (∀ r, rollsA F c l ds cs x = some r → (x, r) ∈ P) ∧ (rollsA F c l ds cs x = none → x ∉ P.map (·.1))
def LaI (F : List Cell) (c : Cell) (l : Ly) (ds : List Dir) (cs : List Cell) (rest : List PyData) (e : Sl) : Prop := ∃ (k : Nat) (P : List (Nat × Nat)), (k = 0 ∨ ds ≠ []) ∧ k + rest.length = 400 ∧ Nt (6 + F.length) (wtS F cs) (psn F c l ds) (k * ds.length) [] P ∧ NE F c l ds cs (k * ds.length) P e
def DoI (F : List Cell) (c : Cell) (l : Ly) (cs : List Cell) (rest : List PyData) (e : Sl) : Prop := (∃ P, rest = [.str "."] ∧ Nt (6 + F.length) (wtS F cs) (psn F c l []) 0 [] P ∧ NE F c l [] cs 0 P e) ∨ ∃ P, rest = [] ∧ Nt (6 + F.length) (wtS F cs) (psn F c l []) 1 [] P ∧ e.length = 11 ∧ e[4]? = some (some (.pd (hereD F c l [] 0))) ∧ e[5]? = some (some (.pd (hereD F c l [] 0))) ∧ e[6]? = some (some (.mu .own (.dk (kvP P)))) ∧ (e[0]?).isSome = true
theorem pl_here (F : List Cell) (c : Cell) (l : Ly) (ds : List Dir) (r : Nat) : pl 3 (hereD F c l ds r) = true := by
  unfold hereD
  generalize endC c (wrow ds r) = c'
  generalize endL l (wrow ds r) = l'
  have p2 : pl 2 (.tuple (nD (orgR F c l ds r))) = true := by
    show (nD (orgR F c l ds r)).all (pl 1) = true
    refine List.all_eq_true.mpr fun y hy => ?_
    obtain ⟨i, _, rfl⟩ := List.mem_map.mp hy
    rfl
  show (pl 2 (stD c' l') && (pl 2 (.tuple (nD (orgR F c l ds r))) && true)) = true
  rw [p2]
  rfl
theorem noted_sp {F cs : List Cell} {c : Cell} {l : Ly} {ds : List Dir} (h : Wat F c l ds cs) (hcs : cs.length ≤ 9) : ∃ P, Told F c l ds cs P ∧ f__law_noted [.nt (F.map clD), .pd (stD c l), .pd (.str (rowS ds)), .pd (.tuple (cs.map clD))] = some (.tmp (.dk (kvP P)), [.nt (F.map clD), .pd (stD c l), .pd (.str (rowS ds)), .pd (.tuple (cs.map clD))]) := by
  obtain ⟨Si, ec, hn, hm, _, _⟩ := id h
  have h9 := Si.fl.2.1
  have key : ∀ Q : R → List S → Prop, (∀ P, Told F c l ds cs P → Q (.tmp (.dk (kvP P))) [.nt (F.map clD), .pd (stD c l), .pd (.str (rowS ds)), .pd (.tuple (cs.map clD))]) → wF f__law_noted [.nt (F.map clD), .pd (stD c l), .pd (.str (rowS ds)), .pd (.tuple (cs.map clD))] Q := by
    intro Q hQ
    generalize hAS : [S.nt (F.map clD), .pd (stD c l), .pd (.str (rowS ds)), .pd (.tuple (cs.map clD))] = AS at hQ
    have nmA : AS.all nmu = true := by rw [← hAS]; rfl
    have lA : AS.length = 4 := by rw [← hAS]; rfl
    refine wF_run (e := startE 11 AS) rfl ?_
    have A : Al 4 11 (startE 11 AS) := by rw [← hAS]; exact al_start rfl (by decide)
    have g0 : (startE 11 AS)[0]? = some (some (.nt (F.map clD))) := by rw [← hAS]; rfl
    have g1 : (startE 11 AS)[1]? = some (some (.pd (stD c l))) := by rw [← hAS]; rfl
    have g2 : (startE 11 AS)[2]? = some (some (.pd (.str (rowS ds)))) := by rw [← hAS]; rfl
    have g3 : (startE 11 AS)[3]? = some (some (.pd (.tuple (cs.map clD)))) := by rw [← hAS]; rfl
    generalize startE 11 AS = e at *
    have fr := A.fre
    have ln := A.len
    have e6 : (6 : Int) + (F.length : Int) = ((6 + F.length : Nat) : Int) := by omega
    have oc : oLen [.tuple (F.map clD)] = some (.int (F.length : Nat)) := by simp [oLen]
    have tr : ∀ env, kTrg [.pd (.int ((6 + F.length : Nat) : Int))] env = some (.pd (.tuple (rgT 0 ((6 + F.length : Nat) : Int))), env) := fun env => kTrg1 _ _ (rgOk_of _ (by omega))
    have hz := here_zero F c l ds
    refine wS_seq ?_
    refine wS_of (fl := .nx) (e := e.set 4 (some (.pd (hereD F c l ds 0)))) (by
      rw [hz]
      simp [g0, g1, oc, kAdd, oI, e6, tr, T3.kTup, T3.datas, T3.data1, free_ne_set, fr, -z_free, -getElem?_pos, -Int.natCast_add]) ?_
    rw [nxt_nx, go]
    refine wS_seq ?_
    refine wS_of (fl := .nx) (e := (((e.set 4 (some (.pd (hereD F c l ds 0)))).set 5 (some (.pd (hereD F c l ds 0)))).set 6 (some (.mu .own (.dk [])))).set 7 (some (.pd (.int 0)))) (by
      simp [eDnew, ln, free_ne_set, fr, -z_free, -getElem?_pos]) ?_
    rw [nxt_nx, go]
    refine wS_gen fun E hE => ?_
    have AE : Al 4 11 E := by rw [hE]; repeat (first | exact A | refine Al.set ?_ rfl)
    have A8 : Al 8 11 E := ⟨AE.len, fun i h1 h2 => AE.fre i (by omega) h2⟩
    have NE0 : NE F c l ds cs 0 [] E := ⟨A8, by rw [hE]; simpa using g0, by rw [hE]; simpa using g1, by rw [hE]; simpa using g2, by rw [hE]; simpa using g3, by rw [hE]; simp [ln], by rw [hE]; simp [ln], by rw [hE]; simp [ln, kvP], by rw [hE]; simp [ln]⟩
    clear hE
    have m0 : ∀ env : Sl, kMul2 [.pd (.str "."), .pd (.int 0)] env = some (.pd (.str ""), env) := fun env => by simp [kMul2, kRepL, lsOf, oRepS]; rfl
    have m1 : ∀ env : Sl, kMul2 [.pd (.str "."), .pd (.int 1)] env = some (.pd (.str "."), env) := fun env => by simp [kMul2, kRepL, lsOf, oRepS]; rfl
    have qr := fun r => pl_eq (pl_here F c l ds r) (pl_here F c l ds r) (by decide) (by decide) rfl
    have N0 : Nt (6 + F.length) (wtS F cs) (psn F c l ds) 0 [] [] := Nt.start
    refine wS_seq ?_
    refine wS_for (xs := upD 400) (lk := none) (e := E) (rg1_up (by simp) (by decide)) (LaI F c l ds cs) ⟨0, [], .inl rfl, by rw [upD_len], by rw [Nat.zero_mul]; exact N0, by rw [Nat.zero_mul]; exact NE0⟩ ?_ ?_
    · rintro x rest e ⟨k, P, hkd, hk, N, G⟩
      rw [List.length_cons] at hk
      have fr := G.1.fre
      simp only [gW, z_gN, z_setR, fr 8 (by decide) (by decide), if_true]
      rw [go]
      have G1 : NE F c l ds cs (k * ds.length) P (e.set 8 (some (.pd x))) := by
        obtain ⟨A, h0, h1, h2, h3, h4, h5, h6, h7⟩ := G
        exact ⟨A.set rfl, by simpa using h0, by simpa using h1, by simpa using h2, by simpa using h3, by simpa using h4, by simpa using h5, by simpa using h6, by simpa using h7⟩
      generalize e.set 8 (some (.pd x)) = e at *
      have h2 := G1.2.2.2.1
      have z0 : PyData.str "" = .str (rowS []) := rfl
      have fin : ∀ P' E', Told F c l ds cs P' → Al 8 11 E' → E'[6]? = some (some (.mu .own (.dk (kvP P')))) → retP AS Q (.rt (.var 6)) E' := fun P' E' t a g6 => ⟨_, _, by simp [g6, -getElem?_pos], fin_pd nmA (by rw [lA, a.len]; decide), hQ P' t⟩
      cases hd : ds with
      | nil =>
        subst hd
        have k0 : k = 0 := by
          rcases hkd with q | q
          · exact q
          · exact absurd rfl q
        subst k0
        rw [List.length_nil, Nat.mul_zero] at N G1
        have q1 : oEq [.str (rowS []), .str ""] = some (.bool true) := by
          rw [z0]
          exact pl_eq (pl_row 0 []) (pl_row 0 []) (by decide) (by decide) rfl
        have ad : ∀ env : Sl, kAdd [.pd (.str (rowS [])), .pd (.str ".")] env = some (.pd (.str "."), env) := fun env => by
          rw [← z0]
          simp [kAdd, oI, oCatS]
          rfl
        have sg : signs "." = [.str "."] := rfl
        have nd : oNe [.str ".", .str "."] = some (.bool false) := pl_ne (n := 0) (m := 0) w_dot w_dot (by decide) (by decide) rfl
        have hit : iSeq (eAdd (eVar 2) (eMul2 (eC (.str ".")) (eThen (eCons (eEq (eVar 2) (eC (.str ""))) eNil) (kE oInt1)))) e = some ([.str "."], none, e) := by
          simp [h2, q1, oInt1, m1, ad, sg, -getElem?_pos]
        refine wS_seq ?_
        refine wS_for (xs := [.str "."]) (lk := none) (e := e) hit (DoI F c l cs) (.inl ⟨P, rfl, N, G1⟩) ?_ ?_
        · rintro y rest' e (⟨P, er, N, G⟩ | ⟨P, er, _⟩)
          · obtain ⟨rfl, rfl⟩ := List.cons.inj er
            have fr := G.1.fre
            simp only [gW, z_gN, z_setR, fr 9 (by decide) (by decide), if_true]
            rw [go]
            have G2 : NE F c l [] cs 0 P (e.set 9 (some (.pd (.str ".")))) := by
              obtain ⟨A, h0, h1, h2, h3, h4, h5, h6, h7⟩ := G
              exact ⟨A.set rfl, by simpa using h0, by simpa using h1, by simpa using h2, by simpa using h3, by simpa using h4, by simpa using h5, by simpa using h6, by simpa using h7⟩
            refine wS_seq (cells_sp h9 hm hcs (by omega) N G2 _ ?_)
            rintro P' E' N' ⟨A, h0, h1, h2, h3, h4, h5, h6, h7⟩ e9
            rw [nxt_nx, go]
            have l9 : 9 < e.length := by rw [G.1.len]; decide
            have h9 : E'[9]? = some (some (.pd (.str "."))) := by rw [e9, List.getElem?_set_self l9]
            have ln := A.len
            have fr5 : free E' 5 = true := by simp [free, h5]
            have fr7 : free E' 7 = true := by simp [free, h7]
            refine wS_seq ?_
            refine wS_of (fl := .nx) (e := E'.set 5 (some (.pd (hereD F c l [] 0)))) (by simp [h5, h9, nd, fr5, -z_free, -getElem?_pos]) ?_
            rw [nxt_nx, go]
            refine wS_of (fl := .nx) (e := (E'.set 5 (some (.pd (hereD F c l [] 0)))).set 7 (some (.pd (.int 1)))) (by simp [h7, kAdd, oI, free_ne_set, fr7, ln, -z_free, -getElem?_pos]) ?_
            exact .inr ⟨P', rfl, N'.next (fun y hy => hy), by simp [ln], by simpa using h4, by simp [ln], by simpa using h6, by simp [h0]⟩
          · cases er
        · rintro e (⟨P, er, _⟩ | ⟨P, _, N, ln, b4, b5, b6, b0⟩)
          · cases er
          · rw [z_unl, nxt_nx, go]
            have qe := qr 0
            refine wS_of (fl := .rt (.var 6)) (e := e) (by simp [b4, b5, b6, qe, -getElem?_pos]) ?_
            refine ⟨_, _, by simp [b6, -getElem?_pos], fin_pd nmA (by rw [z_unl, lA, ln]; decide), hQ P ⟨N.nd, fun a ha => (N.mem a ha).1, fun x hx => N.told h (fun x r hx hr => ⟨0, by omega, ?_⟩) hx⟩⟩
            have := ((rollsA_spec h hx).1 r hr).1
            have w : ∀ r, wrow [] r = [] := fun r => by unfold wrow; rw [rep_nil]; simp
            unfold psn at this ⊢
            rw [w] at this ⊢
            exact this
      | cons d0 ds0 =>
        rw [← hd]
        have dl : 1 ≤ ds.length := by rw [hd]; simp
        have q0 : oEq [.str (rowS ds), .str ""] = some (.bool false) := by
          rw [z0]
          refine pl_eq' (pl_row 0 ds) (pl_row 0 []) (by decide) (by decide) fun e => ?_
          have e1 := PyData.str.inj e
          have : (rowS ds).length = (rowS []).length := by rw [e1]
          rw [row_len, row_len, List.length_nil] at this
          omega
        have ad := fun env => add_row ds [] env (by omega) (by simp)
        rw [← z0, List.append_nil] at ad
        have sg : signs (rowS ds) = ds.map chD := by rw [signs_row]; rfl
        have hit : iSeq (eAdd (eVar 2) (eMul2 (eC (.str ".")) (eThen (eCons (eEq (eVar 2) (eC (.str ""))) eNil) (kE oInt1)))) e = some (ds.map chD, none, e) := by
          simp [h2, q0, oInt1, m0, ad, sg, -getElem?_pos]
        refine wS_seq (lap_sp Si.fl Si.mem Si.ly Si.lt ec hn hm hcs (by omega) hit N G1 _ ?_)
        rintro P' E' N' G'
        rw [nxt_nx, go]
        obtain ⟨A', b0, b1, b2, b3, b4, b5, b6, b7⟩ := id G'
        by_cases hh : hereD F c l ds ((k + 1) * ds.length) = hereD F c l ds 0
        · have qe := qr 0
          rw [hh] at b5
          refine wS_of (fl := .rt (.var 6)) (e := E') (by simp [b4, b5, b6, qe, -getElem?_pos]) ?_
          refine fin P' E' ⟨N'.nd, fun a ha => (N'.mem a ha).1, fun x hx => N'.told h (fun x r hx hr => ?_) hx⟩ A' b6
          obtain ⟨a1, a2⟩ := here_home hh
          rw [wrow_all] at a1
          have a2 : ∀ x, x < 6 + F.length → exM F c l (rep (k + 1) ds) x = x := fun x hx => by
            have := a2 x hx
            unfold psn at this
            rwa [wrow_all] at this
          have hm := home_mod ec a1 a2 hx (r / ((k + 1) * ds.length)) (r % ((k + 1) * ds.length))
          have dm : r / ((k + 1) * ds.length) * ((k + 1) * ds.length) + r % ((k + 1) * ds.length) = r := by rw [Nat.mul_comm]; exact Nat.div_add_mod _ _
          rw [dm] at hm
          have : 0 < (k + 1) * ds.length := Nat.mul_pos (by omega) dl
          exact ⟨r % ((k + 1) * ds.length), Nat.mod_lt _ this, by rw [← hm]; exact ((rollsA_spec h hx).1 r hr).1⟩
        · have qe := pl_eq' (pl_here F c l ds ((k + 1) * ds.length)) (pl_here F c l ds 0) (by decide) (by decide) hh
          refine wS_of (fl := .nx) (e := E') (by simp [b4, b5, qe, -getElem?_pos]) ?_
          exact ⟨k + 1, P', .inr (by rw [hd]; simp), by omega, N', G'⟩
    · rintro e ⟨k, P, hkd, hk, N, G⟩
      have hk : k = 400 := by simpa using hk
      subst hk
      rw [z_unl, nxt_nx, go]
      obtain ⟨A', b0, b1, b2, b3, b4, b5, b6, b7⟩ := id G
      refine wS_of (fl := .rt (.var 6)) (e := e) (by simp [b6, -getElem?_pos]) ?_
      refine ⟨_, _, by simp [b6, -getElem?_pos], fin_pd nmA (by rw [lA, A'.len]; decide), hQ P ⟨N.nd, fun a ha => (N.mem a ha).1, fun x hx => N.told h (fun x r hx hr => ?_) hx⟩⟩
      obtain ⟨a1, a2, a3⟩ := (rollsA_spec h hx).1 r hr
      by_cases z : ds.length = 0
      · rcases hkd with q | q
        · omega
        · exact absurd (List.eq_nil_of_length_eq_zero z) q
      · exact ⟨r, by omega, a1⟩
  obtain ⟨r, as, e, P, h1, rfl, rfl⟩ := key (fun r as => ∃ P, Told F c l ds cs P ∧ r = .tmp (.dk (kvP P)) ∧ as = [.nt (F.map clD), .pd (stD c l), .pd (.str (rowS ds)), .pd (.tuple (cs.map clD))]) fun P h1 => ⟨P, h1, rfl, rfl⟩
  exact ⟨P, h1, e⟩
end
end L39

end
section
set_option linter.all false
set_option autoImplicit false
set_option Elab.async false
set_option maxRecDepth 100000
set_option maxHeartbeats 4000000
namespace L39
open PySem L2 T3 MM
noncomputable section
theorem row_fine (ds : List Dir) : PyData.strOk (rowS ds) = true := by
  simp only [PyData.strOk, rowS]
  rw [Array.all_eq_true]
  intro i hi
  simp only [List.getElem_toArray, List.getElem_map]
  cases ds[i]'(by simpa using hi) <;> decide
theorem rd_row {k : Nat} {ds : List Dir} (h : ds.length ≤ k) : RD 0 k (.str (rowS ds)) := by
  refine ⟨?_, by simp [PyData.depth], by simp [PyData.showable], ?_, ?_⟩
  · exact row_fine ds
  · simp only [PyData.leavesShort, rowS, List.all_eq_true, decide_eq_true_eq]
    intro x hx
    obtain ⟨d, _, rfl⟩ := List.mem_map.mp hx
    cases d <;> decide
  · simp [PyData.weight, rowS]
    exact h
theorem show_all {F ws : List Cell} {c : Cell} {l : Ly} {ds : List Dir} (h : Sit F c l ds) (hd : ds.length ≤ 100) (hw : ∀ y ∈ ws, y ∈ F) (lw : ws.length ≤ 9) : ShOk (.tuple [.tuple (F.map clD), stD c l, .str (rowS ds), .tuple (ws.map clD)]) := (RD.tup (p := 3) (k := 3000) (n := 4) (by
  intro x hx
  simp only [List.mem_cons, List.not_mem_nil, or_false] at hx
  rcases hx with rfl | rfl | rfl | rfl
  · exact (rd_floor F h.fl).mono (by omega) (by omega)
  · exact (rd_stand (h.fl.2.2.1 _ h.mem) h.ly).mono (by omega) (by omega)
  · exact (rd_row hd).mono (by omega) (by omega)
  · exact (RD.tup (p := 1) (k := 82) (n := 9) (fun y hy => by
      obtain ⟨q, hq, rfl⟩ := List.mem_map.mp hy
      have b := h.fl.2.2.1 _ (hw q hq)
      simp [inB] at b
      exact RD.cell (by omega)) (by rw [List.length_map]; exact lw)).mono (by omega) (by omega)) (by simp)).ok (by omega) (by omega)
theorem show_two {S1 : List Nat} (h : ∀ x ∈ S1, x < 15) (hl : S1.length ≤ 15) : ShOk (.list [.tuple (nD S1), .tuple (nD S1)]) := (RD.lst (p := 1) (k := 615) (n := 2) (by
  intro x hx
  simp only [List.mem_cons, List.not_mem_nil, or_false, or_self] at hx
  subst hx
  exact RD.tup (p := 0) (k := 40) (n := 15) (fun y hy => by
    obtain ⟨q, hq, rfl⟩ := List.mem_map.mp hy
    have := h q hq
    exact RD.int (by omega) (by omega)) (by simpa [nD] using hl)) (by simp)).ok (by omega) (by omega)
theorem plain_ints (xs : List Int) : PlainS (xs.map .int) := by
  refine ⟨?_, PySem.W.AllAlike.of (enc := PyData.int) fun b b' => by simp [PySem.W.alike], PySem.W.Sortable.others (enc := PyData.int) fun b => ⟨by simp, by simp⟩, fun d hd => ?_⟩
  · induction xs with
    | nil => rfl
    | cons x xs ih => simp only [List.map_cons, PyData.canLayAll0, ih]; rfl
  · obtain ⟨b, _, rfl⟩ := List.mem_map.mp hd
    simp [PyData.depth]
theorem srt_ints (xs : List Int) : srtD (xs.map .int) = (xs.mergeSort fun a b => decide (a ≤ b)).map .int := by
  unfold srtD
  refine (List.map_mergeSort (fun a _ b _ => ?_)).symm
  have := congrFun (congrFun (PySem.W.dataLe_int (fun b : Int => b)) a) b
  exact this.symm
theorem srt_nats2 {L M : List Nat} (pm : L.Perm M) (pw : M.Pairwise (· ≤ ·)) : srtD (nD L) = nD M := by
  have e : nD L = (L.map fun k => ((k : Nat) : Int)).map .int := by simp [nD, Function.comp_def]
  have e2 : nD M = (M.map fun k => ((k : Nat) : Int)).map .int := by simp [nD, Function.comp_def]
  rw [e, e2, srt_ints]
  congr 1
  refine List.Perm.eq_of_pairwise (le := fun a b : Int => a ≤ b) (fun a b _ _ h1 h2 => by omega) ?_ ?_ ((List.mergeSort_perm _ _).trans (pm.map _))
  · refine (List.pairwise_mergeSort (le := fun a b : Int => decide (a ≤ b)) (fun a b c h1 h2 => by simp at *; omega) (fun a b => by simp; omega) _).imp fun h => by simpa using h
  · exact List.pairwise_map.mpr (pw.imp fun h => by omega)
theorem plain_nats (L : List Nat) : PlainS (nD L) := by
  have e : nD L = (L.map fun k => ((k : Nat) : Int)).map .int := by simp [nD, Function.comp_def]
  rw [e]
  exact plain_ints _
theorem told_perm {F cs : List Cell} {c : Cell} {l : Ly} {ds : List Dir} {P : List (Nat × Nat)} (t : Told F c l ds cs P) : (P.map (·.1)).Perm ((List.range (6 + F.length)).filter fun x => (rollsA F c l ds cs x).isSome) := by
  obtain ⟨t1, t2, t3⟩ := t
  refine (List.perm_ext_iff_of_nodup t1 (List.nodup_range.filter _)).mpr fun x => ?_
  rw [List.mem_filter, List.mem_range]
  constructor
  · intro hx
    obtain ⟨a, ha, rfl⟩ := List.mem_map.mp hx
    have hn := t2 a ha
    refine ⟨hn, ?_⟩
    cases e : rollsA F c l ds cs a.1 with
    | none => exact absurd hx ((t3 _ hn).2 e)
    | some r => rfl
  · rintro ⟨hn, hs⟩
    obtain ⟨r, hr⟩ := Option.isSome_iff_exists.mp hs
    exact List.mem_map.mpr ⟨_, (t3 x hn).1 r hr, rfl⟩
theorem told_get {F cs : List Cell} {c : Cell} {l : Ly} {ds : List Dir} {P : List (Nat × Nat)} (t : Told F c l ds cs P) {x : Nat} (hx : x < 6 + F.length) : (valD (kvP P) (.inl ((x : Nat) : Int))).getD .none = offD (rollsA F c l ds cs x) := by
  obtain ⟨t1, t2, t3⟩ := t
  rw [valP]
  cases e : rollsA F c l ds cs x with
  | none =>
    rw [findP0 ((t3 x hx).2 e)]
    rfl
  | some r =>
    have hm := (t3 x hx).1 r e
    obtain ⟨a, ha, ea, fa⟩ := findP (List.mem_map.mpr ⟨_, hm, rfl⟩ : x ∈ P.map (·.1))
    rw [fa]
    have : a = (x, r) := by
      apply Classical.byContradiction
      intro ne
      obtain ⟨i, hi, ei⟩ := List.mem_iff_getElem.mp ha
      obtain ⟨j, hj, ej⟩ := List.mem_iff_getElem.mp hm
      have nd := t1
      have h1 : (P.map (·.1))[i]'(by simpa using hi) = (P.map (·.1))[j]'(by simpa using hj) := by simp [ei, ej, ea]
      have := (List.getElem_inj nd).mp h1
      subst this
      exact ne (ei.symm.trans ej)
    rw [this]
    rfl
theorem repr_off {o : Option Nat} (h : ∀ k, o = some k → k ≤ 1000) : ∃ s, oReprY [offD o] = some (.str s) := by
  cases o with
  | none => exact ⟨_, oReprY_n⟩
  | some k =>
    have := h k rfl
    refine ⟨_, oReprY_i ((k : Nat) : Int) ?_⟩
    rw [Int.natAbs_natCast]
    exact Nat.lt_of_le_of_lt (Nat.log2_le_self k) (by omega)
end
end L39

end
section
set_option linter.all false
set_option autoImplicit false
set_option Elab.async false
set_option maxRecDepth 100000
set_option maxHeartbeats 4000000
namespace L39
open PySem L2 T3 MM
noncomputable section
def SpI (s : PyData) (F : List Cell) (c : Cell) (l : Ly) (ds : List Dir) (ws : List Cell) (P : List (Nat × Nat)) (kp : PyData) (p : Pk) (rest : List PyData) (e : Sl) : Prop := (∃ xs : List Nat, rest = nD xs ∧ ∀ x ∈ xs, x < 6 + F.length) ∧ Al 0 15 e ∧ e[0]? = some (some (.pd s)) ∧ e[2]? = some (some (.mu .own (penK p))) ∧ e[4]? = some (some (.nt (F.map clD))) ∧ e[5]? = some (some (.pd (stD c l))) ∧ e[6]? = some (some (.pd (.str (rowS ds)))) ∧ e[8]? = some (some (.pd (.tuple (ws.map clD)))) ∧ e[9]? = some (some (.pd kp)) ∧ e[10]? = some (some (.mu .own (.dk (kvP P))))
def WsI (s : PyData) (F : List Cell) (c : Cell) (l : Ly) (ds : List Dir) (N : Nat) (rest : List PyData) (e : Sl) : Prop := (∃ L : List (List Cell), rest = L.map (fun ws => .tuple (ws.map clD)) ∧ ∀ ws ∈ L, Wat F c l ds ws ∧ ws.length ≤ 9) ∧ Al 0 15 e ∧ e[0]? = some (some (.pd s)) ∧ (∃ q : Pk, q.t + rest.length ≤ N ∧ e[2]? = some (some (.mu .own (penK q)))) ∧ e[4]? = some (some (.nt (F.map clD))) ∧ e[5]? = some (some (.pd (stD c l))) ∧ e[6]? = some (some (.pd (.str (rowS ds))))
theorem hmath (ns : List Int) (hn : ns.length ≤ 63) : ∃ as, f_law [.pd (.list (ns.map .int))] = some (.pd (.bool true), as) := by
  refine outer (n := 15) (N := 3) (M := 2) (C := 120) ns (by decide) (by decide) (by decide) (by decide) (cell_at_sp ns) pen2_sp ?_
  intro e p A h0 h2 hp
  generalize hTP : TurnP 15 120 (.list (ns.map .int)) p = TP
  have fr := A.fre
  have ln := A.len
  obtain ⟨p1, F, hp1, okF, ef⟩ := flC_sp p (by omega)
  have l9 := okF.2.1
  have l1 := okF.1
  obtain ⟨p2, c, l, hp2, hc, hl, es⟩ := stC_sp p1 F (by omega) l9 (by omega)
  obtain ⟨p3, ds, hp3, lt, ec, dl, e3⟩ := closed8_sp (l := l) p2 okF hc (by omega)
  have Si : Sit F c l ds := ⟨okF, hc, hl, lt, by omega⟩
  refine wS_seq ?_
  refine wS_of (fl := .nx) (e := (e.set 2 (some (.mu .own (penK p1)))).set 4 (some (.nt (F.map clD)))) (by simp [h2, ef, free_ne_set, fr, ln, -z_free, -getElem?_pos]) ?_
  rw [nxt_nx, go]
  refine wS_seq ?_
  simp [wS, es, free_ne_set, free_eq_set, fr, ln, -z_free, -getElem?_pos]
  rw [go]
  refine wS_gen fun E hE => ?_
  have AE : Al 0 15 E := by rw [hE]; repeat (first | exact A | refine Al.set ?_ rfl)
  have g0 : E[0]? = some (some (.pd (.list (ns.map .int)))) := by rw [hE]; simpa using h0
  have g2 : E[2]? = some (some (.mu .own (penK p2))) := by rw [hE]; simp [ln]
  have g4 : E[4]? = some (some (.nt (F.map clD))) := by rw [hE]; simp [ln]
  have g5 : E[5]? = some (some (.pd (stD c l))) := by rw [hE]; simp [ln]
  clear hE
  have lE := AE.len
  have fE := AE.fre
  refine wS_seq ?_
  simp [wS, g2, g4, g5, e3, free_ne_set, free_eq_set, fE, lE, -z_free, -getElem?_pos]
  rw [go]
  refine wS_gen fun E1 hE => ?_
  have A1 : Al 0 15 E1 := by rw [hE]; repeat (first | exact AE | refine Al.set ?_ rfl)
  have k0 : E1[0]? = some (some (.pd (.list (ns.map .int)))) := by rw [hE]; simpa using g0
  have k2 : E1[2]? = some (some (.mu .own (penK p3))) := by rw [hE]; simp [lE]
  have k4 : E1[4]? = some (some (.nt (F.map clD))) := by rw [hE]; simpa using g4
  have k5 : E1[5]? = some (some (.pd (stD c l))) := by rw [hE]; simpa using g5
  have k6 : E1[6]? = some (some (.pd (.str (rowS ds)))) := by rw [hE]; simp [lE]
  clear hE
  clear g0 g2 g4 g5
  have lF := A1.len
  have fF := A1.fre
  -- some watched cells
  obtain ⟨ys, p4, elc, sub, hp4⟩ := lc_penF (it := iSeq (eVar 4)) (g := gN 13) (t := bT (eEqx (eCall f__law_draw (eCons (eVar 2) (eCons (eC (.int 3)) eNil))) (eC (.int 0)))) (f := eVar 13) (vs := [13]) (env := E1) (e := E1) (j := 2) (m := .own) (p0 := p3) (as := F.map clD) 1 200000000 (by simp [k4, -getElem?_pos]) (by rw [List.length_map]; omega) (by decide) k2 (by rw [List.length_map]; omega) (fun x hx q hq => by
    obtain ⟨v, q2, v0, v1, hq2, dv⟩ := draw2_sp q 3 (by decide) (by decide) (by omega)
    have eq0 : oEq [.int v, .int 0] = some (.bool (decide (v = 0))) := by
      by_cases h : v = 0
      · rw [pl_eq (n := 0) (m := 0) rfl rfl (by decide) (by decide) (by rw [h])]; simp [h]
      · rw [pl_eq' (n := 0) (m := 0) rfl rfl (by decide) (by decide) (fun z => h (by injection z))]; simp [h]
    refine ⟨q2, decide (v = 0), hq2, ?_⟩
    have w13 : free (wipeE (E1.set 2 (some (.mu .own (penK q)))) [13]) 13 = true := wipe_free (by decide) (by rw [List.length_set]; omega)
    have w2 : (wipeE (E1.set 2 (some (.mu .own (penK q)))) [13])[2]? = some (some (.mu .own (penK q))) := by rw [wipe_at]; simp [lF]
    have wl : (wipeE (E1.set 2 (some (.mu .own (penK q)))) [13]).length = 15 := by simp [wipeE_len, lF]
    have kw : Kp (E1.set 2 (some (.mu .own (penK q)))) (wipeE (E1.set 2 (some (.mu .own (penK q)))) [13]) [13] := Kp.wipe _ _
    have hW : ∀ W, wipeE (E1.set 2 (some (.mu .own (penK q)))) [13] = W → lcPF (gN 13) (bT (eEqx (eCall f__law_draw (eCons (eVar 2) (eCons (eC (.int 3)) eNil))) (eC (.int 0)))) (eVar 13) [13] (E1.set 2 (some (.mu .own (penK q)))) x (decide (v = 0)) (E1.set 2 (some (.mu .own (penK q2)))) := by
      intro W hW
      unfold lcPF
      rw [hW] at w13 w2 wl kw ⊢
      have kk : Kp (E1.set 2 (some (.mu .own (penK q2)))) ((W.set 13 (some (.pd x))).set 2 (some (.mu .own (penK q2)))) [13] := Kp_pen (Kp.set (v := 13) kw (by decide))
      by_cases h : v = 0
      · rw [decide_eq_true h] at eq0 ⊢
        simp [w13, w2, wl, dv, eq0, kEqx, oEqS, -z_free, -getElem?_pos]
        exact kk
      · rw [decide_eq_false h] at eq0 ⊢
        simp [w13, w2, wl, dv, eq0, kEqx, oEqS, -z_free, -getElem?_pos]
        exact kk
    exact hW _ rfl)
  obtain ⟨cs, csub, rfl⟩ := List.sublist_map_iff.mp sub
  rw [List.length_map] at hp4
  have csm : ∀ c ∈ cs, c ∈ F := fun c h => csub.subset h
  have csl : cs.length ≤ 9 := Nat.le_trans csub.length_le l9
  have wat : Wat F c l ds cs := ⟨Si, ec, by omega, csm, sub_chain okF csub, by omega⟩
  have watF : Wat F c l ds F := ⟨Si, ec, by omega, fun y h => h, okF.2.2.2, by omega⟩
  refine wS_seq ?_
  refine wS_of (fl := .nx) (e := (E1.set 2 (some (.mu .own (penK p4)))).set 7 (some (.nt (cs.map clD)))) (by
    have kt : ∀ e : Sl, kTupN [.tmp (.ls (cs.map clD))] e = some (.nt (cs.map clD), e) := fun e => by simp [kTupN, ctn]
    simp only [z_set, z_then, z_cons, elc, z_nil, kt]
    simp [free_ne_set, fF, lF, -z_free]) ?_
  rw [nxt_nx, go]
  clear elc
  refine wS_for (xs := [cs, F].map fun ws => .tuple (ws.map clD)) (lk := none) (e := (E1.set 2 (some (.mu .own (penK p4)))).set 7 (some (.nt (cs.map clD)))) (by
    simp [T3.kLst, T3.datas, T3.data1, k4, lF, -getElem?_pos]) (WsI (.list (ns.map .int)) F c l ds (p4.t + 2)) ⟨⟨_, rfl, by
      intro ws hw
      simp only [List.mem_cons, List.not_mem_nil, or_false] at hw
      rcases hw with rfl | rfl
      · exact ⟨wat, csl⟩
      · exact ⟨watF, l9⟩⟩, by repeat (first | exact A1 | refine Al.set ?_ rfl), by simpa using k0, ⟨p4, by simp, by simp [lF]⟩, by simpa using k4, by simpa using k5, by simpa using k6⟩ ?_ ?_
  · rintro x rest e ⟨⟨L, er, hL⟩, A, h0, ⟨q, hq, h2⟩, h4, h5, h6⟩
    cases L with
    | nil => simp at er
    | cons ws L =>
      obtain ⟨rfl, er2⟩ : x = .tuple (ws.map clD) ∧ rest = L.map (fun ws => .tuple (ws.map clD)) := by simpa using er
      rw [List.length_cons] at hq
      obtain ⟨W, lw⟩ := hL ws (by simp)
      have fr := A.fre
      have ln := A.len
      simp only [gW, z_gN, z_setR, fr 8 (by decide) (by decide), if_true]
      rw [go]
      obtain ⟨P, tP, nt⟩ := noted_sp W lw
      have sh := show_all Si (by omega) W.hm lw
      have r1 : oReprY [.tuple [.tuple (F.map clD), stD c l, .str (rowS ds), .tuple (ws.map clD)]] = some (.str (PyData.tuple [.tuple (F.map clD), stD c l, .str (rowS ds), .tuple (ws.map clD)]).shown) := by rw [oReprY_t]; exact repr_t sh
      generalize (PyData.tuple [.tuple (F.map clD), stD c l, .str (rowS ds), .tuple (ws.map clD)]).shown = KP at *
      refine wS_seq ?_
      simp [wS, h4, h5, h6, T3.kTup, T3.datas, T3.data1, r1, nt, free_ne_set, fr, ln, -z_free, -getElem?_pos]
      rw [go]
      refine wS_gen fun E hE => ?_
      have AE : Al 0 15 E := by rw [hE]; repeat (first | exact A | refine Al.set ?_ rfl)
      have g0 : E[0]? = some (some (.pd (.list (ns.map .int)))) := by rw [hE]; simpa using h0
      have g2 : E[2]? = some (some (.mu .own (penK q))) := by rw [hE]; simpa using h2
      have g4 : E[4]? = some (some (.nt (F.map clD))) := by rw [hE]; simpa using h4
      have g5 : E[5]? = some (some (.pd (stD c l))) := by rw [hE]; simpa using h5
      have g6 : E[6]? = some (some (.pd (.str (rowS ds)))) := by rw [hE]; simpa using h6
      have g8 : E[8]? = some (some (.pd (.tuple (ws.map clD)))) := by rw [hE]; simp [ln]
      have g9 : E[9]? = some (some (.pd (.str KP))) := by rw [hE]; simp [ln]
      have g10 : E[10]? = some (some (.mu .own (.dk (kvP P)))) := by rw [hE]; simp [ln]
      clear hE
      have lE := AE.len
      have fE := AE.fre
      -- the spots, sorted
      obtain ⟨S1, hS1⟩ : ∃ S1, S1 = (List.range (6 + F.length)).filter fun x => (rollsA F c l ds ws x).isSome := ⟨_, rfl⟩
      have pm := told_perm tP
      rw [← hS1] at pm
      have pw : S1.Pairwise (· ≤ ·) := by rw [hS1]; exact (List.pairwise_lt_range.imp fun h => Nat.le_of_lt h).filter _
      have sr := srt_nats2 pm pw
      have ky : (kvP P).map (fun q => keyD' q.1) = nD (P.map (·.1)) := by simp [kvP, nD, keyD', Function.comp_def]
      have pl := plain_nats (P.map (·.1))
      have smem : ∀ x ∈ S1, x < 15 := fun x hx => by
        rw [hS1] at hx
        have := List.mem_range.mp (List.mem_filter.mp hx).1
        omega
      have slen : S1.length ≤ 15 := by
        rw [hS1]
        exact Nat.le_trans (List.length_filter_le _ _) (by rw [List.length_range]; omega)
      have sn : f_seen_spots [.nt (F.map clD), .pd (stD c l), .pd (.str (rowS ds)), .pd (.tuple (ws.map clD))] = _ := seen_spots_sp W (.pd (.tuple (ws.map clD))) (.inl rfl)
      rw [← hS1] at sn
      have sl : (nD S1).length ≤ 1000 := by simp [nD]; omega
      have so : eThen (eCons (eThen (eCons (eVar 10) eNil) kSrtG) eNil) kTupN E = some (.nt (nD S1), E) := by
        have kt : ∀ e : Sl, kTupN [.tmp (.ls (nD S1))] e = some (.nt (nD S1), e) := fun e => by simp [kTupN, ctn, sl]
        simp only [z_then, z_cons, z_nil, z_var, g10, kSrtG, keysOfCt, ky, pl, if_true, sr, kt]
      refine wS_seq ?_
      refine wS_of (fl := .nx) (e := E.set 11 (some (.nt (nD S1)))) (by
        rw [z_set, so]
        simp [fE, -z_free]) ?_
      rw [nxt_nx, go]
      clear so
      refine wS_gen fun H hH => ?_
      have AH : Al 0 15 H := by rw [hH]; exact AE.set rfl
      have b0 : H[0]? = some (some (.pd (.list (ns.map .int)))) := by rw [hH]; simpa using g0
      have b2 : H[2]? = some (some (.mu .own (penK q))) := by rw [hH]; simpa using g2
      have b4 : H[4]? = some (some (.nt (F.map clD))) := by rw [hH]; simpa using g4
      have b5 : H[5]? = some (some (.pd (stD c l))) := by rw [hH]; simpa using g5
      have b6 : H[6]? = some (some (.pd (.str (rowS ds)))) := by rw [hH]; simpa using g6
      have b8 : H[8]? = some (some (.pd (.tuple (ws.map clD)))) := by rw [hH]; simpa using g8
      have b9 : H[9]? = some (some (.pd (.str KP))) := by rw [hH]; simpa using g9
      have b10 : H[10]? = some (some (.mu .own (.dk (kvP P)))) := by rw [hH]; simpa using g10
      have b11 : H[11]? = some (some (.nt (nD S1))) := by rw [hH]; simp [lE]
      clear hH
      clear g0 g2 g4 g5 g6 g8 g9 g10
      have lH := AH.len
      have fH := AH.fre
      have sh2 := show_two smem slen
      have r2 : oReprY [.list [.tuple (nD S1), .tuple (nD S1)]] = some (.str (PyData.list [.tuple (nD S1), .tuple (nD S1)]).shown) := by rw [oReprY_l]; exact repr_l sh2
      have lc := lcA (it := iRg1 (eCons (eC (.int 2)) eNil)) (g := gN 14) (f := eCall f_seen_spots (eCons (eVar 4) (eCons (eVar 5) (eCons (eVar 6) (eCons (eVar 8) eNil))))) (vs := [14]) (lk := none) (env := H) (e := H) (q := fun j : Nat => .int ((j : Nat) : Int)) (as := List.range 2) (fun _ => .tuple (nD S1)) (rg1_up (n := 2) (by simp) (by decide)) (by decide) (fun j hj => by
        simp [lcO, wipe_at, wipe_free, wipeE_len, lH, b4, b5, b6, b8, sn, Kp.set, -z_free, -getElem?_pos])
      rw [z_unl, show (List.range 2).map (fun _ => PyData.tuple (nD S1)) = [.tuple (nD S1), .tuple (nD S1)] from rfl] at lc
      generalize (PyData.list [.tuple (nD S1), .tuple (nD S1)]).shown = SS2 at *
      refine wS_seq ?_
      refine wS_of (fl := .nx) (e := H) (by simp [lc, b11, r2, kNex, oNeS, T3.kLst, T3.datas, T3.data1, -z_lc, -getElem?_pos]) ?_
      rw [nxt_nx, go]
      clear lc
      -- some spots
      obtain ⟨v, q1, v0, v1, hq1, dv⟩ := draw2_sp q ((6 + F.length : Nat) : Int) (by omega) (by omega) (by omega)
      obtain ⟨x0, rfl⟩ : ∃ x : Nat, v = x := ⟨v.toNat, by omega⟩
      have e6 : (6 : Int) + (F.length : Int) = ((6 + F.length : Nat) : Int) := by omega
      have oc : oLen [.tuple (F.map clD)] = some (.int (F.length : Nat)) := by simp [oLen]
      refine wS_seq ?_
      refine wS_for (xs := nD [0, 5, 6, x0]) (lk := none) (e := H.set 2 (some (.mu .own (penK q1)))) (by
        simp [T3.kLst, T3.datas, T3.data1, b2, b4, oc, kAdd, oI, e6, dv, lH, nD, -getElem?_pos, -Int.natCast_add]) (SpI (.list (ns.map .int)) F c l ds ws P (.str KP) q1) ⟨⟨_, rfl, by
          intro y hy
          simp only [List.mem_cons, List.not_mem_nil, or_false] at hy
          rcases hy with rfl | rfl | rfl | rfl <;> omega⟩, AH.set rfl, by simpa using b0, by simp [lH], by simpa using b4, by simpa using b5, by simpa using b6, by simpa using b8, by simpa using b9, by simpa using b10⟩ ?_ ?_
      · rintro y rest' e ⟨⟨xs, er3, hxs⟩, A, h0, h2, h4, h5, h6, h8, h9, h10⟩
        cases xs with
        | nil => simp [nD] at er3
        | cons x xs =>
          obtain ⟨rfl, er4⟩ : y = .int ((x : Nat) : Int) ∧ rest' = nD xs := by simpa [nD] using er3
          have hx := hxs x (by simp)
          have fr := A.fre
          have ln := A.len
          simp only [gW, z_gN, z_setR, fr 12 (by decide) (by decide), if_true]
          rw [go]
          have sf : f_seen_first [.nt (F.map clD), .pd (stD c l), .pd (.str (rowS ds)), .pd (.tuple (ws.map clD)), .pd (.int ((x : Nat) : Int))] = _ := seen_first_sp W (.pd (.tuple (ws.map clD))) (.inl rfl) hx
          have tg := told_get tP hx
          obtain ⟨s, rs⟩ := repr_off (o := rollsA F c l ds ws x) (fun k hk => by
            have := ((rollsA_spec W hx).1 k hk).2.1
            have : 60 * ds.length ≤ 60 * 16 := Nat.mul_le_mul_left _ dl
            omega)
          have k10 : (e.set 12 (some (.pd (.int ((x : Nat) : Int)))))[10]? = some (some (.mu .own (.dk (kvP P)))) := by simpa using h10
          have dc : isDc (e.set 12 (some (.pd (.int ((x : Nat) : Int))))) (.var 10) = true := by simp [isDc, k10, -getElem?_pos]
          have ky2 : key? (.int ((x : Nat) : Int)) = some (.inl ((x : Nat) : Int)) := rfl
          have rg : rGet (e.set 12 (some (.pd (.int ((x : Nat) : Int))))) (.var 10) (.int ((x : Nat) : Int)) = some (valD (kvP P) (.inl ((x : Nat) : Int))) := by
            simp [rGet, dGet, k10, cGet, ky2, -getElem?_pos]
          generalize valD (kvP P) (.inl ((x : Nat) : Int)) = OV at *
          generalize offD (rollsA F c l ds ws x) = RV at *
          refine wS_of (fl := .nx) (e := e.set 12 (some (.pd (.int ((x : Nat) : Int))))) (by
            simp [h4, h5, h6, h8, h10, ln, sf, dc, rg, tg, rs, kNex, oNeS, -getElem?_pos]) ?_
          exact ⟨⟨xs, er4, fun x hx => hxs x (by simp [hx])⟩, A.set rfl, by simpa using h0, by simpa using h2, by simpa using h4, by simpa using h5, by simpa using h6, by simpa using h8, by simpa using h9, by simpa using h10⟩
      · rintro e ⟨_, A, h0, h2, h4, h5, h6, h8, h9, h10⟩
        rw [z_unl, nxt_nx, go]
        refine wS_of (fl := .nx) (e := e) (by simp [h4, h5, h6, h8, h9, T3.kTup, T3.datas, T3.data1, r1, kNex, oNeS, -getElem?_pos]) ?_
        exact ⟨⟨L, er2, fun ws h => hL ws (by simp [h])⟩, A, h0, ⟨q1, by omega, h2⟩, h4, h5, h6⟩
  · rintro e ⟨_, A, h0, ⟨q, hq, h2⟩, _⟩
    rw [z_unl, ← hTP]
    exact ⟨.inl rfl, A, h0, q, h2, by simp at hq; omega⟩
end
end L39

end
section
set_option Elab.async false
set_option linter.all false
set_option maxRecDepth 100000
open PySem PySem.W PyProof.Rows
set_option maxHeartbeats 0 in
open_top hd39 for PySem.Challenge.rw_tumblemarks_k39_watched_cells

end
section
set_option linter.all false
set_option autoImplicit false
set_option Elab.async false
set_option maxRecDepth 100000
set_option maxHeartbeats 4000000
namespace L39
open PySem L2 T3
noncomputable section
theorem fin {P : Program} {w : World} {K : PySem.W.Frag} {h : Heap} {mg : Str → Option Value} {fa : Addr} (X : K.In h) (G : h.Ns mainGlobals mg) (hfa : mg "law" = some (.ref fa))
    {f0 : Addr} {oc0 kV0 dc0 pm0 cd0 ct0 : Value} {od0 an0 : Option Addr} {sl0 : Array (Option Value)}
    (a0 : PySem.W.nsIn K mainGlobals "is_whole" = some (some (.ref f0))) (l0 : K.lookup f0 = some ⟨oc0, od0, .func (PySem.W.fnOf "is_whole" "is_whole" (defArgs s_is_whole) (defBody s_is_whole) (defScope s_is_whole) .none kV0 dc0 pm0 an0 cd0 ct0), sl0⟩) (c0 : PySem.W.codeIn K cd0 "is_whole" = true) (k0 : PySem.W.keepIn K (.ref f0) = true)
    {f1 : Addr} {oc1 kV1 dc1 pm1 cd1 ct1 : Value} {od1 an1 : Option Addr} {sl1 : Array (Option Value)}
    (a1 : PySem.W.nsIn K mainGlobals "is_cell" = some (some (.ref f1))) (l1 : K.lookup f1 = some ⟨oc1, od1, .func (PySem.W.fnOf "is_cell" "is_cell" (defArgs s_is_cell) (defBody s_is_cell) (defScope s_is_cell) .none kV1 dc1 pm1 an1 cd1 ct1), sl1⟩) (c1 : PySem.W.codeIn K cd1 "is_cell" = true) (k1 : PySem.W.keepIn K (.ref f1) = true)
    {f2 : Addr} {oc2 kV2 dc2 pm2 cd2 ct2 : Value} {od2 an2 : Option Addr} {sl2 : Array (Option Value)}
    (a2 : PySem.W.nsIn K mainGlobals "is_rising" = some (some (.ref f2))) (l2 : K.lookup f2 = some ⟨oc2, od2, .func (PySem.W.fnOf "is_rising" "is_rising" (defArgs s_is_rising) (defBody s_is_rising) (defScope s_is_rising) .none kV2 dc2 pm2 an2 cd2 ct2), sl2⟩) (c2 : PySem.W.codeIn K cd2 "is_rising" = true) (k2 : PySem.W.keepIn K (.ref f2) = true)
    {f3 : Addr} {oc3 kV3 dc3 pm3 cd3 ct3 : Value} {od3 an3 : Option Addr} {sl3 : Array (Option Value)}
    (a3 : PySem.W.nsIn K mainGlobals "is_floor" = some (some (.ref f3))) (l3 : K.lookup f3 = some ⟨oc3, od3, .func (PySem.W.fnOf "is_floor" "is_floor" (defArgs s_is_floor) (defBody s_is_floor) (defScope s_is_floor) .none kV3 dc3 pm3 an3 cd3 ct3), sl3⟩) (c3 : PySem.W.codeIn K cd3 "is_floor" = true) (k3 : PySem.W.keepIn K (.ref f3) = true)
    {f4 : Addr} {oc4 kV4 dc4 pm4 cd4 ct4 : Value} {od4 an4 : Option Addr} {sl4 : Array (Option Value)}
    (a4 : PySem.W.nsIn K mainGlobals "is_cell_of" = some (some (.ref f4))) (l4 : K.lookup f4 = some ⟨oc4, od4, .func (PySem.W.fnOf "is_cell_of" "is_cell_of" (defArgs s_is_cell_of) (defBody s_is_cell_of) (defScope s_is_cell_of) .none kV4 dc4 pm4 an4 cd4 ct4), sl4⟩) (c4 : PySem.W.codeIn K cd4 "is_cell_of" = true) (k4 : PySem.W.keepIn K (.ref f4) = true)
    {f5 : Addr} {oc5 kV5 dc5 pm5 cd5 ct5 : Value} {od5 an5 : Option Addr} {sl5 : Array (Option Value)}
    (a5 : PySem.W.nsIn K mainGlobals "is_lying" = some (some (.ref f5))) (l5 : K.lookup f5 = some ⟨oc5, od5, .func (PySem.W.fnOf "is_lying" "is_lying" (defArgs s_is_lying) (defBody s_is_lying) (defScope s_is_lying) .none kV5 dc5 pm5 an5 cd5 ct5), sl5⟩) (c5 : PySem.W.codeIn K cd5 "is_lying" = true) (k5 : PySem.W.keepIn K (.ref f5) = true)
    {f6 : Addr} {oc6 kV6 dc6 pm6 cd6 ct6 : Value} {od6 an6 : Option Addr} {sl6 : Array (Option Value)}
    (a6 : PySem.W.nsIn K mainGlobals "is_stand" = some (some (.ref f6))) (l6 : K.lookup f6 = some ⟨oc6, od6, .func (PySem.W.fnOf "is_stand" "is_stand" (defArgs s_is_stand) (defBody s_is_stand) (defScope s_is_stand) .none kV6 dc6 pm6 an6 cd6 ct6), sl6⟩) (c6 : PySem.W.codeIn K cd6 "is_stand" = true) (k6 : PySem.W.keepIn K (.ref f6) = true)
    {f7 : Addr} {oc7 kV7 dc7 pm7 cd7 ct7 : Value} {od7 an7 : Option Addr} {sl7 : Array (Option Value)}
    (a7 : PySem.W.nsIn K mainGlobals "is_letter" = some (some (.ref f7))) (l7 : K.lookup f7 = some ⟨oc7, od7, .func (PySem.W.fnOf "is_letter" "is_letter" (defArgs s_is_letter) (defBody s_is_letter) (defScope s_is_letter) .none kV7 dc7 pm7 an7 cd7 ct7), sl7⟩) (c7 : PySem.W.codeIn K cd7 "is_letter" = true) (k7 : PySem.W.keepIn K (.ref f7) = true)
    {f8 : Addr} {oc8 kV8 dc8 pm8 cd8 ct8 : Value} {od8 an8 : Option Addr} {sl8 : Array (Option Value)}
    (a8 : PySem.W.nsIn K mainGlobals "is_row" = some (some (.ref f8))) (l8 : K.lookup f8 = some ⟨oc8, od8, .func (PySem.W.fnOf "is_row" "is_row" (defArgs s_is_row) (defBody s_is_row) (defScope s_is_row) .none kV8 dc8 pm8 an8 cd8 ct8), sl8⟩) (c8 : PySem.W.codeIn K cd8 "is_row" = true) (k8 : PySem.W.keepIn K (.ref f8) = true)
    {f9 : Addr} {oc9 kV9 dc9 pm9 cd9 ct9 : Value} {od9 an9 : Option Addr} {sl9 : Array (Option Value)}
    (a9 : PySem.W.nsIn K mainGlobals "need_floor" = some (some (.ref f9))) (l9 : K.lookup f9 = some ⟨oc9, od9, .func (PySem.W.fnOf "need_floor" "need_floor" (defArgs s_need_floor) (defBody s_need_floor) (defScope s_need_floor) .none kV9 dc9 pm9 an9 cd9 ct9), sl9⟩) (c9 : PySem.W.codeIn K cd9 "need_floor" = true) (k9 : PySem.W.keepIn K (.ref f9) = true)
    {f10 : Addr} {oc10 kV10 dc10 pm10 cd10 ct10 : Value} {od10 an10 : Option Addr} {sl10 : Array (Option Value)}
    (a10 : PySem.W.nsIn K mainGlobals "need_cell" = some (some (.ref f10))) (l10 : K.lookup f10 = some ⟨oc10, od10, .func (PySem.W.fnOf "need_cell" "need_cell" (defArgs s_need_cell) (defBody s_need_cell) (defScope s_need_cell) .none kV10 dc10 pm10 an10 cd10 ct10), sl10⟩) (c10 : PySem.W.codeIn K cd10 "need_cell" = true) (k10 : PySem.W.keepIn K (.ref f10) = true)
    {f11 : Addr} {oc11 kV11 dc11 pm11 cd11 ct11 : Value} {od11 an11 : Option Addr} {sl11 : Array (Option Value)}
    (a11 : PySem.W.nsIn K mainGlobals "need_lying" = some (some (.ref f11))) (l11 : K.lookup f11 = some ⟨oc11, od11, .func (PySem.W.fnOf "need_lying" "need_lying" (defArgs s_need_lying) (defBody s_need_lying) (defScope s_need_lying) .none kV11 dc11 pm11 an11 cd11 ct11), sl11⟩) (c11 : PySem.W.codeIn K cd11 "need_lying" = true) (k11 : PySem.W.keepIn K (.ref f11) = true)
    {f12 : Addr} {oc12 kV12 dc12 pm12 cd12 ct12 : Value} {od12 an12 : Option Addr} {sl12 : Array (Option Value)}
    (a12 : PySem.W.nsIn K mainGlobals "need_stand" = some (some (.ref f12))) (l12 : K.lookup f12 = some ⟨oc12, od12, .func (PySem.W.fnOf "need_stand" "need_stand" (defArgs s_need_stand) (defBody s_need_stand) (defScope s_need_stand) .none kV12 dc12 pm12 an12 cd12 ct12), sl12⟩) (c12 : PySem.W.codeIn K cd12 "need_stand" = true) (k12 : PySem.W.keepIn K (.ref f12) = true)
    {f13 : Addr} {oc13 kV13 dc13 pm13 cd13 ct13 : Value} {od13 an13 : Option Addr} {sl13 : Array (Option Value)}
    (a13 : PySem.W.nsIn K mainGlobals "need_row" = some (some (.ref f13))) (l13 : K.lookup f13 = some ⟨oc13, od13, .func (PySem.W.fnOf "need_row" "need_row" (defArgs s_need_row) (defBody s_need_row) (defScope s_need_row) .none kV13 dc13 pm13 an13 cd13 ct13), sl13⟩) (c13 : PySem.W.codeIn K cd13 "need_row" = true) (k13 : PySem.W.keepIn K (.ref f13) = true)
    {f14 : Addr} {oc14 kV14 dc14 pm14 cd14 ct14 : Value} {od14 an14 : Option Addr} {sl14 : Array (Option Value)}
    (a14 : PySem.W.nsIn K mainGlobals "rolled_cell" = some (some (.ref f14))) (l14 : K.lookup f14 = some ⟨oc14, od14, .func (PySem.W.fnOf "rolled_cell" "rolled_cell" (defArgs s_rolled_cell) (defBody s_rolled_cell) (defScope s_rolled_cell) .none kV14 dc14 pm14 an14 cd14 ct14), sl14⟩) (c14 : PySem.W.codeIn K cd14 "rolled_cell" = true) (k14 : PySem.W.keepIn K (.ref f14) = true)
    {f15 : Addr} {oc15 kV15 dc15 pm15 cd15 ct15 : Value} {od15 an15 : Option Addr} {sl15 : Array (Option Value)}
    (a15 : PySem.W.nsIn K mainGlobals "rolled_lying" = some (some (.ref f15))) (l15 : K.lookup f15 = some ⟨oc15, od15, .func (PySem.W.fnOf "rolled_lying" "rolled_lying" (defArgs s_rolled_lying) (defBody s_rolled_lying) (defScope s_rolled_lying) .none kV15 dc15 pm15 an15 cd15 ct15), sl15⟩) (c15 : PySem.W.codeIn K cd15 "rolled_lying" = true) (k15 : PySem.W.keepIn K (.ref f15) = true)
    {f16 : Addr} {oc16 kV16 dc16 pm16 cd16 ct16 : Value} {od16 an16 : Option Addr} {sl16 : Array (Option Value)}
    (a16 : PySem.W.nsIn K mainGlobals "rolled_stand" = some (some (.ref f16))) (l16 : K.lookup f16 = some ⟨oc16, od16, .func (PySem.W.fnOf "rolled_stand" "rolled_stand" (defArgs s_rolled_stand) (defBody s_rolled_stand) (defScope s_rolled_stand) .none kV16 dc16 pm16 an16 cd16 ct16), sl16⟩) (c16 : PySem.W.codeIn K cd16 "rolled_stand" = true) (k16 : PySem.W.keepIn K (.ref f16) = true)
    {f17 : Addr} {oc17 kV17 dc17 pm17 cd17 ct17 : Value} {od17 an17 : Option Addr} {sl17 : Array (Option Value)}
    (a17 : PySem.W.nsIn K mainGlobals "place_off" = some (some (.ref f17))) (l17 : K.lookup f17 = some ⟨oc17, od17, .func (PySem.W.fnOf "place_off" "place_off" (defArgs s_place_off) (defBody s_place_off) (defScope s_place_off) .none kV17 dc17 pm17 an17 cd17 ct17), sl17⟩) (c17 : PySem.W.codeIn K cd17 "place_off" = true) (k17 : PySem.W.keepIn K (.ref f17) = true)
    {f18 : Addr} {oc18 kV18 dc18 pm18 cd18 ct18 : Value} {od18 an18 : Option Addr} {sl18 : Array (Option Value)}
    (a18 : PySem.W.nsIn K mainGlobals "spots_of" = some (some (.ref f18))) (l18 : K.lookup f18 = some ⟨oc18, od18, .func (PySem.W.fnOf "spots_of" "spots_of" (defArgs s_spots_of) (defBody s_spots_of) (defScope s_spots_of) .none kV18 dc18 pm18 an18 cd18 ct18), sl18⟩) (c18 : PySem.W.codeIn K cd18 "spots_of" = true) (k18 : PySem.W.keepIn K (.ref f18) = true)
    {f19 : Addr} {oc19 kV19 dc19 pm19 cd19 ct19 : Value} {od19 an19 : Option Addr} {sl19 : Array (Option Value)}
    (a19 : PySem.W.nsIn K mainGlobals "spot_of_cell" = some (some (.ref f19))) (l19 : K.lookup f19 = some ⟨oc19, od19, .func (PySem.W.fnOf "spot_of_cell" "spot_of_cell" (defArgs s_spot_of_cell) (defBody s_spot_of_cell) (defScope s_spot_of_cell) .none kV19 dc19 pm19 an19 cd19 ct19), sl19⟩) (c19 : PySem.W.codeIn K cd19 "spot_of_cell" = true) (k19 : PySem.W.keepIn K (.ref f19) = true)
    {f20 : Addr} {oc20 kV20 dc20 pm20 cd20 ct20 : Value} {od20 an20 : Option Addr} {sl20 : Array (Option Value)}
    (a20 : PySem.W.nsIn K mainGlobals "is_spot" = some (some (.ref f20))) (l20 : K.lookup f20 = some ⟨oc20, od20, .func (PySem.W.fnOf "is_spot" "is_spot" (defArgs s_is_spot) (defBody s_is_spot) (defScope s_is_spot) .none kV20 dc20 pm20 an20 cd20 ct20), sl20⟩) (c20 : PySem.W.codeIn K cd20 "is_spot" = true) (k20 : PySem.W.keepIn K (.ref f20) = true)
    {f21 : Addr} {oc21 kV21 dc21 pm21 cd21 ct21 : Value} {od21 an21 : Option Addr} {sl21 : Array (Option Value)}
    (a21 : PySem.W.nsIn K mainGlobals "need_spot" = some (some (.ref f21))) (l21 : K.lookup f21 = some ⟨oc21, od21, .func (PySem.W.fnOf "need_spot" "need_spot" (defArgs s_need_spot) (defBody s_need_spot) (defScope s_need_spot) .none kV21 dc21 pm21 an21 cd21 ct21), sl21⟩) (c21 : PySem.W.codeIn K cd21 "need_spot" = true) (k21 : PySem.W.keepIn K (.ref f21) = true)
    {f22 : Addr} {oc22 kV22 dc22 pm22 cd22 ct22 : Value} {od22 an22 : Option Addr} {sl22 : Array (Option Value)}
    (a22 : PySem.W.nsIn K mainGlobals "trade_at" = some (some (.ref f22))) (l22 : K.lookup f22 = some ⟨oc22, od22, .func (PySem.W.fnOf "trade_at" "trade_at" (defArgs s_trade_at) (defBody s_trade_at) (defScope s_trade_at) .none kV22 dc22 pm22 an22 cd22 ct22), sl22⟩) (c22 : PySem.W.codeIn K cd22 "trade_at" = true) (k22 : PySem.W.keepIn K (.ref f22) = true)
    {f23 : Addr} {oc23 kV23 dc23 pm23 cd23 ct23 : Value} {od23 an23 : Option Addr} {sl23 : Array (Option Value)}
    (a23 : PySem.W.nsIn K mainGlobals "traded_spot" = some (some (.ref f23))) (l23 : K.lookup f23 = some ⟨oc23, od23, .func (PySem.W.fnOf "traded_spot" "traded_spot" (defArgs s_traded_spot) (defBody s_traded_spot) (defScope s_traded_spot) .none kV23 dc23 pm23 an23 cd23 ct23), sl23⟩) (c23 : PySem.W.codeIn K cd23 "traded_spot" = true) (k23 : PySem.W.keepIn K (.ref f23) = true)
    {f24 : Addr} {oc24 kV24 dc24 pm24 cd24 ct24 : Value} {od24 an24 : Option Addr} {sl24 : Array (Option Value)}
    (a24 : PySem.W.nsIn K mainGlobals "trades" = some (some (.ref f24))) (l24 : K.lookup f24 = some ⟨oc24, od24, .func (PySem.W.fnOf "trades" "trades" (defArgs s_trades) (defBody s_trades) (defScope s_trades) .none kV24 dc24 pm24 an24 cd24 ct24), sl24⟩) (c24 : PySem.W.codeIn K cd24 "trades" = true) (k24 : PySem.W.keepIn K (.ref f24) = true)
    {f25 : Addr} {oc25 kV25 dc25 pm25 cd25 ct25 : Value} {od25 an25 : Option Addr} {sl25 : Array (Option Value)}
    (a25 : PySem.W.nsIn K mainGlobals "held_traded" = some (some (.ref f25))) (l25 : K.lookup f25 = some ⟨oc25, od25, .func (PySem.W.fnOf "held_traded" "held_traded" (defArgs s_held_traded) (defBody s_held_traded) (defScope s_held_traded) .none kV25 dc25 pm25 an25 cd25 ct25), sl25⟩) (c25 : PySem.W.codeIn K cd25 "held_traded" = true) (k25 : PySem.W.keepIn K (.ref f25) = true)
    {f26 : Addr} {oc26 kV26 dc26 pm26 cd26 ct26 : Value} {od26 an26 : Option Addr} {sl26 : Array (Option Value)}
    (a26 : PySem.W.nsIn K mainGlobals "exchange_by" = some (some (.ref f26))) (l26 : K.lookup f26 = some ⟨oc26, od26, .func (PySem.W.fnOf "exchange_by" "exchange_by" (defArgs s_exchange_by) (defBody s_exchange_by) (defScope s_exchange_by) .none kV26 dc26 pm26 an26 cd26 ct26), sl26⟩) (c26 : PySem.W.codeIn K cd26 "exchange_by" = true) (k26 : PySem.W.keepIn K (.ref f26) = true)
    {f27 : Addr} {oc27 kV27 dc27 pm27 cd27 ct27 : Value} {od27 an27 : Option Addr} {sl27 : Array (Option Value)}
    (a27 : PySem.W.nsIn K mainGlobals "round_from" = some (some (.ref f27))) (l27 : K.lookup f27 = some ⟨oc27, od27, .func (PySem.W.fnOf "round_from" "round_from" (defArgs s_round_from) (defBody s_round_from) (defScope s_round_from) .none kV27 dc27 pm27 an27 cd27 ct27), sl27⟩) (c27 : PySem.W.codeIn K cd27 "round_from" = true) (k27 : PySem.W.keepIn K (.ref f27) = true)
    {f28 : Addr} {oc28 kV28 dc28 pm28 cd28 ct28 : Value} {od28 an28 : Option Addr} {sl28 : Array (Option Value)}
    (a28 : PySem.W.nsIn K mainGlobals "cell_behind" = some (some (.ref f28))) (l28 : K.lookup f28 = some ⟨oc28, od28, .func (PySem.W.fnOf "cell_behind" "cell_behind" (defArgs s_cell_behind) (defBody s_cell_behind) (defScope s_cell_behind) .none kV28 dc28 pm28 an28 cd28 ct28), sl28⟩) (c28 : PySem.W.codeIn K cd28 "cell_behind" = true) (k28 : PySem.W.keepIn K (.ref f28) = true)
    {f29 : Addr} {oc29 kV29 dc29 pm29 cd29 ct29 : Value} {od29 an29 : Option Addr} {sl29 : Array (Option Value)}
    (a29 : PySem.W.nsIn K mainGlobals "is_endless" = some (some (.ref f29))) (l29 : K.lookup f29 = some ⟨oc29, od29, .func (PySem.W.fnOf "is_endless" "is_endless" (defArgs s_is_endless) (defBody s_is_endless) (defScope s_is_endless) .none kV29 dc29 pm29 an29 cd29 ct29), sl29⟩) (c29 : PySem.W.codeIn K cd29 "is_endless" = true) (k29 : PySem.W.keepIn K (.ref f29) = true)
    {f30 : Addr} {oc30 kV30 dc30 pm30 cd30 ct30 : Value} {od30 an30 : Option Addr} {sl30 : Array (Option Value)}
    (a30 : PySem.W.nsIn K mainGlobals "need_endless" = some (some (.ref f30))) (l30 : K.lookup f30 = some ⟨oc30, od30, .func (PySem.W.fnOf "need_endless" "need_endless" (defArgs s_need_endless) (defBody s_need_endless) (defScope s_need_endless) .none kV30 dc30 pm30 an30 cd30 ct30), sl30⟩) (c30 : PySem.W.codeIn K cd30 "need_endless" = true) (k30 : PySem.W.keepIn K (.ref f30) = true)
    {f31 : Addr} {oc31 kV31 dc31 pm31 cd31 ct31 : Value} {od31 an31 : Option Addr} {sl31 : Array (Option Value)}
    (a31 : PySem.W.nsIn K mainGlobals "is_cells" = some (some (.ref f31))) (l31 : K.lookup f31 = some ⟨oc31, od31, .func (PySem.W.fnOf "is_cells" "is_cells" (defArgs s_is_cells) (defBody s_is_cells) (defScope s_is_cells) .none kV31 dc31 pm31 an31 cd31 ct31), sl31⟩) (c31 : PySem.W.codeIn K cd31 "is_cells" = true) (k31 : PySem.W.keepIn K (.ref f31) = true)
    {f32 : Addr} {oc32 kV32 dc32 pm32 cd32 ct32 : Value} {od32 an32 : Option Addr} {sl32 : Array (Option Value)}
    (a32 : PySem.W.nsIn K mainGlobals "need_cells" = some (some (.ref f32))) (l32 : K.lookup f32 = some ⟨oc32, od32, .func (PySem.W.fnOf "need_cells" "need_cells" (defArgs s_need_cells) (defBody s_need_cells) (defScope s_need_cells) .none kV32 dc32 pm32 an32 cd32 ct32), sl32⟩) (c32 : PySem.W.codeIn K cd32 "need_cells" = true) (k32 : PySem.W.keepIn K (.ref f32) = true)
    {f33 : Addr} {oc33 kV33 dc33 pm33 cd33 ct33 : Value} {od33 an33 : Option Addr} {sl33 : Array (Option Value)}
    (a33 : PySem.W.nsIn K mainGlobals "beat_seen" = some (some (.ref f33))) (l33 : K.lookup f33 = some ⟨oc33, od33, .func (PySem.W.fnOf "beat_seen" "beat_seen" (defArgs s_beat_seen) (defBody s_beat_seen) (defScope s_beat_seen) .none kV33 dc33 pm33 an33 cd33 ct33), sl33⟩) (c33 : PySem.W.codeIn K cd33 "beat_seen" = true) (k33 : PySem.W.keepIn K (.ref f33) = true)
    {f34 : Addr} {oc34 kV34 dc34 pm34 cd34 ct34 : Value} {od34 an34 : Option Addr} {sl34 : Array (Option Value)}
    (a34 : PySem.W.nsIn K mainGlobals "_law_cell_at" = some (some (.ref f34))) (l34 : K.lookup f34 = some ⟨oc34, od34, .func (PySem.W.fnOf "_law_cell_at" "_law_cell_at" (defArgs s__law_cell_at) (defBody s__law_cell_at) (defScope s__law_cell_at) .none kV34 dc34 pm34 an34 cd34 ct34), sl34⟩) (c34 : PySem.W.codeIn K cd34 "_law_cell_at" = true) (k34 : PySem.W.keepIn K (.ref f34) = true)
    {f35 : Addr} {oc35 kV35 dc35 pm35 cd35 ct35 : Value} {od35 an35 : Option Addr} {sl35 : Array (Option Value)}
    (a35 : PySem.W.nsIn K mainGlobals "_law_pen" = some (some (.ref f35))) (l35 : K.lookup f35 = some ⟨oc35, od35, .func (PySem.W.fnOf "_law_pen" "_law_pen" (defArgs s__law_pen) (defBody s__law_pen) (defScope s__law_pen) .none kV35 dc35 pm35 an35 cd35 ct35), sl35⟩) (c35 : PySem.W.codeIn K cd35 "_law_pen" = true) (k35 : PySem.W.keepIn K (.ref f35) = true)
    {f36 : Addr} {oc36 kV36 dc36 pm36 cd36 ct36 : Value} {od36 an36 : Option Addr} {sl36 : Array (Option Value)}
    (a36 : PySem.W.nsIn K mainGlobals "_law_draw" = some (some (.ref f36))) (l36 : K.lookup f36 = some ⟨oc36, od36, .func (PySem.W.fnOf "_law_draw" "_law_draw" (defArgs s__law_draw) (defBody s__law_draw) (defScope s__law_draw) .none kV36 dc36 pm36 an36 cd36 ct36), sl36⟩) (c36 : PySem.W.codeIn K cd36 "_law_draw" = true) (k36 : PySem.W.keepIn K (.ref f36) = true)
    {f37 : Addr} {oc37 kV37 dc37 pm37 cd37 ct37 : Value} {od37 an37 : Option Addr} {sl37 : Array (Option Value)}
    (a37 : PySem.W.nsIn K mainGlobals "_law_block" = some (some (.ref f37))) (l37 : K.lookup f37 = some ⟨oc37, od37, .func (PySem.W.fnOf "_law_block" "_law_block" (defArgs s__law_block) (defBody s__law_block) (defScope s__law_block) .none kV37 dc37 pm37 an37 cd37 ct37), sl37⟩) (c37 : PySem.W.codeIn K cd37 "_law_block" = true) (k37 : PySem.W.keepIn K (.ref f37) = true)
    {f38 : Addr} {oc38 kV38 dc38 pm38 cd38 ct38 : Value} {od38 an38 : Option Addr} {sl38 : Array (Option Value)}
    (a38 : PySem.W.nsIn K mainGlobals "_law_near" = some (some (.ref f38))) (l38 : K.lookup f38 = some ⟨oc38, od38, .func (PySem.W.fnOf "_law_near" "_law_near" (defArgs s__law_near) (defBody s__law_near) (defScope s__law_near) .none kV38 dc38 pm38 an38 cd38 ct38), sl38⟩) (c38 : PySem.W.codeIn K cd38 "_law_near" = true) (k38 : PySem.W.keepIn K (.ref f38) = true)
    {f39 : Addr} {oc39 kV39 dc39 pm39 cd39 ct39 : Value} {od39 an39 : Option Addr} {sl39 : Array (Option Value)}
    (a39 : PySem.W.nsIn K mainGlobals "_law_floor" = some (some (.ref f39))) (l39 : K.lookup f39 = some ⟨oc39, od39, .func (PySem.W.fnOf "_law_floor" "_law_floor" (defArgs s__law_floor) (defBody s__law_floor) (defScope s__law_floor) .none kV39 dc39 pm39 an39 cd39 ct39), sl39⟩) (c39 : PySem.W.codeIn K cd39 "_law_floor" = true) (k39 : PySem.W.keepIn K (.ref f39) = true)
    {f40 : Addr} {oc40 kV40 dc40 pm40 cd40 ct40 : Value} {od40 an40 : Option Addr} {sl40 : Array (Option Value)}
    (a40 : PySem.W.nsIn K mainGlobals "_law_beside" = some (some (.ref f40))) (l40 : K.lookup f40 = some ⟨oc40, od40, .func (PySem.W.fnOf "_law_beside" "_law_beside" (defArgs s__law_beside) (defBody s__law_beside) (defScope s__law_beside) .none kV40 dc40 pm40 an40 cd40 ct40), sl40⟩) (c40 : PySem.W.codeIn K cd40 "_law_beside" = true) (k40 : PySem.W.keepIn K (.ref f40) = true)
    {f41 : Addr} {oc41 kV41 dc41 pm41 cd41 ct41 : Value} {od41 an41 : Option Addr} {sl41 : Array (Option Value)}
    (a41 : PySem.W.nsIn K mainGlobals "_law_rolled" = some (some (.ref f41))) (l41 : K.lookup f41 = some ⟨oc41, od41, .func (PySem.W.fnOf "_law_rolled" "_law_rolled" (defArgs s__law_rolled) (defBody s__law_rolled) (defScope s__law_rolled) .none kV41 dc41 pm41 an41 cd41 ct41), sl41⟩) (c41 : PySem.W.codeIn K cd41 "_law_rolled" = true) (k41 : PySem.W.keepIn K (.ref f41) = true)
    {f42 : Addr} {oc42 kV42 dc42 pm42 cd42 ct42 : Value} {od42 an42 : Option Addr} {sl42 : Array (Option Value)}
    (a42 : PySem.W.nsIn K mainGlobals "_law_rolls" = some (some (.ref f42))) (l42 : K.lookup f42 = some ⟨oc42, od42, .func (PySem.W.fnOf "_law_rolls" "_law_rolls" (defArgs s__law_rolls) (defBody s__law_rolls) (defScope s__law_rolls) .none kV42 dc42 pm42 an42 cd42 ct42), sl42⟩) (c42 : PySem.W.codeIn K cd42 "_law_rolls" = true) (k42 : PySem.W.keepIn K (.ref f42) = true)
    {f43 : Addr} {oc43 kV43 dc43 pm43 cd43 ct43 : Value} {od43 an43 : Option Addr} {sl43 : Array (Option Value)}
    (a43 : PySem.W.nsIn K mainGlobals "_law_stand" = some (some (.ref f43))) (l43 : K.lookup f43 = some ⟨oc43, od43, .func (PySem.W.fnOf "_law_stand" "_law_stand" (defArgs s__law_stand) (defBody s__law_stand) (defScope s__law_stand) .none kV43 dc43 pm43 an43 cd43 ct43), sl43⟩) (c43 : PySem.W.codeIn K cd43 "_law_stand" = true) (k43 : PySem.W.keepIn K (.ref f43) = true)
    {f44 : Addr} {oc44 kV44 dc44 pm44 cd44 ct44 : Value} {od44 an44 : Option Addr} {sl44 : Array (Option Value)}
    (a44 : PySem.W.nsIn K mainGlobals "_law_walk" = some (some (.ref f44))) (l44 : K.lookup f44 = some ⟨oc44, od44, .func (PySem.W.fnOf "_law_walk" "_law_walk" (defArgs s__law_walk) (defBody s__law_walk) (defScope s__law_walk) .none kV44 dc44 pm44 an44 cd44 ct44), sl44⟩) (c44 : PySem.W.codeIn K cd44 "_law_walk" = true) (k44 : PySem.W.keepIn K (.ref f44) = true)
    {f45 : Addr} {oc45 kV45 dc45 pm45 cd45 ct45 : Value} {od45 an45 : Option Addr} {sl45 : Array (Option Value)}
    (a45 : PySem.W.nsIn K mainGlobals "_law_back_to" = some (some (.ref f45))) (l45 : K.lookup f45 = some ⟨oc45, od45, .func (PySem.W.fnOf "_law_back_to" "_law_back_to" (defArgs s__law_back_to) (defBody s__law_back_to) (defScope s__law_back_to) .none kV45 dc45 pm45 an45 cd45 ct45), sl45⟩) (c45 : PySem.W.codeIn K cd45 "_law_back_to" = true) (k45 : PySem.W.keepIn K (.ref f45) = true)
    {f46 : Addr} {oc46 kV46 dc46 pm46 cd46 ct46 : Value} {od46 an46 : Option Addr} {sl46 : Array (Option Value)}
    (a46 : PySem.W.nsIn K mainGlobals "_law_closed" = some (some (.ref f46))) (l46 : K.lookup f46 = some ⟨oc46, od46, .func (PySem.W.fnOf "_law_closed" "_law_closed" (defArgs s__law_closed) (defBody s__law_closed) (defScope s__law_closed) .none kV46 dc46 pm46 an46 cd46 ct46), sl46⟩) (c46 : PySem.W.codeIn K cd46 "_law_closed" = true) (k46 : PySem.W.keepIn K (.ref f46) = true)
    {f47 : Addr} {oc47 kV47 dc47 pm47 cd47 ct47 : Value} {od47 an47 : Option Addr} {sl47 : Array (Option Value)}
    (a47 : PySem.W.nsIn K mainGlobals "_law_noted" = some (some (.ref f47))) (l47 : K.lookup f47 = some ⟨oc47, od47, .func (PySem.W.fnOf "_law_noted" "_law_noted" (defArgs s__law_noted) (defBody s__law_noted) (defScope s__law_noted) .none kV47 dc47 pm47 an47 cd47 ct47), sl47⟩) (c47 : PySem.W.codeIn K cd47 "_law_noted" = true) (k47 : PySem.W.keepIn K (.ref f47) = true)
    {f48 : Addr} {oc48 kV48 dc48 pm48 cd48 ct48 : Value} {od48 an48 : Option Addr} {sl48 : Array (Option Value)}
    (a48 : PySem.W.nsIn K mainGlobals "need_let" = some (some (.ref f48))) (l48 : K.lookup f48 = some ⟨oc48, od48, .func (PySem.W.fnOf "need_let" "need_let" (defArgs s_need_let) (defBody s_need_let) (defScope s_need_let) .none kV48 dc48 pm48 an48 cd48 ct48), sl48⟩) (c48 : PySem.W.codeIn K cd48 "need_let" = true) (k48 : PySem.W.keepIn K (.ref f48) = true)
    {f49 : Addr} {oc49 kV49 dc49 pm49 cd49 ct49 : Value} {od49 an49 : Option Addr} {sl49 : Array (Option Value)}
    (a49 : PySem.W.nsIn K mainGlobals "stand_behind" = some (some (.ref f49))) (l49 : K.lookup f49 = some ⟨oc49, od49, .func (PySem.W.fnOf "stand_behind" "stand_behind" (defArgs s_stand_behind) (defBody s_stand_behind) (defScope s_stand_behind) .none kV49 dc49 pm49 an49 cd49 ct49), sl49⟩) (c49 : PySem.W.codeIn K cd49 "stand_behind" = true) (k49 : PySem.W.keepIn K (.ref f49) = true)
    {f50 : Addr} {oc50 kV50 dc50 pm50 cd50 ct50 : Value} {od50 an50 : Option Addr} {sl50 : Array (Option Value)}
    (a50 : PySem.W.nsIn K mainGlobals "exchange" = some (some (.ref f50))) (l50 : K.lookup f50 = some ⟨oc50, od50, .func (PySem.W.fnOf "exchange" "exchange" (defArgs s_exchange) (defBody s_exchange) (defScope s_exchange) .none kV50 dc50 pm50 an50 cd50 ct50), sl50⟩) (c50 : PySem.W.codeIn K cd50 "exchange" = true) (k50 : PySem.W.keepIn K (.ref f50) = true)
    {f51 : Addr} {oc51 kV51 dc51 pm51 cd51 ct51 : Value} {od51 an51 : Option Addr} {sl51 : Array (Option Value)}
    (a51 : PySem.W.nsIn K mainGlobals "turn_plays" = some (some (.ref f51))) (l51 : K.lookup f51 = some ⟨oc51, od51, .func (PySem.W.fnOf "turn_plays" "turn_plays" (defArgs s_turn_plays) (defBody s_turn_plays) (defScope s_turn_plays) .none kV51 dc51 pm51 an51 cd51 ct51), sl51⟩) (c51 : PySem.W.codeIn K cd51 "turn_plays" = true) (k51 : PySem.W.keepIn K (.ref f51) = true)
    {f52 : Addr} {oc52 kV52 dc52 pm52 cd52 ct52 : Value} {od52 an52 : Option Addr} {sl52 : Array (Option Value)}
    (a52 : PySem.W.nsIn K mainGlobals "rolls_seen" = some (some (.ref f52))) (l52 : K.lookup f52 = some ⟨oc52, od52, .func (PySem.W.fnOf "rolls_seen" "rolls_seen" (defArgs s_rolls_seen) (defBody s_rolls_seen) (defScope s_rolls_seen) .none kV52 dc52 pm52 an52 cd52 ct52), sl52⟩) (c52 : PySem.W.codeIn K cd52 "rolls_seen" = true) (k52 : PySem.W.keepIn K (.ref f52) = true)
    {f53 : Addr} {oc53 kV53 dc53 pm53 cd53 ct53 : Value} {od53 an53 : Option Addr} {sl53 : Array (Option Value)}
    (a53 : PySem.W.nsIn K mainGlobals "seen_spots" = some (some (.ref f53))) (l53 : K.lookup f53 = some ⟨oc53, od53, .func (PySem.W.fnOf "seen_spots" "seen_spots" (defArgs s_seen_spots) (defBody s_seen_spots) (defScope s_seen_spots) .none kV53 dc53 pm53 an53 cd53 ct53), sl53⟩) (c53 : PySem.W.codeIn K cd53 "seen_spots" = true) (k53 : PySem.W.keepIn K (.ref f53) = true)
    {f54 : Addr} {oc54 kV54 dc54 pm54 cd54 ct54 : Value} {od54 an54 : Option Addr} {sl54 : Array (Option Value)}
    (a54 : PySem.W.nsIn K mainGlobals "seen_first" = some (some (.ref f54))) (l54 : K.lookup f54 = some ⟨oc54, od54, .func (PySem.W.fnOf "seen_first" "seen_first" (defArgs s_seen_first) (defBody s_seen_first) (defScope s_seen_first) .none kV54 dc54 pm54 an54 cd54 ct54), sl54⟩) (c54 : PySem.W.codeIn K cd54 "seen_first" = true) (k54 : PySem.W.keepIn K (.ref f54) = true)
    {f55 : Addr} {oc55 kV55 dc55 pm55 cd55 ct55 : Value} {od55 an55 : Option Addr} {sl55 : Array (Option Value)}
    (a55 : PySem.W.nsIn K mainGlobals "law" = some (some (.ref f55))) (l55 : K.lookup f55 = some ⟨oc55, od55, .func (PySem.W.fnOf "law" "law" (defArgs s_law) (defBody s_law) (defScope s_law) .none kV55 dc55 pm55 an55 cd55 ct55), sl55⟩) (c55 : PySem.W.codeIn K cd55 "law" = true) (k55 : PySem.W.keepIn K (.ref f55) = true)
    (z_isinstance : PySem.W.nsIn K mainGlobals "isinstance" = some none)
    (z_bool : PySem.W.nsIn K mainGlobals "bool" = some none)
    (z_int : PySem.W.nsIn K mainGlobals "int" = some none)
    (z_len : PySem.W.nsIn K mainGlobals "len" = some none)
    (z_tuple : PySem.W.nsIn K mainGlobals "tuple" = some none)
    (z_all : PySem.W.nsIn K mainGlobals "all" = some none)
    (z_zip : PySem.W.nsIn K mainGlobals "zip" = some none)
    (z_str : PySem.W.nsIn K mainGlobals "str" = some none)
    (z_enumerate : PySem.W.nsIn K mainGlobals "enumerate" = some none)
    (z_range : PySem.W.nsIn K mainGlobals "range" = some none)
    (z_list : PySem.W.nsIn K mainGlobals "list" = some none)
    (z_max : PySem.W.nsIn K mainGlobals "max" = some none)
    (z_sorted : PySem.W.nsIn K mainGlobals "sorted" = some none)
    (z_set : PySem.W.nsIn K mainGlobals "set" = some none)
    (z_min : PySem.W.nsIn K mainGlobals "min" = some none)
    (z_repr : PySem.W.nsIn K mainGlobals "repr" = some none)
    {u_LAST_LINE : Value} (ca_LAST_LINE : PySem.W.nsIn K mainGlobals "LAST_LINE" = some (some u_LAST_LINE)) (cb_LAST_LINE : kvB K 9 u_LAST_LINE v_LAST_LINE = true)
    {u_MOST_CELLS : Value} (ca_MOST_CELLS : PySem.W.nsIn K mainGlobals "MOST_CELLS" = some (some u_MOST_CELLS)) (cb_MOST_CELLS : kvB K 9 u_MOST_CELLS v_MOST_CELLS = true)
    {u_LYINGS : Value} (ca_LYINGS : PySem.W.nsIn K mainGlobals "LYINGS" = some (some u_LYINGS)) (cb_LYINGS : kvB K 9 u_LYINGS v_LYINGS = true)
    {u_OPPOSITE_SUM : Value} (ca_OPPOSITE_SUM : PySem.W.nsIn K mainGlobals "OPPOSITE_SUM" = some (some u_OPPOSITE_SUM)) (cb_OPPOSITE_SUM : kvB K 9 u_OPPOSITE_SUM v_OPPOSITE_SUM = true)
    {u_LETTERS : Value} (ca_LETTERS : PySem.W.nsIn K mainGlobals "LETTERS" = some (some u_LETTERS)) (cb_LETTERS : kvB K 9 u_LETTERS v_LETTERS = true)
    {u_FACES : Value} (ca_FACES : PySem.W.nsIn K mainGlobals "FACES" = some (some u_FACES)) (cb_FACES : kvB K 9 u_FACES v_FACES = true)
    {d_STEPS : Addr} {es_STEPS : Array DictEntry} {n_STEPS : Nat} (da_STEPS : PySem.W.nsIn K mainGlobals "STEPS" = some (some (.ref d_STEPS))) (dl_STEPS : K.lookup d_STEPS = some ⟨.type "dict", none, .dict es_STEPS n_STEPS, #[]⟩) (dk_STEPS : PySem.W.KeysLit w.params es_STEPS.toList) (db_STEPS : kdB K d_STEPS v_STEPS = true) :
    ∃ fd : FuncData, (∀ (s : Shared) (v : Value), BindsTo s fd ⟨[v], []⟩ [("_law_script", v)]) ∧ ∀ base : Heap, K.In base → base.Ns mainGlobals mg → FnG P w K mg base 9 fa fd ["_law_script"] (spF K f_law 1) := by
  have e := hfa.symm.trans (PySem.W.mg_of X G a55)
  cases e
  have Z_isinstance := PySem.W.mg_none_of X G z_isinstance
  have Z_bool := PySem.W.mg_none_of X G z_bool
  have Z_int := PySem.W.mg_none_of X G z_int
  have Z_len := PySem.W.mg_none_of X G z_len
  have Z_tuple := PySem.W.mg_none_of X G z_tuple
  have Z_all := PySem.W.mg_none_of X G z_all
  have Z_zip := PySem.W.mg_none_of X G z_zip
  have Z_str := PySem.W.mg_none_of X G z_str
  have Z_enumerate := PySem.W.mg_none_of X G z_enumerate
  have Z_range := PySem.W.mg_none_of X G z_range
  have Z_list := PySem.W.mg_none_of X G z_list
  have Z_max := PySem.W.mg_none_of X G z_max
  have Z_sorted := PySem.W.mg_none_of X G z_sorted
  have Z_set := PySem.W.mg_none_of X G z_set
  have Z_min := PySem.W.mg_none_of X G z_min
  have Z_repr := PySem.W.mg_none_of X G z_repr
  have C_LAST_LINE : KC K mg "LAST_LINE" v_LAST_LINE := kc_by X G ca_LAST_LINE cb_LAST_LINE
  have C_MOST_CELLS : KC K mg "MOST_CELLS" v_MOST_CELLS := kc_by X G ca_MOST_CELLS cb_MOST_CELLS
  have C_LYINGS : KC K mg "LYINGS" v_LYINGS := kc_by X G ca_LYINGS cb_LYINGS
  have C_OPPOSITE_SUM : KC K mg "OPPOSITE_SUM" v_OPPOSITE_SUM := kc_by X G ca_OPPOSITE_SUM cb_OPPOSITE_SUM
  have C_LETTERS : KC K mg "LETTERS" v_LETTERS := kc_by X G ca_LETTERS cb_LETTERS
  have C_FACES : KC K mg "FACES" v_FACES := kc_by X G ca_FACES cb_FACES
  have D_STEPS : KD K w mg "STEPS" v_STEPS := kd_mk X G da_STEPS dl_STEPS dk_STEPS db_STEPS
  have A_is_whole : At0 K mg "is_whole" s_is_whole ["thing", "most"] := at0_mk X G a0 l0 c0 k0 fun _ _ _ _ _ _ us hl => match us, hl with | [_, _], _ => rfl
  have A_is_cell : At0 K mg "is_cell" s_is_cell ["thing"] := at0_mk X G a1 l1 c1 k1 fun _ _ _ _ _ _ us hl => match us, hl with | [_], _ => rfl
  have A_is_rising : At0 K mg "is_rising" s_is_rising ["things"] := at0_mk X G a2 l2 c2 k2 fun _ _ _ _ _ _ us hl => match us, hl with | [_], _ => rfl
  have A_is_floor : At0 K mg "is_floor" s_is_floor ["thing"] := at0_mk X G a3 l3 c3 k3 fun _ _ _ _ _ _ us hl => match us, hl with | [_], _ => rfl
  have A_is_cell_of : At0 K mg "is_cell_of" s_is_cell_of ["floor", "thing"] := at0_mk X G a4 l4 c4 k4 fun _ _ _ _ _ _ us hl => match us, hl with | [_, _], _ => rfl
  have A_is_lying : At0 K mg "is_lying" s_is_lying ["thing"] := at0_mk X G a5 l5 c5 k5 fun _ _ _ _ _ _ us hl => match us, hl with | [_], _ => rfl
  have A_is_stand : At0 K mg "is_stand" s_is_stand ["floor", "thing"] := at0_mk X G a6 l6 c6 k6 fun _ _ _ _ _ _ us hl => match us, hl with | [_, _], _ => rfl
  have A_is_letter : At0 K mg "is_letter" s_is_letter ["thing"] := at0_mk X G a7 l7 c7 k7 fun _ _ _ _ _ _ us hl => match us, hl with | [_], _ => rfl
  have A_is_row : At0 K mg "is_row" s_is_row ["thing"] := at0_mk X G a8 l8 c8 k8 fun _ _ _ _ _ _ us hl => match us, hl with | [_], _ => rfl
  have A_need_floor : At0 K mg "need_floor" s_need_floor ["floor"] := at0_mk X G a9 l9 c9 k9 fun _ _ _ _ _ _ us hl => match us, hl with | [_], _ => rfl
  have A_need_cell : At0 K mg "need_cell" s_need_cell ["floor", "cell"] := at0_mk X G a10 l10 c10 k10 fun _ _ _ _ _ _ us hl => match us, hl with | [_, _], _ => rfl
  have A_need_lying : At0 K mg "need_lying" s_need_lying ["lying"] := at0_mk X G a11 l11 c11 k11 fun _ _ _ _ _ _ us hl => match us, hl with | [_], _ => rfl
  have A_need_stand : At0 K mg "need_stand" s_need_stand ["floor", "stand"] := at0_mk X G a12 l12 c12 k12 fun _ _ _ _ _ _ us hl => match us, hl with | [_, _], _ => rfl
  have A_need_row : At0 K mg "need_row" s_need_row ["row"] := at0_mk X G a13 l13 c13 k13 fun _ _ _ _ _ _ us hl => match us, hl with | [_], _ => rfl
  have A_rolled_cell : At0 K mg "rolled_cell" s_rolled_cell ["cell", "letter"] := at0_mk X G a14 l14 c14 k14 fun _ _ _ _ _ _ us hl => match us, hl with | [_, _], _ => rfl
  have A_rolled_lying : At0 K mg "rolled_lying" s_rolled_lying ["lying", "letter"] := at0_mk X G a15 l15 c15 k15 fun _ _ _ _ _ _ us hl => match us, hl with | [_, _], _ => rfl
  have A_rolled_stand : At0 K mg "rolled_stand" s_rolled_stand ["stand", "letter"] := at0_mk X G a16 l16 c16 k16 fun _ _ _ _ _ _ us hl => match us, hl with | [_, _], _ => rfl
  have A_place_off : At0 K mg "place_off" s_place_off ["floor", "cell", "row"] := at0_mk X G a17 l17 c17 k17 fun _ _ _ _ _ _ us hl => match us, hl with | [_, _, _], _ => rfl
  have A_spots_of : At0 K mg "spots_of" s_spots_of ["floor"] := at0_mk X G a18 l18 c18 k18 fun _ _ _ _ _ _ us hl => match us, hl with | [_], _ => rfl
  have A_spot_of_cell : At0 K mg "spot_of_cell" s_spot_of_cell ["floor", "cell"] := at0_mk X G a19 l19 c19 k19 fun _ _ _ _ _ _ us hl => match us, hl with | [_, _], _ => rfl
  have A_is_spot : At0 K mg "is_spot" s_is_spot ["floor", "thing"] := at0_mk X G a20 l20 c20 k20 fun _ _ _ _ _ _ us hl => match us, hl with | [_, _], _ => rfl
  have A_need_spot : At0 K mg "need_spot" s_need_spot ["floor", "spot"] := at0_mk X G a21 l21 c21 k21 fun _ _ _ _ _ _ us hl => match us, hl with | [_, _], _ => rfl
  have A_trade_at : At0 K mg "trade_at" s_trade_at ["floor", "stand"] := at0_mk X G a22 l22 c22 k22 fun _ _ _ _ _ _ us hl => match us, hl with | [_, _], _ => rfl
  have A_traded_spot : At0 K mg "traded_spot" s_traded_spot ["trade", "spot"] := at0_mk X G a23 l23 c23 k23 fun _ _ _ _ _ _ us hl => match us, hl with | [_, _], _ => rfl
  have A_trades : At0 K mg "trades" s_trades ["floor", "stand", "row"] := at0_mk X G a24 l24 c24 k24 fun _ _ _ _ _ _ us hl => match us, hl with | [_, _, _], _ => rfl
  have A_held_traded : At0 K mg "held_traded" s_held_traded ["traded", "held"] := at0_mk X G a25 l25 c25 k25 fun _ _ _ _ _ _ us hl => match us, hl with | [_, _], _ => rfl
  have A_exchange_by : At0 K mg "exchange_by" s_exchange_by ["traded", "spots"] := at0_mk X G a26 l26 c26 k26 fun _ _ _ _ _ _ us hl => match us, hl with | [_, _], _ => rfl
  have A_round_from : At0 K mg "round_from" s_round_from ["exchanged", "first"] := at0_mk X G a27 l27 c27 k27 fun _ _ _ _ _ _ us hl => match us, hl with | [_, _], _ => rfl
  have A_cell_behind : At0 K mg "cell_behind" s_cell_behind ["cell", "row"] := at0_mk X G a28 l28 c28 k28 fun _ _ _ _ _ _ us hl => match us, hl with | [_, _], _ => rfl
  have A_is_endless : At0 K mg "is_endless" s_is_endless ["floor", "cell", "row"] := at0_mk X G a29 l29 c29 k29 fun _ _ _ _ _ _ us hl => match us, hl with | [_, _, _], _ => rfl
  have A_need_endless : At0 K mg "need_endless" s_need_endless ["floor", "cell", "row"] := at0_mk X G a30 l30 c30 k30 fun _ _ _ _ _ _ us hl => match us, hl with | [_, _, _], _ => rfl
  have A_is_cells : At0 K mg "is_cells" s_is_cells ["floor", "thing"] := at0_mk X G a31 l31 c31 k31 fun _ _ _ _ _ _ us hl => match us, hl with | [_, _], _ => rfl
  have A_need_cells : At0 K mg "need_cells" s_need_cells ["floor", "cells"] := at0_mk X G a32 l32 c32 k32 fun _ _ _ _ _ _ us hl => match us, hl with | [_, _], _ => rfl
  have A_beat_seen : At0 K mg "beat_seen" s_beat_seen ["traded", "watched", "spot"] := at0_mk X G a33 l33 c33 k33 fun _ _ _ _ _ _ us hl => match us, hl with | [_, _, _], _ => rfl
  have A__law_cell_at : At0 K mg "_law_cell_at" s__law_cell_at ["_law_script", "_law_k"] := at0_mk X G a34 l34 c34 k34 fun _ _ _ _ _ _ us hl => match us, hl with | [_, _], _ => rfl
  have A__law_pen : At0 K mg "_law_pen" s__law_pen ["_law_cell"] := at0_mk X G a35 l35 c35 k35 fun _ _ _ _ _ _ us hl => match us, hl with | [_], _ => rfl
  have A__law_draw : At0 K mg "_law_draw" s__law_draw ["_law_pen_here", "_law_many"] := at0_mk X G a36 l36 c36 k36 fun _ _ _ _ _ _ us hl => match us, hl with | [_, _], _ => rfl
  have A__law_block : At0 K mg "_law_block" s__law_block ["_law_pen_here", "_law_wide", "_law_high"] := at0_mk X G a37 l37 c37 k37 fun _ _ _ _ _ _ us hl => match us, hl with | [_, _, _], _ => rfl
  have A__law_near : At0 K mg "_law_near" s__law_near ["_law_cells"] := at0_mk X G a38 l38 c38 k38 fun _ _ _ _ _ _ us hl => match us, hl with | [_], _ => rfl
  have A__law_floor : At0 K mg "_law_floor" s__law_floor ["_law_pen_here"] := at0_mk X G a39 l39 c39 k39 fun _ _ _ _ _ _ us hl => match us, hl with | [_], _ => rfl
  have A__law_beside : At0 K mg "_law_beside" s__law_beside ["_law_cell", "_law_letter"] := at0_mk X G a40 l40 c40 k40 fun _ _ _ _ _ _ us hl => match us, hl with | [_, _], _ => rfl
  have A__law_rolled : At0 K mg "_law_rolled" s__law_rolled ["_law_lying", "_law_letter"] := at0_mk X G a41 l41 c41 k41 fun _ _ _ _ _ _ us hl => match us, hl with | [_, _], _ => rfl
  have A__law_rolls : At0 K mg "_law_rolls" s__law_rolls ["_law_floor_here", "_law_stand_here", "_law_row", "_law_now"] := at0_mk X G a42 l42 c42 k42 fun _ _ _ _ _ _ us hl => match us, hl with | [_, _, _, _], _ => rfl
  have A__law_stand : At0 K mg "_law_stand" s__law_stand ["_law_pen_here", "_law_floor_here"] := at0_mk X G a43 l43 c43 k43 fun _ _ _ _ _ _ us hl => match us, hl with | [_, _], _ => rfl
  have A__law_walk : At0 K mg "_law_walk" s__law_walk ["_law_pen_here", "_law_floor_here", "_law_cell", "_law_most"] := at0_mk X G a44 l44 c44 k44 fun _ _ _ _ _ _ us hl => match us, hl with | [_, _, _, _], _ => rfl
  have A__law_back_to : At0 K mg "_law_back_to" s__law_back_to ["_law_floor_here", "_law_cell", "_law_goal"] := at0_mk X G a45 l45 c45 k45 fun _ _ _ _ _ _ us hl => match us, hl with | [_, _, _], _ => rfl
  have A__law_closed : At0 K mg "_law_closed" s__law_closed ["_law_pen_here", "_law_floor_here", "_law_stand_here", "_law_most"] := at0_mk X G a46 l46 c46 k46 fun _ _ _ _ _ _ us hl => match us, hl with | [_, _, _, _], _ => rfl
  have A__law_noted : At0 K mg "_law_noted" s__law_noted ["_law_floor_here", "_law_stand_here", "_law_row", "_law_cells"] := at0_mk X G a47 l47 c47 k47 fun _ _ _ _ _ _ us hl => match us, hl with | [_, _, _, _], _ => rfl
  have A_need_let : At0 K mg "need_let" s_need_let ["floor", "cell", "row"] := at0_mk X G a48 l48 c48 k48 fun _ _ _ _ _ _ us hl => match us, hl with | [_, _, _], _ => rfl
  have A_stand_behind : At0 K mg "stand_behind" s_stand_behind ["floor", "cell", "lying", "row"] := at0_mk X G a49 l49 c49 k49 fun _ _ _ _ _ _ us hl => match us, hl with | [_, _, _, _], _ => rfl
  have A_exchange : At0 K mg "exchange" s_exchange ["floor", "stand", "row"] := at0_mk X G a50 l50 c50 k50 fun _ _ _ _ _ _ us hl => match us, hl with | [_, _, _], _ => rfl
  have A_turn_plays : At0 K mg "turn_plays" s_turn_plays ["floor", "stand", "row"] := at0_mk X G a51 l51 c51 k51 fun _ _ _ _ _ _ us hl => match us, hl with | [_, _, _], _ => rfl
  have A_rolls_seen : At0 K mg "rolls_seen" s_rolls_seen ["floor", "stand", "row", "cells", "spot"] := at0_mk X G a52 l52 c52 k52 fun _ _ _ _ _ _ us hl => match us, hl with | [_, _, _, _, _], _ => rfl
  have A_seen_spots : At0 K mg "seen_spots" s_seen_spots ["floor", "stand", "row", "cells"] := at0_mk X G a53 l53 c53 k53 fun _ _ _ _ _ _ us hl => match us, hl with | [_, _, _, _], _ => rfl
  have A_seen_first : At0 K mg "seen_first" s_seen_first ["floor", "stand", "row", "cells", "spot"] := at0_mk X G a54 l54 c54 k54 fun _ _ _ _ _ _ us hl => match us, hl with | [_, _, _, _, _], _ => rfl
  refine ⟨PySem.W.fnOf "law" "law" (defArgs s_law) (defBody s_law) (defScope s_law) .none kV55 dc55 pm55 an55 cd55 ct55, fun s v => .of_eq rfl, fun base _ _ => ?_⟩
  have H_is_whole : Has P w K mg base "is_whole" 2 f_is_whole 1 := p_is_whole A_is_whole Z_isinstance Z_bool Z_int
  have H_is_cell : Has P w K mg base "is_cell" 1 f_is_cell 2 := p_is_cell A_is_cell H_is_whole Z_len Z_isinstance Z_tuple C_LAST_LINE
  have H_is_rising : Has P w K mg base "is_rising" 1 f_is_rising 1 := p_is_rising A_is_rising Z_all Z_zip
  have H_is_floor : Has P w K mg base "is_floor" 1 f_is_floor 3 := p_is_floor A_is_floor H_is_rising H_is_cell Z_len Z_isinstance Z_tuple Z_all C_MOST_CELLS
  have H_is_cell_of : Has P w K mg base "is_cell_of" 2 f_is_cell_of 3 := p_is_cell_of A_is_cell_of H_is_cell
  have H_is_lying : Has P w K mg base "is_lying" 1 f_is_lying 2 := p_is_lying A_is_lying H_is_whole Z_isinstance Z_tuple Z_all C_LYINGS C_OPPOSITE_SUM
  have H_is_stand : Has P w K mg base "is_stand" 2 f_is_stand 4 := p_is_stand A_is_stand H_is_lying H_is_cell_of Z_len Z_isinstance Z_tuple
  have H_is_letter : Has P w K mg base "is_letter" 1 f_is_letter 1 := p_is_letter A_is_letter Z_isinstance Z_str C_LETTERS
  have H_is_row : Has P w K mg base "is_row" 1 f_is_row 2 := p_is_row A_is_row H_is_letter Z_all Z_isinstance Z_str
  have H_need_floor : Has P w K mg base "need_floor" 1 f_need_floor 4 := p_need_floor A_need_floor H_is_floor
  have H_need_cell : Has P w K mg base "need_cell" 2 f_need_cell 4 := p_need_cell A_need_cell H_is_cell_of
  have H_need_lying : Has P w K mg base "need_lying" 1 f_need_lying 3 := p_need_lying A_need_lying H_is_lying
  have H_need_stand : Has P w K mg base "need_stand" 2 f_need_stand 5 := p_need_stand A_need_stand H_is_stand
  have H_need_row : Has P w K mg base "need_row" 1 f_need_row 3 := p_need_row A_need_row H_is_row
  have H_rolled_cell : Has P w K mg base "rolled_cell" 2 f_rolled_cell 1 := p_rolled_cell A_rolled_cell D_STEPS
  have H_rolled_lying : Has P w K mg base "rolled_lying" 2 f_rolled_lying 1 := p_rolled_lying A_rolled_lying C_OPPOSITE_SUM
  have H_rolled_stand : Has P w K mg base "rolled_stand" 2 f_rolled_stand 2 := p_rolled_stand A_rolled_stand H_rolled_lying H_rolled_cell
  have H_place_off : Has P w K mg base "place_off" 3 f_place_off 2 := p_place_off A_place_off H_rolled_cell Z_enumerate
  have H_spots_of : Has P w K mg base "spots_of" 1 f_spots_of 1 := p_spots_of A_spots_of Z_tuple Z_range Z_len C_FACES
  have H_spot_of_cell : Has P w K mg base "spot_of_cell" 2 f_spot_of_cell 1 := p_spot_of_cell A_spot_of_cell C_FACES
  have H_is_spot : Has P w K mg base "is_spot" 2 f_is_spot 2 := p_is_spot A_is_spot H_is_whole Z_len C_FACES
  have H_need_spot : Has P w K mg base "need_spot" 2 f_need_spot 3 := p_need_spot A_need_spot H_is_spot
  have H_trade_at : Has P w K mg base "trade_at" 2 f_trade_at 2 := p_trade_at A_trade_at H_spot_of_cell
  have H_traded_spot : Has P w K mg base "traded_spot" 2 f_traded_spot 1 := p_traded_spot A_traded_spot 
  have H_trades : Has P w K mg base "trades" 3 f_trades 3 := p_trades A_trades H_rolled_stand H_trade_at
  have H_held_traded : Has P w K mg base "held_traded" 2 f_held_traded 1 := p_held_traded A_held_traded Z_list Z_tuple
  have H_exchange_by : Has P w K mg base "exchange_by" 2 f_exchange_by 2 := p_exchange_by A_exchange_by H_held_traded Z_tuple
  have H_round_from : Has P w K mg base "round_from" 2 f_round_from 1 := p_round_from A_round_from Z_tuple
  have H_cell_behind : Has P w K mg base "cell_behind" 2 f_cell_behind 2 := p_cell_behind A_cell_behind H_rolled_cell
  have H_is_endless : Has P w K mg base "is_endless" 3 f_is_endless 3 := p_is_endless A_is_endless H_cell_behind H_place_off
  have H_need_endless : Has P w K mg base "need_endless" 3 f_need_endless 4 := p_need_endless A_need_endless H_is_endless
  have H_is_cells : Has P w K mg base "is_cells" 2 f_is_cells 4 := p_is_cells A_is_cells H_is_rising H_is_cell_of Z_isinstance Z_tuple Z_all
  have H_need_cells : Has P w K mg base "need_cells" 2 f_need_cells 5 := p_need_cells A_need_cells H_is_cells
  have H_beat_seen : Has P w K mg base "beat_seen" 3 f_beat_seen 2 := p_beat_seen A_beat_seen H_traded_spot Z_enumerate
  have H__law_cell_at : Has P w K mg base "_law_cell_at" 2 f__law_cell_at 1 := p__law_cell_at A__law_cell_at Z_len
  have H__law_pen : Has P w K mg base "_law_pen" 1 f__law_pen 1 := p__law_pen A__law_pen Z_max
  have H__law_draw : Has P w K mg base "_law_draw" 2 f__law_draw 1 := p__law_draw A__law_draw 
  have H__law_block : Has P w K mg base "_law_block" 3 f__law_block 2 := p__law_block A__law_block H__law_draw Z_range
  have H__law_near : Has P w K mg base "_law_near" 1 f__law_near 1 := p__law_near A__law_near Z_sorted
  have H__law_floor : Has P w K mg base "_law_floor" 1 f__law_floor 3 := p__law_floor A__law_floor H__law_draw H__law_block H__law_near Z_tuple Z_sorted Z_range Z_len Z_set
  have H__law_beside : Has P w K mg base "_law_beside" 2 f__law_beside 1 := p__law_beside A__law_beside 
  have H__law_rolled : Has P w K mg base "_law_rolled" 2 f__law_rolled 1 := p__law_rolled A__law_rolled 
  have H__law_rolls : Has P w K mg base "_law_rolls" 4 f__law_rolls 2 := p__law_rolls A__law_rolls H__law_rolled H__law_beside Z_list Z_tuple
  have H__law_stand : Has P w K mg base "_law_stand" 2 f__law_stand 2 := p__law_stand A__law_stand H__law_draw H__law_rolled Z_range Z_len
  have H__law_walk : Has P w K mg base "_law_walk" 4 f__law_walk 2 := p__law_walk A__law_walk H__law_draw H__law_beside Z_range Z_len
  have H__law_back_to : Has P w K mg base "_law_back_to" 3 f__law_back_to 2 := p__law_back_to A__law_back_to H__law_beside
  have H__law_closed : Has P w K mg base "_law_closed" 4 f__law_closed 3 := p__law_closed A__law_closed H__law_walk H__law_beside H__law_draw H__law_back_to
  have H__law_noted : Has P w K mg base "_law_noted" 4 f__law_noted 3 := p__law_noted A__law_noted H__law_rolls Z_tuple Z_range Z_len Z_int
  have H_need_let : Has P w K mg base "need_let" 3 f_need_let 3 := p_need_let A_need_let H_place_off
  have H_stand_behind : Has P w K mg base "stand_behind" 4 f_stand_behind 5 := p_stand_behind A_stand_behind H_need_floor H_need_cell H_need_lying H_need_row H_need_let H_rolled_stand
  have H_exchange : Has P w K mg base "exchange" 3 f_exchange 6 := p_exchange A_exchange H_need_floor H_need_stand H_need_row H_need_let H_exchange_by H_spots_of H_trades
  have H_turn_plays : Has P w K mg base "turn_plays" 3 f_turn_plays 6 := p_turn_plays A_turn_plays H_stand_behind
  have H_rolls_seen : Has P w K mg base "rolls_seen" 5 f_rolls_seen 7 := p_rolls_seen A_rolls_seen H_turn_plays H_trades H_spot_of_cell H_round_from H_exchange H_beat_seen Z_enumerate Z_len
  have H_seen_spots : Has P w K mg base "seen_spots" 4 f_seen_spots 8 := p_seen_spots A_seen_spots H_need_floor H_need_stand H_need_row H_need_cells H_need_endless H_spots_of H_rolls_seen Z_tuple
  have H_seen_first : Has P w K mg base "seen_first" 5 f_seen_first 8 := p_seen_first A_seen_first H_need_floor H_need_stand H_need_row H_need_cells H_need_spot H_need_endless H_rolls_seen
  exact q_law (fun_mk (st := s_law) l55 c55 k55) H__law_pen H__law_cell_at H__law_floor H__law_stand H__law_closed H__law_draw H__law_noted H_seen_spots H_seen_first Z_range Z_max Z_min Z_len Z_tuple Z_repr Z_sorted
end
end L39
open PySem PySem.W PyProof.Rows
theorem main39 (hmath : ∀ ns : List Int, ns.length ≤ 63 → ∃ as, L39.f_law [.pd (.list (ns.map .int))] = some (.pd (.bool true), as)) : PySem.Challenge.rw_tumblemarks_k39_watched_cells.Holds := by
  refine hd39 ?_
  k_fill
  refine T3.walkG (l := PySem.Challenge.rw_tumblemarks_k39_watched_cells) (n := 63) (k := 9) (x := "_law_script") (sp := fun w => T3.spF _ L39.f_law 1) rfl (by decide) rfl ⟨rfl, by decide, by decide⟩ (fun w h Y => PySem.W.kIn_of Y) ?F (fun _ H a ns hl O hS => T3.law_sp (hmath ns hl) O hS)
  case F =>
    intro w mg fa h KX G hmg
    refine' L39.fin KX G hmg ?a0 ?l0 ?c0 ?k0 ?a1 ?l1 ?c1 ?k1 ?a2 ?l2 ?c2 ?k2 ?a3 ?l3 ?c3 ?k3 ?a4 ?l4 ?c4 ?k4 ?a5 ?l5 ?c5 ?k5 ?a6 ?l6 ?c6 ?k6 ?a7 ?l7 ?c7 ?k7 ?a8 ?l8 ?c8 ?k8 ?a9 ?l9 ?c9 ?k9 ?a10 ?l10 ?c10 ?k10 ?a11 ?l11 ?c11 ?k11 ?a12 ?l12 ?c12 ?k12 ?a13 ?l13 ?c13 ?k13 ?a14 ?l14 ?c14 ?k14 ?a15 ?l15 ?c15 ?k15 ?a16 ?l16 ?c16 ?k16 ?a17 ?l17 ?c17 ?k17 ?a18 ?l18 ?c18 ?k18 ?a19 ?l19 ?c19 ?k19 ?a20 ?l20 ?c20 ?k20 ?a21 ?l21 ?c21 ?k21 ?a22 ?l22 ?c22 ?k22 ?a23 ?l23 ?c23 ?k23 ?a24 ?l24 ?c24 ?k24 ?a25 ?l25 ?c25 ?k25 ?a26 ?l26 ?c26 ?k26 ?a27 ?l27 ?c27 ?k27 ?a28 ?l28 ?c28 ?k28 ?a29 ?l29 ?c29 ?k29 ?a30 ?l30 ?c30 ?k30 ?a31 ?l31 ?c31 ?k31 ?a32 ?l32 ?c32 ?k32 ?a33 ?l33 ?c33 ?k33 ?a34 ?l34 ?c34 ?k34 ?a35 ?l35 ?c35 ?k35 ?a36 ?l36 ?c36 ?k36 ?a37 ?l37 ?c37 ?k37 ?a38 ?l38 ?c38 ?k38 ?a39 ?l39 ?c39 ?k39 ?a40 ?l40 ?c40 ?k40 ?a41 ?l41 ?c41 ?k41 ?a42 ?l42 ?c42 ?k42 ?a43 ?l43 ?c43 ?k43 ?a44 ?l44 ?c44 ?k44 ?a45 ?l45 ?c45 ?k45 ?a46 ?l46 ?c46 ?k46 ?a47 ?l47 ?c47 ?k47 ?a48 ?l48 ?c48 ?k48 ?a49 ?l49 ?c49 ?k49 ?a50 ?l50 ?c50 ?k50 ?a51 ?l51 ?c51 ?k51 ?a52 ?l52 ?c52 ?k52 ?a53 ?l53 ?c53 ?k53 ?a54 ?l54 ?c54 ?k54 ?a55 ?l55 ?c55 ?k55 ?z_isinstance ?z_bool ?z_int ?z_len ?z_tuple ?z_all ?z_zip ?z_str ?z_enumerate ?z_range ?z_list ?z_max ?z_sorted ?z_set ?z_min ?z_repr ?ca_LAST_LINE ?cb_LAST_LINE ?ca_MOST_CELLS ?cb_MOST_CELLS ?ca_LYINGS ?cb_LYINGS ?ca_OPPOSITE_SUM ?cb_OPPOSITE_SUM ?ca_LETTERS ?cb_LETTERS ?ca_FACES ?cb_FACES ?da_STEPS ?dl_STEPS ?dk_STEPS ?db_STEPS
    case a0 => k_is
    case l0 => k_is
    case c0 => k_is
    case k0 => k_is
    case a1 => k_is
    case l1 => k_is
    case c1 => k_is
    case k1 => k_is
    case a2 => k_is
    case l2 => k_is
    case c2 => k_is
    case k2 => k_is
    case a3 => k_is
    case l3 => k_is
    case c3 => k_is
    case k3 => k_is
    case a4 => k_is
    case l4 => k_is
    case c4 => k_is
    case k4 => k_is
    case a5 => k_is
    case l5 => k_is
    case c5 => k_is
    case k5 => k_is
    case a6 => k_is
    case l6 => k_is
    case c6 => k_is
    case k6 => k_is
    case a7 => k_is
    case l7 => k_is
    case c7 => k_is
    case k7 => k_is
    case a8 => k_is
    case l8 => k_is
    case c8 => k_is
    case k8 => k_is
    case a9 => k_is
    case l9 => k_is
    case c9 => k_is
    case k9 => k_is
    case a10 => k_is
    case l10 => k_is
    case c10 => k_is
    case k10 => k_is
    case a11 => k_is
    case l11 => k_is
    case c11 => k_is
    case k11 => k_is
    case a12 => k_is
    case l12 => k_is
    case c12 => k_is
    case k12 => k_is
    case a13 => k_is
    case l13 => k_is
    case c13 => k_is
    case k13 => k_is
    case a14 => k_is
    case l14 => k_is
    case c14 => k_is
    case k14 => k_is
    case a15 => k_is
    case l15 => k_is
    case c15 => k_is
    case k15 => k_is
    case a16 => k_is
    case l16 => k_is
    case c16 => k_is
    case k16 => k_is
    case a17 => k_is
    case l17 => k_is
    case c17 => k_is
    case k17 => k_is
    case a18 => k_is
    case l18 => k_is
    case c18 => k_is
    case k18 => k_is
    case a19 => k_is
    case l19 => k_is
    case c19 => k_is
    case k19 => k_is
    case a20 => k_is
    case l20 => k_is
    case c20 => k_is
    case k20 => k_is
    case a21 => k_is
    case l21 => k_is
    case c21 => k_is
    case k21 => k_is
    case a22 => k_is
    case l22 => k_is
    case c22 => k_is
    case k22 => k_is
    case a23 => k_is
    case l23 => k_is
    case c23 => k_is
    case k23 => k_is
    case a24 => k_is
    case l24 => k_is
    case c24 => k_is
    case k24 => k_is
    case a25 => k_is
    case l25 => k_is
    case c25 => k_is
    case k25 => k_is
    case a26 => k_is
    case l26 => k_is
    case c26 => k_is
    case k26 => k_is
    case a27 => k_is
    case l27 => k_is
    case c27 => k_is
    case k27 => k_is
    case a28 => k_is
    case l28 => k_is
    case c28 => k_is
    case k28 => k_is
    case a29 => k_is
    case l29 => k_is
    case c29 => k_is
    case k29 => k_is
    case a30 => k_is
    case l30 => k_is
    case c30 => k_is
    case k30 => k_is
    case a31 => k_is
    case l31 => k_is
    case c31 => k_is
    case k31 => k_is
    case a32 => k_is
    case l32 => k_is
    case c32 => k_is
    case k32 => k_is
    case a33 => k_is
    case l33 => k_is
    case c33 => k_is
    case k33 => k_is
    case a34 => k_is
    case l34 => k_is
    case c34 => k_is
    case k34 => k_is
    case a35 => k_is
    case l35 => k_is
    case c35 => k_is
    case k35 => k_is
    case a36 => k_is
    case l36 => k_is
    case c36 => k_is
    case k36 => k_is
    case a37 => k_is
    case l37 => k_is
    case c37 => k_is
    case k37 => k_is
    case a38 => k_is
    case l38 => k_is
    case c38 => k_is
    case k38 => k_is
    case a39 => k_is
    case l39 => k_is
    case c39 => k_is
    case k39 => k_is
    case a40 => k_is
    case l40 => k_is
    case c40 => k_is
    case k40 => k_is
    case a41 => k_is
    case l41 => k_is
    case c41 => k_is
    case k41 => k_is
    case a42 => k_is
    case l42 => k_is
    case c42 => k_is
    case k42 => k_is
    case a43 => k_is
    case l43 => k_is
    case c43 => k_is
    case k43 => k_is
    case a44 => k_is
    case l44 => k_is
    case c44 => k_is
    case k44 => k_is
    case a45 => k_is
    case l45 => k_is
    case c45 => k_is
    case k45 => k_is
    case a46 => k_is
    case l46 => k_is
    case c46 => k_is
    case k46 => k_is
    case a47 => k_is
    case l47 => k_is
    case c47 => k_is
    case k47 => k_is
    case a48 => k_is
    case l48 => k_is
    case c48 => k_is
    case k48 => k_is
    case a49 => k_is
    case l49 => k_is
    case c49 => k_is
    case k49 => k_is
    case a50 => k_is
    case l50 => k_is
    case c50 => k_is
    case k50 => k_is
    case a51 => k_is
    case l51 => k_is
    case c51 => k_is
    case k51 => k_is
    case a52 => k_is
    case l52 => k_is
    case c52 => k_is
    case k52 => k_is
    case a53 => k_is
    case l53 => k_is
    case c53 => k_is
    case k53 => k_is
    case a54 => k_is
    case l54 => k_is
    case c54 => k_is
    case k54 => k_is
    case a55 => k_is
    case l55 => k_is
    case c55 => k_is
    case k55 => k_is
    case z_isinstance => k_is
    case z_bool => k_is
    case z_int => k_is
    case z_len => k_is
    case z_tuple => k_is
    case z_all => k_is
    case z_zip => k_is
    case z_str => k_is
    case z_enumerate => k_is
    case z_range => k_is
    case z_list => k_is
    case z_max => k_is
    case z_sorted => k_is
    case z_set => k_is
    case z_min => k_is
    case z_repr => k_is
    case ca_LAST_LINE => k_is
    case cb_LAST_LINE => first | k_is | (decide +kernel) | rfl
    case ca_MOST_CELLS => k_is
    case cb_MOST_CELLS => first | k_is | (decide +kernel) | rfl
    case ca_LYINGS => k_is
    case cb_LYINGS => first | k_is | (decide +kernel) | rfl
    case ca_OPPOSITE_SUM => k_is
    case cb_OPPOSITE_SUM => first | k_is | (decide +kernel) | rfl
    case ca_LETTERS => k_is
    case cb_LETTERS => first | k_is | (decide +kernel) | rfl
    case ca_FACES => k_is
    case cb_FACES => first | k_is | (decide +kernel) | rfl
    case da_STEPS => k_is
    case dl_STEPS => k_is
    case dk_STEPS => k_keys
    case db_STEPS => first | k_is | (decide +kernel) | rfl

end
theorem PySem.Challenge.cw_tumblemarks_k39_watched_cells_holds : PySem.Challenge.rw_tumblemarks_k39_watched_cells.Holds := by
  exact main39 L39.hmath

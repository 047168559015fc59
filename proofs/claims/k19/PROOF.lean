import PyProof.Rows.All
import Wide.All
import OpenK.AllK
import Wide.FinOn
import HandS.ForMost
import HandS.Spec
import KE.KeyNested
import KE.KDictPairs
import HandS.Lambda
import HandS.EndTab
import HandS.Zip
import HandS.Conv
import HandS.IsInst
import HandS.Deep
import HandS.TupAny
import HandS.TupMul
import HandS.Wide
import KE.DataCmp
import KE.DataMinMax
import HandS.Sort
import PyProof.EnumMake
import KE.GoesMore
import PyProof.Draws
import HandS.Text
import HandS.Style
import PyProof.SeqIndex
import HandS.More
import HandS.SortInts
import HandS.TupSets
import HandS.Ends
import PyProof.ReprRoads
import HandS.Replace
import KE.KRevSl
import KE.KDictZip
import HandS.Zip0
import HandS.ListItems
import KE.KDictDisplayH
import PyProof.StrBlock2
import HandS.SetFor
import HandS.CallLocal
import KE.KDictCopyH
import PyProof.ReprLen
import PyProof.Rows.ReprShort
import HandS.TupLe
import HandS.Iter
import HandS.Defaults
import KE.KTupSum
import HandS.Nested
import HandS.EndOwn
import KE.KDictWalk
import HandS.DictComp
import KE.SortCalls
import KE.SortData
import HandS.Strs
import HandS.Star
import KE.GoesEnumKw
import HandS.SortKw
import KE.KDictLaws
import HandS.RaiseMore
import HandS.Exc
import PyProof.ReprDict
import HandS.ExcCtx
import HandS.ExcOwn
import HandS.ExcIs
import HandS.WordsExc
import HandS.HotCalls
import PyProof.Rows.FactsCmp_str
import PyProof.PureStr
import PyProof.WalkInts
import PyProof.StrLawsRepr
import PyProof.ReprBulk
import PySem.Challenge.RW_tumblemarks_k19_marks_brought
section
set_option linter.all false
set_option autoImplicit false
set_option Elab.async false
namespace T3
open PySem L2

inductive Md where | own | bor | fro
  deriving DecidableEq
inductive Ct where
  | ls (xs : List PyData)
  | dk (kvs : List (Key × PyData))
  | dn (kvs : List (NestedKey × PyData))
inductive S where
  | pd (x : PyData)
  | nt (xs : List PyData)
  | mu (m : Md) (c : Ct)
inductive R where
  | pd (x : PyData)
  | nt (xs : List PyData)
  | tmp (c : Ct)
  | var (i : Nat)
abbrev Sl := List (Option S)
abbrev Mset := Addr → Prop

def Imm : HO → Prop
  | .tup _ => True
  | .frz _ _ => True
  | _ => False
def NT (o : HO) : Prop := ∀ ps, o ≠ .tbl ps
class TabL where
  l : List (Addr × (Nat → Nat → Str))
instance (priority := low) TabL.no : TabL := ⟨[]⟩
variable [TabL]

def FnK (K : PySem.W.Frag) (nm : Str) (a : Addr) : Prop := PySem.W.nsIn K mainGlobals nm = some (some (.ref a))
abbrev fnV (nm : Str) : PyData := .dict [(.str nm, .none)]
abbrev ntD (xs : List PyData) : PyData := .dict [(.bool true, .tuple xs)]
abbrev exD (a : Addr) : PyData := .dict [(.bool false, .int (a : Nat))]
abbrev lamD (f c a : Addr) (q : Str) (xs : List PyData) : PyData := .dict [(.int (f : Nat), .none), (.int (c : Nat), .none), (.str q, .none), (.int (a : Nat), .tuple xs)]
def NkOk (k : NestedKey) : Prop := k.depth ≤ 8 ∧ (∀ w w', NestedKey.hash w k = NestedKey.hash w' k) ∧ ∃ ks, k = .tup ks
structure DEs where
  o : Obj
  ep : Nat
  es : List DictEntry
def DnO (a : Addr) (z : DEs) : HO := .ext fun h => (a == sysModules) = false ∧ z.es.length ≤ sizeLine ∧ h.get? a = some z.o ∧ z.o.ExactDict ∧ z.o.data = .dict z.es.toArray z.ep
abbrev dcD (kvs : List (NestedKey × PyData)) : PyData := .dict ((.list [], .none) :: kvs.map fun q => (q.1.data, q.2))
def keyD : Key → PyData
  | .inl i => .int i
  | .inr x => .str x
abbrev dkD (kvs : List (Key × PyData)) : PyData := .dict ((.list [.none], .none) :: kvs.map fun q => (keyD q.1, q.2))
inductive Dn4 : List DictEntry → List V → List V → List NestedKey → Prop
  | nil : Dn4 [] [] [] []
  | cons {e : DictEntry} {es : List DictEntry} {b : Addr} {v : V} {ks vs : List V} {n : NestedKey} {ns : List NestedKey} : NkOk n → (∀ w, NestedKey.hash w n = e.hash) → e.key = .ref b → RelV v e.val → Dn4 es ks vs ns → Dn4 (e :: es) (.ref b :: ks) (v :: vs) (n :: ns)
mutual
inductive Rp (K : PySem.W.Frag) (B : Mset) (H : Hp) : V → PyData → Prop
  | non : Rp K B H .non .none
  | bl (b : Bool) : Rp K B H (.bl b) (.bool b)
  | int (i : Int) : Rp K B H (.int i) (.int i)
  | str (x : Str) : Rp K B H (.str x) (.str x)
  | tup {a : Addr} {xs : List V} {ds : List PyData} : SqT K H a xs → RpA K B H xs ds → Rp K B H (.ref a) (.tuple ds)
  | lst {a : Addr} {xs : List V} {ds : List PyData} : H a = some (.lst xs) → ¬ B a → RpA K B H xs ds → Rp K B H (.ref a) (.list ds)
  | frz {a : Addr} {o : Obj} {xs : List V} {ds : List PyData} : H a = some (.frz o (.lst xs)) → RpA K B H xs ds → Rp K B H (.ref a) (.list ds)
  | kls {a : Addr} {o : Obj} {its : Array Value} {n : Nat} {xs : List V} {ds : List PyData} : K.lookup a = some o → o.cls = .type "list" → o.dict = none → o.data = .seq its n → its.size ≤ sizeLine → Vals xs its.toList → RpA K B H xs ds → Rp K B H (.ref a) (.list ds)
  | fn {a : Addr} {nm : Str} : FnK K nm a → Rp K B H (.ref a) (fnV nm)
  | exn {a : Addr} : Rp K B H (.ref a) (exD a)
  | ntp {a : Addr} {o : Obj} {vs : List V} {xs : List PyData} : H a = some (.frz o (.tup vs)) → o.dict = none → RpA K B H vs xs → Rp K B H (.ref a) (ntD xs)
  | lam {f c a : Addr} {q : Str} {o : Obj} {vs : List V} {xs : List PyData} : H c = some (LamX.CodeO c q) → ¬ B c → H a = some (.frz o (.tup vs)) → o.dict = none → RpA K B H vs xs → Rp K B H (.ref f) (lamD f c a q xs)
  | dct {a : Addr} {z : DEs} {ks vs : List V} {kvs : List (NestedKey × PyData)} : H a = some (DnO a z) → ¬ B a → Dn4 z.es ks vs (kvs.map (·.1)) → (kvs.map (·.1)).Nodup → RpA K B H ks (kvs.map fun q => q.1.data) → RpA K B H vs (kvs.map (·.2)) → Rp K B H (.ref a) (dcD kvs)
  | dck {a : Addr} {ws : List (Key × V)} {kvs : List (Key × PyData)} : H a = some (.dK ws) → ¬ B a → ws.map (·.1) = kvs.map (·.1) → RpA K B H (ws.map (·.2)) (kvs.map (·.2)) → Rp K B H (.ref a) (dkD kvs)
inductive RpA (K : PySem.W.Frag) (B : Mset) (H : Hp) : List V → List PyData → Prop
  | nil : RpA K B H [] []
  | cons {v : V} {vs : List V} {d : PyData} {ds : List PyData} : Rp K B H v d → RpA K B H vs ds → RpA K B H (v :: vs) (d :: ds)
end

structure Grow (B : Mset) (H : Hp) (B' : Mset) (H' : Hp) : Prop where
  keep : ∀ a o, H a = some o → (¬ B a ∧ NT o ∨ Imm o) → H' a = some o
  new : ∀ a, B' a → B a ∨ H a = none

theorem SqT.grow {K : PySem.W.Frag} {B B' : Mset} {H H' : Hp} (g : Grow B H B' H') {a : Addr} {xs : List V} (h : SqT K H a xs) : SqT K H' a xs := by
  rcases h with (h | ⟨o, h⟩) | h
  · exact .inl (.inl (g.keep _ _ h (.inr trivial)))
  · exact .inl (.inr ⟨o, g.keep _ _ h (.inr trivial)⟩)
  · exact .inr h

mutual
theorem Rp.grow {K : PySem.W.Frag} {B B' : Mset} {H H' : Hp} (g : Grow B H B' H') : ∀ {v : V} {d : PyData}, Rp K B H v d → Rp K B' H' v d
  | _, _, .non => .non
  | _, _, .bl b => .bl b
  | _, _, .int i => .int i
  | _, _, .str x => .str x
  | _, _, .tup h r => .tup (SqT.grow g h) (RpA.grow g r)
  | _, _, .lst h nb r => .lst (g.keep _ _ h (.inl ⟨nb, fun _ z => nomatch z⟩)) (fun q => by
      rcases g.new _ q with q | q
      · exact nb q
      · rw [h] at q; cases q) (RpA.grow g r)
  | _, _, .frz h r => .frz (g.keep _ _ h (.inr trivial)) (RpA.grow g r)
  | _, _, .kls h1 h2 h3 h4 h5 h6 r => .kls h1 h2 h3 h4 h5 h6 (RpA.grow g r)
  | _, _, .fn h => .fn h
  | _, _, .exn => .exn
  | _, _, .ntp h1 h2 r => .ntp (g.keep _ _ h1 (.inr trivial)) h2 (RpA.grow g r)
  | _, _, .lam h1 nb h2 h3 r => .lam (g.keep _ _ h1 (.inl ⟨nb, LamX.codeO_ne⟩)) (fun q => by
      rcases g.new _ q with q | q
      · exact nb q
      · rw [h1] at q; cases q) (g.keep _ _ h2 (.inr trivial)) h3 (RpA.grow g r)
  | _, _, .dct h nb h4 nd r1 r2 => .dct (g.keep _ _ h (.inl ⟨nb, fun _ z => nomatch z⟩)) (fun q => by
      rcases g.new _ q with q | q
      · exact nb q
      · rw [h] at q; cases q) h4 nd (RpA.grow g r1) (RpA.grow g r2)
  | _, _, .dck h nb hk r => .dck (g.keep _ _ h (.inl ⟨nb, fun _ z => nomatch z⟩)) (fun q => by
      rcases g.new _ q with q | q
      · exact nb q
      · rw [h] at q; cases q) hk (RpA.grow g r)
theorem RpA.grow {K : PySem.W.Frag} {B B' : Mset} {H H' : Hp} (g : Grow B H B' H') : ∀ {vs : List V} {ds : List PyData}, RpA K B H vs ds → RpA K B' H' vs ds
  | _, _, .nil => .nil
  | _, _, .cons h r => .cons (Rp.grow g h) (RpA.grow g r)
end

theorem RpA.length {K : PySem.W.Frag} {B : Mset} {H : Hp} : ∀ {vs : List V} {ds : List PyData}, RpA K B H vs ds → vs.length = ds.length
  | _, _, .nil => rfl
  | _, _, .cons _ r => by simp [RpA.length r]
theorem RpA.get {K : PySem.W.Frag} {B : Mset} {H : Hp} : ∀ {vs : List V} {ds : List PyData} {i : Nat} {d : PyData}, RpA K B H vs ds → ds[i]? = some d → ∃ v, vs[i]? = some v ∧ Rp K B H v d
  | _, _, _, _, .nil, e => by simp at e
  | _, _, 0, _, .cons h _, e => by simp at e; subst e; exact ⟨_, rfl, h⟩
  | _, _, i + 1, d, .cons _ r, e => by
    obtain ⟨v, h1, h2⟩ := RpA.get (i := i) (d := d) r (by simpa using e)
    exact ⟨v, by simpa using h1, h2⟩
theorem RpA.getV {K : PySem.W.Frag} {B : Mset} {H : Hp} : ∀ {vs : List V} {ds : List PyData} {i : Nat} {v : V}, RpA K B H vs ds → vs[i]? = some v → ∃ d, ds[i]? = some d ∧ Rp K B H v d
  | _, _, _, _, .nil, e => by simp at e
  | _, _, 0, _, .cons h _, e => by simp at e; subst e; exact ⟨_, rfl, h⟩
  | _, _, i + 1, d, .cons _ r, e => by
    obtain ⟨v, h1, h2⟩ := RpA.getV (i := i) (v := d) r (by simpa using e)
    exact ⟨v, by simpa using h1, h2⟩
theorem RpA.append {K : PySem.W.Frag} {B : Mset} {H : Hp} : ∀ {vs ws : List V} {ds es : List PyData}, RpA K B H vs ds → RpA K B H ws es → RpA K B H (vs ++ ws) (ds ++ es)
  | _, _, _, _, .nil, q => q
  | _, _, _, _, .cons h r, q => .cons h (RpA.append r q)
theorem RpA.take {K : PySem.W.Frag} {B : Mset} {H : Hp} : ∀ {vs : List V} {ds : List PyData} (n : Nat), RpA K B H vs ds → RpA K B H (vs.take n) (ds.take n)
  | _, _, 0, _ => .nil
  | _, _, _ + 1, .nil => .nil
  | _, _, n + 1, .cons h r => .cons h (RpA.take n r)
theorem RpA.drop {K : PySem.W.Frag} {B : Mset} {H : Hp} : ∀ {vs : List V} {ds : List PyData} (n : Nat), RpA K B H vs ds → RpA K B H (vs.drop n) (ds.drop n)
  | _, _, 0, q => q
  | _, _, _ + 1, .nil => .nil
  | _, _, n + 1, .cons h r => RpA.drop n r
theorem RpA.set {K : PySem.W.Frag} {B : Mset} {H : Hp} {v : V} {d : PyData} (q : Rp K B H v d) : ∀ {vs : List V} {ds : List PyData} (n : Nat), RpA K B H vs ds → RpA K B H (vs.set n v) (ds.set n d)
  | _, _, _, .nil => .nil
  | _, _, 0, .cons _ r => .cons q r
  | _, _, n + 1, .cons h r => .cons h (RpA.set q n r)
theorem RpA.reverse {K : PySem.W.Frag} {B : Mset} {H : Hp} : ∀ {vs : List V} {ds : List PyData}, RpA K B H vs ds → RpA K B H vs.reverse ds.reverse
  | _, _, .nil => .nil
  | _, _, .cons h r => by
    rw [List.reverse_cons, List.reverse_cons]
    exact (RpA.reverse r).append (.cons h .nil)
theorem RpA.ints {K : PySem.W.Frag} {B : Mset} {H : Hp} : ∀ {vs : List V} {ns : List Int}, RpA K B H vs (ns.map .int) → vs = ns.map V.int
  | _, [], .nil => rfl
  | _, n :: ns, .cons h r => by
    cases h
    rw [RpA.ints r]
    rfl
theorem RpA.of_ints {K : PySem.W.Frag} {B : Mset} {H : Hp} : ∀ (ns : List Int), RpA K B H (ns.map V.int) (ns.map .int)
  | [] => .nil
  | n :: ns => .cons (.int n) (RpA.of_ints ns)
theorem RpA.bls {K : PySem.W.Frag} {B : Mset} {H : Hp} : ∀ {vs : List V} {ns : List Bool}, RpA K B H vs (ns.map .bool) → vs = ns.map V.bl
  | _, [], .nil => rfl
  | _, n :: ns, .cons h r => by
    cases h
    rw [RpA.bls r]
    rfl
theorem RpA.strs {K : PySem.W.Frag} {B : Mset} {H : Hp} : ∀ {vs : List V} {ns : List Str}, RpA K B H vs (ns.map .str) → vs = ns.map V.str
  | _, [], .nil => rfl
  | _, n :: ns, .cons h r => by
    cases h
    rw [RpA.strs r]
    rfl


mutual
theorem Rp.dp0 {K : PySem.W.Frag} {B : Mset} {H : Hp} : ∀ {v : V} {d : PyData}, Rp K B H v d → d.canLay0 = true → Dp K H v d
  | _, _, .non, _ => .non
  | _, _, .bl b, _ => .bl b
  | _, _, .int i, _ => .int i
  | _, _, .str x, _ => .str x
  | _, _, .tup h r, l => .tup h (RpA.dp0 r (by simpa [PyData.canLay0] using l))
  | _, _, .lst h _ r, l => .lst (.inl (.inl h)) (RpA.dp0 r (by simpa [PyData.canLay0] using l))
  | _, _, .frz h r, l => .lst (.inl (.inr ⟨_, h⟩)) (RpA.dp0 r (by simpa [PyData.canLay0] using l))
  | _, _, .kls h1 h2 h3 h4 h5 h6 r, l => .lst (.inr ⟨_, _, _, h1, h2, h3, h4, h5, h6⟩) (RpA.dp0 r (by simpa [PyData.canLay0] using l))
  | _, _, .fn _, l => by simp [PyData.canLay0] at l
  | _, _, .exn, l => by simp [PyData.canLay0] at l
  | _, _, .ntp _ _ _, l => by simp [PyData.canLay0] at l
  | _, _, .lam _ _ _ _ _, l => by simp [PyData.canLay0] at l
  | _, _, .dct _ _ _ _ _ _, l => by simp [PyData.canLay0] at l
  | _, _, .dck _ _ _ _, l => by simp [PyData.canLay0] at l
theorem RpA.dp0 {K : PySem.W.Frag} {B : Mset} {H : Hp} : ∀ {vs : List V} {ds : List PyData}, RpA K B H vs ds → PyData.canLayAll0 ds = true → DpAll K H vs ds
  | _, _, .nil, _ => .nil
  | _, _, .cons h r, l => .cons (Rp.dp0 h (by simp [PyData.canLayAll0] at l; exact l.1)) (RpA.dp0 r (by simp [PyData.canLayAll0] at l; exact l.2))
end

def KvR (K : PySem.W.Frag) (B : Mset) (H : Hp) : List (Key × V) → List (Key × PyData) → Prop := Paired fun p q => p.1 = q.1 ∧ Rp K B H p.2 q.2
def DnE (K : PySem.W.Frag) (B : Mset) (H : Hp) (e : DictEntry) (q : NestedKey × PyData) : Prop :=
  NkOk q.1 ∧ (∀ w, NestedKey.hash w q.1 = e.hash) ∧ (∃ b, e.key = .ref b ∧ Rp K B H (.ref b) q.1.data) ∧ ∃ v, RelV v e.val ∧ Rp K B H v q.2
structure DnR (K : PySem.W.Frag) (B : Mset) (H : Hp) (es : DEs) (kvs : List (NestedKey × PyData)) : Prop where
  ent : Paired (DnE K B H) es.es kvs
  nd : (kvs.map (·.1)).Nodup
theorem DnR.grow {K : PySem.W.Frag} {B B' : Mset} {H H' : Hp} (g : Grow B H B' H') {es : DEs} {kvs : List (NestedKey × PyData)} (h : DnR K B H es kvs) : DnR K B' H' es kvs :=
  ⟨Paired.mapP h.ent fun _ _ ⟨a, b, ⟨c, d, e⟩, v, f, x⟩ => ⟨a, b, ⟨c, d, e.grow g⟩, v, f, x.grow g⟩, h.nd⟩
def CtR (K : PySem.W.Frag) (B : Mset) (H : Hp) (a : Addr) : Ct → Prop
  | .ls xs => ∃ vs, H a = some (.lst vs) ∧ RpA K B H vs xs
  | .dk kvs => ∃ ws, H a = some (.dK ws) ∧ KvR K B H ws kvs
  | .dn kvs => ∃ es, H a = some (DnO a es) ∧ DnR K B H es kvs

theorem dn_split {K : PySem.W.Frag} {B : Mset} {H : Hp} : ∀ {es : List DictEntry} {kvs : List (NestedKey × PyData)}, Paired (DnE K B H) es kvs → ∃ ks vs, Dn4 es ks vs (kvs.map (·.1)) ∧ RpA K B H ks (kvs.map fun q => q.1.data) ∧ RpA K B H vs (kvs.map (·.2))
  | _, _, .nil => ⟨[], [], .nil, .nil, .nil⟩
  | _, _, .cons ⟨h1, h2, ⟨b, h3, h4⟩, v, h5, h6⟩ t => by
    obtain ⟨ks, vs, a1, a2, a3⟩ := dn_split t
    exact ⟨.ref b :: ks, v :: vs, .cons h1 h2 h3 h5 a1, .cons h4 a2, .cons h6 a3⟩
theorem dn_join {K : PySem.W.Frag} {B : Mset} {H : Hp} : ∀ {es : List DictEntry} {ks vs : List V} {kvs : List (NestedKey × PyData)}, Dn4 es ks vs (kvs.map (·.1)) → RpA K B H ks (kvs.map fun q => q.1.data) → RpA K B H vs (kvs.map (·.2)) → Paired (DnE K B H) es kvs
  | es, ks, vs, [], h, _, _ => by
    simp only [List.map_nil] at h
    cases h
    exact .nil
  | es, ks, vs, q :: kvs, h, r1, r2 => by
    simp only [List.map_cons] at h r1 r2
    cases h with
    | cons h1 h2 h3 h4 t =>
      cases r1 with
      | cons k1 k2 =>
        cases r2 with
        | cons v1 v2 => exact .cons ⟨h1, h2, ⟨_, h3, k1⟩, _, h4, v1⟩ (dn_join t k2 v2)
theorem kv_split {K : PySem.W.Frag} {B : Mset} {H : Hp} : ∀ {ws : List (Key × V)} {kvs : List (Key × PyData)}, KvR K B H ws kvs → ws.map (·.1) = kvs.map (·.1) ∧ RpA K B H (ws.map (·.2)) (kvs.map (·.2))
  | _, _, .nil => ⟨rfl, .nil⟩
  | _, _, .cons ⟨h1, h2⟩ t => by
    obtain ⟨a, b⟩ := kv_split t
    exact ⟨by simp [h1, a], .cons h2 b⟩
theorem kv_join {K : PySem.W.Frag} {B : Mset} {H : Hp} : ∀ {ws : List (Key × V)} {kvs : List (Key × PyData)}, ws.map (·.1) = kvs.map (·.1) → RpA K B H (ws.map (·.2)) (kvs.map (·.2)) → KvR K B H ws kvs
  | [], [], _, _ => .nil
  | [], _ :: _, h, _ => by simp at h
  | _ :: _, [], h, _ => by simp at h
  | w :: ws, q :: kvs, h, r => by
    simp only [List.map_cons, List.cons.injEq] at h r
    cases r with
    | cons r1 r2 => exact .cons ⟨h.1, r1⟩ (kv_join h.2 r2)
theorem CtR.hop {K : PySem.W.Frag} {B B' : Mset} {H H' : Hp} {a : Addr} {c : Ct} (h : CtR K B H a c) (g : Grow B H B' H') (k : ∀ o, H a = some o → H' a = some o) : CtR K B' H' a c := by
  cases c with
  | ls zs => obtain ⟨ws, h1, h2⟩ := h; exact ⟨ws, k _ h1, h2.grow g⟩
  | dk kvs => obtain ⟨ws, h1, h2⟩ := h; exact ⟨ws, k _ h1, Paired.mapP h2 fun _ _ q => ⟨q.1, q.2.grow g⟩⟩
  | dn kvs => obtain ⟨ws, h1, h2⟩ := h; exact ⟨ws, k _ h1, h2.grow g⟩
def ctD : Ct → PyData
  | .ls xs => .list xs
  | .dk kvs => dkD kvs
  | .dn kvs => dcD kvs
theorem CtR.rp {K : PySem.W.Frag} {B : Mset} {H : Hp} {a : Addr} {c : Ct} (h : CtR K B H a c) (nb : ¬ B a) : Rp K B H (.ref a) (ctD c) := by
  cases c with
  | ls xs => obtain ⟨vs, h1, h2⟩ := h; exact .lst h1 nb h2
  | dk kvs => obtain ⟨ws, h1, h2⟩ := h; obtain ⟨a, b⟩ := kv_split h2; exact .dck h1 nb a b
  | dn kvs => obtain ⟨es, h1, h2⟩ := h; obtain ⟨ks, vs, x, y, z⟩ := dn_split h2.ent; exact .dct h1 nb x h2.nd y z

def NtR (K : PySem.W.Frag) (B : Mset) (H : Hp) (a : Addr) (xs : List PyData) : Prop := ∃ o vs, H a = some (.frz o (.tup vs)) ∧ o.dict = none ∧ RpA K B H vs xs
theorem NtR.grow {K : PySem.W.Frag} {B B' : Mset} {H H' : Hp} (g : Grow B H B' H') {a : Addr} {xs : List PyData} (h : NtR K B H a xs) : NtR K B' H' a xs := by
  obtain ⟨o, vs, h1, h2, h3⟩ := h
  exact ⟨o, vs, g.keep _ _ h1 (.inr trivial), h2, h3.grow g⟩
theorem NtR.rp {K : PySem.W.Frag} {B : Mset} {H : Hp} {a : Addr} {xs : List PyData} (h : NtR K B H a xs) : Rp K B H (.ref a) (.tuple xs) := by
  obtain ⟨o, vs, h1, h2, h3⟩ := h
  exact .tup (.inl (.inr ⟨o, h1⟩)) h3
def Wof (σ : St) (env : Sl) : Mset := fun a => ∃ (i : Nat) (m : Md) (c : Ct), env[i]? = some (some (.mu m c)) ∧ m ≠ .fro ∧ σ[i]? = some (some (.ref a))

def TbB (B : Mset) (H : Hp) : Prop := ∀ p ∈ TabL.l, ∃ ps : Array Value, H p.1 = some (.tbl ps) ∧ ¬ B p.1 ∧ TriplesOk ps.toList ∧ ∀ (pos : Pos) (cv : Value), codeAmong pos ps.toList = some cv → ∃ c, cv = .ref c ∧ H c = some (LamX.CodeO c (p.2 pos.line pos.col)) ∧ ¬ B c
theorem TbB.on {B B' : Mset} {H H' : Hp} (h : TbB B H) (k : ∀ a o, H a = some o → ¬ B a → H' a = some o) (n : ∀ a, B' a → B a ∨ H a = none) : TbB B' H' := fun p hp => by
  obtain ⟨ps, h1, h2, h3, h4⟩ := h p hp
  have nb : ∀ a o, H a = some o → ¬ B a → ¬ B' a := fun a o e q z => by
    rcases n a z with z | z
    · exact q z
    · rw [e] at z; cases z
  refine ⟨ps, k _ _ h1 h2, nb _ _ h1 h2, h3, fun pos cv hc => ?_⟩
  obtain ⟨c, e1, e2, e3⟩ := h4 pos cv hc
  exact ⟨c, e1, k _ _ e2 e3, nb _ _ e2 e3⟩
def TabP (H : Hp) (P : Addr) (nm : Nat → Nat → Str) : Prop := ∃ ps : Array Value, H P = some (.tbl ps) ∧ TriplesOk ps.toList ∧ ∀ (pos : Pos) (cv : Value), codeAmong pos ps.toList = some cv → ∃ c, cv = .ref c ∧ H c = some (LamX.CodeO c (nm pos.line pos.col))
theorem TbB.tabs {B : Mset} {H : Hp} (h : TbB B H) : ∀ p ∈ TabL.l, TabP H p.1 p.2 := fun p hp => by
  obtain ⟨ps, h1, h2, h3, h4⟩ := h p hp
  exact ⟨ps, h1, h3, fun pos cv hc => let ⟨c, e1, e2, _⟩ := h4 pos cv hc; ⟨c, e1, e2⟩⟩
structure EnvR (K : PySem.W.Frag) (B : Mset) (H : Hp) (σ : St) (env : Sl) : Prop where
  len : env.length = σ.length
  pd : ∀ (i : Nat) x, env[i]? = some (some (.pd x)) → ∃ v, σ[i]? = some (some v) ∧ Rp K B H v x
  nt : ∀ (i : Nat) xs, env[i]? = some (some (.nt xs)) → ∃ a, σ[i]? = some (some (.ref a)) ∧ NtR K B H a xs
  mu : ∀ (i : Nat) m c, env[i]? = some (some (.mu m c)) → ∃ a, σ[i]? = some (some (.ref a)) ∧ B a ∧ CtR K B H a c
  inj : ∀ (i j : Nat) m n c d a, env[i]? = some (some (.mu m c)) → env[j]? = some (some (.mu n d)) → σ[i]? = some (some (.ref a)) → σ[j]? = some (some (.ref a)) → i = j
  dom : ∀ a, B a → ∃ o, H a = some o
  tb : TbB B H

structure Stp (W B : Mset) (H : Hp) (W' B' : Mset) (H' : Hp) : Prop where
  keep : ∀ a o, H a = some o → (¬ W a ∧ NT o ∨ Imm o) → H' a = some o
  new : ∀ a, B' a → B a ∨ H a = none
  old : ∀ a, B a → ¬ W a → B' a
  sub : ∀ a, W' a → W a ∨ H a = none
  liv : ∀ a, H' a = none → H a = none

theorem EnvR.wb {K : PySem.W.Frag} {B : Mset} {H : Hp} {σ : St} {env : Sl} (e : EnvR K B H σ env) : ∀ a, Wof σ env a → B a := by
  rintro a ⟨i, m, c, h1, _, h3⟩
  obtain ⟨a', h4, h5, _⟩ := e.mu i m c h1
  rw [h3] at h4
  cases h4
  exact h5

theorem Stp.grow {W B W' B' : Mset} {H H' : Hp} (s : Stp W B H W' B' H') (wb : ∀ a, W a → B a) : Grow B H B' H' :=
  ⟨fun a o h q => s.keep a o h (q.imp (fun n => ⟨fun w => n.1 (wb a w), n.2⟩) id), s.new⟩

theorem Stp.refl {W B : Mset} {H : Hp} : Stp W B H W B H := ⟨fun _ _ h _ => h, fun _ h => .inl h, fun _ h _ => h, fun _ h => .inl h, fun _ h => h⟩

theorem Stp.trans {W B W1 B1 W2 B2 : Mset} {H H1 H2 : Hp} (s : Stp W B H W1 B1 H1) (t : Stp W1 B1 H1 W2 B2 H2) (wb : ∀ a, W a → B a) (dom : ∀ a, B a → ∃ o, H a = some o) : Stp W B H W2 B2 H2 where
  keep a o h q := by
    refine t.keep a o (s.keep a o h q) ?_
    rcases q with q | q
    · refine .inl ⟨fun w => ?_, q.2⟩
      rcases s.sub a w with w | w
      · exact q.1 w
      · rw [h] at w; cases w
    · exact .inr q
  new a h := by
    rcases t.new a h with h | h
    · exact s.new a h
    · exact .inr (s.liv a h)
  old a h w := by
    refine t.old a (s.old a h w) fun w1 => ?_
    rcases s.sub a w1 with q | q
    · exact w q
    · obtain ⟨o, e⟩ := dom a h
      rw [e] at q; cases q
  sub a h := by
    rcases t.sub a h with h | h
    · exact s.sub a h
    · exact .inr (s.liv a h)
  liv a h := s.liv a (t.liv a h)

def RR (K : PySem.W.Frag) (H₀ : Hp) (B : Mset) (H : Hp) (σ : St) (env : Sl) (v : V) : R → Prop
  | .pd x => Rp K B H v x
  | .nt xs => ∃ a, v = .ref a ∧ NtR K B H a xs
  | .tmp c => ∃ a, v = .ref a ∧ H₀ a = none ∧ B a ∧ CtR K B H a c ∧ ∀ (i : Nat) m d, env[i]? = some (some (S.mu m d)) → σ[i]? ≠ some (some (V.ref a))
  | .var i => σ[i]? = some (some v) ∧ ∃ m c, env[i]? = some (some (.mu m c))

structure At (K : PySem.W.Frag) (σ : St) (B : Mset) (H : Hp) (env : Sl) (B' : Mset) (H' : Hp) (env' : Sl) : Prop where
  st : Stp (Wof σ env) B H (Wof σ env') B' H'
  en : EnvR K B' H' σ env'
  sm : ∀ (i : Nat) m c, env'[i]? = some (some (.mu m c)) → ∃ c', env[i]? = some (some (.mu m c'))
  ks : ∀ (i : Nat) m c, env[i]? = some (some (.mu m c)) → ∃ c', env'[i]? = some (some (.mu m c'))

abbrev EE := Sl → Option (R × Sl)
abbrev EA := Sl → Option (List R × Sl)

def tE (K : PySem.W.Frag) (f : EE) : TE := fun σ H Q => ∃ B env d env', EnvR K B H σ env ∧ f env = some (d, env') ∧
  ∀ B' H' v, At K σ B H env B' H' env' → RR K H B' H' σ env' v d → Q v H'

theorem PE.imp {X : Cx} {e : Expr} {t t' : TE} (h : PE X e t) (i : ∀ σ H Q, t' σ H Q → t σ H Q) : PE X e t' := ⟨fun pins s σ H Q I q => h.run pins s σ H Q I (i σ H Q q)⟩
theorem PS.imp {X : Cx} {e : Stmt} {t t' : TS} (h : PS X e t) (i : ∀ D σ H, t' D σ H → t D σ H) : PS X e t' := ⟨fun pins s σ H D I q => h.run pins s σ H D I (i D σ H q)⟩
theorem PSs.imp {X : Cx} {e : List Stmt} {t t' : TS} (h : PSs X e t) (i : ∀ D σ H, t' D σ H → t D σ H) : PSs X e t' := ⟨fun pins s σ H D I q => h.run pins s σ H D I (i D σ H q)⟩
theorem PT.imp {X : Cx} {e : Expr} {t t' : TT} (h : PT X e t) (i : ∀ σ H Q, t' σ H Q → t σ H Q) : PT X e t' := ⟨fun pins s σ H Q I q => h.run pins s σ H Q I (i σ H Q q)⟩
theorem PA.imp {X : Cx} {e : List Expr} {t t' : TA} (h : PA X e t) (i : ∀ σ H Q, t' σ H Q → t σ H Q) : PA X e t' := ⟨fun pos pins s σ H Q I q => h.run pos pins s σ H Q I (i σ H Q q)⟩

theorem At.refl {K : PySem.W.Frag} {σ : St} {B : Mset} {H : Hp} {env : Sl} (e : EnvR K B H σ env) : At K σ B H env B H env := ⟨.refl, e, fun _ _ c h => ⟨c, h⟩, fun _ _ c h => ⟨c, h⟩⟩
theorem At.trans {K : PySem.W.Frag} {σ : St} {B B1 B2 : Mset} {H H1 H2 : Hp} {env env1 env2 : Sl} (e : EnvR K B H σ env) (a : At K σ B H env B1 H1 env1) (b : At K σ B1 H1 env1 B2 H2 env2) : At K σ B H env B2 H2 env2 :=
  ⟨a.st.trans b.st e.wb e.dom, b.en, fun i m c h => let ⟨c1, h1⟩ := b.sm i m c h; a.sm i m c1 h1, fun i m c h => let ⟨c1, h1⟩ := a.ks i m c h; b.ks i m c1 h1⟩
theorem At.grow {K : PySem.W.Frag} {σ : St} {B B1 : Mset} {H H1 : Hp} {env env1 : Sl} (e : EnvR K B H σ env) (a : At K σ B H env B1 H1 env1) : Grow B H B1 H1 := a.st.grow e.wb

theorem KvR.grow {K : PySem.W.Frag} {B B' : Mset} {H H' : Hp} (g : Grow B H B' H') {ws : List (Key × V)} {kvs : List (Key × PyData)} (h : KvR K B H ws kvs) : KvR K B' H' ws kvs :=
  Paired.mapP h fun _ _ q => ⟨q.1, q.2.grow g⟩

theorem CtR.keep {K : PySem.W.Frag} {W B W' B' : Mset} {H H' : Hp} {a : Addr} {c : Ct} (h : CtR K B H a c) (s : Stp W B H W' B' H') (wb : ∀ a, W a → B a) (hw : ¬ W a) : CtR K B' H' a c := by
  cases c with
  | ls xs =>
    obtain ⟨vs, h1, h2⟩ := h
    exact ⟨vs, s.keep _ _ h1 (.inl ⟨hw, fun _ z => nomatch z⟩), h2.grow (s.grow wb)⟩
  | dk kvs =>
    obtain ⟨vs, h1, h2⟩ := h
    exact ⟨vs, s.keep _ _ h1 (.inl ⟨hw, fun _ z => nomatch z⟩), h2.grow (s.grow wb)⟩
  | dn kvs =>
    obtain ⟨vs, h1, h2⟩ := h
    exact ⟨vs, s.keep _ _ h1 (.inl ⟨hw, fun _ z => nomatch z⟩), h2.grow (s.grow wb)⟩

theorem RR.later {K : PySem.W.Frag} {H₀ : Hp} {σ : St} {B B1 : Mset} {H H1 : Hp} {env env1 : Sl} {v : V} {d : R} (e : EnvR K B H σ env) (a : At K σ B H env B1 H1 env1) (h : RR K H₀ B H σ env v d) (hd : ∀ i, d ≠ .var i) : RR K H₀ B1 H1 σ env1 v d := by
  cases d with
  | pd x => exact Rp.grow (a.grow e) h
  | nt xs => obtain ⟨p, e1, h1⟩ := h; exact ⟨p, e1, h1.grow (a.grow e)⟩
  | var i => exact absurd rfl (hd i)
  | tmp c =>
    obtain ⟨p, rfl, h0, hb, hc, hn⟩ := h
    have hw : ¬ Wof σ env p := by
      rintro ⟨i, m, c', h1, _, h3⟩
      exact hn i m c' h1 h3
    refine ⟨p, rfl, h0, a.st.old p hb hw, hc.keep a.st e.wb hw, fun i m d h1 h2 => ?_⟩
    obtain ⟨c', h3⟩ := a.sm i m d h1
    exact hn i m c' h3 h2
end T3

end
section
set_option linter.all false
set_option autoImplicit false
set_option Elab.async false
namespace T3
open PySem L2
variable [TabL]

def RA (K : PySem.W.Frag) (H₀ : Hp) (B : Mset) (H : Hp) (σ : St) (env : Sl) (v : V) : R → Prop
  | .pd x => Rp K B H v x
  | .nt xs => ∃ a, v = .ref a ∧ NtR K B H a xs
  | .tmp c => ∃ a, v = .ref a ∧ H₀ a = none ∧ B a ∧ CtR K B H a c ∧ ∀ (i : Nat) m d, env[i]? = some (some (S.mu m d)) → σ[i]? ≠ some (some (V.ref a))
  | .var i => σ[i]? = some (some v)
structure RRA (K : PySem.W.Frag) (H₀ : Hp) (B : Mset) (H : Hp) (σ : St) (env : Sl) (vs : List V) (ds : List R) : Prop where
  len : vs.length = ds.length
  each : ∀ (k : Nat) v d, vs[k]? = some v → ds[k]? = some d → RA K H₀ B H σ env v d
  apart : ∀ (k l : Nat) c c' v, k ≠ l → ds[k]? = some (.tmp c) → ds[l]? = some (.tmp c') → vs[k]? = some v → vs[l]? = some v → False

theorem RR.ra {K : PySem.W.Frag} {H₀ H : Hp} {B : Mset} {σ : St} {env : Sl} {v : V} {d : R} (h : RR K H₀ B H σ env v d) : RA K H₀ B H σ env v d := by
  cases d with
  | pd x => exact h
  | nt x => exact h
  | tmp c => exact h
  | var i => exact h.1
theorem RR.from {K : PySem.W.Frag} {H₀ H₁ H : Hp} {B : Mset} {σ : St} {env : Sl} {v : V} {d : R} (h : RR K H₁ B H σ env v d) (l : ∀ a, H₁ a = none → H₀ a = none) : RR K H₀ B H σ env v d := by
  cases d with
  | pd x => exact h
  | nt x => exact h
  | tmp c => obtain ⟨a, h1, h2, h3⟩ := h; exact ⟨a, h1, l a h2, h3⟩
  | var i => exact h
theorem RA.later {K : PySem.W.Frag} {H₀ : Hp} {σ : St} {B B1 : Mset} {H H1 : Hp} {env env1 : Sl} {v : V} {d : R} (e : EnvR K B H σ env) (a : At K σ B H env B1 H1 env1) (h : RA K H₀ B H σ env v d) : RA K H₀ B1 H1 σ env1 v d := by
  cases d with
  | pd x => exact RR.later (d := .pd x) (H₀ := H₀) e a h (fun _ => nofun)
  | nt x => exact RR.later (d := .nt x) (H₀ := H₀) e a h (fun _ => nofun)
  | var i => exact h
  | tmp c => exact RR.later (d := .tmp c) e a h (fun _ => nofun)

def tA (K : PySem.W.Frag) (f : EA) : TA := fun σ H Q => ∃ B env ds env', EnvR K B H σ env ∧ f env = some (ds, env') ∧
  ∀ B' H' vs, At K σ B H env B' H' env' → RRA K H B' H' σ env' vs ds → Q vs H'
def eNil : EA := fun env => some ([], env)
def eCons (fa : EE) (fr : EA) : EA := fun env => match fa env with
  | none => none
  | some (d, e1) => match fr e1 with
    | none => none
    | some (ds, e2) => some (d :: ds, e2)

theorem rd_cons {K : PySem.W.Frag} {fa : EE} {fr : EA} {σ : St} {H : Hp} {Q : List V → Hp → Prop} (h : tA K (eCons fa fr) σ H Q) : tCons (tE K fa) (tA K fr) σ H Q := by
  obtain ⟨B, env, ds, env', en, ev, q⟩ := h
  unfold eCons at ev
  split at ev
  · cases ev
  rename_i d e1 h1
  split at ev
  · cases ev
  rename_i ds1 e2 h2
  cases ev
  refine ⟨B, env, d, e1, en, h1, fun B1 H1 v a1 r1 => ⟨B1, e1, ds1, _, a1.en, h2, fun B2 H2 vs a2 r2 => q B2 H2 (v :: vs) (a1.trans en a2) ?_⟩⟩
  refine ⟨by simp [r2.len], fun k w d' hv hd => ?_, fun k l c c' w hkl hk hl vk vl => ?_⟩
  · cases k with
    | zero =>
      simp at hv hd
      subst hv hd
      exact (r1.ra).later a1.en a2
    | succ k =>
      have := r2.each k w d' (by simpa using hv) (by simpa using hd)
      cases d' with
      | pd x => exact this
      | nt x => exact this
      | var i => exact this
      | tmp c => obtain ⟨a, e1, e2, e3⟩ := this; exact ⟨a, e1, a1.st.liv a e2, e3⟩
  · have fresh : ∀ (k : Nat) c', ds1[k]? = some (.tmp c') → vs[k]? = some w → ∀ c, d = .tmp c → v = w → False := by
      intro kk c' gk gv c hd hw
      subst hd hw
      obtain ⟨a, rfl, _, ba, _, _⟩ := r1
      obtain ⟨a', e, h0, _⟩ := r2.each kk _ _ gv gk
      cases e
      obtain ⟨o, ho⟩ := a1.en.dom a ba
      rw [ho] at h0
      cases h0
    cases k with
    | zero =>
      cases l with
      | zero => exact hkl rfl
      | succ l => exact fresh l c' (by simpa using hl) (by simpa using vl) c (by simpa using hk) (by simpa using vk)
    | succ k =>
      cases l with
      | zero => exact fresh k c (by simpa using hk) (by simpa using vk) c' (by simpa using hl) (by simpa using vl)
      | succ l => exact r2.apart k l c c' w (by omega) (by simpa using hk) (by simpa using hl) (by simpa using vk) (by simpa using vl)
theorem rd_nil {K : PySem.W.Frag} {σ : St} {H : Hp} {Q : List V → Hp → Prop} (h : tA K eNil σ H Q) : tNil σ H Q := by
  obtain ⟨B, env, ds, env', en, ev, q⟩ := h
  cases ev
  exact q B H [] (.refl en) ⟨rfl, fun k v d h => by simp at h, fun k l c c' v _ h => by simp at h⟩

section
variable {X : Cx} {e : Expr} {es : List Expr} {K : PySem.W.Frag}
theorem a_nil : PA X [] (tA K eNil) := PA.imp pa_nil fun _ _ _ h => rd_nil h
theorem a_cons {fa : EE} {fr : EA} (ha : PE X e (tE K fa)) (hr : PA X es (tA K fr)) (hs : starEach (e :: es) X.env = (false, eval e X.env) :: starEach es X.env := by rfl) : PA X (e :: es) (tA K (eCons fa fr)) :=
  PA.imp (pa_cons ha hr hs) fun _ _ _ h => rd_cons h
end

def eVar (i : Nat) : EE := fun env => match env[i]? with
  | some (some (.pd x)) => some (.pd x, env)
  | some (some (.nt x)) => some (.nt x, env)
  | some (some (.mu _ _)) => some (.var i, env)
  | _ => none
def eC (x : PyData) : EE := fun env => some (.pd x, env)
theorem e_var {X : Cx} {e : Expr} {i : Nat} (h : PE X e (tVar i)) : PE X e (tE X.K (eVar i)) := PE.imp h fun σ H Q t => by
  obtain ⟨B, env, d, env', en, ev, q⟩ := t
  unfold eVar at ev
  split at ev
  · rename_i x hx
    cases ev
    obtain ⟨v, hv, r⟩ := en.pd _ _ hx
    exact ⟨v, hv, q B H v (.refl en) r⟩
  · rename_i x hx
    cases ev
    obtain ⟨a, hv, r⟩ := en.nt _ _ hx
    exact ⟨_, hv, q B H _ (.refl en) ⟨a, rfl, r⟩⟩
  · rename_i m c hx
    cases ev
    obtain ⟨a, hv, _, r⟩ := en.mu _ _ _ hx
    exact ⟨_, hv, q B H _ (.refl en) ⟨hv, _, _, hx⟩⟩
  · cases ev
theorem e_c {X : Cx} {e : Expr} {v : V} {x : PyData} (h : PE X e (tC v)) (r : ∀ B H, Rp X.K B H v x) : PE X e (tE X.K (eC x)) := PE.imp h fun σ H Q t => by
  obtain ⟨B, env, d, env', en, ev, q⟩ := t
  cases ev
  exact q B H v (.refl en) (r B H)

def ctn (env : Sl) : R → Option PyData
  | .pd x => some x
  | .nt xs => some (.tuple xs)
  | .tmp (.ls xs) => some (.list xs)
  | .tmp (.dk _) => none
  | .tmp (.dn _) => none
  | .var i => match env[i]? with
    | some (some (.mu _ (.ls xs))) => some (.list xs)
    | _ => none
def ctns (env : Sl) : List R → Option (List PyData)
  | [] => some []
  | d :: ds => match ctn env d with
    | none => none
    | some x => match ctns env ds with
      | none => none
      | some xs => some (x :: xs)
inductive Cn (K : PySem.W.Frag) (B : Mset) (H : Hp) : V → PyData → Prop
  | rp {v : V} {x : PyData} : Rp K B H v x → Cn K B H v x
  | ct {a : Addr} {vs : List V} {xs : List PyData} : H a = some (.lst vs) → RpA K B H vs xs → Cn K B H (.ref a) (.list xs)
inductive CnA (K : PySem.W.Frag) (B : Mset) (H : Hp) : List V → List PyData → Prop
  | nil : CnA K B H [] []
  | cons {v : V} {vs : List V} {d : PyData} {ds : List PyData} : Cn K B H v d → CnA K B H vs ds → CnA K B H (v :: vs) (d :: ds)
theorem Cn.of {K : PySem.W.Frag} {H₀ : Hp} {B : Mset} {H : Hp} {σ : St} {env : Sl} {v : V} {d : R} {x : PyData} (en : EnvR K B H σ env) (h : RA K H₀ B H σ env v d) (c : ctn env d = some x) : Cn K B H v x := by
  cases d with
  | pd y => cases c; exact .rp h
  | nt y => cases c; obtain ⟨a, rfl, h⟩ := h; exact .rp h.rp
  | tmp t =>
    cases t with
    | ls xs =>
      cases c
      obtain ⟨a, rfl, _, _, ⟨vs, h1, h2⟩, _⟩ := h
      exact .ct h1 h2
    | dk _ => cases c
    | dn _ => cases c
  | var i =>
    simp only [ctn] at c
    split at c
    · rename_i m xs hx
      cases c
      obtain ⟨a, h1, _, vs, h2, h3⟩ := en.mu _ _ _ hx
      have h : σ[i]? = some (some v) := h
      rw [h] at h1
      cases h1
      exact .ct h2 h3
    · cases c
theorem CnA.of {K : PySem.W.Frag} {H₀ : Hp} {B : Mset} {H : Hp} {σ : St} {env : Sl} (en : EnvR K B H σ env) : ∀ {vs : List V} {ds : List R} {xs : List PyData}, RRA K H₀ B H σ env vs ds → ctns env ds = some xs → CnA K B H vs xs
  | [], [], xs, _, c => by cases c; exact .nil
  | v :: vs, d :: ds, xs, r, c => by
    unfold ctns at c
    split at c
    · cases c
    rename_i x hx
    split at c
    · cases c
    rename_i ys hy
    cases c
    refine .cons (Cn.of en (r.each 0 v d rfl rfl) hx) (CnA.of en ⟨by have := r.len; simpa using this, fun k w e h1 h2 => r.each (k + 1) w e (by simpa using h1) (by simpa using h2), fun k l c c' w h0 h1 h2 h3 h4 => r.apart (k + 1) (l + 1) c c' w (by omega) (by simpa using h1) (by simpa using h2) (by simpa using h3) (by simpa using h4)⟩ hy)
  | [], _ :: _, _, r, _ => by have := r.len; simp at this
  | _ :: _, [], _, r, _ => by have := r.len; simp at this
theorem Cn.dp {K : PySem.W.Frag} {B : Mset} {H : Hp} {v : V} {x : PyData} (h : Cn K B H v x) (l : SeqAt.shaped x = true) : Dp K H v x := by
  have l0 : x.canLay0 = true := by
    unfold SeqAt.shaped at l
    rw [Bool.and_eq_true] at l
    exact l.1
  cases h with
  | rp h => exact h.dp0 l0
  | ct h r => exact .lst (.inl (.inl h)) (r.dp0 (by simpa [PyData.canLay0] using l0))
theorem Cn.list {K : PySem.W.Frag} {B : Mset} {H : Hp} {v : V} {xs : List PyData} (h : Cn K B H v (.list xs)) : ∃ a vs, v = .ref a ∧ SqL K H a vs ∧ RpA K B H vs xs := by
  cases h with
  | rp h =>
    cases h with
    | lst h _ r => exact ⟨_, _, rfl, .inl (.inl h), r⟩
    | frz h r => exact ⟨_, _, rfl, .inl (.inr ⟨_, h⟩), r⟩
    | kls h1 h2 h3 h4 h5 h6 r => exact ⟨_, _, rfl, .inr ⟨_, _, _, h1, h2, h3, h4, h5, h6⟩, r⟩
  | ct h r => exact ⟨_, _, rfl, .inl (.inl h), r⟩
theorem Cn.tuple {K : PySem.W.Frag} {B : Mset} {H : Hp} {v : V} {xs : List PyData} (h : Cn K B H v (.tuple xs)) : ∃ a vs, v = .ref a ∧ SqT K H a vs ∧ RpA K B H vs xs := by
  cases h with
  | rp h =>
    cases h with
    | tup h r => exact ⟨_, _, rfl, h, r⟩
theorem Cn.int {K : PySem.W.Frag} {B : Mset} {H : Hp} {v : V} {i : Int} (h : Cn K B H v (.int i)) : v = .int i := by
  cases h with
  | rp h => cases h; rfl
theorem Cn.str {K : PySem.W.Frag} {B : Mset} {H : Hp} {v : V} {i : Str} (h : Cn K B H v (.str i)) : v = .str i := by
  cases h with
  | rp h => cases h; rfl
theorem Cn.bool {K : PySem.W.Frag} {B : Mset} {H : Hp} {v : V} {i : Bool} (h : Cn K B H v (.bool i)) : v = .bl i := by
  cases h with
  | rp h => cases h; rfl
theorem Cn.none {K : PySem.W.Frag} {B : Mset} {H : Hp} {v : V} (h : Cn K B H v .none) : v = .non := by
  cases h with
  | rp h => cases h; rfl

theorem At.alloc {K : PySem.W.Frag} {σ : St} {B B1 : Mset} {H H1 : Hp} {env env1 : Sl} {p : Addr} (en : EnvR K B H σ env) (a : At K σ B H env B1 H1 env1) (np : H1 p = none) (o : HO) (mt : Prop) (fz : Mset)
    (hf : ∀ q, fz q → H q = none ∧ ∀ (i : Nat) m d, env1[i]? = some (some (S.mu m d)) → σ[i]? ≠ some (some (V.ref q))) :
    Grow B1 H1 (fun q => (B1 q ∧ ¬ fz q) ∨ (mt ∧ q = p)) (upd H1 p o) ∧ At K σ B H env (fun q => (B1 q ∧ ¬ fz q) ∨ (mt ∧ q = p)) (upd H1 p o) env1 := by
  have ne : ∀ {q o'}, H1 q = some o' → q ≠ p := fun {q o'} h e => by rw [e, np] at h; cases h
  have g : Grow B1 H1 (fun q => (B1 q ∧ ¬ fz q) ∨ (mt ∧ q = p)) (upd H1 p o) := ⟨fun q o' h _ => by rw [upd_ne (ne h)]; exact h, fun q h => by
    rcases h with h | h
    · exact .inl h.1
    · rw [h.2]; exact .inr np⟩
  refine ⟨g, ⟨fun q o' h c => ?_, fun q h => ?_, fun q h w => ?_, a.st.sub, fun q h => ?_⟩, ⟨a.en.len, fun i x h => ?_, fun i x h => ?_, fun i m c h => ?_, a.en.inj, fun q h => ?_, a.en.tb.on (fun q o' h _ => by rw [upd_ne (ne h)]; exact h) g.new⟩, a.sm, a.ks⟩
  · have h1 := a.st.keep q o' h c
    rw [upd_ne (ne h1)]; exact h1
  · rcases h with h | h
    · exact a.st.new q h.1
    · rw [h.2]; exact .inr (a.st.liv _ np)
  · refine .inl ⟨a.st.old q h w, fun f => ?_⟩
    obtain ⟨o', ho⟩ := en.dom q h
    rw [(hf q f).1] at ho; cases ho
  · by_cases e : q = p
    · rw [e]; exact a.st.liv _ np
    · rw [upd_ne e] at h; exact a.st.liv _ h
  · obtain ⟨v, h1, h2⟩ := a.en.pd i x h
    exact ⟨v, h1, h2.grow g⟩
  · obtain ⟨v, h1, h2⟩ := a.en.nt i x h
    exact ⟨v, h1, h2.grow g⟩
  · obtain ⟨q, h1, h2, h3⟩ := a.en.mu i m c h
    refine ⟨q, h1, .inl ⟨h2, fun f => (hf q f).2 i m c h h1⟩, ?_⟩
    cases c with
    | ls xs => obtain ⟨vs, h4, h5⟩ := h3; exact ⟨vs, by rw [upd_ne (ne h4)]; exact h4, h5.grow g⟩
    | dk xs => obtain ⟨vs, h4, h5⟩ := h3; exact ⟨vs, by rw [upd_ne (ne h4)]; exact h4, h5.grow g⟩
    | dn xs => obtain ⟨vs, h4, h5⟩ := h3; exact ⟨vs, by rw [upd_ne (ne h4)]; exact h4, h5.grow g⟩
  · rcases h with h | h
    · obtain ⟨o', ho⟩ := a.en.dom q h.1
      exact ⟨o', by rw [upd_ne (ne ho)]; exact ho⟩
    · rw [h.2]; exact ⟨o, upd_same⟩

abbrev KK := List R → Sl → Option (R × Sl)
def eThen (f : EA) (k : KK) : EE := fun env => match f env with
  | none => none
  | some (ds, e1) => k ds e1
def Con (K : PySem.W.Frag) (k : KK) (r : List V → Hp → VK → Prop) : Prop := ∀ σ H B env B1 H1 env1 vs ds d e2 Q, EnvR K B H σ env → At K σ B H env B1 H1 env1 → RRA K H B1 H1 σ env1 vs ds → k ds env1 = some (d, e2) →
  (∀ B' H' v, At K σ B H env B' H' e2 → RR K H B' H' σ e2 v d → Q v H') → r vs H1 Q
theorem rd_then {K : PySem.W.Frag} {f : EA} {k : KK} {r : List V → Hp → VK → Prop} (c : Con K k r) {σ : St} {H : Hp} {Q : VK} (h : tE K (eThen f k) σ H Q) : tA K f σ H (fun vs H1 => r vs H1 Q) := by
  obtain ⟨B, env, d, env', en, ev, q⟩ := h
  unfold eThen at ev
  split at ev
  · cases ev
  rename_i ds e1 h1
  exact ⟨B, env, ds, e1, en, h1, fun B1 H1 vs a1 r1 => c σ H B env B1 H1 e1 vs ds d env' Q en a1 r1 ev q⟩
def l2 (r : R2) : List V → Hp → VK → Prop := fun vs H Q => ∀ x y, vs = [x, y] → r x y H Q
def l1 (r : V → Hp → VK → Prop) : List V → Hp → VK → Prop := fun vs H Q => ∀ x, vs = [x] → r x H Q
def eTwo (fa fb : EE) : EA := eCons fa (eCons fb eNil)
def eOne (fa : EE) : EA := eCons fa eNil
theorem rd_two {K : PySem.W.Frag} {fa fb : EE} {k : KK} {r : R2} (c : Con K k (l2 r)) {σ : St} {H : Hp} {Q : VK} (h : tE K (eThen (eTwo fa fb) k) σ H Q) : tOp r (tE K fa) (tE K fb) σ H Q := by
  have h := rd_cons (rd_then c h)
  obtain ⟨B, env, d, env', en, ev, q⟩ := h
  refine ⟨B, env, d, env', en, ev, fun B1 H1 x a1 r1 => ?_⟩
  have h2 := rd_cons (q B1 H1 x a1 r1)
  obtain ⟨B, env, d, env', en, ev, q⟩ := h2
  refine ⟨B, env, d, env', en, ev, fun B2 H2 y a2 r2 => ?_⟩
  exact rd_nil (q B2 H2 y a2 r2) x y rfl
theorem rd_one {K : PySem.W.Frag} {fa : EE} {k : KK} {r : V → Hp → VK → Prop} (c : Con K k (l1 r)) {σ : St} {H : Hp} {Q : VK} (h : tE K (eThen (eOne fa) k) σ H Q) : tUn r (tE K fa) σ H Q := by
  have h := rd_cons (rd_then c h)
  obtain ⟨B, env, d, env', en, ev, q⟩ := h
  refine ⟨B, env, d, env', en, ev, fun B1 H1 x a1 r1 => ?_⟩
  exact rd_nil (q B1 H1 x a1 r1) x rfl

def kE (o : List PyData → Option PyData) : KK := fun ds env => match ctns env ds with
  | none => none
  | some xs => match o xs with
    | none => none
    | some z => some (.pd z, env)
def OkE (K : PySem.W.Frag) (o : List PyData → Option PyData) (r : List V → Hp → VK → Prop) : Prop := ∀ B H vs xs z Q, CnA K B H vs xs → o xs = some z → (∀ v, Rp K B H v z → Q v H) → r vs H Q
theorem con_E {K : PySem.W.Frag} {o : List PyData → Option PyData} {r : List V → Hp → VK → Prop} (h : OkE K o r) : Con K (kE o) r := by
  intro σ H B env B1 H1 env1 vs ds d e2 Q en a rr hk q
  unfold kE at hk
  split at hk
  · cases hk
  rename_i xs hx
  split at hk
  · cases hk
  rename_i z hz
  cases hk
  exact h B1 H1 vs xs z _ (CnA.of a.en rr hx) hz fun v hv => q B1 H1 v a hv
def kT (o : List PyData → Option (List PyData)) : KK := fun ds env => match ctns env ds with
  | none => none
  | some xs => match o xs with
    | none => none
    | some z => some (.pd (.tuple z), env)
def OkT (K : PySem.W.Frag) (o : List PyData → Option (List PyData)) (r : List V → Hp → VK → Prop) : Prop := ∀ B H vs xs z Q, CnA K B H vs xs → o xs = some z → (∀ v, Rp K B H v (.tuple z) → Q v H) → (∀ ws p, RpA K B H ws z → H p = none → Q (.ref p) (upd H p (.tup ws))) → r vs H Q
theorem con_T {K : PySem.W.Frag} {o : List PyData → Option (List PyData)} {r : List V → Hp → VK → Prop} (h : OkT K o r) : Con K (kT o) r := by
  intro σ H B env B1 H1 env1 vs ds d e2 Q en a rr hk q
  unfold kT at hk
  split at hk
  · cases hk
  rename_i xs hx
  split at hk
  · cases hk
  rename_i z hz
  cases hk
  refine h B1 H1 vs xs z _ (CnA.of a.en rr hx) hz (fun v hv => q B1 H1 v a hv) fun ws p hw np => ?_
  obtain ⟨g, a2⟩ := a.alloc en np (.tup ws) False (fun _ => False) (fun _ f => f.elim)
  exact q _ _ _ a2 (.tup (.inl (.inl upd_same)) (hw.grow g))
def kL (o : List PyData → Option (List PyData)) : KK := fun ds env => match ctns env ds with
  | none => none
  | some xs => match o xs with
    | none => none
    | some z => some (.tmp (.ls z), env)
end T3

end
section
set_option linter.all false
set_option autoImplicit false
set_option Elab.async false
namespace T3
open PySem L2
variable [TabL]

def data1 : R → Option PyData
  | .pd x => some x
  | .nt xs => some (.tuple xs)
  | .tmp c => some (ctD c)
  | .var _ => none
def datas : List R → Option (List PyData)
  | [] => some []
  | d :: ds => match data1 d with
    | none => none
    | some x => match datas ds with
      | none => none
      | some xs => some (x :: xs)
def fzOf (vs : List V) (ds : List R) : Mset := fun q => ∃ (k : Nat) (c : Ct), ds[k]? = some (.tmp c) ∧ vs[k]? = some (.ref q)
theorem RRA.fz {K : PySem.W.Frag} {H₀ : Hp} {B : Mset} {H : Hp} {σ : St} {env : Sl} {vs : List V} {ds : List R} (r : RRA K H₀ B H σ env vs ds) : ∀ q, fzOf vs ds q → H₀ q = none ∧ ∀ (i : Nat) m d, env[i]? = some (some (S.mu m d)) → σ[i]? ≠ some (some (V.ref q)) := by
  rintro q ⟨k, c, h1, h2⟩
  obtain ⟨a, e, h3, _, _, h5⟩ := r.each k _ _ h2 h1
  cases e
  exact ⟨h3, h5⟩
theorem RRA.tail {K : PySem.W.Frag} {H₀ : Hp} {B : Mset} {H : Hp} {σ : St} {env : Sl} {v : V} {d : R} {vs : List V} {ds : List R} (r : RRA K H₀ B H σ env (v :: vs) (d :: ds)) : RRA K H₀ B H σ env vs ds :=
  ⟨by have := r.len; simpa using this, fun k w e h1 h2 => r.each (k + 1) w e (by simpa using h1) (by simpa using h2), fun k l c c' w h0 h1 h2 h3 h4 => r.apart (k + 1) (l + 1) c c' w (by omega) (by simpa using h1) (by simpa using h2) (by simpa using h3) (by simpa using h4)⟩
theorem RRA.data {K : PySem.W.Frag} {H₀ : Hp} {B B' : Mset} {H H' : Hp} {σ : St} {env : Sl} (g : Grow B H B' H') (hk : ∀ a o, H a = some o → H' a = some o) : ∀ {vs : List V} {ds : List R} {xs : List PyData}, RRA K H₀ B H σ env vs ds → (∀ q, fzOf vs ds q → ¬ B' q) → datas ds = some xs → RpA K B' H' vs xs
  | [], [], xs, _, _, c => by cases c; exact .nil
  | v :: vs, d :: ds, xs, r, nb, c => by
    unfold datas at c
    split at c
    · cases c
    rename_i x hx
    split at c
    · cases c
    rename_i ys hy
    cases c
    refine .cons ?_ (RRA.data g hk r.tail (fun q ⟨k, c, h1, h2⟩ => nb q ⟨k + 1, c, by simpa using h1, by simpa using h2⟩) hy)
    have h := r.each 0 v d rfl rfl
    cases d with
    | pd y => cases hx; exact Rp.grow g h
    | nt y => cases hx; obtain ⟨a, rfl, h⟩ := h; exact h.rp.grow g
    | var i => cases hx
    | tmp t =>
      cases hx
      obtain ⟨a, rfl, _, _, hc, _⟩ := h
      refine CtR.rp ?_ (nb a ⟨0, _, rfl, rfl⟩)
      exact hc.hop g (hk _)
  | [], _ :: _, _, r, _, _ => by have := r.len; simp at this
  | _ :: _, [], _, r, _, _ => by have := r.len; simp at this
theorem datas_len : ∀ {ds : List R} {xs : List PyData}, datas ds = some xs → xs.length = ds.length
  | [], xs, c => by cases c; rfl
  | d :: ds, xs, c => by
    unfold datas at c
    split at c
    · cases c
    split at c
    · cases c
    rename_i h
    cases c
    simp [datas_len h]
def kTup : KK := fun ds env => match datas ds with
  | none => none
  | some xs => if xs.length ≤ 1000 then some (.pd (.tuple xs), env) else none
def kLst : KK := fun ds env => match datas ds with
  | none => none
  | some xs => if xs.length ≤ 1000 then some (.tmp (.ls xs), env) else none
theorem keep_upd {H : Hp} {p : Addr} {o : HO} (np : H p = none) : ∀ a o', H a = some o' → upd H p o a = some o' := fun a o' h => by
  rw [upd_ne (fun e => by rw [e, np] at h; cases h)]; exact h
theorem con_tup {K : PySem.W.Frag} : Con K kTup (fun xs H1 Q => xs.length ≤ sizeLine ∧ ∀ p, H1 p = none → Q (.ref p) (upd H1 p (.tup xs))) := by
  intro σ H B env B1 H1 env1 vs ds d e2 Q en a rr hk q
  unfold kTup at hk
  split at hk
  · cases hk
  rename_i xs hx
  split at hk
  · rename_i hl
    cases hk
    refine ⟨by rw [rr.len, ← datas_len hx]; exact Nat.le_of_lt (small1000 hl), fun p np => ?_⟩
    obtain ⟨g, a2⟩ := a.alloc en np (.tup vs) False (fzOf vs ds) rr.fz
    exact q _ _ _ a2 (.tup (.inl (.inl upd_same)) (rr.data g (keep_upd np) (fun q f h => h.elim (fun h => h.2 f) (fun h => h.1)) hx))
  · cases hk
theorem con_lst {K : PySem.W.Frag} : Con K kLst (fun xs H1 Q => xs.length ≤ sizeLine ∧ ∀ p, H1 p = none → Q (.ref p) (upd H1 p (.lst xs))) := by
  intro σ H B env B1 H1 env1 vs ds d e2 Q en a rr hk q
  unfold kLst at hk
  split at hk
  · cases hk
  rename_i xs hx
  split at hk
  · rename_i hl
    cases hk
    refine ⟨by rw [rr.len, ← datas_len hx]; exact Nat.le_of_lt (small1000 hl), fun p np => ?_⟩
    obtain ⟨g, a2⟩ := a.alloc en np (.lst vs) True (fzOf vs ds) rr.fz
    have nfp : ∀ q, fzOf vs ds q → q ≠ p := by
      rintro q ⟨k, c, h1, h2⟩ e
      obtain ⟨b, e2, _, h4, _⟩ := rr.each k _ _ h2 h1
      cases e2
      obtain ⟨o, ho⟩ := a.en.dom _ h4
      rw [e, np] at ho; cases ho
    refine q _ _ _ a2 ⟨p, rfl, a.st.liv _ np, .inr ⟨trivial, rfl⟩, ⟨vs, upd_same, rr.data g (keep_upd np) (fun q f h => h.elim (fun h => h.2 f) (fun h => nfp q f h.2)) hx⟩, fun i m d h1 h2 => ?_⟩
    obtain ⟨b, h3, h4, _⟩ := a.en.mu i m d h1
    rw [h3] at h2
    cases h2
    obtain ⟨o', ho⟩ := a.en.dom _ h4
    rw [np] at ho; cases ho
  · cases hk
section
variable {X : Cx} {e : Expr} {es : List Expr} {pos : Pos} {f : EA} {fa fb : EE}
theorem e_tup {k : Nat} (h : PA X es (tA X.K f)) : PE X (.Tuple es k pos) (tE X.K (eThen f kTup)) := PE.imp (pe_tup h) fun _ _ _ t => rd_then con_tup t
theorem e_lst (h : PA X es (tA X.K f)) : PE X (.List es pos) (tE X.K (eThen f kLst)) := PE.imp (pe_lst h) fun _ _ _ t => rd_then con_lst t
theorem e_op {a b : Expr} {op : Operator} {r : R2} {k : KK} (ho : OpR X (binaryOp op) r) (c : Con X.K k (l2 r)) (ha : PE X a (tE X.K fa)) (hb : PE X b (tE X.K fb)) : PE X (.BinOp a op b pos) (tE X.K (eThen (eTwo fa fb) k)) :=
  PE.imp (pe_op ho ha hb) fun _ _ _ t => rd_two c t
theorem e_cmp {a b : Expr} {op : CmpOp} {r : R2} {k : KK} (ho : OpR X (compareOp op) r) (c : Con X.K k (l2 r)) (ha : PE X a (tE X.K fa)) (hb : PE X b (tE X.K fb)) (hm : behindInMarks op b = false := by rfl) : PE X (.Compare a [op] [b] pos) (tE X.K (eThen (eTwo fa fb) k)) :=
  PE.imp (pe_cmpR ho ha hb hm) fun _ _ _ t => rd_two c t
theorem e_ix {a b : Expr} {r : R2} {k : KK} (ho : IxR X r) (c : Con X.K k (l2 r)) (ha : PE X a (tE X.K fa)) (hb : PE X b (tE X.K fb)) (hs : PlainIx b := by exact fun _ _ => rfl) : PE X (.Subscript a b pos) (tE X.K (eThen (eTwo fa fb) k)) :=
  PE.imp (pe_ix ho ha hb hs) fun _ _ _ t => rd_two c t
theorem e_callB {id : String} {x : Str} {p : Pos} {r : List V → Hp → VK → Prop} {k : KK} (hc : CallR X (.builtin id) r) (c : Con X.K k r) (hg : Gl X x) (hm : X.mg x = none) (hv : bootBuiltins x = some (.builtin id)) (ha : PA X (e :: es) (tA X.K f)) (hn : x ≠ "__name__" := by decide) (hdb : (x == ("__debug__" : Str)) = false := by decide) (he : starEach (e :: es) X.env = (false, eval e X.env) :: starEach es X.env := by rfl) (hpl : (backTo pos (starEach es X.env)).any (·.1) = false := by rfl) :
    PE X (.Call (.Name x p) (e :: es) [] pos) (tE X.K (eThen f k)) :=
  PE.imp (pe_callB hc hg hm hv ha hn hdb he hpl) fun _ _ _ t => rd_then c t
theorem e_callTy {T : String} {x : Str} {p : Pos} {r : List V → Hp → VK → Prop} {k : KK} (hc : CallR X (.type T) r) (c : Con X.K k r) (hg : Gl X x) (hm : X.mg x = none) (hv : bootBuiltins x = some (.type T)) (ha : PA X (e :: es) (tA X.K f)) (hn : x ≠ "__name__" := by decide) (hdb : (x == ("__debug__" : Str)) = false := by decide) (he : starEach (e :: es) X.env = (false, eval e X.env) :: starEach es X.env := by rfl) (hpl : (backTo pos (starEach es X.env)).any (·.1) = false := by rfl) :
    PE X (.Call (.Name x p) (e :: es) [] pos) (tE X.K (eThen f k)) :=
  PE.imp (pe_callTy hc hg hm hv ha hn hdb he hpl) fun _ _ _ t => rd_then c t
end

abbrev EB := Sl → Option (Bool × Sl)
def tT (K : PySem.W.Frag) (f : EB) : TT := fun σ H Q => ∃ B env b env', EnvR K B H σ env ∧ f env = some (b, env') ∧ ∀ B' H', At K σ B H env B' H' env' → Q b H'
def bT (f : EE) : EB := fun env => match f env with
  | some (.pd (.bool b), e) => some (b, e)
  | _ => none
theorem rd_test {K : PySem.W.Frag} {f : EE} {σ : St} {H : Hp} {Q : Bool → Hp → Prop} (h : tT K (bT f) σ H Q) : tTest (tE K f) σ H Q := by
  obtain ⟨B, env, b, env', en, ev, q⟩ := h
  unfold bT at ev
  split at ev
  · rename_i b' e' h1
    cases ev
    refine ⟨B, env, _, env', en, h1, fun B' H' v a r => ?_⟩
    have r : Rp K B' H' v (.bool b) := r
    cases r
    exact ⟨_, rfl, q _ _ a⟩
  · cases ev
def bAnd (f g : EB) : EB := fun env => match f env with
  | none => none
  | some (b, e) => if b = true then g e else some (false, e)
def bOr (f g : EB) : EB := fun env => match f env with
  | none => none
  | some (b, e) => if b = true then some (true, e) else g e
def bNot (f : EB) : EB := fun env => match f env with
  | none => none
  | some (b, e) => some (!b, e)
theorem tT.later {K : PySem.W.Frag} {f : EB} {σ : St} {H : Hp} {Q : Bool → Hp → Prop} {B B1 : Mset} {H1 : Hp} {env e1 env' : Sl} {b : Bool} (en : EnvR K B H σ env) (a1 : At K σ B H env B1 H1 e1) (ev : f e1 = some (b, env')) (q : ∀ B' H', At K σ B H env B' H' env' → Q b H') : tT K f σ H1 Q :=
  ⟨B1, e1, b, env', a1.en, ev, fun B2 H2 a2 => q B2 H2 (a1.trans en a2)⟩
theorem rd_and {K : PySem.W.Frag} {f g : EB} {σ : St} {H : Hp} {Q : Bool → Hp → Prop} (h : tT K (bAnd f g) σ H Q) : tAnd (tT K f) (tT K g) σ H Q := by
  obtain ⟨B, env, b, env', en, ev, q⟩ := h
  unfold bAnd at ev
  split at ev
  · cases ev
  rename_i b1 e1 h1
  refine ⟨B, env, b1, e1, en, h1, fun B1 H1 a1 => ?_⟩
  cases b1 with
  | true => simp at ev ⊢; exact tT.later en a1 ev q
  | false => simp at ev ⊢; obtain ⟨rfl, rfl⟩ := ev; exact q _ _ a1
theorem rd_or {K : PySem.W.Frag} {f g : EB} {σ : St} {H : Hp} {Q : Bool → Hp → Prop} (h : tT K (bOr f g) σ H Q) : tOr (tT K f) (tT K g) σ H Q := by
  obtain ⟨B, env, b, env', en, ev, q⟩ := h
  unfold bOr at ev
  split at ev
  · cases ev
  rename_i b1 e1 h1
  refine ⟨B, env, b1, e1, en, h1, fun B1 H1 a1 => ?_⟩
  cases b1 with
  | false => simp at ev ⊢; exact tT.later en a1 ev q
  | true => simp at ev ⊢; obtain ⟨rfl, rfl⟩ := ev; exact q _ _ a1
theorem rd_not {K : PySem.W.Frag} {f : EB} {σ : St} {H : Hp} {Q : Bool → Hp → Prop} (h : tT K (bNot f) σ H Q) : tNot (tT K f) σ H Q := by
  obtain ⟨B, env, b, env', en, ev, q⟩ := h
  unfold bNot at ev
  split at ev
  · cases ev
  rename_i b1 e1 h1
  cases ev
  exact ⟨B, env, b1, env', en, h1, fun B1 H1 a1 => q _ _ a1⟩
def eB (f : EB) : EE := fun env => match f env with
  | none => none
  | some (b, e) => some (.pd (.bool b), e)
theorem rd_eT {K : PySem.W.Frag} {f : EE} {σ : St} {H : Hp} {Q : VK} (h : tE K (eB (bT f)) σ H Q) : tE K f σ H Q := by
  obtain ⟨B, env, d, env', en, ev, q⟩ := h
  unfold eB bT at ev
  split at ev
  · cases ev
  rename_i b e1 h1
  cases ev
  split at h1
  · rename_i h2
    cases h1
    exact ⟨B, env, _, _, en, h2, q⟩
  · cases h1
theorem rd_andV {K : PySem.W.Frag} {f g : EB} {σ : St} {H : Hp} {Q : VK} (h : tE K (eB (bAnd f g)) σ H Q) : tAndV (tE K (eB f)) (tE K (eB g)) σ H Q := by
  obtain ⟨B, env, d, env', en, ev, q⟩ := h
  unfold eB bAnd at ev
  split at ev
  · cases ev
  rename_i b0 e0 h0
  cases ev
  split at h0
  · cases h0
  rename_i b1 e1 h1
  refine ⟨B, env, .pd (.bool b1), e1, en, by unfold eB; rw [h1], fun B1 H1 v a1 r1 => ?_⟩
  have r1 : Rp K B1 H1 v (.bool b1) := r1
  cases r1
  refine ⟨b1, rfl, ?_⟩
  cases b1 with
  | true => simp at h0 ⊢; exact ⟨B1, e1, _, _, a1.en, by unfold eB; rw [h0], fun B2 H2 v a2 r2 => q B2 H2 v (a1.trans en a2) (RR.from (H₁ := H1) r2 a1.st.liv)⟩
  | false => simp at h0 ⊢; obtain ⟨rfl, rfl⟩ := h0; exact q _ _ _ a1 (.bl _)
theorem rd_notV {K : PySem.W.Frag} {f : EB} {σ : St} {H : Hp} {Q : VK} (h : tE K (eB (bNot f)) σ H Q) : tNotV (tE K (eB f)) σ H Q := by
  obtain ⟨B, env, d, env', en, ev, q⟩ := h
  unfold eB bNot at ev
  split at ev
  · cases ev
  rename_i b0 e0 h0
  cases ev
  split at h0
  · cases h0
  rename_i b1 e1 h1
  cases h0
  refine ⟨B, env, .pd (.bool b1), _, en, by unfold eB; rw [h1], fun B1 H1 v a1 r1 => ?_⟩
  have r1 : Rp K B1 H1 v (.bool b1) := r1
  cases r1
  exact ⟨b1, rfl, q _ _ _ a1 (.bl _)⟩
def eIf (c : EB) (f g : EE) : EE := fun env => match c env with
  | none => none
  | some (b, e) => if b = true then f e else g e
theorem tE.later {K : PySem.W.Frag} {f : EE} {σ : St} {H : Hp} {Q : VK} {B B1 : Mset} {H1 : Hp} {env e1 env' : Sl} {d : R} (en : EnvR K B H σ env) (a1 : At K σ B H env B1 H1 e1) (ev : f e1 = some (d, env')) (q : ∀ B' H' v, At K σ B H env B' H' env' → RR K H B' H' σ env' v d → Q v H') : tE K f σ H1 Q :=
  ⟨B1, e1, d, env', a1.en, ev, fun B2 H2 v a2 r2 => q B2 H2 v (a1.trans en a2) (r2.from a1.st.liv)⟩
theorem rd_if {K : PySem.W.Frag} {c : EB} {f g : EE} {σ : St} {H : Hp} {Q : VK} (h : tE K (eIf c f g) σ H Q) : tIf (tT K c) (tE K f) (tE K g) σ H Q := by
  obtain ⟨B, env, d, env', en, ev, q⟩ := h
  unfold eIf at ev
  split at ev
  · cases ev
  rename_i b1 e1 h1
  refine ⟨B, env, b1, e1, en, h1, fun B1 H1 a1 => ?_⟩
  cases b1 with
  | true => simp at ev ⊢; exact tE.later en a1 ev q
  | false => simp at ev ⊢; exact tE.later en a1 ev q
section
variable {X : Cx} {a b c : Expr} {rest : List Expr} {pos : Pos} {f g : EB} {fa fb fc : EE}
theorem b_of {t : TE} (h : PT X a (tTest t)) (i : ∀ σ H Q, tE X.K fa σ H Q → t σ H Q) : PT X a (tT X.K (bT fa)) := PT.imp h fun σ H Q q => i _ _ _ (rd_test q)
theorem b_cmp {op : CmpOp} {r : R2} {k : KK} (ho : OpR X (compareOp op) r) (cn : Con X.K k (l2 r)) (ha : PE X a (tE X.K fa)) (hb : PE X b (tE X.K fb)) (hm : behindInMarks op b = false := by rfl) : PT X (.Compare a [op] [b] pos) (tT X.K (bT (eThen (eTwo fa fb) k))) :=
  b_of (pt_cmpR ho ha hb hm) fun _ _ _ t => rd_two cn t
theorem b_and1 (ha : PT X a (tT X.K f)) : PW X (.BoolOp .And [a] pos) (tT X.K f) := pw_and1 ha
theorem b_or1 (ha : PT X a (tT X.K f)) : PW X (.BoolOp .Or [a] pos) (tT X.K f) := pw_or1 ha
theorem PW.imp {e : Expr} {t t' : TT} (h : PW X e t) (i : ∀ σ H Q, t' σ H Q → t σ H Q) : PW X e t' := ⟨fun w pins s σ H Q I q => h.run w pins s σ H Q I (i σ H Q q)⟩
theorem b_and (ha : PT X a (tT X.K f)) (hb : PW X (.BoolOp .And (b :: rest) pos) (tT X.K g)) : PW X (.BoolOp .And (a :: b :: rest) pos) (tT X.K (bAnd f g)) := PW.imp (pw_and ha hb) fun _ _ _ t => rd_and t
theorem b_or (ha : PT X a (tT X.K f)) (hb : PW X (.BoolOp .Or (b :: rest) pos) (tT X.K g)) : PW X (.BoolOp .Or (a :: b :: rest) pos) (tT X.K (bOr f g)) := PW.imp (pw_or ha hb) fun _ _ _ t => rd_or t
theorem b_not (ha : PT X a (tT X.K f)) : PT X (.UnaryOp .Not a pos) (tT X.K (bNot f)) := PT.imp (pt_not ha) fun _ _ _ t => rd_not t
theorem e_and1 {op} (ha : PE X a (tE X.K fa)) : PE X (.BoolOp op [a] pos) (tE X.K (eB (bT fa))) := PE.imp (pe_one ha) fun _ _ _ t => rd_eT t
theorem e_bool (ha : PE X a (tE X.K fa)) : PE X a (tE X.K (eB (bT fa))) := PE.imp ha fun _ _ _ t => rd_eT t
theorem e_and (ha : PE X a (tE X.K (eB f))) (hb : PE X (.BoolOp .And (b :: rest) pos) (tE X.K (eB g))) : PE X (.BoolOp .And (a :: b :: rest) pos) (tE X.K (eB (bAnd f g))) := PE.imp (pe_and ha hb) fun _ _ _ t => rd_andV t
theorem e_not (ha : PE X a (tE X.K (eB f))) : PE X (.UnaryOp .Not a pos) (tE X.K (eB (bNot f))) := PE.imp (pe_not ha) fun _ _ _ t => rd_notV t
theorem e_if (hc : PT X c (tT X.K f)) (ha : PE X a (tE X.K fa)) (hb : PE X b (tE X.K fb)) : PE X (.IfExp c a b pos) (tE X.K (eIf f fa fb)) := PE.imp (pe_ifExp hc ha hb) fun _ _ _ t => rd_if t
end
end T3

end
section
set_option linter.all false
set_option autoImplicit false
set_option Elab.async false
namespace T3
open PySem L2
variable [TabL]

inductive Fl where | nx | bk | ct | rt (d : R)
abbrev SS := Sl → Option (Fl × Sl)
def Bor (σ : St) (env : Sl) (σ' : St) (env' : Sl) : Prop := ∀ (i : Nat) m c, env[i]? = some (some (S.mu m c)) → m ≠ .own → σ'[i]? = σ[i]? ∧ ∃ c', env'[i]? = some (some (S.mu m c'))
structure AtS (K : PySem.W.Frag) (σ : St) (B : Mset) (H : Hp) (env : Sl) (σ' : St) (B' : Mset) (H' : Hp) (env' : Sl) : Prop where
  st : Stp (Wof σ env) B H (Wof σ' env') B' H'
  en : EnvR K B' H' σ' env'
  bo : Bor σ env σ' env'
theorem Bor.refl {σ : St} {env : Sl} : Bor σ env σ env := fun i m c h _ => ⟨rfl, c, h⟩
theorem Bor.trans {σ σ1 σ2 : St} {env env1 env2 : Sl} (a : Bor σ env σ1 env1) (b : Bor σ1 env1 σ2 env2) : Bor σ env σ2 env2 := fun i m c h hm => by
  obtain ⟨h1, c1, h2⟩ := a i m c h hm
  obtain ⟨h3, h4⟩ := b i m c1 h2 hm
  exact ⟨h3.trans h1, h4⟩
theorem AtS.refl {K : PySem.W.Frag} {σ : St} {B : Mset} {H : Hp} {env : Sl} (e : EnvR K B H σ env) : AtS K σ B H env σ B H env := ⟨.refl, e, .refl⟩
theorem AtS.trans {K : PySem.W.Frag} {σ σ1 σ2 : St} {B B1 B2 : Mset} {H H1 H2 : Hp} {env env1 env2 : Sl} (e : EnvR K B H σ env) (a : AtS K σ B H env σ1 B1 H1 env1) (b : AtS K σ1 B1 H1 env1 σ2 B2 H2 env2) : AtS K σ B H env σ2 B2 H2 env2 :=
  ⟨a.st.trans b.st e.wb e.dom, b.en, a.bo.trans b.bo⟩
def Fin (K : PySem.W.Frag) (D : Ends) (H : Hp) (fl : Fl) (B' : Mset) (σ' : St) (H' : Hp) (env' : Sl) : Prop := match fl with
  | .nx => D.nx σ' H'
  | .bk => D.bk σ' H'
  | .ct => D.ct σ' H'
  | .rt d => ∀ v, RR K H B' H' σ' env' v d → D.rt v H'
def tS (K : PySem.W.Frag) (f : SS) : TS := fun D σ H => ∃ B env fl env', EnvR K B H σ env ∧ f env = some (fl, env') ∧ ∀ B' σ' H', AtS K σ B H env σ' B' H' env' → Fin K D H fl B' σ' H' env'
def sPass : SS := fun env => some (.nx, env)
def sSeq (f g : SS) : SS := fun env => match f env with
  | none => none
  | some (.nx, e1) => g e1
  | some (fl, e1) => some (fl, e1)
theorem tS.later {K : PySem.W.Frag} {f : SS} {D : Ends} {σ σ1 : St} {H H1 : Hp} {B B1 : Mset} {env e1 env' : Sl} {fl : Fl} (en : EnvR K B H σ env) (a1 : AtS K σ B H env σ1 B1 H1 e1) (ev : f e1 = some (fl, env')) (q : ∀ B' σ' H', AtS K σ B H env σ' B' H' env' → Fin K D H fl B' σ' H' env') : tS K f D σ1 H1 := by
  refine ⟨B1, e1, fl, env', a1.en, ev, fun B2 σ2 H2 a2 => ?_⟩
  have h := q B2 σ2 H2 (a1.trans en a2)
  cases fl with
  | nx => exact h
  | bk => exact h
  | ct => exact h
  | rt d => exact fun v r => h v (r.from a1.st.liv)
theorem rd_seq {K : PySem.W.Frag} {f g : SS} {D : Ends} {σ : St} {H : Hp} (h : tS K (sSeq f g) D σ H) : tSeq (tS K f) (tS K g) D σ H := by
  obtain ⟨B, env, fl, env', en, ev, q⟩ := h
  unfold sSeq at ev
  split at ev
  · cases ev
  · rename_i e1 h1
    exact ⟨B, env, .nx, e1, en, h1, fun B1 σ1 H1 a1 => tS.later en a1 ev q⟩
  · rename_i fl1 e1 hn h1
    cases ev
    refine ⟨B, env, fl, env', en, h1, fun B1 σ1 H1 a1 => ?_⟩
    have h := q B1 σ1 H1 a1
    cases fl with
    | nx => exact (hn rfl).elim
    | bk => exact h
    | ct => exact h
    | rt d => exact h
theorem rd_pass {K : PySem.W.Frag} {D : Ends} {σ : St} {H : Hp} (h : tS K sPass D σ H) : tNext D σ H := by
  obtain ⟨B, env, fl, env', en, ev, q⟩ := h
  cases ev
  exact q B σ H (.refl en)
theorem At.s {K : PySem.W.Frag} {σ : St} {B B1 : Mset} {H H1 : Hp} {env env1 : Sl} (a : At K σ B H env B1 H1 env1) : AtS K σ B H env σ B1 H1 env1 :=
  ⟨a.st, a.en, fun i m c h _ => ⟨rfl, a.ks i m c h⟩⟩
def sIf (c : EB) (f g : SS) : SS := fun env => match c env with
  | none => none
  | some (b, e) => if b = true then f e else g e
theorem rd_ifS {K : PySem.W.Frag} {c : EB} {f g : SS} {D : Ends} {σ : St} {H : Hp} (h : tS K (sIf c f g) D σ H) : tIfS (tT K c) (tS K f) (tS K g) D σ H := by
  obtain ⟨B, env, fl, env', en, ev, q⟩ := h
  unfold sIf at ev
  split at ev
  · cases ev
  rename_i b1 e1 h1
  refine ⟨B, env, b1, e1, en, h1, fun B1 H1 a1 => ?_⟩
  cases b1 with
  | true => simp at ev ⊢; exact tS.later en a1.s ev q
  | false => simp at ev ⊢; exact tS.later en a1.s ev q
def sRet (f : EE) : SS := fun env => match f env with
  | none => none
  | some (d, e) => some (.rt d, e)
theorem rd_ret {K : PySem.W.Frag} {f : EE} {D : Ends} {σ : St} {H : Hp} (h : tS K (sRet f) D σ H) : tRet (tE K f) D σ H := by
  obtain ⟨B, env, fl, env', en, ev, q⟩ := h
  unfold sRet at ev
  split at ev
  · cases ev
  rename_i d e1 h1
  cases ev
  exact ⟨B, env, d, _, en, h1, fun B1 H1 v a1 r1 => q B1 σ H1 a1.s v r1⟩
def sExpr (f : EE) : SS := fun env => match f env with
  | none => none
  | some (_, e) => some (.nx, e)
theorem rd_expr {K : PySem.W.Frag} {f : EE} {D : Ends} {σ : St} {H : Hp} (h : tS K (sExpr f) D σ H) : tDrop (tE K f) D σ H := by
  obtain ⟨B, env, fl, env', en, ev, q⟩ := h
  unfold sExpr at ev
  split at ev
  · cases ev
  rename_i d e1 h1
  cases ev
  exact ⟨B, env, d, _, en, h1, fun B1 H1 v a1 r1 => q B1 σ H1 a1.s⟩
def sNever : SS := fun _ => none
theorem rd_never {K : PySem.W.Frag} {D : Ends} {σ : St} {H : Hp} (h : tS K sNever D σ H) : tNever D σ H := by
  obtain ⟨B, env, fl, env', en, ev, q⟩ := h
  cases ev

def free (env : Sl) (i : Nat) : Bool := match env[i]? with
  | some (some (.mu .own _)) => true
  | some (some (.pd _)) => true
  | some (some (.nt _)) => true
  | some none => true
  | _ => false
def setR (i : Nat) (d : R) (env : Sl) : Option Sl := if free env i = true then match d with
    | .pd x => some (env.set i (some (.pd x)))
    | .nt x => some (env.set i (some (.nt x)))
    | .tmp c => some (env.set i (some (.mu .own c)))
    | .var _ => none
  else none
theorem free_ne {env : Sl} {i : Nat} (h : free env i = true) : i < env.length ∧ ∀ m c, env[i]? = some (some (S.mu m c)) → m = .own := by
  unfold free at h
  split at h
  · rename_i h1; refine ⟨(List.getElem?_eq_some_iff.mp h1).1, fun m c e => ?_⟩; rw [h1] at e; cases e; rfl
  · rename_i h1; refine ⟨(List.getElem?_eq_some_iff.mp h1).1, fun m c e => ?_⟩; rw [h1] at e; cases e
  · rename_i h1; refine ⟨(List.getElem?_eq_some_iff.mp h1).1, fun m c e => ?_⟩; rw [h1] at e; cases e
  · rename_i h1; refine ⟨(List.getElem?_eq_some_iff.mp h1).1, fun m c e => ?_⟩; rw [h1] at e; cases e
  · cases h
theorem get_set {α : Type} {l : List α} {i j : Nat} {x y : α} (h : (l.set i x)[j]? = some y) : (i = j ∧ y = x) ∨ (i ≠ j ∧ l[j]? = some y) := by
  by_cases e : i = j
  · subst e
    by_cases hl : i < l.length
    · rw [List.getElem?_set_self hl] at h; cases h; exact .inl ⟨rfl, rfl⟩
    · rw [List.getElem?_eq_none (by simpa using hl)] at h; cases h
  · rw [List.getElem?_set_ne e] at h; exact .inr ⟨e, h⟩
theorem AtS.set {K : PySem.W.Frag} {σ₀ σ : St} {B B1 : Mset} {H H1 : Hp} {env e1 e2 : Sl} {i : Nat} {v : V} {d : R} (en : EnvR K B H σ₀ env) (a : AtS K σ₀ B H env σ B1 H1 e1) (r : RA K H B1 H1 σ e1 v d) (hs : setR i d e1 = some e2) : AtS K σ₀ B H env (σ.set i (some v)) B1 H1 e2 := by
  unfold setR at hs
  split at hs
  · rename_i hf
    obtain ⟨hi, hm⟩ := free_ne hf
    have hiσ : i < σ.length := by rw [← a.en.len]; exact hi
    have bor : ∀ x, Bor σ₀ env (σ.set i (some v)) (e1.set i x) := fun x j m c h hn => by
      obtain ⟨h1, c', h2⟩ := a.bo j m c h hn
      have hj : i ≠ j := fun z => by subst z; exact hn (hm _ _ h2)
      exact ⟨by rw [List.getElem?_set_ne hj]; exact h1, c', by rw [List.getElem?_set_ne hj]; exact h2⟩
    cases d with
    | var _ => cases hs
    | pd x =>
      cases hs
      have wsub : ∀ q, Wof (σ.set i (some v)) (e1.set i (some (.pd x))) q → Wof σ e1 q := by
        rintro q ⟨j, m, c, h1, h2, h3⟩
        rcases get_set h1 with ⟨e, e'⟩ | ⟨e, h1⟩
        · cases e'
        · rw [List.getElem?_set_ne e] at h3; exact ⟨j, m, c, h1, h2, h3⟩
      refine ⟨⟨a.st.keep, a.st.new, a.st.old, fun q w => a.st.sub q (wsub q w), a.st.liv⟩, ⟨by simp [a.en.len], fun j y h => ?_, fun j y h => ?_, fun j m c h => ?_, fun j k m n c c' q h1 h2 h3 h4 => ?_, a.en.dom, a.en.tb⟩, bor _⟩
      · rcases get_set h with ⟨e, e'⟩ | ⟨e, h⟩
        · cases e'; subst e; exact ⟨v, by rw [List.getElem?_set_self hiσ], r⟩
        · obtain ⟨w, h1, h2⟩ := a.en.pd j y h
          exact ⟨w, by rw [List.getElem?_set_ne e]; exact h1, h2⟩
      · rcases get_set h with ⟨e, e'⟩ | ⟨e, h⟩
        · cases e'
        · obtain ⟨w, h1, h2⟩ := a.en.nt j y h
          exact ⟨w, by rw [List.getElem?_set_ne e]; exact h1, h2⟩
      · rcases get_set h with ⟨e, e'⟩ | ⟨e, h⟩
        · cases e'
        · obtain ⟨w, h1, h2⟩ := a.en.mu j m c h
          exact ⟨w, by rw [List.getElem?_set_ne e]; exact h1, h2⟩
      · rcases get_set h1 with ⟨e, e'⟩ | ⟨e, h1⟩
        · cases e'
        rcases get_set h2 with ⟨f, e'⟩ | ⟨f, h2⟩
        · cases e'
        rw [List.getElem?_set_ne e] at h3
        rw [List.getElem?_set_ne f] at h4
        exact a.en.inj j k m n c c' q h1 h2 h3 h4
    | nt x =>
      cases hs
      obtain ⟨p, rfl, r⟩ := r
      have wsub : ∀ q, Wof (σ.set i (some (.ref p))) (e1.set i (some (.nt x))) q → Wof σ e1 q := by
        rintro q ⟨j, m, c, h1, h2, h3⟩
        rcases get_set h1 with ⟨e, e'⟩ | ⟨e, h1⟩
        · cases e'
        · rw [List.getElem?_set_ne e] at h3; exact ⟨j, m, c, h1, h2, h3⟩
      refine ⟨⟨a.st.keep, a.st.new, a.st.old, fun q w => a.st.sub q (wsub q w), a.st.liv⟩, ⟨by simp [a.en.len], fun j y h => ?_, fun j y h => ?_, fun j m c h => ?_, fun j k m n c c' q h1 h2 h3 h4 => ?_, a.en.dom, a.en.tb⟩, bor _⟩
      · rcases get_set h with ⟨e, e'⟩ | ⟨e, h⟩
        · cases e'
        · obtain ⟨w, h1, h2⟩ := a.en.pd j y h
          exact ⟨w, by rw [List.getElem?_set_ne e]; exact h1, h2⟩
      · rcases get_set h with ⟨e, e'⟩ | ⟨e, h⟩
        · cases e'; subst e; exact ⟨p, by rw [List.getElem?_set_self hiσ], r⟩
        · obtain ⟨w, h1, h2⟩ := a.en.nt j y h
          exact ⟨w, by rw [List.getElem?_set_ne e]; exact h1, h2⟩
      · rcases get_set h with ⟨e, e'⟩ | ⟨e, h⟩
        · cases e'
        · obtain ⟨w, h1, h2⟩ := a.en.mu j m c h
          exact ⟨w, by rw [List.getElem?_set_ne e]; exact h1, h2⟩
      · rcases get_set h1 with ⟨e, e'⟩ | ⟨e, h1⟩
        · cases e'
        rcases get_set h2 with ⟨f, e'⟩ | ⟨f, h2⟩
        · cases e'
        rw [List.getElem?_set_ne e] at h3
        rw [List.getElem?_set_ne f] at h4
        exact a.en.inj j k m n c c' q h1 h2 h3 h4
    | tmp t =>
      cases hs
      obtain ⟨p, rfl, h0, hb, hc, hns⟩ := r
      refine ⟨⟨a.st.keep, a.st.new, a.st.old, fun q w => ?_, a.st.liv⟩, ⟨by simp [a.en.len], fun j y h => ?_, fun j y h => ?_, fun j m c h => ?_, fun j k m n c c' q h1 h2 h3 h4 => ?_, a.en.dom, a.en.tb⟩, bor _⟩
      · obtain ⟨j, m, c, h1, h2, h3⟩ := w
        rcases get_set h1 with ⟨e, e'⟩ | ⟨e, h1⟩
        · subst e
          rw [List.getElem?_set_self hiσ] at h3
          cases h3
          exact .inr h0
        · rw [List.getElem?_set_ne e] at h3; exact a.st.sub q ⟨j, m, c, h1, h2, h3⟩
      · rcases get_set h with ⟨e, e'⟩ | ⟨e, h⟩
        · cases e'
        · obtain ⟨w, h1, h2⟩ := a.en.pd j y h
          exact ⟨w, by rw [List.getElem?_set_ne e]; exact h1, h2⟩
      · rcases get_set h with ⟨e, e'⟩ | ⟨e, h⟩
        · cases e'
        · obtain ⟨w, h1, h2⟩ := a.en.nt j y h
          exact ⟨w, by rw [List.getElem?_set_ne e]; exact h1, h2⟩
      · rcases get_set h with ⟨e, e'⟩ | ⟨e, h⟩
        · cases e'; subst e; exact ⟨p, by rw [List.getElem?_set_self hiσ], hb, hc⟩
        · obtain ⟨w, h1, h2⟩ := a.en.mu j m c h
          exact ⟨w, by rw [List.getElem?_set_ne e]; exact h1, h2⟩
      · rcases get_set h1 with ⟨e, e'⟩ | ⟨e, h1⟩
        · subst e
          rw [List.getElem?_set_self hiσ] at h3
          cases h3
          rcases get_set h2 with ⟨f, e''⟩ | ⟨f, h2⟩
          · exact f
          · rw [List.getElem?_set_ne f] at h4
            exact absurd h4 (hns _ _ _ h2)
        · rw [List.getElem?_set_ne e] at h3
          rcases get_set h2 with ⟨f, e''⟩ | ⟨f, h2⟩
          · subst f
            rw [List.getElem?_set_self hiσ] at h4
            cases h4
            exact absurd h3 (hns _ _ _ h1)
          · rw [List.getElem?_set_ne f] at h4
            exact a.en.inj j k m n c c' q h1 h2 h3 h4
  · cases hs
def sSet (i : Nat) (f : EE) : SS := fun env => match f env with
  | none => none
  | some (d, e) => match setR i d e with
    | none => none
    | some e2 => some (.nx, e2)
theorem rd_set {K : PySem.W.Frag} {i : Nat} {f : EE} {D : Ends} {σ : St} {H : Hp} (h : tS K (sSet i f) D σ H) : tAsg (tE K f) (gName i) D σ H := by
  obtain ⟨B, env, fl, env', en, ev, q⟩ := h
  unfold sSet at ev
  split at ev
  · cases ev
  rename_i d e1 h1
  split at ev
  · cases ev
  rename_i e2 h2
  cases ev
  exact ⟨B, env, d, _, en, h1, fun B1 H1 v a1 r1 => q B1 _ H1 (AtS.set en a1.s r1.ra h2)⟩
abbrev GG := PyData → Sl → Option Sl
def tG (K : PySem.W.Frag) (g : GG) : TG := fun v σ H Q => ∃ B env x env', EnvR K B H σ env ∧ Rp K B H v x ∧ g x env = some env' ∧ ∀ B' σ' H', AtS K σ B H env σ' B' H' env' → Q σ' H'
def gN (i : Nat) : GG := fun x env => setR i (.pd x) env
theorem rd_gN {K : PySem.W.Frag} {i : Nat} {v : V} {σ : St} {H : Hp} {Q : St → Hp → Prop} (h : tG K (gN i) v σ H Q) : gName i v σ H Q := by
  obtain ⟨B, env, x, env', en, r, ev, q⟩ := h
  exact q B _ H (AtS.set en (.refl en) (d := .pd x) r ev)
abbrev GGs := List PyData → Sl → Option Sl
def tGs (K : PySem.W.Frag) (g : GGs) : TGs := fun vs σ H Q => ∃ B env xs env', EnvR K B H σ env ∧ RpA K B H vs xs ∧ g xs env = some env' ∧ ∀ B' σ' H', AtS K σ B H env σ' B' H' env' → Q σ' H'
def gNl : GGs := fun xs env => match xs with
  | [] => some env
  | _ => none
def gCn (g : GG) (gs : GGs) : GGs := fun xs env => match xs with
  | [] => none
  | x :: xs => match g x env with
    | none => none
    | some e => gs xs e
theorem rd_gNl {K : PySem.W.Frag} {vs : List V} {σ : St} {H : Hp} {Q : St → Hp → Prop} (h : tGs K gNl vs σ H Q) : gNil vs σ H Q := by
  obtain ⟨B, env, x, env', en, r, ev, q⟩ := h
  unfold gNl at ev
  split at ev
  · cases ev; cases r; exact ⟨rfl, q B _ H (.refl en)⟩
  · cases ev
theorem rd_gCn {K : PySem.W.Frag} {g : GG} {gs : GGs} {vs : List V} {σ : St} {H : Hp} {Q : St → Hp → Prop} (h : tGs K (gCn g gs) vs σ H Q) : gCons (tG K g) (tGs K gs) vs σ H Q := by
  obtain ⟨B, env, xs, env', en, r, ev, q⟩ := h
  unfold gCn at ev
  split at ev
  · cases ev
  rename_i x xs
  split at ev
  · cases ev
  rename_i e1 h1
  cases r with
  | cons r1 r2 =>
    exact ⟨_, _, rfl, B, env, x, e1, en, r1, h1, fun B1 σ1 H1 a1 => ⟨B1, e1, xs, env', a1.en, r2.grow (a1.st.grow en.wb), ev, fun B2 σ2 H2 a2 => q B2 σ2 H2 (a1.trans en a2)⟩⟩
def gT (n : Nat) (gs : GGs) : GG := fun x env => match x with
  | .tuple xs => if xs.length = n then gs xs env else none
  | _ => none
theorem rd_gT {K : PySem.W.Frag} {n : Nat} {gs : GGs} {v : V} {σ : St} {H : Hp} {Q : St → Hp → Prop} (h : tG K (gT n gs) v σ H Q) : gTup K n (tGs K gs) v σ H Q := by
  obtain ⟨B, env, x, env', en, r, ev, q⟩ := h
  unfold gT at ev
  split at ev
  · split at ev
    · rename_i xs hl
      obtain ⟨a, vs, rfl, h1, h2⟩ := Cn.tuple (.rp r)
      exact ⟨a, vs, rfl, h1, by rw [h2.length]; exact hl, B, env, xs, env', en, h2, ev, q⟩
    · cases ev
  · cases ev
def putL (j : Nat) (i : Int) (x : PyData) (env : Sl) : Option Sl := match env[j]? with
  | some (some (.mu m (.ls xs))) => if m = .fro then none else match ixN xs.length i with
    | none => none
    | some k => some (env.set j (some (.mu m (.ls (xs.set k x)))))
  | _ => none
theorem AtS.write {K : PySem.W.Frag} {σ : St} {B : Mset} {H : Hp} {env : Sl} {j : Nat} {m : Md} {c c' : Ct} {a : Addr} {o : HO} (en : EnvR K B H σ env) (hj : env[j]? = some (some (.mu m c))) (hm : m ≠ .fro) (ha : σ[j]? = some (some (.ref a))) (ni : ∀ o', H a = some o' → ¬ Imm o')
    (hc : ∀ H', (∀ q o', q ≠ a → H q = some o' → H' q = some o') → H' a = some o → Grow B H B H' → CtR K B H' a c') : Grow B H B (upd H a o) ∧ At K σ B H env B (upd H a o) (env.set j (some (.mu m c'))) := by
  have hjl : j < env.length := (List.getElem?_eq_some_iff.mp hj).1
  obtain ⟨a', ha', hb, _⟩ := en.mu j m c hj
  rw [ha] at ha'
  cases ha'
  have w : Wof σ env a := ⟨j, m, c, hj, hm, ha⟩
  have g : Grow B H B (upd H a o) := ⟨fun q o' h n => by
    by_cases e : q = a
    · subst e
      rcases n with n | n
      · exact absurd hb n.1
      · exact absurd n (ni _ h)
    · rw [upd_ne e]; exact h, fun q h => .inl h⟩
  refine ⟨g, ⟨fun q o' h n => ?_, fun q h => .inl h, fun q h _ => h, fun q w' => ?_, fun q h => ?_⟩, ⟨by simp [en.len], fun i x h => ?_, fun i x h => ?_, fun i m' d h => ?_, fun i k m1 m2 c1 c2 q h1 h2 h3 h4 => ?_, fun q h => ?_, en.tb.on (fun q o' h n => by rw [upd_ne (fun e => n (by rw [e]; exact hb))]; exact h) g.new⟩, fun i m1 c1 h => ?_, fun i m1 c1 h => ?_⟩
  · by_cases e : q = a
    · subst e
      rcases n with n | n
      · exact absurd w n.1
      · exact absurd n (ni _ h)
    · rw [upd_ne e]; exact h
  · obtain ⟨i, m1, c1, h1, h2, h3⟩ := w'
    rcases get_set h1 with ⟨e, e'⟩ | ⟨e, h1⟩
    · subst e; rw [ha] at h3; cases h3; exact .inl w
    · exact .inl ⟨i, m1, c1, h1, h2, h3⟩
  · by_cases e : q = a
    · subst e; rw [upd_same] at h; cases h
    · rw [upd_ne e] at h; exact h
  · rcases get_set h with ⟨e, e'⟩ | ⟨e, h⟩
    · cases e'
    · obtain ⟨v, h1, h2⟩ := en.pd i x h
      exact ⟨v, h1, h2.grow g⟩
  · rcases get_set h with ⟨e, e'⟩ | ⟨e, h⟩
    · cases e'
    · obtain ⟨v, h1, h2⟩ := en.nt i x h
      exact ⟨v, h1, h2.grow g⟩
  · rcases get_set h with ⟨e, e'⟩ | ⟨e, h⟩
    · cases e'
      subst e
      exact ⟨a, ha, hb, hc _ (fun q o' n h => by rw [upd_ne n]; exact h) upd_same g⟩
    · obtain ⟨b, h1, h2, h3⟩ := en.mu i m' d h
      refine ⟨b, h1, h2, ?_⟩
      have nb : b ≠ a := fun z => by subst z; exact e (en.inj j i m m' c d b hj h ha h1)
      cases d with
      | ls xs => obtain ⟨vs, h4, h5⟩ := h3; exact ⟨vs, by rw [upd_ne nb]; exact h4, h5.grow g⟩
      | dk xs => obtain ⟨vs, h4, h5⟩ := h3; exact ⟨vs, by rw [upd_ne nb]; exact h4, h5.grow g⟩
      | dn xs => obtain ⟨vs, h4, h5⟩ := h3; exact ⟨vs, by rw [upd_ne nb]; exact h4, h5.grow g⟩
  · have f : ∀ {i : Nat} {m1 : Md} {c1 : Ct}, (env.set j (some (S.mu m c')))[i]? = some (some (.mu m1 c1)) → ∃ m2 c2, env[i]? = some (some (.mu m2 c2)) := fun {i m1 c1} h => by
      rcases get_set h with ⟨e, e'⟩ | ⟨e, h⟩
      · subst e; exact ⟨m, c, hj⟩
      · exact ⟨_, _, h⟩
    obtain ⟨_, _, g1⟩ := f h1
    obtain ⟨_, _, g2⟩ := f h2
    exact en.inj i k _ _ _ _ q g1 g2 h3 h4
  · by_cases e : q = a
    · subst e; exact ⟨_, upd_same⟩
    · rw [upd_ne e]; exact en.dom q h
  · rcases get_set h with ⟨e, e'⟩ | ⟨e, h⟩
    · cases e'; subst e; exact ⟨c, hj⟩
    · exact ⟨_, h⟩
  · by_cases e : j = i
    · subst e; rw [hj] at h; cases h; exact ⟨c', by rw [List.getElem?_set_self hjl]⟩
    · exact ⟨c1, by rw [List.getElem?_set_ne e]; exact h⟩
end T3

end
section
set_option linter.all false
set_option autoImplicit false
set_option Elab.async false
namespace T3
open PySem L2
variable [TabL]

structure Wk (K : PySem.W.Frag) (J : It) (pr : Mset) (G : Mset → Hp → Prop) (xs : List PyData) : Prop where
  go : ∀ i B H, G B H → i < xs.length → J.go i H
  stop : ∀ B H, G B H → J.stop xs.length H
  yld : ∀ (i : Nat) B H x H' d, G B H → xs[i]? = some d → J.yld i H x H' → (H' = H ∨ (∃ T vs, H T = none ∧ H' = upd H T (.tup vs)) ∨ ∃ T vs T2 vs2, H T = none ∧ upd H T (.tup vs) T2 = none ∧ H' = upd (upd H T (.tup vs)) T2 (.tup vs2)) ∧ Rp K B H' x d
  keep : ∀ W B H W' B' H', G B H → Stp W B H W' B' H' → (∀ a, W a → B a) → (∀ a, pr a → ¬ W a) → G B' H'

abbrev Lk := Option (Nat × Md)
abbrev EI := Sl → Option (List PyData × Lk × Sl)
def Locked (lk : Lk) (e e' : Sl) : Prop := match lk with
  | none => e' = e
  | some (i, m) => ∃ c, e[i]? = some (some (S.mu m c)) ∧ e' = e.set i (some (.mu .fro c))
def unlock (lk : Lk) (env : Sl) : Sl := match lk with
  | none => env
  | some (i, m) => match env[i]? with
    | some (some (.mu _ c)) => env.set i (some (.mu m c))
    | _ => env
def tI (K : PySem.W.Frag) (f : EI) : TI := fun σ H R => ∃ B env xs lk env', EnvR K B H σ env ∧ f env = some (xs, lk, env') ∧
  ∀ B' H' J pr G e1, At K σ B H env B' H' e1 → Locked lk e1 env' → Wk K J pr G xs → G B' H' → (∀ a, pr a → ¬ Wof σ env' a ∧ ∃ o, H' a = some o) → R J H'

theorem EnvR.mode {K : PySem.W.Frag} {B : Mset} {H : Hp} {σ : St} {env : Sl} {i : Nat} {m m' : Md} {c : Ct} (en : EnvR K B H σ env) (h : env[i]? = some (some (.mu m c))) : EnvR K B H σ (env.set i (some (.mu m' c))) := by
  have f : ∀ {j : Nat} {m1 : Md} {c1 : Ct}, (env.set i (some (S.mu m' c)))[j]? = some (some (.mu m1 c1)) → ∃ m2, env[j]? = some (some (.mu m2 c1)) := fun {j m1 c1} h1 => by
    rcases get_set h1 with ⟨e, e'⟩ | ⟨e, h1⟩
    · cases e'; subst e; exact ⟨m, h⟩
    · exact ⟨_, h1⟩
  refine ⟨by simp [en.len], fun j x h1 => ?_, fun j x h1 => ?_, fun j m1 c1 h1 => ?_, fun j k m1 m2 c1 c2 a h1 h2 h3 h4 => ?_, en.dom, en.tb⟩
  · rcases get_set h1 with ⟨e, e'⟩ | ⟨e, h1⟩
    · cases e'
    · exact en.pd j x h1
  · rcases get_set h1 with ⟨e, e'⟩ | ⟨e, h1⟩
    · cases e'
    · exact en.nt j x h1
  · obtain ⟨m2, h2⟩ := f h1
    exact en.mu j m2 c1 h2
  · obtain ⟨_, g1⟩ := f h1
    obtain ⟨_, g2⟩ := f h2
    exact en.inj j k _ _ _ _ a g1 g2 h3 h4
theorem Locked.en {K : PySem.W.Frag} {B : Mset} {H : Hp} {σ : St} {lk : Lk} {e e' : Sl} (l : Locked lk e e') (en : EnvR K B H σ e) : EnvR K B H σ e' := by
  cases lk with
  | none => cases l; exact en
  | some p => obtain ⟨i, m⟩ := p; obtain ⟨c, h1, rfl⟩ := l; exact en.mode h1
theorem Locked.sub {σ : St} {lk : Lk} {e e' : Sl} (l : Locked lk e e') : ∀ a, Wof σ e' a → Wof σ e a := by
  cases lk with
  | none => cases l; exact fun _ h => h
  | some p =>
    obtain ⟨i, m⟩ := p
    obtain ⟨c, h1, rfl⟩ := l
    rintro a ⟨j, m1, c1, h2, h3, h4⟩
    rcases get_set h2 with ⟨e, e'⟩ | ⟨e, h2⟩
    · cases e'; exact absurd rfl h3
    · exact ⟨j, m1, c1, h2, h3, h4⟩
theorem Locked.stp {W B B1 : Mset} {H H1 : Hp} {σ : St} {lk : Lk} {e e' : Sl} (l : Locked lk e e') (s : Stp W B H (Wof σ e) B1 H1) : Stp W B H (Wof σ e') B1 H1 := ⟨s.keep, s.new, s.old, fun a h => s.sub a (l.sub a h), s.liv⟩
theorem AtS.through {K : PySem.W.Frag} {σ σ2 : St} {B B1 B2 : Mset} {H H1 H2 : Hp} {env e1 e1' e2 : Sl} {lk : Lk} (en : EnvR K B H σ env) (a : At K σ B H env B1 H1 e1) (l : Locked lk e1 e1') (b : AtS K σ B1 H1 e1' σ2 B2 H2 e2) : AtS K σ B H env σ2 B2 H2 (unlock lk e2) := by
  have t : Stp (Wof σ env) B H (Wof σ2 e2) B2 H2 := (l.stp a.st).trans b.st en.wb en.dom
  cases lk with
  | none =>
    cases l
    exact ⟨t, b.en, fun i m c h hm => by
      obtain ⟨c1, h1⟩ := a.ks i m c h
      exact b.bo i m c1 h1 hm⟩
  | some p =>
    obtain ⟨i, m⟩ := p
    obtain ⟨c, h1, rfl⟩ := l
    have hi : i < e1.length := (List.getElem?_eq_some_iff.mp h1).1
    obtain ⟨hσ, c2, h2⟩ := b.bo i .fro c (by rw [List.getElem?_set_self hi]) (by decide)
    have hi2 : i < e2.length := (List.getElem?_eq_some_iff.mp h2).1
    have eu : unlock (some (i, m)) e2 = e2.set i (some (.mu m c2)) := by simp only [unlock, h2]
    rw [eu]
    refine ⟨⟨t.keep, t.new, t.old, fun q w => ?_, t.liv⟩, b.en.mode h2, fun j n d h hn => ?_⟩
    · obtain ⟨j, m1, d, g1, g2, g3⟩ := w
      rcases get_set g1 with ⟨e, e'⟩ | ⟨e, g1⟩
      · cases e'
        subst e
        rw [hσ] at g3
        exact a.st.sub q ⟨i, m, c, h1, g2, g3⟩
      · exact t.sub q ⟨j, m1, d, g1, g2, g3⟩
    · obtain ⟨d1, g1⟩ := a.ks j n d h
      by_cases e : i = j
      · subst e
        rw [h1] at g1
        cases g1
        exact ⟨hσ, c2, by rw [List.getElem?_set_self hi2]⟩
      · obtain ⟨g2, d2, g3⟩ := b.bo j n d1 (by rw [List.getElem?_set_ne e]; exact g1) hn
        exact ⟨g2, d2, by rw [List.getElem?_set_ne e]; exact g3⟩
theorem RR.relock {K : PySem.W.Frag} {H₀ H : Hp} {B : Mset} {σ : St} {env : Sl} {v : V} {d : R} {lk : Lk} (h : RR K H₀ B H σ env v d) : RR K H₀ B H σ (T3.unlock lk env) v d := by
  cases lk with
  | none => exact h
  | some p =>
    obtain ⟨i, m⟩ := p
    simp only [T3.unlock]
    split
    · rename_i m1 c h1
      have hi := (List.getElem?_eq_some_iff.mp h1).1
      cases d with
      | pd x => exact h
      | nt x => exact h
      | tmp t =>
        obtain ⟨a, e, h2, h3, h4, h5⟩ := h
        refine ⟨a, e, h2, h3, h4, fun j n d g => ?_⟩
        rcases get_set g with ⟨e, e'⟩ | ⟨e, g⟩
        · subst e; exact h5 i _ _ h1
        · exact h5 j n d g
      | var j =>
        obtain ⟨h2, n, d, h3⟩ := h
        refine ⟨h2, ?_⟩
        by_cases q : i = j
        · subst q; exact ⟨m, c, by rw [List.getElem?_set_self hi]⟩
        · exact ⟨n, d, by rw [List.getElem?_set_ne q]; exact h3⟩
    · exact h
theorem At.pair {K : PySem.W.Frag} {σ : St} {B : Mset} {H : Hp} {env : Sl} {T : Addr} {vs : List V} (en : EnvR K B H σ env) (nT : H T = none) : At K σ B H env B (upd H T (.tup vs)) env := by
  have ne : ∀ {q o'}, H q = some o' → q ≠ T := fun {q o'} h e => by rw [e, nT] at h; cases h
  have g : Grow B H B (upd H T (.tup vs)) := ⟨fun q o' h _ => by rw [upd_ne (ne h)]; exact h, fun q h => .inl h⟩
  refine ⟨⟨fun q o' h c => by rw [upd_ne (ne h)]; exact h, fun q h => .inl h, fun q h _ => h, fun q h => .inl h, fun q h => ?_⟩, ⟨en.len, fun i x h => ?_, fun i x h => ?_, fun i m c h => ?_, en.inj, fun q h => ?_, en.tb.on (fun q o' h _ => by rw [upd_ne (ne h)]; exact h) g.new⟩, fun i m c h => ⟨c, h⟩, fun i m c h => ⟨c, h⟩⟩
  · by_cases e : q = T
    · rw [e]; exact nT
    · rw [upd_ne e] at h; exact h
  · obtain ⟨v, h1, h2⟩ := en.pd i x h
    exact ⟨v, h1, h2.grow g⟩
  · obtain ⟨v, h1, h2⟩ := en.nt i x h
    exact ⟨v, h1, h2.grow g⟩
  · obtain ⟨q, h1, h2, h3⟩ := en.mu i m c h
    refine ⟨q, h1, h2, ?_⟩
    cases c with
    | ls xs => obtain ⟨vs, h4, h5⟩ := h3; exact ⟨vs, by rw [upd_ne (ne h4)]; exact h4, h5.grow g⟩
    | dk xs => obtain ⟨vs, h4, h5⟩ := h3; exact ⟨vs, by rw [upd_ne (ne h4)]; exact h4, h5.grow g⟩
    | dn xs => obtain ⟨vs, h4, h5⟩ := h3; exact ⟨vs, by rw [upd_ne (ne h4)]; exact h4, h5.grow g⟩
  · obtain ⟨o', ho⟩ := en.dom q h
    exact ⟨o', by rw [upd_ne (ne ho)]; exact ho⟩

def forL (g : GG) (body : SS) : List PyData → SS
  | [], env => some (.nx, env)
  | x :: xs, env => match g x env with
    | none => none
    | some e1 => match body e1 with
      | none => none
      | some (.nx, e2) => forL g body xs e2
      | some (.ct, e2) => forL g body xs e2
      | some (.bk, e2) => some (.nx, e2)
      | some (.rt d, e2) => some (.rt d, e2)
def sFor (it : EI) (g : GG) (body : SS) : SS := fun env => match it env with
  | none => none
  | some (xs, lk, e1) => match forL g body xs e1 with
    | none => none
    | some (fl, e2) => some (fl, unlock lk e2)
theorem rd_for {K : PySem.W.Frag} {it : EI} {g : GG} {body : SS} {D : Ends} {σ : St} {H : Hp} (h : tS K (sFor it g body) D σ H) : tFor (tI K it) (tG K g) (tS K body) D σ H := by
  obtain ⟨B, env, fl, env', en, ev, q⟩ := h
  unfold sFor at ev
  split at ev
  · cases ev
  rename_i xs lk e1 h1
  split at ev
  · cases ev
  rename_i fl' e2 h2
  cases ev
  refine ⟨B, env, xs, lk, e1, en, h1, fun B1 H1 J pr G e0 a1 lkd wk g0 hpr => ?_⟩
  have en1 : EnvR K B1 H1 σ e1 := lkd.en a1.en
  -- the walked thing stands wherever one comes
  have stays : ∀ {σi Bi Hi ei}, AtS K σ B1 H1 e1 σi Bi Hi ei → G Bi Hi := fun {σi Bi Hi ei} a => wk.keep _ _ _ _ _ _ g0 a.st en1.wb fun x hx => (hpr x hx).1
  have done : ∀ {σi Bi Hi ei}, AtS K σ B1 H1 e1 σi Bi Hi ei → ei = e2 → Fin K D H fl Bi σi Hi (unlock lk e2) := fun {σi Bi Hi ei} a e => by
    subst e
    exact q Bi σi Hi (AtS.through en a1 lkd a)
  refine ⟨fun i m σi Hi => i ≤ xs.length ∧ m = xs.length - i ∧ ∃ Bi ei, AtS K σ B1 H1 e1 σi Bi Hi ei ∧ forL g body (xs.drop i) ei = some (fl, e2), ⟨_, Nat.zero_le _, rfl, B1, e1, .refl en1, h2⟩, ?_⟩
  rintro i m σi Hi ⟨hi, rfl, Bi, ei, ai, fi⟩
  have gi := stays ai
  by_cases hlt : i < xs.length
  · have hd : xs.drop i = xs[i] :: xs.drop (i + 1) := List.drop_eq_getElem_cons hlt
    rw [hd] at fi
    unfold forL at fi
    split at fi
    · cases fi
    rename_i e3 h3
    refine .inr ⟨wk.go i Bi Hi gi hlt, fun σ' H' => ∃ B' e', AtS K σ B1 H1 e1 σ' B' H' e' ∧ forL g body (xs.drop (i + 1)) e' = some (fl, e2), fun σ' H' ⟨B', e', a', f'⟩ => ⟨xs.length - (i + 1), by omega, hlt, rfl, B', e', a', f'⟩, fun x H' hy => ?_⟩
    obtain ⟨hH, rx⟩ := wk.yld i Bi Hi x H' xs[i] gi (List.getElem?_eq_getElem hlt) hy
    have ay : At K σi Bi Hi ei Bi H' ei := by
      rcases hH with e | ⟨T, vs, nT, e⟩ | ⟨T, vs, T2, vs2, nT, nT2, e⟩
      · subst e; exact .refl ai.en
      · subst e; exact At.pair ai.en nT
      · subst e; exact (At.pair ai.en nT).trans ai.en (At.pair (At.pair ai.en nT).en nT2)
    have ai' : AtS K σ B1 H1 e1 σi Bi H' ei := ai.trans en1 ay.s
    refine ⟨Bi, ei, xs[i], e3, ay.en, rx, h3, fun B3 σ3 H3 a3 => ?_⟩
    have a3' : AtS K σ B1 H1 e1 σ3 B3 H3 e3 := ai'.trans en1 a3
    split at fi
    · cases fi
    · rename_i e4 h4
      exact ⟨B3, e3, .nx, e4, a3.en, h4, fun B4 σ4 H4 a4 => ⟨B4, e4, a3'.trans en1 a4, fi⟩⟩
    · rename_i e4 h4
      exact ⟨B3, e3, .ct, e4, a3.en, h4, fun B4 σ4 H4 a4 => ⟨B4, e4, a3'.trans en1 a4, fi⟩⟩
    · rename_i e4 h4
      cases fi
      exact ⟨B3, e3, .bk, _, a3.en, h4, fun B4 σ4 H4 a4 => done (a3'.trans en1 a4) rfl⟩
    · rename_i d e4 h4
      cases fi
      refine ⟨B3, e3, .rt d, _, a3.en, h4, fun B4 σ4 H4 a4 v r => ?_⟩
      have z := done (a3'.trans en1 a4) rfl
      exact z v ((r.from fun a h => a1.st.liv a (a3'.st.liv a h)).relock)
  · have e : i = xs.length := by omega
    subst e
    rw [List.drop_length] at fi
    cases fi
    exact .inl ⟨wk.stop Bi Hi gi, done ai rfl⟩
end T3

end
section
set_option linter.all false
set_option autoImplicit false
set_option Elab.async false
namespace T3
open PySem L2
variable [TabL]

def whileN (c : EB) (body : SS) : Nat → SS
  | 0, _ => none
  | n + 1, env => match c env with
    | none => none
    | some (false, e) => some (.nx, e)
    | some (true, e) => match body e with
      | none => none
      | some (.nx, e2) => whileN c body n e2
      | some (.ct, e2) => whileN c body n e2
      | some (.bk, e2) => some (.nx, e2)
      | some (.rt d, e2) => some (.rt d, e2)
theorem whileN_more {c : EB} {body : SS} : ∀ {n m : Nat} {env : Sl} {r : Fl × Sl}, whileN c body n env = some r → n ≤ m → whileN c body m env = some r
  | 0, _, _, _, h, _ => by cases h
  | n + 1, 0, _, _, _, hm => by omega
  | n + 1, m + 1, env, r, h, hm => by
    unfold whileN at h ⊢
    cases hc : c env with
    | none => rw [hc] at h; cases h
    | some p =>
      obtain ⟨b, e⟩ := p
      rw [hc] at h
      cases b with
      | false => exact h
      | true =>
        simp only at h ⊢
        cases hb : body e with
        | none => rw [hb] at h; cases h
        | some q =>
          obtain ⟨fl, e2⟩ := q
          rw [hb] at h
          cases fl with
          | nx => exact whileN_more (n := n) (m := m) h (by omega)
          | ct => exact whileN_more (n := n) (m := m) h (by omega)
          | bk => exact h
          | rt d => exact h
open Classical in
noncomputable def sWhile (c : EB) (body : SS) : SS := fun env => if h : ∃ r, ∃ n, whileN c body n env = some r then some (choose h) else none
theorem sWhile_of {c : EB} {body : SS} {n : Nat} {env : Sl} {r : Fl × Sl} (h : whileN c body n env = some r) : sWhile c body env = some r := by
  have ex : ∃ r, ∃ n, whileN c body n env = some r := ⟨r, n, h⟩
  unfold sWhile
  rw [dif_pos ex]
  obtain ⟨m, hm⟩ := Classical.choose_spec ex
  have h1 := whileN_more h (Nat.le_max_left n m)
  have h2 := whileN_more hm (Nat.le_max_right n m)
  rw [h1] at h2
  rw [← Option.some.inj h2]
theorem sWhile_ex {c : EB} {body : SS} {env : Sl} {r : Fl × Sl} (h : sWhile c body env = some r) : ∃ n, whileN c body n env = some r := by
  unfold sWhile at h
  split at h
  · rename_i ex
    obtain ⟨m, hm⟩ := Classical.choose_spec ex
    exact ⟨m, by rw [hm]; exact h⟩
  · cases h
theorem rd_while {K : PySem.W.Frag} {c : EB} {body : SS} {D : Ends} {σ : St} {H : Hp} (h : tS K (sWhile c body) D σ H) : tWhile (tT K c) (tS K body) D σ H := by
  obtain ⟨B, env, fl, env', en, ev, q⟩ := h
  obtain ⟨n, hn⟩ := sWhile_ex ev
  refine ⟨fun m σi Hi => ∃ Bi ei, AtS K σ B H env σi Bi Hi ei ∧ whileN c body m ei = some (fl, env'), ⟨n, B, env, .refl en, hn⟩, ?_⟩
  rintro m σi Hi ⟨Bi, ei, ai, fi⟩
  cases m with
  | zero => cases fi
  | succ m =>
    unfold whileN at fi
    split at fi
    · cases fi
    · rename_i e h1
      cases fi
      refine ⟨Bi, ei, false, _, ai.en, h1, fun B1 H1 a1 => ?_⟩
      simp
      exact q B1 σi H1 (ai.trans en a1.s)
    · rename_i e h1
      refine ⟨Bi, ei, true, e, ai.en, h1, fun B1 H1 a1 => ?_⟩
      have a1' := ai.trans en a1.s
      simp
      refine ⟨fun σ' H' => ∃ B' e', AtS K σ B H env σ' B' H' e' ∧ whileN c body m e' = some (fl, env'), fun σ' H' ⟨B', e', a', f'⟩ => ⟨m, by omega, B', e', a', f'⟩, ?_⟩
      split at fi
      · cases fi
      · rename_i e2 h2
        exact ⟨B1, e, .nx, e2, a1.en, h2, fun B2 σ2 H2 a2 => ⟨B2, e2, a1'.trans en a2, fi⟩⟩
      · rename_i e2 h2
        exact ⟨B1, e, .ct, e2, a1.en, h2, fun B2 σ2 H2 a2 => ⟨B2, e2, a1'.trans en a2, fi⟩⟩
      · rename_i e2 h2
        cases fi
        exact ⟨B1, e, .bk, _, a1.en, h2, fun B2 σ2 H2 a2 => q B2 σ2 H2 (a1'.trans en a2)⟩
      · rename_i d e2 h2
        cases fi
        exact ⟨B1, e, .rt d, _, a1.en, h2, fun B2 σ2 H2 a2 v r => q B2 σ2 H2 (a1'.trans en a2) v (r.from a1'.st.liv)⟩

abbrev FnD := List S → Option (R × List S)
def outR (env : Sl) : R → Option R
  | .pd x => some (.pd x)
  | .nt x => some (.nt x)
  | .tmp c => some (.tmp c)
  | .var i => match env[i]? with
    | some (some (.mu .own c)) => some (.tmp c)
    | _ => none
def finals : List S → Sl → Option (List S)
  | [], _ => some []
  | .pd x :: as, _ :: env => match finals as env with
    | none => none
    | some l => some (.pd x :: l)
  | .nt x :: as, _ :: env => match finals as env with
    | none => none
    | some l => some (.nt x :: l)
  | .mu m _ :: as, some (.mu m' c') :: env => if m = m' ∧ m ≠ .own then match finals as env with
      | none => none
      | some l => some (.mu m c' :: l)
    else none
  | _ :: _, _ => none
def startE (n : Nat) (as : List S) : Sl := as.map some ++ List.replicate (n - as.length) none
def runFn (n : Nat) (b : SS) : FnD := fun as => match b (startE n as) with
  | some (.rt d, e) => match outR e d with
    | none => none
    | some d' => match finals as e with
      | none => none
      | some as' => some (d', as')
  | some (.nx, e) => match finals as e with
    | none => none
    | some as' => some (.pd .none, as')
  | _ => none
def spF (K : PySem.W.Frag) (F : FnD) (n : Nat) : Sp := fun vs H Q _ => vs.length = n ∧ ∃ B as d as', EnvR K B H (vs.map some) (as.map some) ∧ F as = some (d, as') ∧
  ∀ B' H' v, At K (vs.map some) B H (as.map some) B' H' (as'.map some) → RR K H B' H' (vs.map some) (as'.map some) v d → (∀ i, d ≠ .var i) → Q v H'

theorem finals_get : ∀ {as : List S} {env : Sl} {as' : List S}, finals as env = some as' → as'.length = as.length ∧ ∀ (i : Nat) s, as[i]? = some s → (∃ x, s = .pd x ∧ as'[i]? = some (.pd x)) ∨ (∃ x, s = .nt x ∧ as'[i]? = some (.nt x)) ∨ (∃ m c c', s = .mu m c ∧ m ≠ .own ∧ env[i]? = some (some (.mu m c')) ∧ as'[i]? = some (.mu m c'))
  | [], _, _, h => by cases h; exact ⟨rfl, fun i s h => by simp at h⟩
  | .pd x :: as, [], _, h => by cases h
  | .nt x :: as, [], _, h => by cases h
  | .mu _ _ :: as, [], _, h => by cases h
  | .pd x :: as, e :: env, as', h => by
    unfold finals at h
    split at h
    · cases h
    rename_i l hl
    cases h
    obtain ⟨h1, h2⟩ := finals_get hl
    refine ⟨by simp [h1], fun i s hs => ?_⟩
    cases i with
    | zero => simp at hs; subst hs; exact .inl ⟨x, rfl, rfl⟩
    | succ i => simpa using h2 i s (by simpa using hs)
  | .nt x :: as, e :: env, as', h => by
    unfold finals at h
    split at h
    · cases h
    rename_i l hl
    cases h
    obtain ⟨h1, h2⟩ := finals_get hl
    refine ⟨by simp [h1], fun i s hs => ?_⟩
    cases i with
    | zero => simp at hs; subst hs; exact .inr (.inl ⟨x, rfl, rfl⟩)
    | succ i => simpa using h2 i s (by simpa using hs)
  | .mu m c :: as, none :: env, _, h => by cases h
  | .mu m c :: as, some (.pd _) :: env, _, h => by cases h
  | .mu m c :: as, some (.nt _) :: env, _, h => by cases h
  | .mu m c :: as, some (.mu m' c') :: env, as', h => by
    unfold finals at h
    split at h
    · rename_i hm
      obtain ⟨rfl, hm⟩ := hm
      split at h
      · cases h
      rename_i l hl
      cases h
      obtain ⟨h1, h2⟩ := finals_get hl
      refine ⟨by simp [h1], fun i s hs => ?_⟩
      cases i with
      | zero => simp at hs; subst hs; exact .inr (.inr ⟨m, c, c', rfl, hm, rfl, rfl⟩)
      | succ i => simpa using h2 i s (by simpa using hs)
    · cases h

theorem startE_get {n : Nat} {as : List S} {i : Nat} {s : S} : (startE n as)[i]? = some (some s) ↔ as[i]? = some s := by
  unfold startE
  by_cases h : i < as.length
  · rw [List.getElem?_append_left (by simpa using h), List.getElem?_map, List.getElem?_eq_getElem h]
    simp
  · rw [List.getElem?_append_right (by simpa using h), List.getElem?_eq_none (l := as) (by omega)]
    simp only [List.length_map]
    constructor
    · intro q
      by_cases z : i - as.length < n - as.length
      · rw [List.getElem?_replicate, if_pos z] at q; cases q
      · rw [List.getElem?_replicate, if_neg z] at q; cases q
    · intro q; cases q
theorem start_get {N : List Str} {vs : List V} {i : Nat} {v : V} : (start N vs)[i]? = some (some v) ↔ vs[i]? = some v := by
  unfold L2.start
  by_cases h : i < vs.length
  · rw [List.getElem?_append_left (by simpa using h), List.getElem?_map, List.getElem?_eq_getElem h]
    simp
  · rw [List.getElem?_append_right (by simpa using h), List.getElem?_eq_none (l := vs) (by omega)]
    simp only [List.length_map]
    constructor
    · intro q
      by_cases z : i - vs.length < N.length - vs.length
      · rw [List.getElem?_replicate, if_pos z] at q; cases q
      · rw [List.getElem?_replicate, if_neg z] at q; cases q
    · intro q; cases q
theorem map_get {α : Type} {l : List α} {i : Nat} {x : α} : (l.map some)[i]? = some (some x) ↔ l[i]? = some x := by
  rw [List.getElem?_map]
  cases l[i]? <;> simp
theorem fn_body {K : PySem.W.Frag} {n : Nat} {N : List Str} {b : SS} {vs : List V} {H : Hp} {Q : VK} {E : XK} (h : spF K (runFn N.length b) n vs H Q E) : tS K b { nx := fun _ H' => Q .non H', rt := Q } (start N vs) H := by
  obtain ⟨hn, B, as, d, as', en, hF, q⟩ := h
  have hl : as.length = vs.length := by simpa using en.len
  have en0 : EnvR K B H (start N vs) (startE N.length as) := by
    refine ⟨by simp [startE, L2.start, hl], fun i x h => ?_, fun i x h => ?_, fun i m c h => ?_, fun i j m m' c c' a h1 h2 h3 h4 => ?_, en.dom, en.tb⟩
    · obtain ⟨v, h1, h2⟩ := en.pd i x (map_get.mpr (startE_get.mp h))
      exact ⟨v, start_get.mpr (map_get.mp h1), h2⟩
    · obtain ⟨v, h1, h2⟩ := en.nt i x (map_get.mpr (startE_get.mp h))
      exact ⟨v, start_get.mpr (map_get.mp h1), h2⟩
    · obtain ⟨v, h1, h2⟩ := en.mu i m c (map_get.mpr (startE_get.mp h))
      exact ⟨v, start_get.mpr (map_get.mp h1), h2⟩
    · exact en.inj i j m m' c c' a (map_get.mpr (startE_get.mp h1)) (map_get.mpr (startE_get.mp h2)) (map_get.mpr (start_get.mp h3)) (map_get.mpr (start_get.mp h4))
  have wiff : ∀ a, Wof (start N vs) (startE N.length as) a ↔ Wof (vs.map some) (as.map some) a := fun a => by
    constructor
    · rintro ⟨i, m, c, h1, h2, h3⟩; exact ⟨i, m, c, map_get.mpr (startE_get.mp h1), h2, map_get.mpr (start_get.mp h3)⟩
    · rintro ⟨i, m, c, h1, h2, h3⟩; exact ⟨i, m, c, startE_get.mpr (map_get.mp h1), h2, start_get.mpr (map_get.mp h3)⟩
  -- where the body ends
  have key : ∀ {e : Sl} {B' σ' H'}, finals as e = some as' → AtS K (start N vs) B H (startE N.length as) σ' B' H' e → At K (vs.map some) B H (as.map some) B' H' (as'.map some) ∧ (∀ (i : Nat) m c, as'[i]? = some (.mu m c) → m ≠ .own ∧ e[i]? = some (some (.mu m c)) ∧ ∀ v, vs[i]? = some v → σ'[i]? = some (some v)) := by
    intro e B' σ' H' hf a
    obtain ⟨f1, f2⟩ := finals_get hf
    have back : ∀ (i : Nat) m c, as'[i]? = some (.mu m c) → m ≠ .own ∧ e[i]? = some (some (.mu m c)) ∧ (∃ c0, as[i]? = some (.mu m c0)) ∧ ∀ v, vs[i]? = some v → σ'[i]? = some (some v) := by
      intro i m c h
      have hi : i < as.length := by rw [← f1]; exact (List.getElem?_eq_some_iff.mp h).1
      rcases f2 i as[i] (List.getElem?_eq_getElem hi) with ⟨x, e1, e2⟩ | ⟨x, e1, e2⟩ | ⟨m1, c1, c2, e1, e2, e3, e4⟩
      · rw [h] at e2; cases e2
      · rw [h] at e2; cases e2
      · rw [h] at e4
        cases e4
        have hs : as[i]? = some (.mu m c1) := by rw [List.getElem?_eq_getElem hi, e1]
        refine ⟨e2, e3, ⟨c1, hs⟩, fun v hv => ?_⟩
        obtain ⟨g1, _⟩ := a.bo i m c1 (startE_get.mpr hs) e2
        rw [g1]
        exact start_get.mpr hv
    have wsub : ∀ q, Wof (vs.map some) (as'.map some) q → Wof (vs.map some) (as.map some) q := by
      rintro q ⟨i, m, c, h1, h2, h3⟩
      obtain ⟨_, _, ⟨c0, h4⟩, _⟩ := back i m c (map_get.mp h1)
      exact ⟨i, m, c0, map_get.mpr h4, h2, h3⟩
    have st : Stp (Wof (vs.map some) (as.map some)) B H (Wof (vs.map some) (as'.map some)) B' H' :=
      ⟨fun q o h c => a.st.keep q o h (c.imp (fun n => ⟨fun w => n.1 ((wiff q).mp w), n.2⟩) id), a.st.new, fun q h w => a.st.old q h fun w' => w ((wiff q).mp w'), fun q w => .inl (wsub q w), a.st.liv⟩
    refine ⟨⟨st, ⟨by simp [f1, hl], fun i x h => ?_, fun i x h => ?_, fun i m c h => ?_, fun i j m m' c c' p h1 h2 h3 h4 => ?_, a.en.dom, a.en.tb⟩, fun i m c h => ?_, fun i m c h => ?_⟩, fun i m c h => ⟨(back i m c h).1, (back i m c h).2.1, (back i m c h).2.2.2⟩⟩
    · have h := map_get.mp h
      have hi : i < as.length := by rw [← f1]; exact (List.getElem?_eq_some_iff.mp h).1
      rcases f2 i as[i] (List.getElem?_eq_getElem hi) with ⟨y, e1, e2⟩ | ⟨y, e1, e2⟩ | ⟨m1, c1, c2, e1, e2, e3, e4⟩
      · rw [h] at e2
        cases e2
        obtain ⟨v, g1, g2⟩ := en.pd i x (map_get.mpr (by rw [List.getElem?_eq_getElem hi, e1]))
        exact ⟨v, g1, g2.grow (a.st.grow en0.wb)⟩
      · rw [h] at e2; cases e2
      · rw [h] at e4; cases e4
    · have h := map_get.mp h
      have hi : i < as.length := by rw [← f1]; exact (List.getElem?_eq_some_iff.mp h).1
      rcases f2 i as[i] (List.getElem?_eq_getElem hi) with ⟨y, e1, e2⟩ | ⟨y, e1, e2⟩ | ⟨m1, c1, c2, e1, e2, e3, e4⟩
      · rw [h] at e2; cases e2
      · rw [h] at e2
        cases e2
        obtain ⟨v, g1, g2⟩ := en.nt i x (map_get.mpr (by rw [List.getElem?_eq_getElem hi, e1]))
        exact ⟨v, g1, g2.grow (a.st.grow en0.wb)⟩
      · rw [h] at e4; cases e4
    · obtain ⟨g0, g1, ⟨c0, g2⟩, g3⟩ := back i m c (map_get.mp h)
      obtain ⟨p, k1, k2, k3⟩ := a.en.mu i m c g1
      obtain ⟨p', k4, _⟩ := en.mu i m c0 (map_get.mpr g2)
      rw [g3 _ (map_get.mp k4)] at k1
      cases k1
      exact ⟨_, k4, k2, k3⟩
    · obtain ⟨_, _, ⟨c1, g1⟩, _⟩ := back i m c (map_get.mp h1)
      obtain ⟨_, _, ⟨c2, g2⟩, _⟩ := back j m' c' (map_get.mp h2)
      exact en.inj i j m m' c1 c2 p (map_get.mpr g1) (map_get.mpr g2) h3 h4
    · obtain ⟨_, _, ⟨c1, g1⟩, _⟩ := back i m c (map_get.mp h)
      exact ⟨c1, map_get.mpr g1⟩
    · have h := map_get.mp h
      rcases f2 i _ h with ⟨y, e1, e2⟩ | ⟨y, e1, e2⟩ | ⟨m1, c1, c2, e1, e2, e3, e4⟩
      · cases e1
      · cases e1
      · cases e1; exact ⟨c2, map_get.mpr e4⟩
  unfold runFn at hF
  split at hF
  · rename_i d0 e hb
    split at hF
    · cases hF
    rename_i d1 ho
    split at hF
    · cases hF
    rename_i as1 hf
    cases hF
    refine ⟨B, startE N.length as, .rt d0, e, en0, hb, fun B' σ' H' a v r => ?_⟩
    obtain ⟨at_, bk⟩ := key hf a
    cases d0 with
    | pd x => cases ho; exact q B' H' v at_ r (fun _ => nofun)
    | nt x => cases ho; exact q B' H' v at_ r (fun _ => nofun)
    | tmp c =>
      cases ho
      obtain ⟨p, rfl, r1, r2, r3, r4⟩ := r
      refine q B' H' _ at_ ⟨p, rfl, r1, r2, r3, fun i m c h1 h2 => ?_⟩ (fun _ => nofun)
      obtain ⟨_, g1, g2⟩ := bk i m c (map_get.mp h1)
      exact r4 i m c g1 (g2 _ (map_get.mp h2))
    | var j =>
      simp only [outR] at ho
      split at ho
      · rename_i c hc
        cases ho
        obtain ⟨r1, _⟩ := r
        obtain ⟨p, k1, k2, k3⟩ := a.en.mu j _ _ hc
        rw [k1] at r1
        cases r1
        have nsl : ∀ (i : Nat) m c, as'[i]? = some (.mu m c) → vs[i]? ≠ some (.ref p) := fun i m c' h1 h2 => by
          obtain ⟨g0, g1, g2⟩ := bk i m c' h1
          have e := a.en.inj j i _ _ _ _ p hc g1 k1 (g2 _ h2)
          subst e
          rw [hc] at g1
          cases g1
          exact g0 rfl
        refine q B' H' _ at_ ⟨p, rfl, ?_, k2, k3, fun i m c h1 h2 => nsl i m c (map_get.mp h1) (map_get.mp h2)⟩ (fun _ => nofun)
        rcases a.st.sub p ⟨j, _, _, hc, by decide, k1⟩ with w | w
        · obtain ⟨i, m, c0, h1, h2, h3⟩ := w
          obtain ⟨c1, h4⟩ := at_.ks i m c0 (map_get.mpr (startE_get.mp h1))
          exact absurd (start_get.mp h3) (nsl i m c1 (map_get.mp h4))
        · exact w
      · cases ho
  · rename_i e hb
    split at hF
    · cases hF
    rename_i as1 hf
    cases hF
    refine ⟨B, startE N.length as, .nx, e, en0, hb, fun B' σ' H' a => ?_⟩
    obtain ⟨at_, bk⟩ := key hf a
    exact q B' H' _ at_ .non (fun _ => nofun)
  · cases hF
theorem spF_len {K : PySem.W.Frag} {F : FnD} {n : Nat} {ps : List Str} (h : n = ps.length) : ∀ vs H Q E, spF K F n vs H Q E → vs.length = ps.length := fun vs H Q E q => by rw [← h]; exact q.1
end T3

end
section
set_option linter.all false
set_option autoImplicit false
set_option Elab.async false
namespace T3
open PySem L2
variable [TabL]

def toArg (env : Sl) : R → Option S
  | .pd x => some (.pd x)
  | .nt x => some (.nt x)
  | .tmp c => some (.mu .bor c)
  | .var i => match env[i]? with
    | some (some (.mu .fro c)) => some (.mu .fro c)
    | some (some (.mu _ c)) => some (.mu .bor c)
    | _ => none
def toArgs (env : Sl) : List R → Option (List S)
  | [] => some []
  | d :: ds => match toArg env d with
    | none => none
    | some a => match toArgs env ds with
      | none => none
      | some as => some (a :: as)
def hasVar (i : Nat) : List R → Bool
  | [] => false
  | .var j :: ds => decide (i = j) || hasVar i ds
  | _ :: ds => hasVar i ds
def varsApart : List R → Bool
  | [] => true
  | .var j :: ds => !hasVar j ds && varsApart ds
  | _ :: ds => varsApart ds
def back : List R → List S → Sl → Sl
  | .var i :: ds, .mu _ c :: as, env => match env[i]? with
    | some (some (.mu m _)) => back ds as (env.set i (some (.mu m c)))
    | _ => back ds as env
  | _ :: ds, _ :: as, env => back ds as env
  | _, _, env => env
def eCall (F : FnD) (f : EA) : EE := eThen f fun ds env => match toArgs env ds with
  | none => none
  | some as => if varsApart ds = true then match F as with
      | none => none
      | some (.var _, _) => none
      | some (d, as') => some (d, back ds as' env)
    else none

theorem toArgs_get {env : Sl} : ∀ {ds : List R} {as : List S}, toArgs env ds = some as → as.length = ds.length ∧ ∀ (k : Nat) d, ds[k]? = some d → ∃ s, as[k]? = some s ∧ toArg env d = some s
  | [], as, h => by cases h; exact ⟨rfl, fun k d h => by simp at h⟩
  | d :: ds, as, h => by
    unfold toArgs at h
    split at h
    · cases h
    rename_i a ha
    split at h
    · cases h
    rename_i as1 h1
    cases h
    obtain ⟨g1, g2⟩ := toArgs_get h1
    refine ⟨by simp [g1], fun k d' hd => ?_⟩
    cases k with
    | zero => simp at hd; subst hd; exact ⟨a, rfl, ha⟩
    | succ k => simpa using g2 k d' (by simpa using hd)
theorem hasVar_get {i : Nat} : ∀ {ds : List R} {k : Nat}, ds[k]? = some (.var i) → hasVar i ds = true
  | [], k, h => by simp at h
  | d :: ds, 0, h => by simp at h; subst h; simp [hasVar]
  | d :: ds, k + 1, h => by
    have := hasVar_get (ds := ds) (k := k) (by simpa using h)
    cases d <;> simp [hasVar, this]
theorem varsApart_get : ∀ {ds : List R} {k l i : Nat}, varsApart ds = true → ds[k]? = some (.var i) → ds[l]? = some (.var i) → k = l
  | [], k, _, _, _, h, _ => by simp at h
  | d :: ds, 0, 0, _, _, _, _ => rfl
  | d :: ds, 0, l + 1, i, hv, h, h' => by
    simp at h
    subst h
    have := hasVar_get (ds := ds) (k := l) (by simpa using h')
    simp [varsApart, this] at hv
  | d :: ds, k + 1, 0, i, hv, h, h' => by
    simp at h'
    subst h'
    have := hasVar_get (ds := ds) (k := k) (by simpa using h)
    simp [varsApart, this] at hv
  | d :: ds, k + 1, l + 1, i, hv, h, h' => by
    have hv' : varsApart ds = true := by cases d <;> simp [varsApart] at hv <;> first | exact hv | exact hv.2
    rw [varsApart_get (ds := ds) (k := k) (l := l) (i := i) hv' (by simpa using h) (by simpa using h')]
theorem varsApart_tail {d : R} {ds : List R} (h : varsApart (d :: ds) = true) : varsApart ds = true := by cases d <;> simp [varsApart] at h <;> first | exact h | exact h.2
theorem back_get : ∀ {ds : List R} {as : List S} {env : Sl}, varsApart ds = true → as.length = ds.length → (∀ (k : Nat) i, ds[k]? = some (.var i) → ∃ m c, env[i]? = some (some (.mu m c))) → (∀ (k : Nat) i, ds[k]? = some (.var i) → ∃ m c, as[k]? = some (.mu m c)) →
    (back ds as env).length = env.length ∧ (∀ j, (∀ k : Nat, ds[k]? ≠ some (.var j)) → (back ds as env)[j]? = env[j]?) ∧ ∀ (k : Nat) i m c m' c', ds[k]? = some (.var i) → env[i]? = some (some (.mu m c)) → as[k]? = some (.mu m' c') → (back ds as env)[i]? = some (some (.mu m c'))
  | [], [], env, _, _, _, _ => ⟨rfl, fun j _ => rfl, fun k i m c m' c' h => by simp at h⟩
  | [], _ :: _, _, _, h, _, _ => by simp at h
  | _ :: _, [], _, _, h, _, _ => by simp at h
  | d :: ds, a :: as, env, hv, hl, hm, hc => by
    have hl' : as.length = ds.length := by simpa using hl
    have hv' := varsApart_tail hv
    have plain : (∀ i, d ≠ .var i) → back (d :: ds) (a :: as) env = back ds as env := fun h => by
      cases d with
      | var i => exact absurd rfl (h i)
      | pd x => rfl
      | nt x => rfl
      | tmp c => rfl
    by_cases hd : ∃ i, d = .var i
    · obtain ⟨i, rfl⟩ := hd
      obtain ⟨m, c, h1⟩ := hm 0 i rfl
      obtain ⟨m', c', h2⟩ := hc 0 i rfl
      simp at h2
      subst h2
      have hi : i < env.length := (List.getElem?_eq_some_iff.mp h1).1
      have e : back (.var i :: ds) (.mu m' c' :: as) env = back ds as (env.set i (some (.mu m c'))) := by simp only [back, h1]
      have ni : ∀ k : Nat, ds[k]? ≠ some (.var i) := fun k z => by
        have := varsApart_get (ds := .var i :: ds) (k := 0) (l := k + 1) (i := i) hv rfl (by simpa using z)
        omega
      obtain ⟨b1, b2, b3⟩ := back_get (ds := ds) (as := as) (env := env.set i (some (.mu m c'))) hv' hl' (fun k j h => by
        obtain ⟨m1, c1, g⟩ := hm (k + 1) j (by simpa using h)
        have : i ≠ j := fun z => by subst z; exact ni k h
        exact ⟨m1, c1, by rw [List.getElem?_set_ne this]; exact g⟩) (fun k j h => by simpa using hc (k + 1) j (by simpa using h))
      rw [e]
      refine ⟨by simp [b1], fun j hj => ?_, fun k j m1 c1 m2 c2 g1 g2 g3 => ?_⟩
      · have n1 : i ≠ j := fun z => by subst z; exact hj 0 rfl
        rw [b2 j (fun k z => hj (k + 1) (by simpa using z)), List.getElem?_set_ne n1]
      · cases k with
        | zero =>
          simp at g1 g3
          subst g1
          rw [b2 _ ni, List.getElem?_set_self hi]
          rw [h1] at g2
          cases g2
          obtain ⟨_, rfl⟩ := g3
          rfl
        | succ k =>
          have g1' : ds[k]? = some (.var j) := by simpa using g1
          have n1 : i ≠ j := fun z => by subst z; exact ni k g1'
          exact b3 k j m1 c1 m2 c2 g1' (by rw [List.getElem?_set_ne n1]; exact g2) (by simpa using g3)
    · have hd' : ∀ i, d ≠ .var i := fun i z => hd ⟨i, z⟩
      rw [plain hd']
      obtain ⟨b1, b2, b3⟩ := back_get (ds := ds) (as := as) (env := env) hv' hl' (fun k j h => by simpa using hm (k + 1) j (by simpa using h)) (fun k j h => by simpa using hc (k + 1) j (by simpa using h))
      refine ⟨b1, fun j hj => b2 j (fun k z => hj (k + 1) (by simpa using z)), fun k j m1 c1 m2 c2 g1 g2 g3 => ?_⟩
      cases k with
      | zero => simp at g1; exact absurd g1 (hd' j)
      | succ k => exact b3 k j m1 c1 m2 c2 (by simpa using g1) g2 (by simpa using g3)

theorem rd_callS {K : PySem.W.Frag} {F : FnD} {f : EA} {n : Nat} {σ : St} {H : Hp} {Q : VK} {E : XK} {B : Mset} {env : Sl} {d : R} {env' : Sl} (hn : ∀ ds e e', f e = some (ds, e') → ds.length = n) (en : EnvR K B H σ env) (ev : eCall F f env = some (d, env')) (q : ∀ B' H' v, At K σ B H env B' H' env' → RR K H B' H' σ env' v d → Q v H') :
    ∃ ds e1, f env = some (ds, e1) ∧ ∀ B1 H1 vs, At K σ B H env B1 H1 e1 → RRA K H B1 H1 σ e1 vs ds → spF K F n vs H1 Q E := by
  unfold eCall eThen at ev
  split at ev
  · cases ev
  rename_i ds e1 h1
  dsimp only at ev
  split at ev
  · cases ev
  rename_i as h2
  split at ev
  rotate_left
  · cases ev
  rename_i hv
  refine ⟨ds, e1, h1, fun B1 H1 vs a1 rr => ?_⟩
  have lds : ds.length = n := hn _ _ _ h1
  obtain ⟨la, ga⟩ := toArgs_get h2
  have hlv : vs.length = ds.length := rr.len
  have hls : as.length = vs.length := by omega
  -- what an argument is
  have kind : ∀ (k : Nat) s v, as[k]? = some s → vs[k]? = some v → (∃ x, s = .pd x ∧ Rp K B1 H1 v x ∧ ∃ d, ds[k]? = some d ∧ ∀ i, d ≠ .var i) ∨ (∃ x p, s = .nt x ∧ v = .ref p ∧ NtR K B1 H1 p x) ∨ (∃ c p, s = .mu .bor c ∧ ds[k]? = some (.tmp c) ∧ v = .ref p ∧ H p = none ∧ B1 p ∧ CtR K B1 H1 p c ∧ ∀ (i : Nat) m d, e1[i]? = some (some (S.mu m d)) → σ[i]? ≠ some (some (V.ref p))) ∨
      (∃ i m c p, s = .mu (if m = .fro then .fro else .bor) c ∧ ds[k]? = some (.var i) ∧ e1[i]? = some (some (.mu m c)) ∧ v = .ref p ∧ σ[i]? = some (some (.ref p)) ∧ B1 p ∧ CtR K B1 H1 p c) := by
    intro k s v hs hv'
    have hk : k < ds.length := by rw [← la]; exact (List.getElem?_eq_some_iff.mp hs).1
    obtain ⟨s', g1, g2⟩ := ga k ds[k] (List.getElem?_eq_getElem hk)
    rw [hs] at g1
    cases g1
    have hdk : ds[k]? = some ds[k] := List.getElem?_eq_getElem hk
    have hr := rr.each k v ds[k] hv' hdk
    revert g2 hr hdk
    generalize ds[k] = d
    intro g2 hdk hr
    cases d with
    | pd x => cases g2; exact .inl ⟨x, rfl, hr, _, hdk, fun _ => nofun⟩
    | nt x => cases g2; obtain ⟨p, e1, e2⟩ := hr; exact .inr (.inl ⟨x, p, rfl, e1, e2⟩)
    | tmp c =>
      cases g2
      obtain ⟨p, rfl, r1, r2, r3, r4⟩ := hr
      exact .inr (.inr (.inl ⟨c, p, rfl, hdk, rfl, r1, r2, r3, r4⟩))
    | var i =>
      simp only [toArg] at g2
      have hr : σ[i]? = some (some v) := hr
      split at g2
      · rename_i c hc
        cases g2
        obtain ⟨p, k1, k2, k3⟩ := a1.en.mu i _ _ hc
        rw [hr] at k1
        cases k1
        exact .inr (.inr (.inr ⟨i, .fro, c, p, by simp, hdk, hc, rfl, hr, k2, k3⟩))
      · rename_i m c hnf hc
        cases g2
        obtain ⟨p, k1, k2, k3⟩ := a1.en.mu i _ _ hc
        rw [hr] at k1
        cases k1
        refine .inr (.inr (.inr ⟨i, m, c, p, ?_, hdk, hc, rfl, hr, k2, k3⟩))
        have hm : m ≠ .fro := fun z => hnf z
        rw [if_neg hm]
      · cases g2
  have enA : EnvR K B1 H1 (vs.map some) (as.map some) := by
    refine ⟨by simp [hls], fun k x h => ?_, fun k x h => ?_, fun k m c h => ?_, fun k l m m' c c' p g1 g2 g3 g4 => ?_, a1.en.dom, a1.en.tb⟩
    · have h := map_get.mp h
      have hk : k < vs.length := by rw [← hls]; exact (List.getElem?_eq_some_iff.mp h).1
      have hvk : vs[k]? = some vs[k] := List.getElem?_eq_getElem hk
      rcases kind k _ _ h hvk with ⟨y, e, r, _⟩ | ⟨y, p, e, _⟩ | ⟨c, p, e, _⟩ | ⟨i, m, c, p, e, _⟩
      · cases e; exact ⟨vs[k], map_get.mpr hvk, r⟩
      · cases e
      · cases e
      · cases e
    · have h := map_get.mp h
      have hk : k < vs.length := by rw [← hls]; exact (List.getElem?_eq_some_iff.mp h).1
      have hvk : vs[k]? = some vs[k] := List.getElem?_eq_getElem hk
      rcases kind k _ _ h hvk with ⟨y, e, r, _⟩ | ⟨y, p, e, e2, r⟩ | ⟨c, p, e, _⟩ | ⟨i, m, c, p, e, _⟩
      · cases e
      · cases e; exact ⟨p, map_get.mpr (by rw [hvk, e2]), r⟩
      · cases e
      · cases e
    · have h := map_get.mp h
      have hk : k < vs.length := by rw [← hls]; exact (List.getElem?_eq_some_iff.mp h).1
      have hvk : vs[k]? = some vs[k] := List.getElem?_eq_getElem hk
      rcases kind k _ _ h hvk with ⟨y, e, r, _⟩ | ⟨y, p, e, _⟩ | ⟨c1, p, e, _, ev, _, r2, r3, _⟩ | ⟨i, m1, c1, p, e, _, _, ev, _, r2, r3⟩
      · cases e
      · cases e
      · cases e; exact ⟨p, map_get.mpr (by rw [hvk, ev]), r2, r3⟩
      · cases e; exact ⟨p, map_get.mpr (by rw [hvk, ev]), r2, r3⟩
    · have g1 := map_get.mp g1
      have g2 := map_get.mp g2
      have g3 := map_get.mp g3
      have g4 := map_get.mp g4
      rcases kind k _ _ g1 g3 with ⟨y, e, r, _⟩ | ⟨y, p, e, _⟩ | ⟨c1, p1, e, d1, ev1, _, _, _, n1⟩ | ⟨i1, m1, c1, p1, e, d1, s1, ev1, t1, _⟩
      · cases e
      · cases e
      · cases ev1
        rcases kind l _ _ g2 g4 with ⟨y, e', r, _⟩ | ⟨y, p, e', _⟩ | ⟨c2, p2, e', d2, ev2, _, _, _, n2⟩ | ⟨i2, m2, c2, p2, e', d2, s2, ev2, t2, _⟩
        · cases e'
        · cases e'
        · cases ev2
          by_cases z : k = l
          · exact z
          · exact (rr.apart k l _ _ _ z d1 d2 g3 g4).elim
        · cases ev2; exact absurd t2 (n1 _ _ _ s2)
      · cases ev1
        rcases kind l _ _ g2 g4 with ⟨y, e', r, _⟩ | ⟨y, p, e', _⟩ | ⟨c2, p2, e', d2, ev2, _, _, _, n2⟩ | ⟨i2, m2, c2, p2, e', d2, s2, ev2, t2, _⟩
        · cases e'
        · cases e'
        · cases ev2; exact absurd t1 (n2 _ _ _ s1)
        · cases ev2
          have z := a1.en.inj i1 i2 _ _ _ _ _ s1 s2 t1 t2
          subst z
          exact varsApart_get hv d1 d2
  split at ev
  · cases ev
  · cases ev
  rename_i d0 as1 hd0 hF
  cases ev
  refine ⟨by omega, B1, as, d, as1, enA, hF, fun B2 H2 v a2 r2 nv => ?_⟩
  have las1 : as1.length = vs.length := by simpa using a2.en.len
  have bk := back_get (ds := ds) (as := as1) (env := e1) hv (by omega) (fun k i h => by
      obtain ⟨s, g1, g2⟩ := ga k _ h
      simp only [toArg] at g2
      split at g2
      · rename_i hc; exact ⟨_, _, hc⟩
      · rename_i hc; exact ⟨_, _, hc⟩
      · cases g2) (fun k i h => by
      obtain ⟨s, g1, g2⟩ := ga k _ h
      have : ∃ m c, s = .mu m c := by
        simp only [toArg] at g2
        split at g2
        · cases g2; exact ⟨_, _, rfl⟩
        · cases g2; exact ⟨_, _, rfl⟩
        · cases g2
      obtain ⟨m, c, rfl⟩ := this
      obtain ⟨c', h'⟩ := a2.ks k m c (map_get.mpr g1)
      exact ⟨m, c', map_get.mp h'⟩)
  obtain ⟨bl, bo, bv⟩ := bk
  -- W of the call: of the caller's or new
  have wcall : ∀ p, Wof (vs.map some) (as.map some) p → (∃ (k i : Nat) (m : Md) (c : Ct), ds[k]? = some (R.var i) ∧ e1[i]? = some (some (S.mu m c)) ∧ m ≠ .fro ∧ σ[i]? = some (some (V.ref p))) ∨ (H p = none ∧ ∀ (i : Nat) m d, e1[i]? = some (some (S.mu m d)) → σ[i]? ≠ some (some (V.ref p))) := by
    rintro p ⟨k, m, c, g1, g2, g3⟩
    rcases kind k _ _ (map_get.mp g1) (map_get.mp g3) with ⟨y, e, r, _⟩ | ⟨y, p, e, _⟩ | ⟨c1, p1, e, d1, ev1, h0, _, _, n1⟩ | ⟨i1, m1, c1, p1, e, d1, s1, ev1, t1, _⟩
    · cases e
    · cases e
    · cases ev1; exact .inr ⟨h0, n1⟩
    · cases ev1
      cases e
      refine .inl ⟨k, i1, m1, _, d1, s1, fun z => ?_, t1⟩
      rw [if_pos z] at g2
      exact g2 rfl
  have wW : ∀ p, Wof (vs.map some) (as.map some) p → Wof σ env p ∨ H p = none := fun p w => by
    rcases wcall p w with ⟨k, i, m, c, g1, g2, g3, g4⟩ | ⟨h0, _⟩
    · exact a1.st.sub p ⟨i, m, c, g2, g3, g4⟩
    · exact .inr h0
  have same : ∀ (j : Nat) m c, (back ds as1 e1)[j]? = some (some (S.mu m c)) → ∃ c', e1[j]? = some (some (.mu m c')) := fun j m c h => by
    by_cases z : ∃ k : Nat, ds[k]? = some (.var j)
    · obtain ⟨k, hk⟩ := z
      obtain ⟨s, g1, g2⟩ := ga k _ hk
      have : ∃ m c, e1[j]? = some (some (.mu m c)) ∧ ∃ m', s = .mu m' c := by
        simp only [toArg] at g2
        split at g2
        · rename_i hc; cases g2; exact ⟨_, _, hc, _, rfl⟩
        · rename_i hc; cases g2; exact ⟨_, _, hc, _, rfl⟩
        · cases g2
      obtain ⟨m1, c1, h3, m2, rfl⟩ := this
      obtain ⟨c2, h4⟩ := a2.ks k m2 c1 (map_get.mpr g1)
      rw [bv k j m1 c1 m2 c2 hk h3 (map_get.mp h4)] at h
      cases h
      exact ⟨c1, h3⟩
    · rw [bo j (fun k hk => z ⟨k, hk⟩)] at h
      exact ⟨c, h⟩
  have same' : ∀ (j : Nat) m c, e1[j]? = some (some (S.mu m c)) → ∃ c', (back ds as1 e1)[j]? = some (some (.mu m c')) ∧ ((∀ k : Nat, ds[k]? ≠ some (.var j)) ∧ c' = c ∨ ∃ (k : Nat) (m' : Md), ds[k]? = some (R.var j) ∧ as1[k]? = some (S.mu m' c')) := fun j m c h => by
    by_cases z : ∃ k : Nat, ds[k]? = some (.var j)
    · obtain ⟨k, hk⟩ := z
      obtain ⟨s, g1, g2⟩ := ga k _ hk
      have : ∃ m', s = .mu m' c := by
        simp only [toArg] at g2
        split at g2
        · rename_i hc; rw [h] at hc; cases hc; cases g2; exact ⟨_, rfl⟩
        · rename_i hc; rw [h] at hc; cases hc; cases g2; exact ⟨_, rfl⟩
        · cases g2
      obtain ⟨m2, rfl⟩ := this
      obtain ⟨c2, h4⟩ := a2.ks k m2 c (map_get.mpr g1)
      exact ⟨c2, bv k j m c m2 c2 hk h (map_get.mp h4), .inr ⟨k, m2, hk, map_get.mp h4⟩⟩
    · exact ⟨c, by rw [bo j (fun k hk => z ⟨k, hk⟩)]; exact h, .inl ⟨fun k hk => z ⟨k, hk⟩, rfl⟩⟩
  have gr : Grow B1 H1 B2 H2 := a2.grow enA
  have enE : EnvR K B2 H2 σ (back ds as1 e1) := by
    refine ⟨by rw [bl]; exact a1.en.len, fun j x h => ?_, fun j x h => ?_, fun j m c h => ?_, fun j k m m' c c' p g1 g2 g3 g4 => ?_, a2.en.dom, a2.en.tb⟩
    · have h' : e1[j]? = some (some (.pd x)) := by
        by_cases z : ∃ k : Nat, ds[k]? = some (.var j)
        · obtain ⟨k, hk⟩ := z
          obtain ⟨s, g1, g2⟩ := ga k _ hk
          have : ∃ m c, e1[j]? = some (some (.mu m c)) := by
            simp only [toArg] at g2
            split at g2
            · rename_i hc; exact ⟨_, _, hc⟩
            · rename_i hc; exact ⟨_, _, hc⟩
            · cases g2
          obtain ⟨m, c, h3⟩ := this
          obtain ⟨c', h4, _⟩ := same' j m c h3
          rw [h4] at h
          cases h
        · rw [bo j (fun k hk => z ⟨k, hk⟩)] at h; exact h
      obtain ⟨w, g1, g2⟩ := a1.en.pd j x h'
      exact ⟨w, g1, g2.grow gr⟩
    · have h' : e1[j]? = some (some (.nt x)) := by
        by_cases z : ∃ k : Nat, ds[k]? = some (.var j)
        · obtain ⟨k, hk⟩ := z
          obtain ⟨s, g1, g2⟩ := ga k _ hk
          have : ∃ m c, e1[j]? = some (some (.mu m c)) := by
            simp only [toArg] at g2
            split at g2
            · rename_i hc; exact ⟨_, _, hc⟩
            · rename_i hc; exact ⟨_, _, hc⟩
            · cases g2
          obtain ⟨m, c, h3⟩ := this
          obtain ⟨c', h4, _⟩ := same' j m c h3
          rw [h4] at h
          cases h
        · rw [bo j (fun k hk => z ⟨k, hk⟩)] at h; exact h
      obtain ⟨w, g1, g2⟩ := a1.en.nt j x h'
      exact ⟨w, g1, g2.grow gr⟩
    · obtain ⟨c0, h0⟩ := same j m c h
      obtain ⟨p, g1, g2, g3⟩ := a1.en.mu j m c0 h0
      obtain ⟨c', h4, hc⟩ := same' j m c0 h0
      rw [h] at h4
      cases h4
      rcases hc with ⟨hno, rfl⟩ | ⟨k, m', hk, ha⟩
      · have nw : ¬ Wof (vs.map some) (as.map some) p := fun w => by
          rcases wcall p w with ⟨k, i, m1, c1, k1, k2, k3, k4⟩ | ⟨_, hns⟩
          · have z := a1.en.inj j i _ _ _ _ p h0 k2 g1 k4
            subst z
            exact hno k k1
          · exact hns j m _ h0 g1
        exact ⟨p, g1, a2.st.old p g2 nw, g3.keep a2.st enA.wb nw⟩
      · obtain ⟨p', k1, k2, k3⟩ := a2.en.mu k m' c (map_get.mpr ha)
        have hvk : vs[k]? = some (.ref p') := map_get.mp k1
        have := rr.each k _ _ hvk hk
        have this : σ[j]? = some (some (.ref p')) := this
        rw [g1] at this
        cases this
        exact ⟨p, g1, k2, k3⟩
    · obtain ⟨c1, h1'⟩ := same j m c g1
      obtain ⟨c2, h2'⟩ := same k m' c' g2
      exact a1.en.inj j k m m' c1 c2 p h1' h2' g3 g4
  refine q B2 H2 v ⟨⟨fun p o h c => ?_, fun p h => ?_, fun p h w => ?_, fun p w => ?_, fun p h => a1.st.liv p (a2.st.liv p h)⟩, enE, fun j m c h => ?_, fun j m c h => ?_⟩ ?_
  · refine a2.st.keep p o (a1.st.keep p o h c) ?_
    rcases c with c | c
    · refine .inl ⟨fun w => ?_, c.2⟩
      rcases wW p w with w | w
      · exact c.1 w
      · rw [h] at w; cases w
    · exact .inr c
  · rcases a2.st.new p h with h | h
    · exact a1.st.new p h
    · exact .inr (a1.st.liv p h)
  · refine a2.st.old p (a1.st.old p h w) fun w' => ?_
    rcases wW p w' with z | z
    · exact w z
    · obtain ⟨o, ho⟩ := en.dom p h
      rw [z] at ho; cases ho
  · obtain ⟨j, m, c, g1, g2, g3⟩ := w
    obtain ⟨c0, h0⟩ := same j m c g1
    exact a1.st.sub p ⟨j, m, c0, h0, g2, g3⟩
  · obtain ⟨c0, h0⟩ := same j m c h
    exact a1.sm j m c0 h0
  · obtain ⟨c0, h0⟩ := a1.ks j m c h
    obtain ⟨c', h4, _⟩ := same' j m c0 h0
    exact ⟨c', h4⟩
  · cases d with
    | pd x => exact r2
    | nt x => exact r2
    | var i => exact absurd rfl (nv i)
    | tmp c =>
      obtain ⟨p, rfl, k1, k2, k3, k4⟩ := r2
      refine ⟨p, rfl, a1.st.liv p k1, k2, k3, fun j m d h1 h2 => ?_⟩
      obtain ⟨c0, h0⟩ := same j m d h1
      obtain ⟨p', g1, g2, g3⟩ := a1.en.mu j m c0 h0
      rw [h2] at g1
      cases g1
      obtain ⟨o, ho⟩ := a1.en.dom p g2
      rw [k1] at ho; cases ho
theorem rd_call {K : PySem.W.Frag} {F : FnD} {f : EA} {n : Nat} {σ : St} {H : Hp} {Q : VK} {E : XK} (hn : ∀ ds e e', f e = some (ds, e') → ds.length = n) (h : tE K (eCall F f) σ H Q) : tCall (spF K F n) [] E (tA K f) σ H Q := by
  obtain ⟨B, env, d, env', en, ev, q⟩ := h
  obtain ⟨ds, e1, h1, h2⟩ := rd_callS (E := E) hn en ev q
  exact ⟨B, env, ds, e1, en, h1, fun B1 H1 vs a1 rr => by
    show spF K F n (vs ++ []) H1 Q E
    rw [List.append_nil]
    exact h2 B1 H1 vs a1 rr⟩
end T3

end
section
set_option linter.all false
set_option autoImplicit false
set_option Elab.async false
namespace T3
open PySem L2
variable [TabL]

theorem small {n : Nat} (h : n ≤ 1000000) : n < sizeLine := by rw [sizeLine_eq]; omega

def wipeE (env : Sl) : List Nat → Sl
  | [] => env
  | v :: vs => (wipeE env vs).set v none
def unwipe (env : Sl) (e : Sl) : List Nat → Sl
  | [] => e
  | v :: vs => (unwipe env e vs).set v (env.getD v none)
theorem wipeE_len {env : Sl} : ∀ {vs : List Nat}, (wipeE env vs).length = env.length
  | [] => rfl
  | v :: vs => by simp [wipeE, wipeE_len (vs := vs)]
theorem wipeE_in {env : Sl} {s : S} : ∀ {vs : List Nat} {i : Nat}, (wipeE env vs)[i]? = some (some s) → i ∉ vs ∧ env[i]? = some (some s)
  | [], i, h => ⟨by simp, h⟩
  | v :: vs, i, h => by
    unfold wipeE at h
    rcases get_set h with ⟨e, e'⟩ | ⟨e, h⟩
    · cases e'
    · obtain ⟨h1, h2⟩ := wipeE_in h
      exact ⟨by simp only [List.mem_cons, not_or]; exact ⟨fun z => e z.symm, h1⟩, h2⟩
theorem wipeE_out {env : Sl} : ∀ {vs : List Nat} {i : Nat}, i ∉ vs → (wipeE env vs)[i]? = env[i]?
  | [], i, h => rfl
  | v :: vs, i, h => by
    simp only [List.mem_cons, not_or] at h
    unfold wipeE
    rw [List.getElem?_set_ne (fun z => h.1 z.symm), wipeE_out h.2]
theorem wipe_out {σ : St} : ∀ {vs : List Nat} {i : Nat}, i ∉ vs → (wipe σ vs)[i]? = σ[i]?
  | [], i, h => rfl
  | v :: vs, i, h => by
    simp only [List.mem_cons, not_or] at h
    unfold wipe
    rw [List.getElem?_set_ne (fun z => h.1 z.symm), wipe_out h.2]
theorem unwipe_len {env e : Sl} : ∀ {vs : List Nat}, (unwipe env e vs).length = e.length
  | [] => rfl
  | v :: vs => by simp [unwipe, unwipe_len (vs := vs)]
theorem unwipe_out {env e : Sl} : ∀ {vs : List Nat} {i : Nat}, i ∉ vs → (unwipe env e vs)[i]? = e[i]?
  | [], i, h => rfl
  | v :: vs, i, h => by
    simp only [List.mem_cons, not_or] at h
    unfold unwipe
    rw [List.getElem?_set_ne (fun z => h.1 z.symm), unwipe_out h.2]
theorem unwipe_in {env e : Sl} (hl : e.length = env.length) : ∀ {vs : List Nat} {i : Nat}, i ∈ vs → (unwipe env e vs)[i]? = env[i]?
  | [], i, h => by simp at h
  | v :: vs, i, h => by
    unfold unwipe
    by_cases z : v = i
    · subst z
      by_cases q : v < e.length
      · rw [List.getElem?_set_self (by rw [unwipe_len]; exact q)]
        rw [List.getD_eq_getElem?_getD, List.getElem?_eq_getElem (by omega)]
        rfl
      · rw [List.getElem?_eq_none (by simp [unwipe_len]; omega), List.getElem?_eq_none (by omega)]
    · rw [List.getElem?_set_ne z]
      refine unwipe_in hl ?_
      simp only [List.mem_cons] at h
      rcases h with h | h
      · exact absurd h.symm z
      · exact h
def Only (g : GG) (vs : List Nat) : Prop := ∀ x e e', g x e = some e' → ∀ j, j ∉ vs → e'[j]? = e[j]?
def tGv (K : PySem.W.Frag) (g : GG) (vs : List Nat) : TG := fun v σ H Q => ∃ B env x env', EnvR K B H σ env ∧ Rp K B H v x ∧ g x env = some env' ∧ ∀ B' σ' H', AtS K σ B H env σ' B' H' env' → wipe σ' vs = wipe σ vs → Q σ' H'
theorem wipe_set {σ : St} {x : Option V} : ∀ {vs : List Nat} {i : Nat}, i ∈ vs → wipe (σ.set i x) vs = wipe σ vs
  | [], i, h => by simp at h
  | v :: vs, i, h => by
    unfold wipe
    by_cases z : i ∈ vs
    · rw [wipe_set z]
    · have e : i = v := by
        simp only [List.mem_cons] at h
        rcases h with h | h
        · exact h
        · exact absurd h z
      subst e
      have : ∀ {ws : List Nat}, i ∉ ws → wipe (σ.set i x) ws = (wipe σ ws).set i x := by
        intro ws
        induction ws with
        | nil => intro _; rfl
        | cons w ws ih =>
          intro hw
          simp only [List.mem_cons, not_or] at hw
          show (wipe (σ.set i x) ws).set w none = ((wipe σ ws).set w none).set i x
          rw [ih hw.2, List.set_comm _ _ hw.1]
      rw [this z, List.set_set]
theorem wipe_idem {σ : St} : ∀ {vs : List Nat}, wipe (wipe σ vs) vs = wipe σ vs := fun {vs} => by
  have : ∀ (us ws : List Nat), (∀ u ∈ us, u ∈ ws) → wipe (wipe σ us) ws = wipe σ ws := by
    intro us
    induction us with
    | nil => intro ws _; rfl
    | cons u us ih =>
      intro ws h
      show wipe ((wipe σ us).set u none) ws = wipe σ ws
      rw [wipe_set (h u (by simp)), ih ws (fun z hz => h z (by simp [hz]))]
  exact this vs vs (fun _ h => h)
theorem rd_gNv {K : PySem.W.Frag} {i : Nat} {vs : List Nat} (hi : i ∈ vs) {v : V} {σ : St} {H : Hp} {Q : St → Hp → Prop} (h : tGv K (gN i) vs v σ H Q) : gName i v σ H Q := by
  obtain ⟨B, env, x, env', en, r, ev, q⟩ := h
  exact q B _ H (AtS.set en (.refl en) (d := .pd x) r ev) (wipe_set hi)
theorem only_gN {i : Nat} {vs : List Nat} (hi : i ∈ vs) : Only (gN i) vs := by
  intro x e e' h j hj
  have hij : i ≠ j := fun z => by subst z; exact hj hi
  simp only [gN, setR] at h
  split at h
  · cases h; rw [List.getElem?_set_ne hij]
  · cases h
def tGsv (K : PySem.W.Frag) (g : GGs) (vs : List Nat) : TGs := fun ws σ H Q => ∃ B env xs env', EnvR K B H σ env ∧ RpA K B H ws xs ∧ g xs env = some env' ∧ ∀ B' σ' H', AtS K σ B H env σ' B' H' env' → wipe σ' vs = wipe σ vs → Q σ' H'
def OnlyS (g : GGs) (vs : List Nat) : Prop := ∀ x e e', g x e = some e' → ∀ j, j ∉ vs → e'[j]? = e[j]?
theorem rd_gNlv {K : PySem.W.Frag} {us : List Nat} {vs : List V} {σ : St} {H : Hp} {Q : St → Hp → Prop} (h : tGsv K gNl us vs σ H Q) : gNil vs σ H Q := by
  obtain ⟨B, env, x, env', en, r, ev, q⟩ := h
  unfold gNl at ev
  split at ev
  · cases ev; cases r; exact ⟨rfl, q B _ H (.refl en) rfl⟩
  · cases ev
theorem rd_gCnv {K : PySem.W.Frag} {us : List Nat} {g : GG} {gs : GGs} {vs : List V} {σ : St} {H : Hp} {Q : St → Hp → Prop} (h : tGsv K (gCn g gs) us vs σ H Q) : gCons (tGv K g us) (tGsv K gs us) vs σ H Q := by
  obtain ⟨B, env, xs, env', en, r, ev, q⟩ := h
  unfold gCn at ev
  split at ev
  · cases ev
  rename_i x xs
  split at ev
  · cases ev
  rename_i e1 h1
  cases r with
  | cons r1 r2 =>
    exact ⟨_, _, rfl, B, env, x, e1, en, r1, h1, fun B1 σ1 H1 a1 w1 => ⟨B1, e1, xs, env', a1.en, r2.grow (a1.st.grow en.wb), ev, fun B2 σ2 H2 a2 w2 => q B2 σ2 H2 (a1.trans en a2) (w2.trans w1)⟩⟩
theorem rd_gTv {K : PySem.W.Frag} {us : List Nat} {n : Nat} {gs : GGs} {v : V} {σ : St} {H : Hp} {Q : St → Hp → Prop} (h : tGv K (gT n gs) us v σ H Q) : gTup K n (tGsv K gs us) v σ H Q := by
  obtain ⟨B, env, x, env', en, r, ev, q⟩ := h
  unfold gT at ev
  split at ev
  · split at ev
    · rename_i xs hl
      obtain ⟨a, vs, rfl, h1, h2⟩ := Cn.tuple (.rp r)
      exact ⟨a, vs, rfl, h1, by rw [h2.length]; exact hl, B, env, xs, env', en, h2, ev, q⟩
    · cases ev
  · cases ev
theorem only_gNl {vs : List Nat} : OnlyS gNl vs := by
  intro x e e' h j hj
  unfold gNl at h
  split at h
  · cases h; rfl
  · cases h
theorem only_gCn {vs : List Nat} {g : GG} {gs : GGs} (h1 : Only g vs) (h2 : OnlyS gs vs) : OnlyS (gCn g gs) vs := by
  intro x e e' h j hj
  unfold gCn at h
  split at h
  · cases h
  split at h
  · cases h
  rename_i e1 k1
  rw [h2 _ _ _ h j hj, h1 _ _ _ k1 j hj]
theorem only_gT {vs : List Nat} {n : Nat} {gs : GGs} (h1 : OnlyS gs vs) : Only (gT n gs) vs := by
  intro x e e' h j hj
  unfold gT at h
  split at h
  · split at h
    · exact h1 _ _ _ h j hj
    · cases h
  · cases h

theorem EnvR.wiped {K : PySem.W.Frag} {B : Mset} {H : Hp} {σ : St} {env : Sl} (en : EnvR K B H σ env) (vs : List Nat) : EnvR K B H (wipe σ vs) (wipeE env vs) := by
  refine ⟨by rw [wipeE_len, wipe_length]; exact en.len, fun i x h => ?_, fun i x h => ?_, fun i m c h => ?_, fun i j m n c d a h1 h2 h3 h4 => ?_, en.dom, en.tb⟩
  · obtain ⟨h1, h2⟩ := wipeE_in h
    rw [wipe_out h1]
    exact en.pd i x h2
  · obtain ⟨h1, h2⟩ := wipeE_in h
    rw [wipe_out h1]
    exact en.nt i x h2
  · obtain ⟨h1, h2⟩ := wipeE_in h
    rw [wipe_out h1]
    exact en.mu i m c h2
  · obtain ⟨k1, k2⟩ := wipeE_in h1
    obtain ⟨k3, k4⟩ := wipeE_in h2
    rw [wipe_out k1] at h3
    rw [wipe_out k3] at h4
    exact en.inj i j m n c d a k2 k4 h3 h4
theorem At.unwiped {K : PySem.W.Frag} {σ σ2 : St} {B B2 B4 : Mset} {H H2 H4 : Hp} {e e2 e4 : Sl} {vs : List Nat} (en : EnvR K B H σ e) (a : AtS K (wipe σ vs) B H (wipeE e vs) σ2 B2 H2 e2) (hw : wipe σ2 vs = wipe σ vs) (ho : ∀ j, j ∉ vs → e2[j]? = (wipeE e vs)[j]?)
    (b : At K σ2 B2 H2 e2 B4 H4 e4) : At K σ B H e B4 H4 (unwipe e e4 vs) := by
  have ew := en.wiped vs
  have t : Stp (Wof (wipe σ vs) (wipeE e vs)) B H (Wof σ2 e4) B4 H4 := a.st.trans b.st ew.wb ew.dom
  have hσ : ∀ j, j ∉ vs → σ2[j]? = σ[j]? := fun j hj => by rw [← wipe_out hj, hw, wipe_out hj]
  have l2 : e2.length = e.length := by rw [a.en.len, ← wipe_length σ2 vs, hw, wipe_length, en.len]
  have l4 : e4.length = e.length := by rw [b.en.len, ← a.en.len, l2]
  have wsub : ∀ p, Wof (wipe σ vs) (wipeE e vs) p → Wof σ e p := by
    rintro p ⟨i, m, c, h1, h2, h3⟩
    obtain ⟨k1, k2⟩ := wipeE_in h1
    rw [wipe_out k1] at h3
    exact ⟨i, m, c, k2, h2, h3⟩
  have hid : ∀ {i p}, i ∈ vs → (∃ m c, e[i]? = some (some (S.mu m c))) → σ[i]? = some (some (.ref p)) → ¬ Wof (wipe σ vs) (wipeE e vs) p := by
    rintro i p hi ⟨m, c, hm⟩ hp ⟨j, m1, c1, h1, h2, h3⟩
    obtain ⟨k1, k2⟩ := wipeE_in h1
    rw [wipe_out k1] at h3
    have z := en.inj i j _ _ _ _ p hm k2 hp h3
    subst z
    exact k1 hi
  have vis : ∀ (i : Nat) m c, i ∉ vs → e4[i]? = some (some (S.mu m c)) → ∃ c', e[i]? = some (some (.mu m c')) := fun i m c hi h => by
    obtain ⟨c1, h1⟩ := b.sm i m c h
    rw [ho i hi, wipeE_out hi] at h1
    exact ⟨c1, h1⟩
  have src : ∀ (i : Nat) m c, (unwipe e e4 vs)[i]? = some (some (S.mu m c)) → ∃ c', e[i]? = some (some (.mu m c')) := fun i m c h => by
    by_cases hi : i ∈ vs
    · rw [unwipe_in l4 hi] at h; exact ⟨c, h⟩
    · rw [unwipe_out hi] at h; exact vis i m c hi h
  refine ⟨⟨fun q o h c => t.keep q o h (c.imp (fun n => ⟨fun w => n.1 (wsub q w), n.2⟩) id), t.new, fun q h w => t.old q h fun w' => w (wsub q w'), fun q w => ?_, t.liv⟩, ⟨by rw [unwipe_len, l4, en.len], fun i x h => ?_, fun i x h => ?_, fun i m c h => ?_, fun i j m n c d p h1 h2 h3 h4 => ?_, b.en.dom, b.en.tb⟩, src, fun i m c h => ?_⟩
  · obtain ⟨i, m, c, h1, h2, h3⟩ := w
    obtain ⟨c', h4⟩ := src i m c h1
    exact .inl ⟨i, m, c', h4, h2, h3⟩
  · by_cases hi : i ∈ vs
    · rw [unwipe_in l4 hi] at h
      obtain ⟨v, k1, k2⟩ := en.pd i x h
      exact ⟨v, k1, k2.grow (t.grow ew.wb)⟩
    · rw [unwipe_out hi] at h
      obtain ⟨v, k1, k2⟩ := b.en.pd i x h
      rw [hσ i hi] at k1
      exact ⟨v, k1, k2⟩
  · by_cases hi : i ∈ vs
    · rw [unwipe_in l4 hi] at h
      obtain ⟨v, k1, k2⟩ := en.nt i x h
      exact ⟨v, k1, k2.grow (t.grow ew.wb)⟩
    · rw [unwipe_out hi] at h
      obtain ⟨v, k1, k2⟩ := b.en.nt i x h
      rw [hσ i hi] at k1
      exact ⟨v, k1, k2⟩
  · by_cases hi : i ∈ vs
    · rw [unwipe_in l4 hi] at h
      obtain ⟨p, k1, k2, k3⟩ := en.mu i m c h
      have nw := hid hi ⟨m, c, h⟩ k1
      exact ⟨p, k1, t.old p k2 nw, k3.keep t ew.wb nw⟩
    · rw [unwipe_out hi] at h
      obtain ⟨p, k1, k2, k3⟩ := b.en.mu i m c h
      rw [hσ i hi] at k1
      exact ⟨p, k1, k2, k3⟩
  · obtain ⟨c1, g1⟩ := src i m c h1
    obtain ⟨c2, g2⟩ := src j n d h2
    exact en.inj i j m n c1 c2 p g1 g2 h3 h4
  · by_cases hi : i ∈ vs
    · exact ⟨c, by rw [unwipe_in l4 hi]; exact h⟩
    · have h1 : e2[i]? = some (some (.mu m c)) := by rw [ho i hi, wipeE_out hi]; exact h
      obtain ⟨c', h2⟩ := b.ks i m c h1
      exact ⟨c', by rw [unwipe_out hi]; exact h2⟩
theorem At.app {K : PySem.W.Frag} {σ : St} {B B4 : Mset} {H H4 : Hp} {e e4 : Sl} {D : Addr} {ws ws' : List V} (en : EnvR K B H σ e) (a : At K σ B H e B4 H4 e4) (nD : H D = none) (bD : B4 D) (hD : H4 D = some (.lst ws)) (sD : ∀ (i : Nat) m d, e4[i]? = some (some (S.mu m d)) → σ[i]? ≠ some (some (V.ref D)))
    (fz : Mset) (hf : ∀ q, fz q → q ≠ D ∧ H q = none ∧ ∀ (i : Nat) m d, e4[i]? = some (some (S.mu m d)) → σ[i]? ≠ some (some (V.ref q))) :
    Grow B4 H4 (fun q => B4 q ∧ ¬ fz q) (upd H4 D (.lst ws')) ∧ At K σ B H e (fun q => B4 q ∧ ¬ fz q) (upd H4 D (.lst ws')) e4 := by
  have g : Grow B4 H4 (fun q => B4 q ∧ ¬ fz q) (upd H4 D (.lst ws')) := by
    refine ⟨fun q o h c => ?_, fun q h => .inl h.1⟩
    have : q ≠ D := fun z => by
      subst z
      rcases c with c | c
      · exact c.1 bD
      · rw [hD] at h; cases h; exact c
    rw [upd_ne this]; exact h
  refine ⟨g, ⟨fun q o h c => ?_, fun q h => a.st.new q h.1, fun q h w => ⟨a.st.old q h w, fun f => ?_⟩, a.st.sub, fun q h => ?_⟩, ⟨a.en.len, fun i x h => ?_, fun i x h => ?_, fun i m c h => ?_, a.en.inj, fun q h => ?_, a.en.tb.on (fun q o h n => by rw [upd_ne (fun z => n (by rw [z]; exact bD))]; exact h) g.new⟩, a.sm, a.ks⟩
  · have : q ≠ D := fun z => by rw [z, nD] at h; cases h
    rw [upd_ne this]; exact a.st.keep q o h c
  · obtain ⟨o, ho⟩ := en.dom q h
    rw [(hf q f).2.1] at ho; cases ho
  · by_cases z : q = D
    · rw [z]; exact nD
    · rw [upd_ne z] at h; exact a.st.liv q h
  · obtain ⟨v, k1, k2⟩ := a.en.pd i x h
    exact ⟨v, k1, k2.grow g⟩
  · obtain ⟨v, k1, k2⟩ := a.en.nt i x h
    exact ⟨v, k1, k2.grow g⟩
  · obtain ⟨p, k1, k2, k3⟩ := a.en.mu i m c h
    have np : p ≠ D := fun z => by subst z; exact sD i m c h k1
    refine ⟨p, k1, ⟨k2, fun f => (hf p f).2.2 i m c h k1⟩, ?_⟩
    cases c with
    | ls xs => obtain ⟨vs, h4, h5⟩ := k3; exact ⟨vs, by rw [upd_ne np]; exact h4, h5.grow g⟩
    | dk xs => obtain ⟨vs, h4, h5⟩ := k3; exact ⟨vs, by rw [upd_ne np]; exact h4, h5.grow g⟩
    | dn xs => obtain ⟨vs, h4, h5⟩ := k3; exact ⟨vs, by rw [upd_ne np]; exact h4, h5.grow g⟩
  · by_cases z : q = D
    · rw [z]; exact ⟨_, upd_same⟩
    · rw [upd_ne z]; exact a.en.dom q h.1

def lcL (g : GG) (t : EB) (f : EE) (vs : List Nat) : List PyData → Sl → List PyData → Option (List PyData × Sl)
  | [], env, acc => some (acc, env)
  | x :: xs, env, acc => match g x (wipeE env vs) with
    | none => none
    | some e1 => match t e1 with
      | none => none
      | some (b, e2) => if b = true then match f e2 with
          | none => none
          | some (d, e3) => match data1 d with
            | none => none
            | some y => lcL g t f vs xs (unwipe env e3 vs) (acc ++ [y])
        else lcL g t f vs xs (unwipe env e2 vs) acc
def eLc (it : EI) (g : GG) (t : EB) (f : EE) (vs : List Nat) : EE := fun env => match it env with
  | none => none
  | some (xs, lk, e1) => if xs.length ≤ 1000000 then match lcL g t f vs xs e1 [] with
      | none => none
      | some (acc, e2) => some (.tmp (.ls acc), unlock lk e2)
    else none
def bYes : EB := fun env => some (true, env)
theorem rd_yes {K : PySem.W.Frag} {σ : St} {H : Hp} {Q : Bool → Hp → Prop} (h : tT K bYes σ H Q) : tYes σ H Q := by
  obtain ⟨B, env, b, env', en, ev, q⟩ := h
  cases ev
  exact q B H (.refl en)
theorem At.through {K : PySem.W.Frag} {σ : St} {B B1 B2 : Mset} {H H1 H2 : Hp} {env e1 e1' e2 : Sl} {lk : Lk} (en : EnvR K B H σ env) (a : At K σ B H env B1 H1 e1) (l : Locked lk e1 e1') (b : At K σ B1 H1 e1' B2 H2 e2) : At K σ B H env B2 H2 (unlock lk e2) := by
  have h := AtS.through en a l b.s
  refine ⟨h.st, h.en, ?_, ?_⟩
  · cases lk with
    | none =>
      cases l
      exact fun i m c q => let ⟨c1, h1⟩ := b.sm i m c q; a.sm i m c1 h1
    | some p =>
      obtain ⟨i, m⟩ := p
      obtain ⟨c, h1, rfl⟩ := l
      have hi : i < e1.length := (List.getElem?_eq_some_iff.mp h1).1
      obtain ⟨c2, h2⟩ := b.ks i .fro c (by rw [List.getElem?_set_self hi])
      have eu : unlock (some (i, m)) e2 = e2.set i (some (.mu m c2)) := by simp only [unlock, h2]
      rw [eu]
      intro j n d q
      rcases get_set q with ⟨z, z'⟩ | ⟨z, q⟩
      · cases z'; subst z; exact a.sm i m c h1
      · obtain ⟨d1, q1⟩ := b.sm j n d q
        rw [List.getElem?_set_ne z] at q1
        exact a.sm j n d1 q1
  · cases lk with
    | none =>
      cases l
      exact fun i m c q => let ⟨c1, h1⟩ := a.ks i m c q; b.ks i m c1 h1
    | some p =>
      obtain ⟨i, m⟩ := p
      obtain ⟨c, h1, rfl⟩ := l
      have hi : i < e1.length := (List.getElem?_eq_some_iff.mp h1).1
      obtain ⟨c2, h2⟩ := b.ks i .fro c (by rw [List.getElem?_set_self hi])
      have hi2 : i < e2.length := (List.getElem?_eq_some_iff.mp h2).1
      have eu : unlock (some (i, m)) e2 = e2.set i (some (.mu m c2)) := by simp only [unlock, h2]
      rw [eu]
      intro j n d q
      obtain ⟨d1, q1⟩ := a.ks j n d q
      by_cases z : i = j
      · subst z
        rw [h1] at q1
        cases q1
        exact ⟨c2, by rw [List.getElem?_set_self hi2]⟩
      · obtain ⟨d2, q2⟩ := b.ks j n d1 (by rw [List.getElem?_set_ne z]; exact q1)
        exact ⟨d2, by rw [List.getElem?_set_ne z]; exact q2⟩

theorem rd_lc {K : PySem.W.Frag} {it : EI} {g : GG} {t : EB} {f : EE} {vs : List Nat} (hg : Only g vs) {σ : St} {H : Hp} {Q : VK} (h : tE K (eLc it g t f vs) σ H Q) : tLc (tI K it) (tGv K g vs) (tT K t) (tE K f) vs σ H Q := by
  obtain ⟨B, env, d, env', en, ev, q⟩ := h
  unfold eLc at ev
  split at ev
  · cases ev
  rename_i xs lk e1 h1
  split at ev
  rotate_left
  · cases ev
  rename_i hlen
  split at ev
  · cases ev
  rename_i accF e2 h2
  cases ev
  refine ⟨B, env, xs, lk, e1, en, h1, fun B1 H1 J pr G e0 a1 lkd wk g0 hpr D nD => ?_⟩
  have en1 : EnvR K B1 H1 σ e1 := lkd.en a1.en
  have stays : ∀ {Bi Hi ei}, At K σ B1 H1 e1 Bi Hi ei → G Bi Hi := fun {Bi Hi ei} a => wk.keep _ _ _ _ _ _ g0 a.st en1.wb fun x hx => (hpr x hx).1
  have slotNone : ∀ {Bi Hi ei}, At K σ B1 H1 e1 Bi Hi ei → ∀ p, H1 p = none → ∀ (i : Nat) m d, ei[i]? = some (some (S.mu m d)) → σ[i]? ≠ some (some (V.ref p)) := fun {Bi Hi ei} a p np i m d h3 h4 => by
    obtain ⟨c0, k0⟩ := a.sm i m d h3
    obtain ⟨p', k1, k2, _⟩ := en1.mu i m c0 k0
    rw [h4] at k1
    cases k1
    obtain ⟨o, ho⟩ := en1.dom p k2
    rw [np] at ho; cases ho
  let Iv : Nat → Hp → List PyData → Sl → Mset → Prop := fun i Hi acc ei Bi => At K σ B1 H1 e1 Bi Hi ei ∧ Bi D ∧ acc.length ≤ i ∧ (∃ ws, Hi D = some (.lst ws) ∧ RpA K Bi Hi ws acc) ∧ lcL g t f vs (xs.drop i) ei acc = some (accF, e2)
  refine ⟨fun i m Hi => i ≤ xs.length ∧ m = xs.length - i ∧ ∃ acc ei Bi, Iv i Hi acc ei Bi, ⟨_, Nat.zero_le _, rfl, [], e1, (fun q => (B1 q ∧ ¬ False) ∨ (True ∧ q = D)), ?_⟩, ?_⟩
  · obtain ⟨_, a2⟩ := (At.refl en1).alloc en1 nD (.lst []) True (fun _ => False) (fun _ z => z.elim)
    exact ⟨a2, .inr ⟨trivial, rfl⟩, Nat.le_refl _, ⟨[], upd_same, .nil⟩, h2⟩
  rintro i m Hi ⟨hi, rfl, acc, ei, Bi, ai, bD, hacc, ⟨ws, hD, rw_⟩, fi⟩
  have gi := stays ai
  by_cases hlt : i < xs.length
  · have hd : xs.drop i = xs[i] :: xs.drop (i + 1) := List.drop_eq_getElem_cons hlt
    rw [hd] at fi
    unfold lcL at fi
    split at fi
    · cases fi
    rename_i e3 h3
    refine .inr ⟨wk.go i Bi Hi gi hlt, fun H' => ∃ acc ei Bi, Iv (i + 1) H' acc ei Bi, fun H' ⟨acc', e', B', z⟩ => ⟨xs.length - (i + 1), by omega, hlt, rfl, acc', e', B', z⟩, fun x H' hy => ?_⟩
    obtain ⟨hH, rx⟩ := wk.yld i Bi Hi x H' xs[i] gi (List.getElem?_eq_getElem hlt) hy
    have ay : At K σ Bi Hi ei Bi H' ei := by
      rcases hH with e | ⟨T, vs, nT, e⟩ | ⟨T, vs, T2, vs2, nT, nT2, e⟩
      · subst e; exact .refl ai.en
      · subst e; exact At.pair ai.en nT
      · subst e; exact (At.pair ai.en nT).trans ai.en (At.pair (At.pair ai.en nT).en nT2)
    have ai' : At K σ B1 H1 e1 Bi H' ei := ai.trans en1 ay
    have hD' : H' D = some (.lst ws) := by
      rcases hH with e | ⟨T, us, nT, e⟩ | ⟨T, us, T2, us2, nT, nT2, e⟩
      · rw [e]; exact hD
      · rw [e, upd_ne (fun z => by rw [← z, hD] at nT; cases nT)]; exact hD
      · have h1 : upd Hi T (.tup us) D = some (.lst ws) := by rw [upd_ne (fun z => by rw [← z, hD] at nT; cases nT)]; exact hD
        rw [e, upd_ne (fun z => by rw [← z, h1] at nT2; cases nT2)]; exact h1
    have rw' : RpA K Bi H' ws acc := rw_.grow (ay.grow ai.en)
    refine ⟨Bi, wipeE ei vs, xs[i], e3, ay.en.wiped vs, rx, h3, fun B3 σ3 H3 a3 w3' => ?_⟩
    have w3 : wipe σ3 vs = wipe σ vs := w3'.trans wipe_idem
    refine ⟨w3, ?_⟩
    have ho : ∀ j, j ∉ vs → e3[j]? = (wipeE ei vs)[j]? := hg _ _ _ h3
    -- what lies behind some step of the block
    have out : ∀ {B4 H4 e4}, At K σ3 B3 H3 e3 B4 H4 e4 → At K σ B1 H1 e1 B4 H4 (unwipe ei e4 vs) ∧ B4 D ∧ H4 D = some (.lst ws) ∧ RpA K B4 H4 ws acc := fun {B4 H4 e4} b => by
      have u := At.unwiped ay.en a3 w3 ho b
      have nw : ¬ Wof σ ei D := by
        rintro ⟨j, m, c, k1, _, k3⟩
        exact slotNone ai' D nD j m c k1 k3
      exact ⟨ai'.trans en1 u, u.st.old D bD nw, u.st.keep D _ hD' (.inl ⟨nw, fun _ z => nomatch z⟩), rw'.grow (u.grow ay.en)⟩
    split at fi
    · cases fi
    rename_i b e4 h4
    refine ⟨B3, e3, b, e4, a3.en, h4, fun B4 H4 a4 => ?_⟩
    cases b with
    | false =>
      simp at fi ⊢
      obtain ⟨o1, o2, o3, o4⟩ := out a4
      exact ⟨acc, _, B4, o1, o2, by omega, ⟨ws, o3, o4⟩, fi⟩
    | true =>
      simp at fi ⊢
      split at fi
      · cases fi
      rename_i d e5 h5
      split at fi
      · cases fi
      rename_i y hy'
      refine ⟨B4, e4, d, e5, a4.en, h5, fun B5 H5 v a5 r5 => ?_⟩
      have a45 := a4.trans a3.en a5
      obtain ⟨o1, o2, o3, o4⟩ := out a45
      refine ⟨ws, o3, ?_, ?_⟩
      · have := o4.length; exact Nat.lt_of_le_of_lt (by omega) (small (n := i) (by omega))
      have hH1 : ∀ p, H4 p = none → H1 p = none := fun p z => (out a4).1.st.liv p z
      cases d with
      | var j => cases hy'
      | nt z =>
        cases hy'
        obtain ⟨p, rfl, r5⟩ := r5
        obtain ⟨g6, a6⟩ := o1.app (ws' := ws ++ [.ref p]) en1 nD o2 o3 (slotNone o1 D nD) (fun _ => False) (fun _ z => z.elim)
        exact ⟨_, _, _, a6, ⟨o2, id⟩, by simp; omega, ⟨_, upd_same, (o4.grow g6).append (.cons (r5.rp.grow g6) .nil)⟩, fi⟩
      | pd z =>
        cases hy'
        obtain ⟨g6, a6⟩ := o1.app (ws' := ws ++ [v]) en1 nD o2 o3 (slotNone o1 D nD) (fun _ => False) (fun _ z => z.elim)
        exact ⟨acc ++ [y], _, _, a6, ⟨o2, id⟩, by simp; omega, ⟨_, upd_same, (o4.grow g6).append (.cons (Rp.grow g6 r5) .nil)⟩, fi⟩
      | tmp c =>
        cases hy'
        obtain ⟨p, rfl, k1, k2, k3, k4⟩ := r5
        have npD : p ≠ D := fun z => by
          subst z
          obtain ⟨_, _, q3, _⟩ := out a4
          rw [q3] at k1; cases k1
        obtain ⟨g6, a6⟩ := o1.app (ws' := ws ++ [.ref p]) en1 nD o2 o3 (slotNone o1 D nD) (fun q => q = p) (fun q z => by subst z; exact ⟨npD, hH1 q k1, slotNone o1 q (hH1 q k1)⟩)
        exact ⟨acc ++ [ctD c], _, _, a6, ⟨o2, fun z => npD z.symm⟩, by simp; omega, ⟨_, upd_same, (o4.grow g6).append (.cons ((k3.hop g6 (fun o z => by rw [upd_ne npD]; exact z)).rp (fun z => z.2 rfl)) .nil)⟩, fi⟩
  · have e : i = xs.length := by omega
    subst e
    rw [List.drop_length] at fi
    cases fi
    refine .inl ⟨wk.stop Bi Hi gi, q Bi Hi _ (At.through en a1 lkd ai) (RR.relock (d := .tmp (.ls accF)) ⟨D, rfl, a1.st.liv D nD, bD, ⟨ws, hD, rw_⟩, slotNone ai D nD⟩)⟩
end T3

end
section
set_option linter.all false
set_option autoImplicit false
set_option Elab.async false
namespace T3
open PySem L2
variable [TabL]

theorem PI.imp {X : Cx} {tg e : Expr} {t t' : TI} (h : PI X tg e t) (i : ∀ σ H Q, t' σ H Q → t σ H Q) : PI X tg e t' := ⟨fun pins s σ H Q I q => h.run pins s σ H Q I (i σ H Q q)⟩
theorem PI.or {X : Cx} {tg e : Expr} {t t' : TI} (h : PI X tg e t) (h' : PI X tg e t') : PI X tg e (fun σ H Q => t σ H Q ∨ t' σ H Q) := ⟨fun pins s σ H Q I q => q.elim (h.run pins s σ H Q I) (h'.run pins s σ H Q I)⟩
def signs (s : Str) : List PyData := s.cps.toList.map fun c => .str ⟨#[c]⟩
def iSeq (f : EE) : EI := fun env => match f env with
  | some (.pd (.tuple xs), e) => some (xs, none, e)
  | some (.nt xs, e) => some (xs, none, e)
  | some (.pd (.list xs), e) => some (xs, none, e)
  | some (.pd (.str s), e) => some (signs s, none, e)
  | some (.tmp (.ls xs), e) => some (xs, none, e)
  | some (.var i, e) => match e[i]? with
    | some (some (.mu m (.ls xs))) => some (xs, some (i, m), e.set i (some (.mu .fro (.ls xs))))
    | _ => none
  | _ => none
theorem wk_tup {K : PySem.W.Frag} {a : Addr} {xs : List PyData} : Wk K (Itt K a) (fun _ => False) (fun B H => Rp K B H (.ref a) (.tuple xs)) xs where
  go i B H g hi := by
    obtain ⟨a', vs, e, h1, h2⟩ := Cn.tuple (.rp g)
    cases e
    exact ⟨vs, vs[i]'(by rw [h2.length]; exact hi), h1, by simp⟩
  stop B H g := by
    obtain ⟨a', vs, e, h1, h2⟩ := Cn.tuple (.rp g)
    cases e
    exact ⟨vs, h1, by rw [h2.length]; exact Nat.le_refl _⟩
  yld i B H x H' d g hd hy := by
    obtain ⟨a', vs, e, h1, h2⟩ := Cn.tuple (.rp g)
    cases e
    obtain ⟨rfl, hy⟩ := hy
    obtain ⟨v, k1, k2⟩ := h2.get hd
    rw [hy vs h1] at k1
    cases k1
    exact ⟨.inl rfl, k2⟩
  keep W B H W' B' H' g s wb _ := g.grow (s.grow wb)
theorem wk_lst {K : PySem.W.Frag} {a : Addr} {xs : List PyData} : Wk K (Itl K a) (fun _ => False) (fun B H => Rp K B H (.ref a) (.list xs)) xs where
  go i B H g hi := by
    obtain ⟨a', vs, e, h1, h2⟩ := Cn.list (.rp g)
    cases e
    exact ⟨vs, vs[i]'(by rw [h2.length]; exact hi), h1, by simp⟩
  stop B H g := by
    obtain ⟨a', vs, e, h1, h2⟩ := Cn.list (.rp g)
    cases e
    exact ⟨vs, h1, by rw [h2.length]; exact Nat.le_refl _⟩
  yld i B H x H' d g hd hy := by
    obtain ⟨a', vs, e, h1, h2⟩ := Cn.list (.rp g)
    cases e
    obtain ⟨rfl, hy⟩ := hy
    obtain ⟨v, k1, k2⟩ := h2.get hd
    rw [hy vs h1] at k1
    cases k1
    exact ⟨.inl rfl, k2⟩
  keep W B H W' B' H' g s wb _ := g.grow (s.grow wb)
theorem wk_mut {K : PySem.W.Frag} {a : Addr} {xs : List PyData} : Wk K (Itl K a) (fun q => q = a) (fun B H => ∃ vs, H a = some (.lst vs) ∧ RpA K B H vs xs) xs where
  go i B H g hi := by
    obtain ⟨vs, h1, h2⟩ := g
    exact ⟨vs, vs[i]'(by rw [h2.length]; exact hi), .inl (.inl h1), by simp⟩
  stop B H g := by
    obtain ⟨vs, h1, h2⟩ := g
    exact ⟨vs, .inl (.inl h1), by rw [h2.length]; exact Nat.le_refl _⟩
  yld i B H x H' d g hd hy := by
    obtain ⟨vs, h1, h2⟩ := g
    obtain ⟨rfl, hy⟩ := hy
    obtain ⟨v, k1, k2⟩ := h2.get hd
    rw [hy vs (.inl (.inl h1))] at k1
    cases k1
    exact ⟨.inl rfl, k2⟩
  keep W B H W' B' H' g s wb hp := by
    obtain ⟨vs, h1, h2⟩ := g
    exact ⟨vs, s.keep _ _ h1 (.inl ⟨hp a rfl, fun _ z => nomatch z⟩), h2.grow (s.grow wb)⟩
theorem signs_len {s : Str} : (signs s).length = s.cps.size := by simp [signs]
theorem wk_str {K : PySem.W.Frag} {s : Str} : Wk K (Its s) (fun _ => False) (fun _ _ => True) (signs s) where
  go i B H g hi := by rw [signs_len] at hi; exact hi
  stop B H g := by rw [signs_len]; exact Nat.le_refl _
  yld i B H x H' d g hd hy := by
    obtain ⟨rfl, c, h1, rfl⟩ := hy
    refine ⟨.inl rfl, ?_⟩
    simp only [signs, List.getElem?_map, Array.getElem?_toList, h1] at hd
    cases hd
    exact .str _
  keep W B H W' B' H' g s wb hp := trivial
theorem rd_seq_ {K : PySem.W.Frag} {f : EE} {σ : St} {H : Hp} {R : It → Hp → Prop} (h : tI K (iSeq f) σ H R) : iList K (tE K f) σ H R ∨ iTup K (tE K f) σ H R ∨ iStr (tE K f) σ H R := by
  obtain ⟨B, env, xs, lk, env', en, ev, q⟩ := h
  unfold iSeq at ev
  split at ev
  · rename_i ys e h1
    cases ev
    refine .inr (.inl ⟨B, env, _, _, en, h1, fun B1 H1 v a1 r1 => ?_⟩)
    have r1 : Rp K B1 H1 v (.tuple xs) := r1
    obtain ⟨a, vs, rfl, h2, h3⟩ := Cn.tuple (.rp r1)
    exact ⟨a, rfl, ⟨vs, h2⟩, q B1 H1 _ _ _ _ a1 rfl wk_tup r1 (fun _ z => z.elim)⟩
  · rename_i ys e h1
    cases ev
    refine .inr (.inl ⟨B, env, _, _, en, h1, fun B1 H1 v a1 r1 => ?_⟩)
    obtain ⟨p, rfl, r1⟩ := r1
    obtain ⟨a, vs, e, h2, h3⟩ := Cn.tuple (.rp r1.rp)
    cases e
    exact ⟨_, rfl, ⟨vs, h2⟩, q B1 H1 _ _ _ _ a1 rfl wk_tup r1.rp (fun _ z => z.elim)⟩
  · rename_i ys e h1
    cases ev
    refine .inl ⟨B, env, _, _, en, h1, fun B1 H1 v a1 r1 => ?_⟩
    have r1 : Rp K B1 H1 v (.list xs) := r1
    obtain ⟨a, vs, rfl, h2, h3⟩ := Cn.list (.rp r1)
    exact ⟨a, rfl, ⟨vs, h2⟩, q B1 H1 _ _ _ _ a1 rfl wk_lst r1 (fun _ z => z.elim)⟩
  · rename_i s e h1
    cases ev
    refine .inr (.inr ⟨B, env, _, _, en, h1, fun B1 H1 v a1 r1 => ?_⟩)
    have r1 : Rp K B1 H1 v (.str s) := r1
    cases r1
    exact ⟨s, rfl, q B1 H1 _ _ _ _ a1 rfl wk_str trivial (fun _ z => z.elim)⟩
  · rename_i ys e h1
    cases ev
    refine .inl ⟨B, env, _, _, en, h1, fun B1 H1 v a1 r1 => ?_⟩
    obtain ⟨a, rfl, k0, k1, ⟨vs, k2, k3⟩, k4⟩ := r1
    refine ⟨a, rfl, ⟨vs, .inl (.inl k2)⟩, q B1 H1 _ _ _ _ a1 rfl wk_mut ⟨vs, k2, k3⟩ (fun p z => ?_)⟩
    subst z
    exact ⟨fun ⟨i, m, c, g1, _, g3⟩ => k4 i m c g1 g3, _, k2⟩
  · rename_i i e h1
    split at ev
    · rename_i m ys h2
      cases ev
      refine .inl ⟨B, env, _, _, en, h1, fun B1 H1 v a1 r1 => ?_⟩
      obtain ⟨k1, _⟩ := r1
      obtain ⟨a, g1, g2, vs, g3, g4⟩ := a1.en.mu i _ _ h2
      rw [k1] at g1
      cases g1
      refine ⟨a, rfl, ⟨vs, .inl (.inl g3)⟩, q B1 H1 _ _ _ _ a1 ⟨_, h2, rfl⟩ wk_mut ⟨vs, g3, g4⟩ (fun p z => ?_)⟩
      subst z
      refine ⟨fun ⟨j, m', c, z1, z2, z3⟩ => ?_, _, g3⟩
      rcases get_set z1 with ⟨e1, e2⟩ | ⟨e1, z1⟩
      · cases e2; exact z2 rfl
      · exact e1 (a1.en.inj i j _ _ _ _ _ h2 z1 k1 z3)
    · cases ev
  · cases ev
theorem i_seq {X : Cx} {tg l : Expr} {f : EE} (h : PE X l (tE X.K f)) : PI X tg l (tI X.K (iSeq f)) := PI.imp (PI.or (pi_list h) (PI.or (pi_tup h) (pi_str h))) fun _ _ _ t => rd_seq_ t
def rgD (i : Int) (n : Nat) (c : Int) : List PyData := (List.range n).map fun k => .int (i + (k : Nat) * c)
theorem rgD_get {i c : Int} {n k : Nat} {d : PyData} (h : (rgD i n c)[k]? = some d) : d = .int (i + (k : Nat) * c) := by
  simp only [rgD, List.getElem?_map] at h
  by_cases z : k < n
  · rw [List.getElem?_range z] at h; cases h; rfl
  · rw [List.getElem?_eq_none (by simpa using z)] at h; cases h
theorem wk_rng {K : PySem.W.Frag} {i : Int} {n : Nat} : Wk K (Itr i n) (fun _ => False) (fun _ _ => True) (rgD i n 1) where
  go k B H g hi := by simp [rgD] at hi; exact hi
  stop B H g := by simp [rgD, Itr, Itc]
  yld k B H x H' d g hd hy := by
    obtain ⟨rfl, rfl⟩ := hy
    have := rgD_get hd
    subst this
    rw [Int.mul_one]
    exact ⟨.inl rfl, .int _⟩
  keep W B H W' B' H' g s wb hp := trivial
def RgI1 (j : Int) : Prop := -(2 ^ 62) ≤ j ∧ j < 2 ^ 62
def RgI2 (i j : Int) : Prop := -(2 ^ 62) ≤ i ∧ i < 2 ^ 62 ∧ -(2 ^ 62) ≤ j ∧ j < 2 ^ 62
noncomputable instance (j : Int) : Decidable (RgI1 j) := Classical.propDecidable _
noncomputable instance (i j : Int) : Decidable (RgI2 i j) := Classical.propDecidable _
noncomputable def iRg1 (f : EA) : EI := fun env => match f env with
  | some ([.pd (.int j)], e) => if RgI1 j then some (rgD 0 j.toNat 1, none, e) else none
  | _ => none
theorem RRA.int1 {K : PySem.W.Frag} {H₀ : Hp} {B : Mset} {H : Hp} {σ : St} {env : Sl} {vs : List V} {j : Int} (r : RRA K H₀ B H σ env vs [.pd (.int j)]) : vs = [.int j] := by
  match vs, r with
  | [v], r =>
    have := r.each 0 v _ rfl rfl
    have this : Rp K B H v (.int j) := this
    cases this
    rfl
  | [], r => have := r.len; simp at this
  | _ :: _ :: _, r => have := r.len; simp at this
theorem rd_rg1 {K : PySem.W.Frag} {f : EA} {σ : St} {H : Hp} {R : It → Hp → Prop} (h : tI K (iRg1 f) σ H R) : iRng1 (tA K f) σ H R := by
  obtain ⟨B, env, xs, lk, env', en, ev, q⟩ := h
  unfold iRg1 at ev
  split at ev
  · rename_i j e h1
    split at ev
    · rename_i hb
      cases ev
      refine ⟨B, env, _, _, en, h1, fun B1 H1 vs a1 r1 => ⟨j, r1.int1, hb.1, hb.2, q B1 H1 _ _ _ _ a1 rfl wk_rng trivial (fun _ z => z.elim)⟩⟩
    · cases ev
  · cases ev
theorem i_rg1 {X : Cx} {tg a : Expr} {f : EA} {p pos : Pos} (hg : Gl X "range") (hm : X.mg "range" = none) (ha : PA X [a] (tA X.K f)) (hs : starEach [a] X.env = [(false, eval a X.env)] := by rfl) : PI X tg (.Call (.Name "range" p) [a] [] pos) (tI X.K (iRg1 f)) :=
  PI.imp (pi_range1 hg hm ha hs) fun _ _ _ t => rd_rg1 t
end T3

end
section
set_option linter.all false
set_option autoImplicit false
set_option Elab.async false
namespace T3
open PySem L2
variable [TabL]

theorem CnA.one {K : PySem.W.Frag} {B : Mset} {H : Hp} {vs : List V} {x : PyData} (h : CnA K B H vs [x]) : ∃ v, vs = [v] ∧ Cn K B H v x := by
  cases h with
  | cons h1 h2 => cases h2; exact ⟨_, rfl, h1⟩
theorem CnA.two {K : PySem.W.Frag} {B : Mset} {H : Hp} {vs : List V} {x y : PyData} (h : CnA K B H vs [x, y]) : ∃ v w, vs = [v, w] ∧ Cn K B H v x ∧ Cn K B H w y := by
  cases h with
  | cons h1 h2 => obtain ⟨w, rfl, h3⟩ := h2.one; exact ⟨_, _, rfl, h1, h3⟩
def kOr (k1 k2 : KK) : KK := fun ds env => match k1 ds env with
  | some r => some r
  | none => k2 ds env
theorem con_or {K : PySem.W.Frag} {k1 k2 : KK} {r1 r2 : List V → Hp → VK → Prop} (h1 : Con K k1 r1) (h2 : Con K k2 r2) : Con K (kOr k1 k2) (fun vs H Q => r1 vs H Q ∨ r2 vs H Q) := by
  intro σ H B env B1 H1 env1 vs ds d e2 Q en a rr hk q
  unfold kOr at hk
  split at hk
  · rename_i r hr
    cases hk
    exact .inl (h1 σ H B env B1 H1 env1 vs ds d e2 Q en a rr hr q)
  · exact .inr (h2 σ H B env B1 H1 env1 vs ds d e2 Q en a rr hk q)
theorem con_or2 {K : PySem.W.Frag} {k1 k2 : KK} {r1 r2 : R2} (h1 : Con K k1 (l2 r1)) (h2 : Con K k2 (l2 r2)) : Con K (kOr k1 k2) (l2 fun x y H Q => r1 x y H Q ∨ r2 x y H Q) := by
  intro σ H B env B1 H1 env1 vs ds d e2 Q en a rr hk q x y e
  exact (con_or h1 h2 σ H B env B1 H1 env1 vs ds d e2 Q en a rr hk q).imp (fun z => z x y e) (fun z => z x y e)

def oI (C : Int → Int → Prop) [∀ i j, Decidable (C i j)] (g : Int → Int → PyData) : List PyData → Option PyData
  | [.int i, .int j] => if C i j then some (g i j) else none
  | _ => none
theorem ok_I {K : PySem.W.Frag} {C : Int → Int → Prop} [∀ i j, Decidable (C i j)] {g : Int → Int → Int} : OkE K (oI C fun i j => .int (g i j)) (l2 (rI C fun i j => .int (g i j))) := by
  intro B H vs xs z Q cn ho q x y e
  unfold oI at ho
  split at ho
  · split at ho
    · rename_i i j hc
      cases ho
      obtain ⟨v, w, e2, c1, c2⟩ := cn.two
      rw [e] at e2
      cases e2
      exact ⟨i, j, c1.int, c2.int, hc, q _ (.int _)⟩
    · cases ho
  · cases ho
theorem ok_I0 {K : PySem.W.Frag} {g : Int → Int → Int} : OkE K (oI (fun _ _ => True) fun i j => .int (g i j)) (l2 (rI0 fun i j => .int (g i j))) := by
  intro B H vs xs z Q cn ho q x y e
  obtain ⟨i, j, h1, h2, _, h3⟩ := ok_I (C := fun _ _ => True) (g := g) B H vs xs z Q cn ho q x y e
  exact ⟨i, j, h1, h2, h3⟩
theorem ok_B0 {K : PySem.W.Frag} {g : Int → Int → Bool} : OkE K (oI (fun _ _ => True) fun i j => .bool (g i j)) (l2 (rI0 fun i j => .bl (g i j))) := by
  intro B H vs xs z Q cn ho q x y e
  unfold oI at ho
  split at ho
  · rename_i i j
    simp at ho
    cases ho
    obtain ⟨v, w, e2, c1, c2⟩ := cn.two
    rw [e] at e2
    cases e2
    exact ⟨i, j, c1.int, c2.int, q _ (.bl _)⟩
  · cases ho
noncomputable instance (i j : Int) : Decidable (CMul i j) := Classical.propDecidable _
noncomputable instance (i j : Int) : Decidable (CDivW i j) := Classical.propDecidable _
noncomputable instance (i j : Int) : Decidable (CPow i j) := Classical.propDecidable _
def kSub : KK := kE (oI (fun _ _ => True) fun i j => .int (i - j))
theorem cdv (i j : Int) (h1 : 0 < j) (h2 : j < 1000000000000000) : CDivW i j := by
  refine ⟨h1, ?_⟩
  have : j.natAbs.log2 < 50 := (Nat.log2_lt (by omega)).mpr (by omega)
  omega
noncomputable def kFdiv : KK := kE (oI CDivW fun i j => .int (i / j))
def kMod : KK := kE (oI (fun _ j => 0 < j) fun i j => .int (i % j))
noncomputable def kPow : KK := kE (oI CPow fun i j => .int (i ^ j.toNat))
def kLt0 : KK := kE (oI (fun _ _ => True) fun i j => .bool (decide (i < j)))
def oLtG : List PyData → Option PyData
  | [.tuple xs, .tuple ys] => if SeqAt.shaped (.tuple xs) = true ∧ SeqAt.shaped (.tuple ys) = true ∧ PySem.W.alike (.tuple xs) (.tuple ys) = true ∧ (PyData.tuple xs).depth ≤ 30 then some (.bool (PySem.W.dataLt (.tuple xs) (.tuple ys))) else none
  | _ => none
def oGtG : List PyData → Option PyData
  | [.tuple xs, .tuple ys] => if SeqAt.shaped (.tuple xs) = true ∧ SeqAt.shaped (.tuple ys) = true ∧ PySem.W.alike (.tuple xs) (.tuple ys) = true ∧ (PyData.tuple xs).depth ≤ 30 then some (.bool (PySem.W.dataLt (.tuple ys) (.tuple xs))) else none
  | _ => none
def rLtG (K : PySem.W.Frag) : R2 := fun x y H Q => ∃ d e, Dp K H x d ∧ Dp K H y e ∧ PySem.W.alike d e = true ∧ d ≠ .none ∧ d.depth ≤ 30 ∧ Q (.bl (PySem.W.dataLt d e)) H
def rGtG (K : PySem.W.Frag) : R2 := fun x y H Q => ∃ d e, Dp K H x d ∧ Dp K H y e ∧ PySem.W.alike d e = true ∧ d ≠ .none ∧ d.depth ≤ 30 ∧ Q (.bl (PySem.W.dataLt e d)) H
theorem op_ltG {X : Cx} (hu : X.A.units + 64 < cLine) : OpR X (compareOp .Lt) (rLtG X.K) := by
  intro pins s σ H x y v u Q I rx ry h
  obtain ⟨d, e, hd, he, al, nn, dp, q⟩ := h
  obtain ⟨as, r1⟩ := Dp.reads I d x v hd rx
  obtain ⟨bs, r2⟩ := Dp.reads I e y u he ry
  exact PySem.W.lt_data r1 r2 al nn (by omega) ⟨.bl _, H, I, rfl, q⟩
theorem op_gtG {X : Cx} (hu : X.A.units + 64 < cLine) : OpR X (compareOp .Gt) (rGtG X.K) := by
  intro pins s σ H x y v u Q I rx ry h
  obtain ⟨d, e, hd, he, al, nn, dp, q⟩ := h
  obtain ⟨as, r1⟩ := Dp.reads I d x v hd rx
  obtain ⟨bs, r2⟩ := Dp.reads I e y u he ry
  exact PySem.W.gt_data r1 r2 al nn (by omega) ⟨.bl _, H, I, rfl, q⟩
theorem ok_ltG {K : PySem.W.Frag} : OkE K oLtG (l2 (rLtG K)) := by
  intro B H vs xs z Q cn ho q x y e
  unfold oLtG at ho
  split at ho
  · split at ho
    · rename_i a b hs
      cases ho
      obtain ⟨v, w, e2, c1, c2⟩ := cn.two
      rw [e] at e2
      cases e2
      exact ⟨_, _, c1.dp hs.1, c2.dp hs.2.1, hs.2.2.1, by simp, hs.2.2.2, q _ (.bl _)⟩
    · cases ho
  · cases ho
theorem ok_gtG {K : PySem.W.Frag} : OkE K oGtG (l2 (rGtG K)) := by
  intro B H vs xs z Q cn ho q x y e
  unfold oGtG at ho
  split at ho
  · split at ho
    · rename_i a b hs
      cases ho
      obtain ⟨v, w, e2, c1, c2⟩ := cn.two
      rw [e] at e2
      cases e2
      exact ⟨_, _, c1.dp hs.1, c2.dp hs.2.1, hs.2.2.1, by simp, hs.2.2.2, q _ (.bl _)⟩
    · cases ho
  · cases ho
def kGt : KK := kOr (kE (oI (fun _ _ => True) fun i j => .bool (decide (j < i)))) (kE oGtG)
def kGe : KK := kE (oI (fun _ _ => True) fun i j => .bool (decide (j ≤ i)))
def oCatS : List PyData → Option PyData
  | [.str i, .str j] => if i.length + j.length ≤ 1000000 then some (.str (i ++ j)) else none
  | _ => none
def rCatS : R2 := fun x y H Q => ∃ i j, x = .str i ∧ y = .str j ∧ i.length + j.length ≤ sizeLine ∧ Q (.str (i ++ j)) H
theorem ok_catS {K : PySem.W.Frag} : OkE K oCatS (l2 rCatS) := by
  intro B H vs xs z Q cn ho q x y e
  unfold oCatS at ho
  split at ho
  · split at ho
    · rename_i hl
      cases ho
      obtain ⟨v, w, e2, c1, c2⟩ := cn.two
      rw [e] at e2
      cases e2
      exact ⟨_, _, c1.str, c2.str, Nat.le_of_lt (small hl), q _ (.str _)⟩
    · cases ho
  · cases ho
def oCatT : List PyData → Option (List PyData)
  | [.tuple xs, .tuple ys] => if xs.length + ys.length ≤ 1000000 then some (xs ++ ys) else none
  | _ => none
theorem ok_catT {K : PySem.W.Frag} : OkT K oCatT (l2 (rCatA K)) := by
  intro B H vs xs z Q cn ho q0 q x y e
  unfold oCatT at ho
  split at ho
  · split at ho
    · rename_i xs ys hl
      cases ho
      obtain ⟨v, w, e2, c1, c2⟩ := cn.two
      rw [e] at e2
      cases e2
      obtain ⟨a, us, rfl, h1, h2⟩ := c1.tuple
      obtain ⟨b, ws, rfl, h3, h4⟩ := c2.tuple
      refine ⟨a, b, us, ws, rfl, rfl, h1, h3, ?_, fun z => ?_, fun z z2 => ?_, fun z z2 p np => q _ p (h2.append h4) np⟩
      · rw [h2.length, h4.length]; exact Nat.le_of_lt (small hl)
      · subst z; cases h2; exact q0 _ (.tup h3 h4)
      · subst z2; cases h4; rw [List.append_nil] at q0; exact q0 _ (.tup h1 h2)
    · cases ho
  · cases ho
def lsOf (env : Sl) : R → Option (List PyData)
  | .tmp (.ls xs) => some xs
  | .var i => match env[i]? with
    | some (some (.mu _ (.ls xs))) => some xs
    | _ => none
  | _ => none
theorem lsOf_at {K : PySem.W.Frag} {H₀ : Hp} {B : Mset} {H : Hp} {σ : St} {env : Sl} {v : V} {d : R} {xs : List PyData} (en : EnvR K B H σ env) (h : RA K H₀ B H σ env v d) (c : lsOf env d = some xs) : ∃ a vs, v = .ref a ∧ H a = some (.lst vs) ∧ RpA K B H vs xs := by
  cases d with
  | pd y => cases c
  | nt y => cases c
  | tmp t =>
    cases t with
    | ls ys => cases c; obtain ⟨a, rfl, _, _, ⟨vs, h1, h2⟩, _⟩ := h; exact ⟨a, vs, rfl, h1, h2⟩
    | dk _ => cases c
    | dn _ => cases c
  | var i =>
    simp only [lsOf] at c
    split at c
    · rename_i m ys hx
      cases c
      obtain ⟨a, h1, _, vs, h2, h3⟩ := en.mu _ _ _ hx
      have h : σ[i]? = some (some v) := h
      rw [h] at h1
      cases h1
      exact ⟨a, vs, rfl, h2, h3⟩
    · cases c
def kCatL : KK := fun ds env => match ds with
  | [d1, d2] => match lsOf env d1 with
    | none => none
    | some xs => match lsOf env d2 with
      | none => none
      | some ys => if xs.length + ys.length ≤ 1000000 then some (.tmp (.ls (xs ++ ys)), env) else none
  | _ => none
theorem con_new {K : PySem.W.Frag} {σ : St} {B B1 : Mset} {H H1 : Hp} {env env1 : Sl} {p : Addr} {ws : List V} {xs : List PyData} {Q : VK} (en : EnvR K B H σ env) (a : At K σ B H env B1 H1 env1) (np : H1 p = none) (hw : RpA K B1 H1 ws xs)
    (q : ∀ B' H' v, At K σ B H env B' H' env1 → RR K H B' H' σ env1 v (.tmp (.ls xs)) → Q v H') : Q (.ref p) (upd H1 p (.lst ws)) := by
  obtain ⟨g, a2⟩ := a.alloc en np (.lst ws) True (fun _ => False) (fun _ f => f.elim)
  refine q _ _ _ a2 ⟨p, rfl, a.st.liv _ np, .inr ⟨trivial, rfl⟩, ⟨ws, upd_same, hw.grow g⟩, fun i m d h1 h2 => ?_⟩
  obtain ⟨b, h3, h4, _⟩ := a.en.mu i m d h1
  rw [h3] at h2
  cases h2
  obtain ⟨o', ho⟩ := a.en.dom _ h4
  rw [np] at ho; cases ho
theorem c_catL {K : PySem.W.Frag} : Con K kCatL (l2 rCat) := by
  intro σ H B env B1 H1 env1 vs ds d e2 Q en a rr hk q x y e
  unfold kCatL at hk
  split at hk
  · rename_i d1 d2
    split at hk
    · cases hk
    rename_i xs hx
    split at hk
    · cases hk
    rename_i ys hy
    split at hk
    · rename_i hl
      cases hk
      subst e
      obtain ⟨p, us, rfl, h1, h2⟩ := lsOf_at a.en (rr.each 0 x d1 rfl rfl) hx
      obtain ⟨p2, ws, rfl, h3, h4⟩ := lsOf_at a.en (rr.each 1 y d2 rfl rfl) hy
      exact ⟨p, p2, us, ws, rfl, rfl, h1, h3, by rw [h2.length, h4.length]; exact Nat.le_of_lt (small hl), fun r nr => con_new en a nr (h2.append h4) q⟩
    · cases hk
  · cases hk
def kAdd : KK := kOr (kE (oI (fun _ _ => True) fun i j => .int (i + j))) (kOr (kE oCatS) (kOr (kT oCatT) kCatL))
def oRepT : List PyData → Option (List PyData)
  | [.tuple xs, .int k] => if xs ≠ [] ∧ 2 ≤ k ∧ k ≤ 1000 ∧ xs.length ≤ 1000 then some (List.replicate k.toNat xs).flatten else none
  | _ => none
theorem RpA.rep {K : PySem.W.Frag} {B : Mset} {H : Hp} {vs : List V} {xs : List PyData} (h : RpA K B H vs xs) : ∀ k : Nat, RpA K B H (List.replicate k vs).flatten (List.replicate k xs).flatten
  | 0 => .nil
  | k + 1 => by
    rw [List.replicate_succ, List.replicate_succ, List.flatten_cons, List.flatten_cons]
    exact h.append (RpA.rep h k)
theorem ok_repT {K : PySem.W.Frag} : OkT K oRepT (l2 (rRepT K)) := by
  intro B H vs xs z Q cn ho q0 q x y e
  unfold oRepT at ho
  split at ho
  · split at ho
    · rename_i xs k hl
      cases ho
      obtain ⟨v, w, e2, c1, c2⟩ := cn.two
      rw [e] at e2
      cases e2
      obtain ⟨a, us, rfl, h1, h2⟩ := c1.tuple
      refine ⟨a, k, us, rfl, c2.int, h1, fun z => ?_, hl.2.1, hl.2.2.1, by rw [h2.length]; exact hl.2.2.2, fun p np => q _ p (h2.rep _) np⟩
      subst z
      cases h2
      exact hl.1 rfl
    · cases ho
  · cases ho
noncomputable def kMul : KK := kOr (kE (oI CMul fun i j => .int (i * j))) (kT oRepT)

def oEq : List PyData → Option PyData
  | [x, y] => if SeqAt.shaped x = true ∧ SeqAt.shaped y = true then some (.bool (PyData.eqv x y)) else none
  | _ => none
def oNe : List PyData → Option PyData
  | [x, y] => if SeqAt.shaped x = true ∧ SeqAt.shaped y = true then some (.bool (!PyData.eqv x y)) else none
  | _ => none
theorem ok_eq {K : PySem.W.Frag} : OkE K oEq (l2 (rEqD K)) := by
  intro B H vs xs z Q cn ho q x y e
  unfold oEq at ho
  split at ho
  · split at ho
    · rename_i a b hs
      cases ho
      obtain ⟨v, w, e2, c1, c2⟩ := cn.two
      rw [e] at e2
      cases e2
      exact ⟨a, b, c1.dp hs.1, c2.dp hs.2, hs.1, hs.2, q _ (.bl _)⟩
    · cases ho
  · cases ho
theorem ok_ne {K : PySem.W.Frag} : OkE K oNe (l2 (rNeD K)) := by
  intro B H vs xs z Q cn ho q x y e
  unfold oNe at ho
  split at ho
  · split at ho
    · rename_i a b hs
      cases ho
      obtain ⟨v, w, e2, c1, c2⟩ := cn.two
      rw [e] at e2
      cases e2
      exact ⟨a, b, c1.dp hs.1, c2.dp hs.2, hs.1, hs.2, q _ (.bl _)⟩
    · cases ho
  · cases ho
def rInT (K : PySem.W.Frag) (neg : Bool) : R2 := fun x y H Q => ∃ d ds, Dp K H x d ∧ Dp K H y (.tuple ds) ∧ SeqAt.shaped d = true ∧ SeqAt.shaped (.tuple ds) = true ∧ Q (.bl (if neg = true then !ds.any (fun z => PyData.eqv z d) else ds.any (fun z => PyData.eqv z d))) H
theorem room_in {A : Around} {xs : List PyData} {d : PyData} (hd : SeqAt.shaped d = true) (hu : A.units + 65 < cLine) : A.units + 1 + min (PyData.depthAll xs) d.depth < cLine := by
  have h1 := SeqAt.depth_of_shaped hd
  have h2 := Nat.min_le_right (PyData.depthAll xs) d.depth
  omega
theorem op_inT {X : Cx} (hu : X.A.units + 65 < cLine) : OpR X (compareOp .In) (rInT X.K false) := by
  intro pins s σ H x y v u Q I rx ry h
  obtain ⟨d, ds, hd, he, sd, se, q⟩ := h
  obtain ⟨as, r1⟩ := Dp.reads I d x v hd rx
  obtain ⟨bs, r2⟩ := Dp.reads I _ y u he ry
  have hl : PyData.canLayAll0 ds = true := SeqAt.canLay_of_shaped se
  exact SeqAt.in_tuple_reads r2 r1 hl (SeqAt.canLay_of_shaped sd) (room_in sd hu) ⟨.bl _, H, I, rfl, by simpa using q⟩
theorem op_notInT {X : Cx} (hu : X.A.units + 65 < cLine) : OpR X (compareOp .NotIn) (rInT X.K true) := by
  intro pins s σ H x y v u Q I rx ry h
  obtain ⟨d, ds, hd, he, sd, se, q⟩ := h
  obtain ⟨as, r1⟩ := Dp.reads I d x v hd rx
  obtain ⟨bs, r2⟩ := Dp.reads I _ y u he ry
  have hl : PyData.canLayAll0 ds = true := SeqAt.canLay_of_shaped se
  exact SeqAt.notIn_tuple_reads r2 r1 hl (SeqAt.canLay_of_shaped sd) (room_in sd hu) ⟨.bl _, H, I, rfl, by simpa using q⟩
def oIn (neg : Bool) : List PyData → Option PyData
  | [x, .list ys] => if SeqAt.shaped x = true ∧ SeqAt.shaped (.list ys) = true then some (.bool (if neg = true then !ys.any (fun z => PyData.eqv z x) else ys.any (fun z => PyData.eqv z x))) else none
  | [x, .tuple ys] => if SeqAt.shaped x = true ∧ SeqAt.shaped (.tuple ys) = true then some (.bool (if neg = true then !ys.any (fun z => PyData.eqv z x) else ys.any (fun z => PyData.eqv z x))) else none
  | _ => none
theorem ok_in {K : PySem.W.Frag} : OkE K (oIn false) (l2 fun x y H Q => rInD K x y H Q ∨ rInT K false x y H Q) := by
  intro B H vs xs z Q cn ho q x y e
  unfold oIn at ho
  split at ho
  · split at ho
    · rename_i a b hs
      cases ho
      obtain ⟨v, w, e2, c1, c2⟩ := cn.two
      rw [e] at e2
      cases e2
      exact .inl ⟨_, _, c1.dp hs.1, c2.dp hs.2, hs.1, hs.2, q _ (.bl _)⟩
    · cases ho
  · split at ho
    · rename_i a b hs
      cases ho
      obtain ⟨v, w, e2, c1, c2⟩ := cn.two
      rw [e] at e2
      cases e2
      exact .inr ⟨_, _, c1.dp hs.1, c2.dp hs.2, hs.1, hs.2, q _ (.bl _)⟩
    · cases ho
  · cases ho
theorem ok_notin {K : PySem.W.Frag} : OkE K (oIn true) (l2 fun x y H Q => rNotInD K x y H Q ∨ rInT K true x y H Q) := by
  intro B H vs xs z Q cn ho q x y e
  unfold oIn at ho
  split at ho
  · split at ho
    · rename_i a b hs
      cases ho
      obtain ⟨v, w, e2, c1, c2⟩ := cn.two
      rw [e] at e2
      cases e2
      exact .inl ⟨_, _, c1.dp hs.1, c2.dp hs.2, hs.1, hs.2, q _ (.bl _)⟩
    · cases ho
  · split at ho
    · rename_i a b hs
      cases ho
      obtain ⟨v, w, e2, c1, c2⟩ := cn.two
      rw [e] at e2
      cases e2
      exact .inr ⟨_, _, c1.dp hs.1, c2.dp hs.2, hs.1, hs.2, q _ (.bl _)⟩
    · cases ho
  · cases ho
def isN : PyData → Bool
  | .none => true
  | _ => false
def oIsN (neg : Bool) : List PyData → Option PyData
  | [x, .none] => some (.bool (if neg = true then !isN x else isN x))
  | _ => none
theorem Cn.isN {K : PySem.W.Frag} {B : Mset} {H : Hp} {v : V} {x : PyData} (h : Cn K B H v x) : decide (v = .non) = isN x := by
  cases h with
  | ct => rfl
  | rp h => cases h <;> rfl
theorem ok_isN {K : PySem.W.Frag} : OkE K (oIsN false) (l2 fun x y H Q => y = .non ∧ Q (.bl (decide (x = .non))) H) := by
  intro B H vs xs z Q cn ho q x y e
  unfold oIsN at ho
  split at ho
  · cases ho
    obtain ⟨v, w, e2, c1, c2⟩ := cn.two
    rw [e] at e2
    cases e2
    refine ⟨c2.none, ?_⟩
    rw [c1.isN]
    exact q _ (.bl _)
  · cases ho
def ints? : List PyData → Option (List Int)
  | [] => some []
  | .int i :: xs => match ints? xs with
    | none => none
    | some ns => some (i :: ns)
  | _ => none
theorem ints_map : ∀ {xs : List PyData} {ns : List Int}, ints? xs = some ns → xs = ns.map .int
  | [], ns, h => by cases h; rfl
  | .int i :: xs, ns, h => by
    unfold ints? at h
    split at h
    · cases h
    rename_i ms hm
    cases h
    rw [ints_map hm]
    rfl
  | .none :: _, _, h => by cases h
  | .bool _ :: _, _, h => by cases h
  | .str _ :: _, _, h => by cases h
  | .list _ :: _, _, h => by cases h
  | .tuple _ :: _, _, h => by cases h
  | .dict _ :: _, _, h => by cases h
def oLtT : List PyData → Option PyData
  | [.tuple xs, .tuple ys] => match ints? xs with
    | none => none
    | some ns => match ints? ys with
      | none => none
      | some ms => some (.bool (HT.lexLt ns ms))
  | _ => none
theorem ok_ltT {K : PySem.W.Frag} : OkE K oLtT (l2 (rLtT K)) := by
  intro B H vs xs z Q cn ho q x y e
  unfold oLtT at ho
  split at ho
  · split at ho
    · cases ho
    rename_i ns h1
    split at ho
    · cases ho
    rename_i ms h2
    cases ho
    obtain ⟨v, w, e2, c1, c2⟩ := cn.two
    rw [e] at e2
    cases e2
    obtain ⟨a, us, rfl, h3, h4⟩ := c1.tuple
    obtain ⟨b, ws, rfl, h5, h6⟩ := c2.tuple
    rw [ints_map h1] at h4
    rw [ints_map h2] at h6
    have e1 := h4.ints
    have e2 := h6.ints
    subst e1 e2
    exact ⟨a, b, ns, ms, rfl, rfl, h3, h5, q _ (.bl _)⟩
  · cases ho
def kLt : KK := kOr kLt0 (kOr (kE oLtT) (kE oLtG))
def oIx : List PyData → Option PyData
  | [.list xs, .int i] => atI xs i
  | [.tuple xs, .int i] => atI xs i
  | [.str s, .int i] => if s.length ≤ 1000000 then (atI s.cps.toList i).map fun c => .str ⟨#[c]⟩ else none
  | _ => none
theorem at_rp {K : PySem.W.Frag} {B : Mset} {H : Hp} {vs : List V} {xs : List PyData} {i : Int} {z : PyData} (r : RpA K B H vs xs) (h : atI xs i = some z) : ∃ v, atI vs i = some v ∧ Rp K B H v z := by
  unfold atI at h ⊢
  rw [r.length]
  cases e : ixN xs.length i with
  | none => rw [e] at h; cases h
  | some j =>
    rw [e] at h
    exact r.get h
theorem ok_ix {K : PySem.W.Frag} : OkE K oIx (l2 (rIx K)) := by
  intro B H vs xs z Q cn ho q x y e
  unfold oIx at ho
  split at ho
  · obtain ⟨v, w, e2, c1, c2⟩ := cn.two
    rw [e] at e2
    cases e2
    obtain ⟨a, us, rfl, h1, h2⟩ := c1.list
    obtain ⟨v, h3, h4⟩ := at_rp h2 ho
    exact .inl ⟨a, us, _, v, rfl, c2.int, h1, h3, q v h4⟩
  · obtain ⟨v, w, e2, c1, c2⟩ := cn.two
    rw [e] at e2
    cases e2
    obtain ⟨a, us, rfl, h1, h2⟩ := c1.tuple
    obtain ⟨v, h3, h4⟩ := at_rp h2 ho
    exact .inr (.inl ⟨a, us, _, v, rfl, c2.int, h1, h3, q v h4⟩)
  · split at ho
    · rename_i s i hl
      obtain ⟨v, w, e2, c1, c2⟩ := cn.two
      rw [e] at e2
      cases e2
      cases hc : atI s.cps.toList i with
      | none => rw [hc] at ho; cases ho
      | some c =>
        rw [hc] at ho
        cases ho
        exact .inr (.inr ⟨s, i, c, c1.str, c2.int, Nat.le_of_lt (small hl), hc, q _ (.str _)⟩)
    · cases ho
  · cases ho
end T3

end
section
set_option linter.all false
set_option autoImplicit false
set_option Elab.async false
namespace T3
open PySem L2
variable [TabL]

def cOr (r r' : List V → Hp → VK → Prop) : List V → Hp → VK → Prop := fun vs H Q => r vs H Q ∨ r' vs H Q
def oLen : List PyData → Option PyData
  | [.list xs] => some (.int xs.length)
  | [.tuple xs] => some (.int xs.length)
  | [.str s] => if s.length ≤ 1000000 then some (.int s.length) else none
  | _ => none
def rLen (K : PySem.W.Frag) : List V → Hp → VK → Prop := cOr (fun xs H Q => ∃ p ys, xs = [.ref p] ∧ (SqL K H p ys ∨ SqT K H p ys) ∧ Q (.int ys.length) H) (fun xs H Q => ∃ z, xs = [.str z] ∧ z.length ≤ sizeLine ∧ Q (.int z.length) H)
theorem cr_len {X : Cx} : CallR X (.builtin "len") (rLen X.K) := CallR.or call_len_seq call_len_str
theorem c_len {K : PySem.W.Frag} : Con K (kE oLen) (rLen K) := con_E <| by
  intro B H vs xs z Q cn ho q
  unfold oLen at ho
  split at ho
  · cases ho
    obtain ⟨v, rfl, c1⟩ := cn.one
    obtain ⟨a, us, rfl, h1, h2⟩ := c1.list
    refine .inl ⟨a, us, rfl, .inl h1, ?_⟩
    rw [h2.length]
    exact q _ (.int _)
  · cases ho
    obtain ⟨v, rfl, c1⟩ := cn.one
    obtain ⟨a, us, rfl, h1, h2⟩ := c1.tuple
    refine .inl ⟨a, us, rfl, .inr h1, ?_⟩
    rw [h2.length]
    exact q _ (.int _)
  · split at ho
    · rename_i hl
      cases ho
      obtain ⟨v, rfl, c1⟩ := cn.one
      exact .inr ⟨_, by rw [c1.str], Nat.le_of_lt (small hl), q _ (.int _)⟩
    · cases ho
  · cases ho
def bools? : List PyData → Option (List Bool)
  | [] => some []
  | .bool i :: xs => match bools? xs with
    | none => none
    | some ns => some (i :: ns)
  | _ => none
theorem bools_map : ∀ {xs : List PyData} {ns : List Bool}, bools? xs = some ns → xs = ns.map .bool
  | [], ns, h => by cases h; rfl
  | .bool i :: xs, ns, h => by
    unfold bools? at h
    split at h
    · cases h
    rename_i ms hm
    cases h
    rw [bools_map hm]
    rfl
  | .none :: _, _, h => by cases h
  | .int _ :: _, _, h => by cases h
  | .str _ :: _, _, h => by cases h
  | .list _ :: _, _, h => by cases h
  | .tuple _ :: _, _, h => by cases h
  | .dict _ :: _, _, h => by cases h
def oAll : List PyData → Option PyData
  | [.list xs] => match bools? xs with
    | none => none
    | some bs => some (.bool (bs.all id))
  | _ => none
theorem c_all {K : PySem.W.Frag} : Con K (kE oAll) (rAll K) := con_E <| by
  intro B H vs xs z Q cn ho q
  unfold oAll at ho
  split at ho
  · split at ho
    · cases ho
    rename_i bs hb
    cases ho
    obtain ⟨v, rfl, c1⟩ := cn.one
    obtain ⟨a, us, rfl, h1, h2⟩ := c1.list
    rw [bools_map hb] at h2
    have e := h2.bls
    subst e
    exact ⟨a, bs, rfl, h1, q _ (.bl _)⟩
  · cases ho
def oInt1 : List PyData → Option PyData
  | [.int i] => some (.int i)
  | [.bool b] => some (.int (if b then 1 else 0))
  | _ => none
theorem c_int1 {K : PySem.W.Frag} : Con K (kE oInt1) (fun xs H Q => (∃ i, xs = [.int i] ∧ Q (.int i) H) ∨ ∃ k, xs = [.bl k] ∧ Q (.int (if k then 1 else 0)) H) := con_E <| by
  intro B H vs xs z Q cn ho q
  unfold oInt1 at ho
  split at ho
  · cases ho
    obtain ⟨v, rfl, c1⟩ := cn.one
    exact .inl ⟨_, by rw [c1.int], q _ (.int _)⟩
  · cases ho
    obtain ⟨v, rfl, c1⟩ := cn.one
    exact .inr ⟨_, by rw [c1.bool], q _ (.int _)⟩
  · cases ho
def oAbs : List PyData → Option PyData
  | [.int i] => some (.int (if i < 0 then -i else i))
  | _ => none
def rMinT (K : PySem.W.Frag) : List V → Hp → VK → Prop := fun vs H Q => ∃ (a : Addr) (n : Int) (ns : List Int), vs = [V.ref a] ∧ SqT K H a ((n :: ns).map V.int) ∧ Q (.int (ns.foldl min n)) H
def rMaxT (K : PySem.W.Frag) : List V → Hp → VK → Prop := fun vs H Q => ∃ (a : Addr) (n : Int) (ns : List Int), vs = [V.ref a] ∧ SqT K H a ((n :: ns).map V.int) ∧ Q (.int (ns.foldl max n)) H
theorem DpAll.ints {K : PySem.W.Frag} {H : Hp} : ∀ ns : List Int, DpAll K H (ns.map V.int) (ns.map .int)
  | [] => .nil
  | n :: ns => .cons (.int n) (DpAll.ints ns)
theorem alike_ints (ns : List Int) : PySem.W.AlikeAll (ns.map .int) := by
  constructor
  · intro x hx y hy
    obtain ⟨i, _, rfl⟩ := List.mem_map.mp hx
    obtain ⟨j, _, rfl⟩ := List.mem_map.mp hy
    rfl
  · intro x hx
    obtain ⟨i, _, rfl⟩ := List.mem_map.mp hx
    intro z
    cases z
theorem depth_ints : ∀ ns : List Int, PyData.depthAll (ns.map .int) = 0
  | [] => by simp [PyData.depthAll]
  | n :: ns => by simp [PyData.depthAll, PyData.depth, depth_ints ns]
theorem reads_int {h : Heap} {v : Value} {i : Int} {as : List Addr} (r : Reads h v (.int i) as) : ∃ t, v = .int i t := by
  cases r with
  | int _ t => exact ⟨t, rfl⟩
theorem cr_minT {X : Cx} (hc : X.calm = true) (hu : X.A.units + 64 < cLine) : CallR X (.builtin "min") (rMinT X.K) := by
  intro pins s σ H vs us Q I r h
  obtain ⟨a, n, ns, rfl, hs, q⟩ := h
  obtain ⟨its, rv, ⟨o, ho, hcl, m, hd⟩, hz⟩ := I.tuple hs
  rw [Vals.ref1 r]
  obtain ⟨as, hr⟩ := Dp.readsAll I _ _ its (DpAll.ints (n :: ns)) rv
  refine PySem.W.min_tuple_data (vs := its.toArray) (I.ok.hd hc) ⟨o, ho, hcl, m, hd⟩ (x := .int n) (xs := ns.map .int) hr (alike_ints (n :: ns)) (by have := depth_ints (n :: ns); simp only [List.map_cons] at this; rw [this]; omega) fun i v h' tk bs hv hrd hk => ?_
  rw [PySem.W.minD_ints] at hrd
  obtain ⟨t, rfl⟩ := reads_int hrd
  exact ⟨.int _, H, I.kept hk, ⟨t, rfl⟩, q⟩
theorem cr_maxT {X : Cx} (hc : X.calm = true) (hu : X.A.units + 64 < cLine) : CallR X (.builtin "max") (rMaxT X.K) := by
  intro pins s σ H vs us Q I r h
  obtain ⟨a, n, ns, rfl, hs, q⟩ := h
  obtain ⟨its, rv, ⟨o, ho, hcl, m, hd⟩, hz⟩ := I.tuple hs
  rw [Vals.ref1 r]
  obtain ⟨as, hr⟩ := Dp.readsAll I _ _ its (DpAll.ints (n :: ns)) rv
  refine PySem.W.max_tuple_data (vs := its.toArray) (I.ok.hd hc) ⟨o, ho, hcl, m, hd⟩ (x := .int n) (xs := ns.map .int) hr (alike_ints (n :: ns)) (by have := depth_ints (n :: ns); simp only [List.map_cons] at this; rw [this]; omega) fun i v h' tk bs hv hrd hk => ?_
  rw [PySem.W.maxD_ints] at hrd
  obtain ⟨t, rfl⟩ := reads_int hrd
  exact ⟨.int _, H, I.kept hk, ⟨t, rfl⟩, q⟩
def rMm (K : PySem.W.Frag) (mx : Bool) : List V → Hp → VK → Prop := if mx = true then cOr (fun xs H Q => ∃ i j, xs = [.int i, .int j] ∧ Q (.int (if j > i then j else i)) H) (cOr (rMaxT K) (rMax K)) else cOr (fun xs H Q => ∃ i j, xs = [.int i, .int j] ∧ Q (.int (if j < i then j else i)) H) (cOr (rMinT K) (rMin K))
theorem cr_mx {X : Cx} (hc : X.calm = true) (hu : X.A.units + 64 < cLine) : CallR X (.builtin "max") (rMm X.K true) := CallR.or (call_max2 hc) (CallR.or (cr_maxT hc hu) (cr_max hc))
theorem cr_mn {X : Cx} (hc : X.calm = true) (hu : X.A.units + 64 < cLine) : CallR X (.builtin "min") (rMm X.K false) := CallR.or (call_min2 hc) (CallR.or (cr_minT hc hu) (cr_min hc))
def oMax : List PyData → Option PyData
  | [.int i, .int j] => some (.int (if j > i then j else i))
  | [.tuple xs] => match ints? xs with
    | some (n :: ns) => some (.int (ns.foldl max n))
    | _ => none
  | [.list xs] => match ints? xs with
    | some (n :: ns) => some (.int (ns.foldl max n))
    | _ => none
  | _ => none
def oMin : List PyData → Option PyData
  | [.int i, .int j] => some (.int (if j < i then j else i))
  | [.tuple xs] => match ints? xs with
    | some (n :: ns) => some (.int (ns.foldl min n))
    | _ => none
  | [.list xs] => match ints? xs with
    | some (n :: ns) => some (.int (ns.foldl min n))
    | _ => none
  | _ => none
theorem foldl_max : ∀ (ns : List Int) (n m : Int), m ∈ n :: ns → (∀ y, y ∈ n :: ns → y ≤ m) → ns.foldl max n = m
  | [], n, m, h, _ => by simp at h; simp [h]
  | k :: ns, n, m, h, hb => by
    show ns.foldl max (max n k) = m
    have h1 := hb n (by simp)
    have h2 := hb k (by simp)
    refine foldl_max ns _ m ?_ fun y hy => ?_
    · simp only [List.mem_cons] at h ⊢
      rcases h with h | h | h
      · left; omega
      · left; omega
      · right; exact h
    · simp only [List.mem_cons] at hy
      rcases hy with hy | hy
      · omega
      · exact hb y (by simp [hy])
theorem foldl_min : ∀ (ns : List Int) (n m : Int), m ∈ n :: ns → (∀ y, y ∈ n :: ns → m ≤ y) → ns.foldl min n = m
  | [], n, m, h, _ => by simp at h; simp [h]
  | k :: ns, n, m, h, hb => by
    show ns.foldl min (min n k) = m
    have h1 := hb n (by simp)
    have h2 := hb k (by simp)
    refine foldl_min ns _ m ?_ fun y hy => ?_
    · simp only [List.mem_cons] at h ⊢
      rcases h with h | h | h
      · left; omega
      · left; omega
      · right; exact h
    · simp only [List.mem_cons] at hy
      rcases hy with hy | hy
      · omega
      · exact hb y (by simp [hy])
theorem c_mx {K : PySem.W.Frag} : Con K (kE oMax) (rMm K true) := con_E <| by
  intro B H vs xs z Q cn ho q
  unfold oMax at ho
  split at ho
  · cases ho
    obtain ⟨v, w, rfl, c1, c2⟩ := cn.two
    exact .inl ⟨_, _, by rw [c1.int, c2.int], q _ (.int _)⟩
  · split at ho
    · rename_i n ns hb
      cases ho
      obtain ⟨v, rfl, c1⟩ := cn.one
      obtain ⟨a, us, rfl, h1, h2⟩ := c1.tuple
      rw [ints_map hb] at h2
      have e := h2.ints
      subst e
      exact .inr (.inl ⟨a, n, ns, rfl, h1, q _ (.int _)⟩)
    · cases ho
  · split at ho
    · rename_i n ns hb
      cases ho
      obtain ⟨v, rfl, c1⟩ := cn.one
      obtain ⟨a, us, rfl, h1, h2⟩ := c1.list
      rw [ints_map hb] at h2
      have e := h2.ints
      subst e
      refine .inr (.inr ⟨a, n :: ns, rfl, h1, by simp, fun m hm hb' => ?_⟩)
      rw [← foldl_max ns n m hm hb']
      exact q _ (.int _)
    · cases ho
  · cases ho
theorem c_mn {K : PySem.W.Frag} : Con K (kE oMin) (rMm K false) := con_E <| by
  intro B H vs xs z Q cn ho q
  unfold oMin at ho
  split at ho
  · cases ho
    obtain ⟨v, w, rfl, c1, c2⟩ := cn.two
    exact .inl ⟨_, _, by rw [c1.int, c2.int], q _ (.int _)⟩
  · split at ho
    · rename_i n ns hb
      cases ho
      obtain ⟨v, rfl, c1⟩ := cn.one
      obtain ⟨a, us, rfl, h1, h2⟩ := c1.tuple
      rw [ints_map hb] at h2
      have e := h2.ints
      subst e
      exact .inr (.inl ⟨a, n, ns, rfl, h1, q _ (.int _)⟩)
    · cases ho
  · split at ho
    · rename_i n ns hb
      cases ho
      obtain ⟨v, rfl, c1⟩ := cn.one
      obtain ⟨a, us, rfl, h1, h2⟩ := c1.list
      rw [ints_map hb] at h2
      have e := h2.ints
      subst e
      refine .inr (.inr ⟨a, n :: ns, rfl, h1, by simp, fun m hm hb' => ?_⟩)
      rw [← foldl_min ns n m hm hb']
      exact q _ (.int _)
    · cases ho
  · cases ho
def rTupN (K : PySem.W.Frag) : List V → Hp → VK → Prop := fun xs H Q => ∃ p ys, xs = [.ref p] ∧ ((SqL K H p ys ∧ ∀ l o, H l = none → o.dict = none → Q (.ref l) (upd H l (.frz o (.tup ys)))) ∨ (SqT K H p ys ∧ Q (.ref p) H))
theorem cr_tupN {X : Cx} : CallR X (.type "tuple") (rTupN X.K) := by
  intro pins s σ H xs us Q I r h
  obtain ⟨p, ys, rfl, h⟩ := h
  obtain ⟨u, rfl, rx⟩ := vals1 r
  cases rx
  rcases h with ⟨hq, q⟩ | ⟨hq, q⟩
  · obtain ⟨its, r', pl, hz⟩ := I.list hq
    have hlen := r'.length
    refine call_tuple_list pl.isList (fun h' kp => ?_) (by simp only [List.size_toArray] <;> omega)
    have I1 : Inv X pins σ H { s with heap := h' } := I.kept (t' := s.toks) kp
    refine ⟨.ref h'.objs.size, _, I1.laid (t' := s.toks) (o := .frz { cls := .type "tuple", data := .seq its.toArray } (.tup ys)) (fun b o e => Heap.get?_push_of_some _ e) (Nat.le_refl _) ?_, rfl, q _ _ (I1.hok.fresh (Nat.le_refl _)) rfl⟩
    exact ⟨Heap.get?_push_size _ rfl, hz, its, r', PyProof.Rows.IsTup.new _ _⟩
  · obtain ⟨its, r', pl, hz⟩ := I.tuple hq
    exact call_tuple_same pl ⟨.ref p, H, I, rfl, q⟩
def kTupN : KK := fun ds env => match ds with
  | [.nt xs] => some (.nt xs, env)
  | [d] => match ctn env d with
    | some (.list xs) => some (.nt xs, env)
    | some (.tuple xs) => some (.pd (.tuple xs), env)
    | _ => none
  | _ => none
theorem c_tupN {K : PySem.W.Frag} : Con K kTupN (rTupN K) := by
  intro σ H B env B1 H1 env1 vs ds d e2 Q en a rr hk q
  unfold kTupN at hk
  split at hk
  · cases hk
    match vs, rr with
    | [v], rr =>
      obtain ⟨p, rfl, r⟩ := rr.each 0 v _ rfl rfl
      obtain ⟨o, us, h1, h2, h3⟩ := id r
      exact ⟨p, us, rfl, .inr ⟨.inl (.inr ⟨o, h1⟩), q B1 H1 _ a ⟨p, rfl, r⟩⟩⟩
    | [], rr => have := rr.len; simp at this
    | _ :: _ :: _, rr => have := rr.len; simp at this
  · rename_i d1 _
    match vs, rr with
    | [v], rr =>
      split at hk
      · rename_i xs hx
        cases hk
        obtain ⟨p, us, rfl, h1, h2⟩ := (Cn.of a.en (rr.each 0 v d1 rfl rfl) hx).list
        refine ⟨p, us, rfl, .inl ⟨h1, fun l o nl hd => ?_⟩⟩
        obtain ⟨g, a2⟩ := a.alloc en nl (.frz o (.tup us)) False (fun _ => False) (fun _ f => f.elim)
        exact q _ _ _ a2 ⟨l, rfl, o, us, upd_same, hd, h2.grow g⟩
      · rename_i xs hx
        cases hk
        obtain ⟨p, us, rfl, h1, h2⟩ := (Cn.of a.en (rr.each 0 v d1 rfl rfl) hx).tuple
        exact ⟨p, us, rfl, .inr ⟨h1, q B1 H1 _ a (.tup h1 h2)⟩⟩
      · cases hk
    | [], rr => have := rr.len; simp at this
    | _ :: _ :: _, rr => have := rr.len; simp at this
  · cases hk
end T3

end
section
set_option linter.all false
set_option autoImplicit false
set_option Elab.async false
namespace T3
open PySem L2
variable [TabL]

def tyN : PyData → String
  | .none => "NoneType"
  | .bool _ => "bool"
  | .int _ => "int"
  | .str _ => "str"
  | .list _ => "list"
  | .tuple _ => "tuple"
  | .dict _ => "dict"
theorem Cn.ty {K : PySem.W.Frag} {B : Mset} {H : Hp} {v : V} {x : PyData} (h : Cn K B H v x) (nx : ∀ kvs, x ≠ .dict kvs) : TyX K H v (.type (tyN x)) := by
  cases h with
  | ct h r => exact .base (.lst h)
  | rp h =>
    cases h with
    | non => exact .base .non
    | bl b => exact .base (.bl b)
    | int i => exact .base (.int i)
    | str x => exact .base (.str x)
    | tup h r =>
      rcases h with (h | ⟨o, h⟩) | ⟨o, _, _, h1, h2, _⟩
      · exact .base (.tup h)
      · exact .fTuple h
      · exact .kTuple h1 h2
    | lst h _ r => exact .base (.lst h)
    | frz h r => exact .base (.frz h)
    | kls h1 h2 h3 h4 h5 h6 r => exact .kList h1 h2
    | fn h => exact absurd rfl (nx _)
    | exn => exact absurd rfl (nx _)
    | ntp h1 h2 h3 => exact absurd rfl (nx _)
    | lam h1 h2 h3 h4 h5 => exact absurd rfl (nx _)
    | dct h1 h2 h3 h4 h5 h6 => exact absurd rfl (nx _)
    | dck h1 h2 h3 h4 => exact absurd rfl (nx _)
inductive T5 where | int | bool | str | tuple | list
def T5.n : T5 → String
  | .int => "int"
  | .bool => "bool"
  | .str => "str"
  | .tuple => "tuple"
  | .list => "list"
def isi5 : T5 → PyData → Bool
  | .int, .int _ => true
  | .int, .bool _ => true
  | .bool, .bool _ => true
  | .str, .str _ => true
  | .tuple, .tuple _ => true
  | .list, .list _ => true
  | _, _ => false
theorem kt0 : ∀ t : T5, kitB "NoneType" t.n = some false := by intro t; cases t <;> decide +kernel
theorem kt1 : ∀ t : T5, kitB "bool" t.n = some (match t with | .int => true | .bool => true | _ => false) := by intro t; cases t <;> decide +kernel
theorem kt2 : ∀ t : T5, kitB "int" t.n = some (match t with | .int => true | _ => false) := by intro t; cases t <;> decide +kernel
theorem kt3 : ∀ t : T5, kitB "str" t.n = some (match t with | .str => true | _ => false) := by intro t; cases t <;> decide +kernel
theorem kt4 : ∀ t : T5, kitB "list" t.n = some (match t with | .list => true | _ => false) := by intro t; cases t <;> decide +kernel
theorem kt5 : ∀ t : T5, kitB "tuple" t.n = some (match t with | .tuple => true | _ => false) := by intro t; cases t <;> decide +kernel
theorem kit5 {K : PySem.W.Frag} (t : T5) (x : PyData) (hx : ∀ kvs, x ≠ .dict kvs) : PySem.W.kitOne K (.type (tyN x)) (.type t.n) = some (isi5 t x) := by
  cases x with
  | dict kvs => exact absurd rfl (hx kvs)
  | none => cases t <;> exact kit_ty (kt0 _)
  | bool b => cases t <;> exact kit_ty (kt1 _)
  | int b => cases t <;> exact kit_ty (kt2 _)
  | str b => cases t <;> exact kit_ty (kt3 _)
  | list b => cases t <;> exact kit_ty (kt4 _)
  | tuple b => cases t <;> exact kit_ty (kt5 _)
def oIsi (t : T5) : List PyData → Option PyData
  | [.dict _] => none
  | [x] => some (.bool (isi5 t x))
  | _ => none
def cutD (xs : List PyData) (lo hi : Option Int) : List PyData := (xs.drop (HT.sIx xs.length 0 lo)).take (HT.sIx xs.length xs.length hi - HT.sIx xs.length 0 lo)
theorem RpA.cut {K : PySem.W.Frag} {B : Mset} {H : Hp} {vs : List V} {xs : List PyData} (h : RpA K B H vs xs) (lo hi : Option Int) : RpA K B H (cutV vs lo hi) (cutD xs lo hi) := by
  unfold cutV cutD
  rw [h.length]
  exact (h.drop _).take _
abbrev EO := Sl → Option (Option Int × Sl)
def oNo : EO := fun env => some (none, env)
def oSome (f : EE) : EO := fun env => match f env with
  | some (.pd (.int i), e) => some (some i, e)
  | _ => none
def tO (K : PySem.W.Frag) (f : EO) : TO := fun σ H Q => ∃ B env i env', EnvR K B H σ env ∧ f env = some (i, env') ∧ ∀ B' H', At K σ B H env B' H' env' → Q i H'
theorem PO.imp {X : Cx} {e : Option Expr} {t t' : TO} (h : PO X e t) (i : ∀ σ H Q, t' σ H Q → t σ H Q) : PO X e t' := ⟨fun pins s σ H Q I q => h.run pins s σ H Q I (i σ H Q q)⟩
theorem o_no {X : Cx} {K : PySem.W.Frag} : PO X none (tO K oNo) := PO.imp po_none fun σ H Q q => by
  obtain ⟨B, env, i, env', en, ev, q⟩ := q
  cases ev
  exact q B H (.refl en)
theorem o_some {X : Cx} {e : Expr} {f : EE} (h : PE X e (tE X.K f)) : PO X (some e) (tO X.K (oSome f)) := PO.imp (po_some h) fun σ H Q q => by
  obtain ⟨B, env, i, env', en, ev, q⟩ := q
  unfold oSome at ev
  split at ev
  · rename_i j e h1
    cases ev
    refine ⟨B, env, _, _, en, h1, fun B1 H1 v a1 r1 => ?_⟩
    have r1 : Rp X.K B1 H1 v (.int j) := r1
    cases r1
    exact ⟨j, rfl, q B1 H1 a1⟩
  · cases ev
def kSl (l h : Option Int) : KK := fun ds env => match ds with
  | [d] => match ctn env d with
    | some (.tuple xs) => some (.pd (.tuple (cutD xs l h)), env)
    | some (.list xs) => some (.tmp (.ls (cutD xs l h)), env)
    | some (.str s) => if s.length ≤ 1000000 then some (.pd (.str (cutS s l h)), env) else none
    | _ => none
  | _ => none
def eSl (f : EE) (lo hi : EO) : EE := fun env => match f env with
  | none => none
  | some (d, e1) => match lo e1 with
    | none => none
    | some (l, e2) => match hi e2 with
      | none => none
      | some (h, e3) => kSl l h [d] e3
def rSl3 (K : PySem.W.Frag) : V → Option Int → Option Int → Hp → VK → Prop := fun x lo hi H Q => rSlL K x lo hi H Q ∨ rSlA K x lo hi H Q ∨ rSlS x lo hi H Q
theorem sl3 {X : Cx} : SlR X (rSl3 X.K) := SlR.or sl_list (SlR.or sl_tupA sl_str)
theorem cutD_all {xs : List PyData} {lo hi : Option Int} (h : HT.sIx xs.length 0 lo = 0 ∧ HT.sIx xs.length xs.length hi = xs.length) : cutD xs lo hi = xs := by
  unfold cutD
  rw [h.1, h.2]
  simp
theorem c_sl {K : PySem.W.Frag} {l h : Option Int} : Con K (kSl l h) (l1 fun x H Q => rSl3 K x l h H Q) := by
  intro σ H B env B1 H1 env1 vs ds d e2 Q en a rr hk q x e
  subst e
  unfold kSl at hk
  split at hk
  · rename_i d1
    split at hk
    · rename_i xs hx
      cases hk
      obtain ⟨p, us, rfl, h1, h2⟩ := (Cn.of a.en (rr.each 0 x d1 rfl rfl) hx).tuple
      refine .inr (.inl ⟨p, us, rfl, h1, fun z => ?_, fun z r nr => ?_⟩)
      · rw [h2.length] at z
        rw [cutD_all z] at q
        exact q B1 H1 _ a (.tup h1 h2)
      · obtain ⟨g, a2⟩ := a.alloc en nr (.tup (cutV us l h)) False (fun _ => False) (fun _ f => f.elim)
        exact q _ _ _ a2 (.tup (.inl (.inl upd_same)) ((h2.cut l h).grow g))
    · rename_i xs hx
      cases hk
      obtain ⟨p, us, rfl, h1, h2⟩ := (Cn.of a.en (rr.each 0 x d1 rfl rfl) hx).list
      exact .inl ⟨p, us, rfl, h1, fun r nr => con_new en a nr (h2.cut l h) q⟩
    · rename_i s hx
      split at hk
      · rename_i hl
        cases hk
        have c1 := Cn.of a.en (rr.each 0 x d1 rfl rfl) hx
        exact .inr (.inr ⟨s, c1.str, Nat.le_of_lt (small hl), q B1 H1 _ a (.str _)⟩)
      · cases hk
    · cases hk
  · cases hk
theorem e_sl {X : Cx} {e : Expr} {lo hi : Option Expr} {f : EE} {fl fh : EO} {p2 pos : Pos} (he : PE X e (tE X.K f)) (hl : PO X lo (tO X.K fl)) (hu : PO X hi (tO X.K fh)) : PE X (.Subscript e (.Slice lo hi none p2) pos) (tE X.K (eSl f fl fh)) := by
  refine PE.imp (pe_slice sl3 he hl hu) fun σ H Q t => ?_
  obtain ⟨B, env, d, env', en, ev, q⟩ := t
  unfold eSl at ev
  split at ev
  · cases ev
  rename_i d1 e1 h1
  split at ev
  · cases ev
  rename_i l e2 h2
  split at ev
  · cases ev
  rename_i h e3 h3
  refine ⟨B, env, d1, e1, en, h1, fun B1 H1 v a1 r1 => ⟨B1, e1, l, e2, a1.en, h2, fun B2 H2 a2 => ⟨B2, e2, h, e3, a2.en, h3, fun B3 H3 a3 => ?_⟩⟩⟩
  have a23 := a2.trans a1.en a3
  have aa := a1.trans en a23
  refine c_sl σ H B env B3 H3 e3 [v] [d1] d env' Q en aa ⟨rfl, fun k w d' hv hd => ?_, fun k l' c c' w hkl hk hl _ _ => ?_⟩ ev q v rfl
  · cases k with
    | zero => simp at hv hd; subst hv hd; exact (r1.ra).later a1.en a23
    | succ k => simp at hv
  · have : k = 0 := by
      cases k with
      | zero => rfl
      | succ k => simp at hk
    have : l' = 0 := by
      cases l' with
      | zero => rfl
      | succ k => simp at hl
    omega
end T3

end
section
set_option linter.all false
set_option autoImplicit false
set_option Elab.async false
namespace T3
open PySem L2
variable [TabL]

theorem RRA.cons {K : PySem.W.Frag} {σ : St} {B1 B2 : Mset} {H H1 H2 : Hp} {e1 e2 : Sl} {v : V} {d : R} {vs : List V} {ds : List R} (en1 : EnvR K B1 H1 σ e1) (lv : ∀ a, H1 a = none → H a = none) (r1 : RR K H B1 H1 σ e1 v d) (a2 : At K σ B1 H1 e1 B2 H2 e2) (r2 : RRA K H1 B2 H2 σ e2 vs ds) : RRA K H B2 H2 σ e2 (v :: vs) (d :: ds) := by
  refine ⟨by simp [r2.len], fun k w d' hv hd => ?_, fun k l c c' w hkl hk hl vk vl => ?_⟩
  · cases k with
    | zero => simp at hv hd; subst hv hd; exact (r1.ra).later en1 a2
    | succ k =>
      have := r2.each k w d' (by simpa using hv) (by simpa using hd)
      cases d' with
      | pd x => exact this
      | nt x => exact this
      | var i => exact this
      | tmp c => obtain ⟨a, e1, e2, e3⟩ := this; exact ⟨a, e1, lv a e2, e3⟩
  · have fresh : ∀ (k : Nat) c', ds[k]? = some (.tmp c') → vs[k]? = some w → ∀ c, d = .tmp c → v = w → False := by
      intro kk c' gk gv c hd hw
      subst hd hw
      obtain ⟨a, rfl, _, ba, _, _⟩ := r1
      obtain ⟨a', e, h0, _⟩ := r2.each kk _ _ gv gk
      cases e
      obtain ⟨o, ho⟩ := en1.dom a ba
      rw [ho] at h0
      cases h0
    cases k with
    | zero =>
      cases l with
      | zero => exact hkl rfl
      | succ l => exact fresh l c' (by simpa using hl) (by simpa using vl) c (by simpa using hk) (by simpa using vk)
    | succ k =>
      cases l with
      | zero => exact fresh k c (by simpa using hk) (by simpa using vk) c' (by simpa using hl) (by simpa using vl)
      | succ l => exact r2.apart k l c c' w (by omega) (by simpa using hk) (by simpa using hl) (by simpa using vk) (by simpa using vl)

def isL (env : Sl) : R → Bool
  | .pd (.list _) => true
  | .tmp (.ls _) => true
  | .var i => match env[i]? with
    | some (some (.mu _ (.ls _))) => true
    | _ => false
  | _ => false
def isNt (env : Sl) : R → Bool
  | .nt _ => true
  | _ => false
def eBM (ty : Sl → R → Bool) (fo : EE) (fa : EA) (k : KK) : EE := fun env => match fo env with
  | none => none
  | some (d, e1) => if ty e1 d = true then match fa e1 with
      | none => none
      | some (ds, e2) => k (d :: ds) e2
    else none
def lm (r : V → List V → Hp → VK → Prop) : List V → Hp → VK → Prop := fun vs H Q => ∀ x xs, vs = x :: xs → r x xs H Q
theorem rd_bm {K : PySem.W.Frag} {ty : Sl → R → Bool} {fo : EE} {fa : EA} {k : KK} {r : V → List V → Hp → VK → Prop} {P : V → Hp → Prop} (hp : ∀ H₀ B H σ env v d, EnvR K B H σ env → RR K H₀ B H σ env v d → ty env d = true → P v H) (c : Con K k (lm r)) {σ : St} {H : Hp} {Q : VK} (h : tE K (eBM ty fo fa k) σ H Q) :
    tE K fo σ H fun x H1 => P x H1 ∧ tA K fa σ H1 fun xs H2 => r x xs H2 Q := by
  obtain ⟨B, env, d, env', en, ev, q⟩ := h
  unfold eBM at ev
  split at ev
  · cases ev
  rename_i d1 e1 h1
  split at ev
  rotate_left
  · cases ev
  rename_i ht
  split at ev
  · cases ev
  rename_i ds e2 h2
  refine ⟨B, env, d1, e1, en, h1, fun B1 H1 v a1 r1 => ⟨hp H B1 H1 σ e1 v d1 a1.en r1 ht, B1, e1, ds, e2, a1.en, h2, fun B2 H2 vs a2 r2 => ?_⟩⟩
  exact c σ H B env B2 H2 e2 (v :: vs) (d1 :: ds) d env' Q en (a1.trans en a2) (RRA.cons a1.en a1.st.liv r1 a2 r2) ev q v vs rfl
theorem ty_L {K : PySem.W.Frag} : ∀ H₀ B H σ env v d, EnvR K B H σ env → RR K H₀ B H σ env v d → isL env d = true → tyV K "list" v H := by
  intro H₀ B H σ env v d en r h
  unfold isL at h
  split at h
  · obtain ⟨a, vs, rfl, h1, _⟩ := Cn.list (.rp (show Rp K B H v (.list _) from r))
    exact .inl ⟨rfl, vs, h1⟩
  · obtain ⟨a, rfl, _, _, ⟨vs, h1, _⟩, _⟩ := r
    exact .inl ⟨rfl, vs, .inl (.inl h1)⟩
  · rename_i i
    split at h
    · rename_i hx
      obtain ⟨a, h1, _, vs, h2, _⟩ := en.mu _ _ _ hx
      rw [r.1] at h1
      cases h1
      exact .inl ⟨rfl, vs, .inl (.inl h2)⟩
    · cases h
  · cases h
theorem At.freeze {K : PySem.W.Frag} {σ : St} {B B1 : Mset} {H H1 : Hp} {env env1 : Sl} (en : EnvR K B H σ env) (a : At K σ B H env B1 H1 env1) (fz : Mset) (hf : ∀ q, fz q → H q = none ∧ ∀ (i : Nat) m d, env1[i]? = some (some (S.mu m d)) → σ[i]? ≠ some (some (V.ref q))) :
    Grow B1 H1 (fun q => B1 q ∧ ¬ fz q) H1 ∧ At K σ B H env (fun q => B1 q ∧ ¬ fz q) H1 env1 := by
  have g : Grow B1 H1 (fun q => B1 q ∧ ¬ fz q) H1 := ⟨fun q o h _ => h, fun q h => .inl h.1⟩
  refine ⟨g, ⟨a.st.keep, fun q h => a.st.new q h.1, fun q h w => ⟨a.st.old q h w, fun f => ?_⟩, a.st.sub, a.st.liv⟩, ⟨a.en.len, fun i x h => ?_, fun i x h => ?_, fun i m c h => ?_, a.en.inj, fun q h => a.en.dom q h.1, a.en.tb.on (fun q o h _ => h) g.new⟩, a.sm, a.ks⟩
  · obtain ⟨o', ho⟩ := en.dom q h
    rw [(hf q f).1] at ho; cases ho
  · obtain ⟨v, h1, h2⟩ := a.en.pd i x h
    exact ⟨v, h1, h2.grow g⟩
  · obtain ⟨v, h1, h2⟩ := a.en.nt i x h
    exact ⟨v, h1, h2.grow g⟩
  · obtain ⟨q, h1, h2, h3⟩ := a.en.mu i m c h
    refine ⟨q, h1, ⟨h2, fun f => (hf q f).2 i m c h h1⟩, ?_⟩
    cases c with
    | ls xs => obtain ⟨vs, h4, h5⟩ := h3; exact ⟨vs, h4, h5.grow g⟩
    | dk xs => obtain ⟨vs, h4, h5⟩ := h3; exact ⟨vs, h4, h5.grow g⟩
    | dn xs => obtain ⟨vs, h4, h5⟩ := h3; exact ⟨vs, h4, h5.grow g⟩
def kAppend : KK := fun ds env => match ds with
  | [.var i, d] => match data1 d with
    | none => none
    | some y => match env[i]? with
      | some (some (.mu m (.ls xs))) => if m ≠ .fro ∧ xs.length ≤ 1000000 then some (.pd .none, env.set i (some (.mu m (.ls (xs ++ [y]))))) else none
      | _ => none
  | _ => none
theorem c_append {K : PySem.W.Frag} : Con K kAppend (lm rAppend) := by
  intro σ H B env B1 H1 env1 vs ds d e2 Q en a rr hk q x xs e
  subst e
  unfold kAppend at hk
  split at hk
  · rename_i i d1
    split at hk
    · cases hk
    rename_i y hy
    split at hk
    · rename_i m ys hm
      split at hk
      · rename_i hc
        cases hk
        have hx : σ[i]? = some (some x) := rr.each 0 x _ rfl rfl
        obtain ⟨p, g1, g2, us, g3, g4⟩ := a.en.mu i _ _ hm
        rw [hx] at g1
        cases g1
        match xs, rr with
        | [w], rr =>
          obtain ⟨gf, af⟩ := a.freeze en (fzOf [.ref p, w] [.var i, d1]) rr.fz
          have hw : RpA K (fun q => B1 q ∧ ¬ fzOf [.ref p, w] [.var i, d1] q) H1 [w] [y] := by
            have := RRA.data (vs := [w]) (ds := [d1]) (xs := [y]) gf (fun a o h => h) rr.tail (fun q ⟨k, c, z1, z2⟩ h => h.2 ⟨k + 1, c, by simpa using z1, by simpa using z2⟩) (by simp [datas, hy])
            exact this
          refine ⟨p, us, w, rfl, rfl, g3, by rw [g4.length]; exact small hc.2, ?_⟩
          obtain ⟨gw, aw⟩ := AtS.write (o := .lst (us ++ [w])) (c' := .ls (ys ++ [y])) af.en hm hc.1 hx (fun o' h' im => by rw [g3] at h'; cases h'; exact im) (fun H' _ h1 g' => ⟨_, h1, ((g4.grow gf).append hw).grow g'⟩)
          exact q _ _ _ (af.trans en aw) .non
        | [], rr => have := rr.len; simp at this
        | _ :: _ :: _, rr => have := rr.len; simp at this
      · cases hk
    · cases hk
  · cases hk
def kExtend : KK := fun ds env => match ds with
  | [.var i, d] => match lsOf env d with
    | none => none
    | some zs => match env[i]? with
      | some (some (.mu m (.ls xs))) => if m ≠ .fro ∧ xs.length + zs.length ≤ 1000000 then some (.pd .none, env.set i (some (.mu m (.ls (xs ++ zs))))) else none
      | _ => none
  | _ => none
theorem c_extend {K : PySem.W.Frag} : Con K kExtend (lm rExtend) := by
  intro σ H B env B1 H1 env1 vs ds d e2 Q en a rr hk q x xs e
  subst e
  unfold kExtend at hk
  split at hk
  · rename_i i d1
    split at hk
    · cases hk
    rename_i zs hz
    split at hk
    · rename_i m ys hm
      split at hk
      · rename_i hc
        cases hk
        have hx : σ[i]? = some (some x) := rr.each 0 x _ rfl rfl
        obtain ⟨p, g1, g2, us, g3, g4⟩ := a.en.mu i _ _ hm
        rw [hx] at g1
        cases g1
        match xs, rr with
        | [w], rr =>
          obtain ⟨b, ws, rfl, k1, k2⟩ := lsOf_at a.en (rr.each 1 w d1 rfl rfl) hz
          refine ⟨p, b, us, ws, rfl, rfl, g3, k1, by rw [g4.length, k2.length]; exact Nat.le_of_lt (small hc.2), ?_⟩
          obtain ⟨gw, aw⟩ := AtS.write (o := .lst (us ++ ws)) (c' := .ls (ys ++ zs)) a.en hm hc.1 hx (fun o' h' im => by rw [g3] at h'; cases h'; exact im) (fun H' _ h1 g' => ⟨_, h1, (g4.append k2).grow g'⟩)
          exact q _ _ _ (a.trans en aw) .non
        | [], rr => have := rr.len; simp at this
        | _ :: _ :: _, rr => have := rr.len; simp at this
      · cases hk
    · cases hk
  · cases hk
def firstIx (d : PyData) : List PyData → Option Nat
  | [] => none
  | z :: zs => if PyData.eqv z d = true then some 0 else match firstIx d zs with
    | none => none
    | some j => some (j + 1)
theorem firstIx_at {d : PyData} : ∀ {zs : List PyData} {j : Nat}, firstIx d zs = some j → ∃ z, zs[j]? = some z ∧ PyData.eqv z d = true ∧ ∀ (m : Nat) z', m < j → zs[m]? = some z' → PyData.eqv z' d = false
  | [], j, h => by cases h
  | z :: zs, j, h => by
    unfold firstIx at h
    split at h
    · rename_i hz
      cases h
      exact ⟨z, rfl, hz, fun m z' hm => by omega⟩
    · rename_i hz
      split at h
      · cases h
      rename_i k hk
      cases h
      obtain ⟨y, h1, h2, h3⟩ := firstIx_at hk
      refine ⟨y, by simpa using h1, h2, fun m z' hm hm' => ?_⟩
      cases m with
      | zero => simp at hm'; subst hm'; simpa using hz
      | succ m => exact h3 m z' (by omega) (by simpa using hm')
def oIxL : List PyData → Option PyData
  | [.list ds, d] => if SeqAt.shaped (.list ds) = true ∧ SeqAt.shaped d = true then match firstIx d ds with
      | some j => some (.int (j : Nat))
      | none => none
    else none
  | _ => none
def oIxT : List PyData → Option PyData
  | [.tuple ds, d] => if SeqAt.shaped (.tuple ds) = true ∧ SeqAt.shaped d = true then match firstIx d ds with
      | some j => some (.int (j : Nat))
      | none => none
    else none
  | _ => none
def rTix (K : PySem.W.Frag) : V → List V → Hp → VK → Prop := fun x xs H Q => ∃ (a : Addr) (y : V) (d : PyData) (ds : List PyData) (j : Nat) (z : PyData), x = V.ref a ∧ xs = [y] ∧ Dp K H (V.ref a) (.tuple ds) ∧ Dp K H y d ∧
  SeqAt.shaped (.tuple ds) = true ∧ SeqAt.shaped d = true ∧ ds[j]? = some z ∧ PyData.eqv z d = true ∧ (∀ (m : Nat) (z' : PyData), m < j → ds[m]? = some z' → PyData.eqv z' d = false) ∧ Q (.int (j : Nat)) H
theorem mt_tix {X : Cx} (hu : X.A.units + 65 < cLine) : MtR X "tuple.index" (rTix X.K) := by
  intro pins s σ H x xs v us Q I rx rxs h
  obtain ⟨a, y, d, ds, j, z, rfl, rfl, hl, hy, sl, sd, hz, hzj, hno, q⟩ := h
  cases rx
  obtain ⟨uy, rfl, ry⟩ := rxs.one
  obtain ⟨bs, r1⟩ := Dp.reads I d y uy hy ry
  have hxs : PyData.canLayAll0 ds = true := SeqAt.canLay_of_shaped sl
  cases hl with
  | tup hs ha =>
    obtain ⟨its, rv, ⟨⟨cls, dd, data, sls⟩, ho, hc, n, hdt⟩, hlen⟩ := I.tuple hs
    simp only at hc hdt
    subst hc hdt
    obtain ⟨as, h4⟩ := Dp.readsAll I ds _ its ha rv
    have hn : its.length = ds.length := SeqAt.ReadsAll.length ds its as h4
    have hmap : its.map (SeqAt.readOf s.heap) = ds := SeqAt.readsAll_map ds its as hxs h4
    have at_ : ∀ (m : Nat) (hm : m < its.length) z', ds[m]? = some z' → SeqAt.readOf s.heap its[m] = z' := by
      intro m hm z' hz'
      rw [← hmap, List.getElem?_map, List.getElem?_eq_getElem hm] at hz'
      exact Option.some.inj hz'
    obtain ⟨hjd, _⟩ := List.getElem?_eq_some_iff.mp hz
    have hj : j < its.length := by omega
    have it := SeqAt.items_eqAt (vs := its.toArray) (show ReadsAll s.heap its.toArray.toList ds as from h4) r1 hxs (SeqAt.canLay_of_shaped sd) (A := X.A) (room_in sd hu)
    refine call_meets F.slot_tuple_index ⟨_, ho, rfl⟩ F.entry_tuple_index (F.args_tuple_index_2 _ _)
      (SeqAt.tuple_index2_found a its.toArray n dd sls uy (fun m => if h : m < its.length then PyData.eqv (SeqAt.readOf s.heap its[m]) d else false) j (by simpa using hj) (Nat.zero_le _) (by simpa using hj) ?_ ?_) ⟨ho, fun m hm => ?_, ⟨.int (j : Nat), H, I.tok _, ⟨_, rfl⟩, q⟩⟩
    · rw [dif_pos hj, at_ j hj z hz]; exact hzj
    · intro m hm _ hmj
      have hml : m < its.length := by simpa using hm
      rw [dif_pos hml, at_ m hml _ (List.getElem?_eq_getElem (by omega))]
      exact hno m _ hmj (List.getElem?_eq_getElem (by omega))
    · have hml : m < its.length := by simpa using hm
      rw [dif_pos hml]
      have := it its.toArray[m] (by simp)
      simpa using this
theorem pe_tix {X : Cx} {o e : Expr} {to : TE} {t : TA} {apos cpos : Pos} (hu : X.A.units + 65 < cLine) (ho : PE X o to) (ha : PA X [e] t)
    (hbase : attributeBase o "index" X.env (eval o X.env) = eval o X.env := by rfl)
    (hfew : ((backTo cpos (starEach [e] X.env)).all (fun x => !x.1) && (backToKw cpos (keywordEach [] X.env)).all (fun x => x.1.isSome)
      && decide (([e] : List Expr).length + ([] : List Keyword).length + (if ([] : List Keyword).isEmpty then 0 else 1) < 30)) = true := by rfl)
    (hline : (apos.endLine == cpos.line) = true := by rfl) (hs : starEach [e] X.env = (false, eval e X.env) :: starEach [] X.env := by rfl) (hplain : (backTo cpos (starEach [] X.env)).any (·.1) = false := by rfl) :
    PE X (.Call (.Attribute o "index" apos) [e] [] cpos) (fun σ H Q => to σ H fun x H1 => (∃ p ob us, x = .ref p ∧ H1 p = some (.frz ob (.tup us)) ∧ ob.dict = none) ∧ t σ H1 fun xs H2 => rTix X.K x xs H2 Q) := by
  refine ⟨fun pins s σ H Q I h => ?_⟩
  refine wpAny_Call_method_late hbase hfew hline rfl (thn (ho.run pins s σ H _ I h) fun v s1 ⟨x, H1, I1, r1, ⟨p, ob, us, ex, hf, hd⟩, q1⟩ => ?_)
  subst ex
  cases r1
  obtain ⟨g1, g2, its, g3, o2, g4, g5, _⟩ := I1.hok p _ hf
  refine ⟨"tuple", "tuple.index", F.plainAttrs_tuple, F.slot_tuple_index, F.type_tuple_index, ⟨o2, g4, g5⟩, fun a z => ?_, ?_⟩
  · cases z; exact ⟨ob, g1, hd⟩
  have hA := ha.run cpos pins s1 σ H1 _ I1 q1
  rw [hs] at hA ⊢
  refine Calls.callWith_builtin (by show (false || (backTo cpos (starEach [] X.env)).any (·.1)) = false; rw [hplain] <;> rfl) (Calls.evalArgs_plain ?_)
  exact thn hA fun us s2 ⟨vs, H2, I2, r2, q2⟩ => mt_tix hu pins s2 σ H2 (.ref p) vs _ us Q I2 rfl r2 q2
theorem c_tix {K : PySem.W.Frag} : Con K (kE oIxT) (lm (rTix K)) := con_E <| by
  intro B H vs xs z Q cn ho q x ys e
  unfold oIxT at ho
  split at ho
  · rename_i ds d
    split at ho
    · rename_i hs
      split at ho
      · rename_i j hj
        cases ho
        obtain ⟨v, w, e2, c1, c2⟩ := cn.two
        rw [e] at e2
        cases e2
        obtain ⟨a, us, rfl, h1, h2⟩ := c1.tuple
        obtain ⟨y, h3, h4, h5⟩ := firstIx_at hj
        exact ⟨a, w, d, ds, j, y, rfl, rfl, c1.dp hs.1, c2.dp hs.2, hs.1, hs.2, h3, h4, h5, q _ (.int _)⟩
      · cases ho
    · cases ho
  · cases ho
theorem ty_Nt {K : PySem.W.Frag} : ∀ H₀ B H σ env v d, EnvR K B H σ env → RR K H₀ B H σ env v d → isNt env d = true → ∃ p ob us, v = .ref p ∧ H p = some (.frz ob (.tup us)) ∧ ob.dict = none := by
  intro H₀ B H σ env v d en r h
  unfold isNt at h
  split at h
  · obtain ⟨a, rfl, o, us, h1, h2, _⟩ := r
    exact ⟨a, o, us, rfl, h1, h2⟩
  · cases h
def kIxT : KK := kE oIxT
theorem e_tix {X : Cx} {o e : Expr} {fo : EE} {fa : EA} {apos cpos : Pos} (hu : X.A.units + 65 < cLine) (ho : PE X o (tE X.K fo)) (ha : PA X [e] (tA X.K fa))
    (hbase : attributeBase o "index" X.env (eval o X.env) = eval o X.env := by rfl)
    (hfew : ((backTo cpos (starEach [e] X.env)).all (fun x => !x.1) && (backToKw cpos (keywordEach [] X.env)).all (fun x => x.1.isSome)
      && decide (([e] : List Expr).length + ([] : List Keyword).length + (if ([] : List Keyword).isEmpty then 0 else 1) < 30)) = true := by rfl)
    (hline : (apos.endLine == cpos.line) = true := by rfl) (hs : starEach [e] X.env = (false, eval e X.env) :: starEach [] X.env := by rfl) (hplain : (backTo cpos (starEach [] X.env)).any (·.1) = false := by rfl) :
    PE X (.Call (.Attribute o "index" apos) [e] [] cpos) (tE X.K (eBM isNt fo fa kIxT)) :=
  PE.imp (pe_tix hu ho ha hbase hfew hline hs hplain) fun _ _ _ t => rd_bm ty_Nt c_tix t
end T3

end
section
set_option linter.all false
set_option autoImplicit false
set_option Elab.async false
namespace T3
open PySem L2
variable [TabL]

def eCh (c1 c2 : Int → Int → Bool) (fa fb fc : EE) : EE := fun env => match fa env with
  | some (.pd (.int i), e1) => match fb e1 with
    | some (.pd (.int j), e2) => if c1 i j = true then match fc e2 with
        | some (.pd (.int k), e3) => some (.pd (.bool (c2 j k)), e3)
        | _ => none
      else some (.pd (.bool false), e2)
    | _ => none
  | _ => none
theorem rd_chain {K : PySem.W.Frag} {c1 c2 : Int → Int → Bool} {fa fb fc : EE} {σ : St} {H : Hp} {Q : VK} (h : tE K (eCh c1 c2 fa fb fc) σ H Q) : tChain (rI0 fun i j => .bl (c1 i j)) (rI0 fun i j => .bl (c2 i j)) (tE K fa) (tE K fb) (tE K fc) σ H Q := by
  obtain ⟨B, env, d, env', en, ev, q⟩ := h
  unfold eCh at ev
  split at ev
  · rename_i i e1 h1
    split at ev
    · rename_i j e2 h2
      refine ⟨B, env, _, _, en, h1, fun B1 H1 v a1 r1 => ⟨B1, e1, _, _, a1.en, h2, fun B2 H2 w a2 r2 => ?_⟩⟩
      have r1 : Rp K B1 H1 v (.int i) := r1
      have r2 : Rp K B2 H2 w (.int j) := r2
      cases r1
      cases r2
      have a12 := a1.trans en a2
      refine ⟨i, j, rfl, rfl, c1 i j, rfl, ?_⟩
      split at ev
      · rename_i hc
        rw [if_pos hc]
        split at ev
        · rename_i k e3 h3
          cases ev
          refine ⟨B2, e2, _, _, a2.en, h3, fun B3 H3 u a3 r3 => ?_⟩
          have r3 : Rp K B3 H3 u (.int k) := r3
          cases r3
          exact ⟨j, k, rfl, rfl, q _ _ _ (a12.trans en a3) (.bl _)⟩
        · cases ev
      · rename_i hc
        rw [if_neg hc]
        cases ev
        exact q _ _ _ a12 (.bl _)
    · cases ev
  · cases ev
inductive Cm where | lt | le | gt | ge
def Cm.op : Cm → CmpOp
  | .lt => .Lt
  | .le => .LtE
  | .gt => .Gt
  | .ge => .GtE
def Cm.f : Cm → Int → Int → Bool
  | .lt => fun i j => decide (i < j)
  | .le => fun i j => decide (i ≤ j)
  | .gt => fun i j => decide (j < i)
  | .ge => fun i j => decide (j ≤ i)
theorem Cm.ok {X : Cx} (c : Cm) : OpR X (compareOp c.op) (rI0 fun i j => .bl (c.f i j)) := by
  cases c
  · exact op_lt
  · exact op_le
  · exact op_gt
  · exact op_ge
theorem e_chain {X : Cx} {a b c : Expr} {fa fb fc : EE} {pos : Pos} (o1 o2 : Cm) (ha : PE X a (tE X.K fa)) (hb : PE X b (tE X.K fb)) (hc : PE X c (tE X.K fc)) (hm : lastMarks [o1.op, o2.op] [b, c] = false := by with_unfolding_all rfl) :
    PE X (.Compare a [o1.op, o2.op] [b, c] pos) (tE X.K (eCh o1.f o2.f fa fb fc)) := PE.imp (pe_chain o1.ok o2.ok ha hb hc hm) fun _ _ _ t => rd_chain t
theorem b_chain {X : Cx} {a b c : Expr} {fa fb fc : EE} {pos : Pos} (o1 o2 : Cm) (ha : PE X a (tE X.K fa)) (hb : PE X b (tE X.K fb)) (hc : PE X c (tE X.K fc)) (hm : lastMarks [o1.op, o2.op] [b, c] = false := by with_unfolding_all rfl) :
    PT X (.Compare a [o1.op, o2.op] [b, c] pos) (tT X.K (bT (eCh o1.f o2.f fa fb fc))) := b_of (pt_chain o1.ok o2.ok ha hb hc hm) fun _ _ _ t => rd_chain t
theorem b_truth {X : Cx} {a : Expr} {f : EE} (h : PE X a (tE X.K f)) (he : ∀ whole, isTrue a X.env whole = (do let v ← whole; standAt a.pos; holding [v] (truthy v)) := by exact fun _ => rfl) : PT X a (tT X.K (bT f)) :=
  PT.imp (pt_truth h he) fun σ H Q t => by
    obtain ⟨B, env, d, env', en, ev, q⟩ := rd_test t
    refine ⟨B, env, d, env', en, ev, fun B' H' v a r => ?_⟩
    obtain ⟨k, e, h⟩ := q B' H' v a r
    subst e
    exact ⟨k, rfl, h⟩
section
variable {X : Cx} {st : Stmt} {rest : List Stmt} {e : Expr} {pos : Pos} {f g : SS} {fe : EE} {c : EB}
theorem ss_nil : PSs X [] (tS X.K sPass) := PSs.imp pss_nil fun _ _ _ t => rd_pass t
theorem ss_cons (h1 : PS X st (tS X.K f)) (h2 : PSs X rest (tS X.K g)) : PSs X (st :: rest) (tS X.K (sSeq f g)) := PSs.imp (pss_cons h1 h2) fun _ _ _ t => rd_seq t
theorem ss_one (h1 : PS X st (tS X.K f)) : PSs X [st] (tS X.K f) := pss_one h1
theorem s_never : PS X st (tS X.K sNever) := PS.imp ps_never fun _ _ _ t => rd_never t
theorem s_if {t : Expr} {a b : List Stmt} (hc : PT X t (tT X.K c)) (ha : PSs X a (tS X.K f)) (hb : PSs X b (tS X.K g)) : PS X (.If t a b pos) (tS X.K (sIf c f g)) := PS.imp (ps_if hc ha hb) fun _ _ _ t => rd_ifS t
theorem s_ret (h : PE X e (tE X.K fe)) : PS X (.Return (some e) pos) (tS X.K (sRet fe)) := PS.imp (ps_ret h) fun _ _ _ t => rd_ret t
theorem s_expr (h : PE X e (tE X.K fe)) (hs : swapsWith e none pos.line X.env = pure false := by rfl) : PS X (.Expr e pos) (tS X.K (sExpr fe)) := PS.imp (ps_expr h hs) fun _ _ _ t => rd_expr t
theorem s_set {i : Nat} {x : Str} {pos' : Pos} (hN : X.N.Nodup) (hi : X.N[i]? = some x) (hx : Loc X.env.scope x) (he : PE X e (tE X.K fe)) (hs : swapsWith e (some (.Name x pos')) pos.line X.env = pure false := by rfl) (hf : X.fn x = true ∨ X.env.scope.names.lookup x = some .local := by first | exact .inl rfl | exact .inr rfl | assumption) :
    PS X (.Assign [.Name x pos'] e pos) (tS X.K (sSet i fe)) := PS.imp (ps_set hN hi hx he hs hf) fun _ _ _ t => rd_set t
theorem s_while {t : Expr} {body : List Stmt} (hp : PassesOwn (model X.prog X.w) X.A X.env X.xe) (hc : PT X t (tT X.K c)) (hb : PSs X body (tS X.K f)) : PS X (.While t body [] pos) (tS X.K (sWhile c f)) := PS.imp (ps_while hp hc hb) fun _ _ _ t => rd_while t
end
theorem PG.imp {X : Cx} {e : Expr} {t t' : TG} (h : PG X e t) (i : ∀ v σ H Q, t' v σ H Q → t v σ H Q) : PG X e t' := ⟨fun pins s σ H v u Q I r q => h.run pins s σ H v u Q I r (i v σ H Q q)⟩
theorem PGs.imp {X : Cx} {e : List Expr} {t t' : TGs} (h : PGs X e t) (i : ∀ v σ H Q, t' v σ H Q → t v σ H Q) : PGs X e t' := ⟨fun pins s σ H v u Q I r q => h.run pins s σ H v u Q I r (i v σ H Q q)⟩
section
variable {X : Cx} {K : PySem.W.Frag} {pos : Pos} {g : GG} {gs : GGs} {e : Expr} {es : List Expr}
theorem g_name {i : Nat} {x : Str} (hN : X.N.Nodup) (hi : X.N[i]? = some x) (hx : Loc X.env.scope x) (hf : X.fn x = true ∨ X.env.scope.names.lookup x = some .local := by first | exact .inl rfl | exact .inr rfl | assumption) : PG X (.Name x pos) (tG K (gN i)) := PG.imp (pg_name hN hi hx hf) fun _ _ _ _ t => rd_gN t
theorem gs_nil : PGs X [] (tGs K gNl) := PGs.imp pgs_nil fun _ _ _ _ t => rd_gNl t
theorem gs_cons (h1 : PG X e (tG K g)) (h2 : PGs X es (tGs K gs)) (hs : (assignEach (e :: es) X.env).map (·.2) = assign e X.env :: (assignEach es X.env).map (·.2) := by rfl) : PGs X (e :: es) (tGs K (gCn g gs)) := PGs.imp (pgs_cons h1 h2 hs) fun _ _ _ _ t => rd_gCn t
theorem g_tup {k n : Nat} (hc : X.calm = true) (h : PGs X es (tGs X.K gs)) (hn : (assignEach es X.env).length = n := by rfl) (hst : (assignEach es X.env).findIdx? (·.1) = none := by rfl) : PG X (.Tuple es k pos) (tG X.K (gT n gs)) := PG.imp (pg_tup hc h hn hst) fun _ _ _ _ t => rd_gT t
theorem v_name {i : Nat} {x : Str} {vs : List Nat} (hv : i ∈ vs) (hN : X.N.Nodup) (hi : X.N[i]? = some x) (hx : Loc X.env.scope x) (hf : X.fn x = true ∨ X.env.scope.names.lookup x = some .local := by first | exact .inl rfl | exact .inr rfl | assumption) : PG X (.Name x pos) (tGv K (gN i) vs) := PG.imp (pg_name hN hi hx hf) fun _ _ _ _ t => rd_gNv hv t
theorem vs_nil {vs : List Nat} : PGs X [] (tGsv K gNl vs) := PGs.imp pgs_nil fun _ _ _ _ t => rd_gNlv t
theorem vs_cons {vs : List Nat} (h1 : PG X e (tGv K g vs)) (h2 : PGs X es (tGsv K gs vs)) (hs : (assignEach (e :: es) X.env).map (·.2) = assign e X.env :: (assignEach es X.env).map (·.2) := by rfl) : PGs X (e :: es) (tGsv K (gCn g gs) vs) := PGs.imp (pgs_cons h1 h2 hs) fun _ _ _ _ t => rd_gCnv t
theorem v_tup {k n : Nat} {vs : List Nat} (hc : X.calm = true) (h : PGs X es (tGsv X.K gs vs)) (hn : (assignEach es X.env).length = n := by rfl) (hst : (assignEach es X.env).findIdx? (·.1) = none := by rfl) : PG X (.Tuple es k pos) (tGv X.K (gT n gs) vs) := PG.imp (pg_tup hc h hn hst) fun _ _ _ _ t => rd_gTv t
end
theorem s_for {X : Cx} {tg iter : Expr} {body : List Stmt} {pos : Pos} {it : EI} {g : GG} {f : SS} (hp : PassesOwn (model X.prog X.w) X.A X.env X.xe) (hc : X.calm = true) (hi : PI X tg iter (tI X.K it)) (hg : PG X tg (tG X.K g)) (hb : PSs X body (tS X.K f)) (hs : ∀ x, foldedSetIterable iter X.env x = pure x := by intro _; rfl) : PS X (.For tg iter body [] pos) (tS X.K (sFor it g f)) :=
  PS.imp (ps_for hp hc hi hg hb hs) fun _ _ _ t => rd_for t
def sAsg (f : EE) (g : GG) : SS := fun env => match f env with
  | some (.pd x, e) => match g x e with
    | none => none
    | some e2 => some (.nx, e2)
  | some (.nt xs, e) => match g (.tuple xs) e with
    | none => none
    | some e2 => some (.nx, e2)
  | _ => none
theorem rd_asg {K : PySem.W.Frag} {f : EE} {g : GG} {D : Ends} {σ : St} {H : Hp} (h : tS K (sAsg f g) D σ H) : tAsg (tE K f) (tG K g) D σ H := by
  obtain ⟨B, env, fl, env', en, ev, q⟩ := h
  unfold sAsg at ev
  split at ev
  · rename_i x e1 h1
    split at ev
    · cases ev
    rename_i e2 h2
    cases ev
    exact ⟨B, env, _, _, en, h1, fun B1 H1 v a1 r1 => ⟨B1, e1, x, _, a1.en, r1, h2, fun B2 σ2 H2 a2 => q B2 σ2 H2 (a1.s.trans en a2)⟩⟩
  · rename_i x e1 h1
    split at ev
    · cases ev
    rename_i e2 h2
    cases ev
    refine ⟨B, env, _, _, en, h1, fun B1 H1 v a1 r1 => ?_⟩
    obtain ⟨p, rfl, r1⟩ := r1
    exact ⟨B1, e1, _, _, a1.en, r1.rp, h2, fun B2 σ2 H2 a2 => q B2 σ2 H2 (a1.s.trans en a2)⟩
  · cases ev
theorem s_asg {X : Cx} {tg e : Expr} {pos : Pos} {f : EE} {g : GG} (he : PE X e (tE X.K f)) (hg : PG X tg (tG X.K g)) (hs : swapsWithSole [tg] e pos.line X.env = pure false := by rfl) (hw : swappedStores [tg] e X.env = pure none := by rfl)
    (h1 : (assignEach [tg] X.env).map (·.2) = [assign tg X.env] := by rfl) : PS X (.Assign [tg] e pos) (tS X.K (sAsg f g)) := PS.imp (ps_asg he hg hs hw h1) fun _ _ _ t => rd_asg t
def sPar (i j : Nat) (f : EA) : SS := fun env => match f env with
  | some ([d1, d2], e) => match setR i d1 e with
    | none => none
    | some e2 => match setR j d2 e2 with
      | none => none
      | some e3 => some (.nx, e3)
  | _ => none
theorem setR_slots {i : Nat} {d : R} {e e2 : Sl} (h : setR i d e = some e2) : ∀ (k : Nat) m c, e2[k]? = some (some (S.mu m c)) → (k = i ∧ ∃ c, d = .tmp c) ∨ (i ≠ k ∧ e[k]? = some (some (.mu m c))) := by
  intro k m c hk
  unfold setR at h
  split at h
  · cases d with
    | var _ => cases h
    | pd x =>
      cases h
      rcases get_set hk with ⟨_, z⟩ | ⟨z, hk⟩
      · cases z
      · exact .inr ⟨z, hk⟩
    | nt x =>
      cases h
      rcases get_set hk with ⟨_, z⟩ | ⟨z, hk⟩
      · cases z
      · exact .inr ⟨z, hk⟩
    | tmp t =>
      cases h
      rcases get_set hk with ⟨z, _⟩ | ⟨z, hk⟩
      · exact .inl ⟨z.symm, t, rfl⟩
      · exact .inr ⟨z, hk⟩
  · cases h
theorem RA.set {K : PySem.W.Frag} {H₀ : Hp} {σ : St} {B : Mset} {H : Hp} {e e2 : Sl} {i : Nat} {v w : V} {d d' : R} (hs : setR i d e = some e2) (hl : i < σ.length) (r : RA K H₀ B H σ e w d') (ap : ∀ c c', d = .tmp c → d' = .tmp c' → v ≠ w) (nv : ∀ k, d' ≠ .var k) : RA K H₀ B H (σ.set i (some v)) e2 w d' := by
  cases d' with
  | pd x => exact r
  | nt x => exact r
  | var k => exact absurd rfl (nv k)
  | tmp t =>
    obtain ⟨p, rfl, h1, h2, h3, h4⟩ := r
    refine ⟨p, rfl, h1, h2, h3, fun k m c hk hσ => ?_⟩
    rcases setR_slots hs k m c hk with ⟨z, t', z2⟩ | ⟨z, hk⟩
    · subst z
      rw [List.getElem?_set_self hl] at hσ
      cases hσ
      exact ap t' t z2 rfl rfl
    · rw [List.getElem?_set_ne z] at hσ
      exact h4 k m c hk hσ
theorem setR_nv {i : Nat} {d : R} {e e2 : Sl} (h : setR i d e = some e2) : ∀ k, d ≠ .var k := by
  intro k z
  subst z
  unfold setR at h
  split at h <;> cases h
theorem setR_lt {i : Nat} {d : R} {e e2 : Sl} (h : setR i d e = some e2) : i < e.length := by
  unfold setR at h
  split at h
  · rename_i hf; exact (free_ne hf).1
  · cases h
theorem rd_par {K : PySem.W.Frag} {i j : Nat} {f : EA} {D : Ends} {σ : St} {H : Hp} (h : tS K (sPar i j f) D σ H) : tPar i j (tA K f) D σ H := by
  obtain ⟨B, env, fl, env', en, ev, q⟩ := h
  unfold sPar at ev
  split at ev
  · rename_i d1 d2 e1 h1
    split at ev
    · cases ev
    rename_i e2 h2
    split at ev
    · cases ev
    rename_i e3 h3
    cases ev
    refine ⟨B, env, _, _, en, h1, fun B1 H1 vs a1 rr => ?_⟩
    match vs, rr with
    | [v, w], rr =>
      refine ⟨v, w, rfl, ?_⟩
      have s1 := AtS.set en a1.s (rr.each 0 v d1 rfl rfl) h2
      have r2 : RA K H B1 H1 (σ.set i (some v)) e2 w d2 := RA.set h2 (by rw [← a1.en.len]; exact setR_lt h2) (rr.each 1 w d2 rfl rfl) (fun c c' z1 z2 z3 => rr.apart 0 1 c c' v (by decide) (by simp [z1]) (by simp [z2]) rfl (by simp [z3])) (setR_nv h3)
      -- the second store over the first
      have s2 : AtS K σ B H env ((σ.set i (some v)).set j (some w)) B1 H1 env' := AtS.set en s1 r2 h3
      exact q B1 _ H1 s2
    | [], rr => have := rr.len; simp at this
    | [_], rr => have := rr.len; simp at this
    | _ :: _ :: _ :: _, rr => have := rr.len; simp at this
  · cases ev
end T3

end
section
set_option linter.all false
set_option autoImplicit false
set_option Elab.async false
namespace T3
open PySem L2
variable [TabL]

section
variable {X : Cx}
theorem s_par {i j : Nat} {x y : Str} {a b : Expr} {f : EA} {px py pt pos : Pos} {kt k2 : Nat} {pt2 : Pos} (hc : X.calm = true) (hN : X.N.Nodup) (hi : X.N[i]? = some x) (hj : X.N[j]? = some y) (hij : i ≠ j)
    (hx : X.env.scope.names.lookup x = some .local) (hy : X.env.scope.names.lookup y = some .local) (ha : PA X [a, b] (tA X.K f))
    (hw : swappedStores [.Tuple [.Name x px, .Name y py] kt pt] (.Tuple [a, b] k2 pt2) X.env = pure (some [x, y]))
    (hs : swapsWithSole [.Tuple [.Name x px, .Name y py] kt pt] (.Tuple [a, b] k2 pt2) pos.line X.env = pure false := by rfl) :
    PS X (.Assign [.Tuple [.Name x px, .Name y py] kt pt] (.Tuple [a, b] k2 pt2) pos) (tS X.K (sPar i j f)) := PS.imp (ps_par hc hN hi hj hij hx hy ha hw hs) fun _ _ _ t => rd_par t
theorem ts_yes {K : PySem.W.Frag} : PTs X [] (tT K bYes) := ⟨fun pins s σ H Q I h => (pts_nil (X := X)).run pins s σ H Q I (rd_yes h)⟩
theorem ts_one {K : PySem.W.Frag} {c : Expr} {t : EB} (h : PT X c (tT K t)) : PTs X [c] (tT K t) := pts_one h
theorem e_lc {elt tg iter : Expr} {ifs : List Expr} {scope : Scope} {own : List (Str × Nat)} {pos : Pos} {it : EI} {g : GG} {t : EB} {f : EE} (hc : X.calm = true) (hN : X.N.Nodup) (hi : PI X tg iter (tI X.K it)) (ok : BlkOk X.N X.env.scope scope own) (ho : Only g (own.map (·.2)))
    (hg : ∀ (s : Shared) (H : Hp) (C : Addr) (cl : List (Str × Addr)) (fp : List Addr), PG (X.blk s H scope (compEnvC scope cl C X.env) fp) tg (tGv X.K g (own.map (·.2)))) (ht : ∀ (s : Shared) (H : Hp) (C : Addr) (cl : List (Str × Addr)) (fp : List Addr), PTs (X.blk s H scope (compEnvC scope cl C X.env) fp) ifs (tT X.K t))
    (he : ∀ (s : Shared) (H : Hp) (C : Addr) (cl : List (Str × Addr)) (fp : List Addr), PE (X.blk s H scope (compEnvC scope cl C X.env) fp) elt (tE X.K f)) (hs : ∀ x, foldedSetIterable iter X.env x = pure x := by intro _; rfl) :
    PE X (.ListComp elt [⟨tg, iter, ifs, 0⟩] scope pos) (tE X.K (eLc it g t f (own.map (·.2)))) := PE.imp (pe_lc hc hN hi ok hg ht he hs) fun _ _ _ q => rd_lc ho q
theorem s_setLc {i : Nat} {y : Str} {py : Pos} {elt tg iter : Expr} {ifs : List Expr} {scope : Scope} {own : List (Str × Nat)} {pos spos : Pos} {it : EI} {g : GG} {t : EB} {f : EE} (hc : X.calm = true) (hN : X.N.Nodup) (hy : X.N[i]? = some y) (hyl : X.env.scope.names.lookup y = some .local)
    (hsw : swapsWith (.ListComp elt [⟨tg, iter, ifs, 0⟩] scope pos) (some (.Name y py)) spos.line X.env = pure true) (hi : PI X tg iter (tI X.K it)) (ok : BlkOk X.N X.env.scope scope own) (ho : Only g (own.map (·.2)))
    (hg : ∀ (s : Shared) (H : Hp) (C : Addr) (cl : List (Str × Addr)) (fp : List Addr), PG (X.blk s H scope (compEnvC scope cl C X.env) fp) tg (tGv X.K g (own.map (·.2)))) (ht : ∀ (s : Shared) (H : Hp) (C : Addr) (cl : List (Str × Addr)) (fp : List Addr), PTs (X.blk s H scope (compEnvC scope cl C X.env) fp) ifs (tT X.K t))
    (he : ∀ (s : Shared) (H : Hp) (C : Addr) (cl : List (Str × Addr)) (fp : List Addr), PE (X.blk s H scope (compEnvC scope cl C X.env) fp) elt (tE X.K f)) (hs : ∀ x, foldedSetIterable iter X.env x = pure x := by intro _; rfl) :
    PS X (.Assign [.Name y py] (.ListComp elt [⟨tg, iter, ifs, 0⟩] scope pos) spos) (tS X.K (sSet i (eLc it g t f (own.map (·.2))))) :=
  PS.imp (ps_setLc hc hN hy hyl hsw hi ok hg ht he hs) fun _ _ _ q => rd_lc ho (rd_set q)
end
def lenA : EA → Nat → Prop := fun f n => ∀ ds e e', f e = some (ds, e') → ds.length = n
theorem lenA_nil : lenA eNil 0 := by
  intro ds e e' h
  cases h
  rfl
theorem lenA_cons {fa : EE} {fr : EA} {n : Nat} (h : lenA fr n) : lenA (eCons fa fr) (n + 1) := by
  intro ds e e' he
  unfold eCons at he
  split at he
  · cases he
  split at he
  · cases he
  rename_i h2
  cases he
  simp [h _ _ _ h2]
section
variable {X : Cx} {k : Nat} {f : Addr} {fd : FuncData} {ps : List Str} {F : FnD} {x : Str} {p pos : Pos} {e : Expr} {es : List Expr} {fa : EA} {n : Nat}
theorem e_call (G : FnOk X.prog X.w X.K X.mg X.base CX0 k f fd ps (spF X.K F n)) (hr : Room k X.A) (hg : Gl X x) (hm : X.mg x = some (.ref f)) (hk : PySem.W.keepIn X.K (.ref f) = true) (hb : Binds X.K fd ps []) (hn : lenA fa n)
    (ha : PA X (e :: es) (tA X.K fa)) (hdb : (x == ("__debug__" : Str)) = false := by decide) (he : starEach (e :: es) X.env = (false, eval e X.env) :: starEach es X.env := by rfl) (hpl : (backTo pos (starEach es X.env)).any (·.1) = false := by rfl) :
    PE X (.Call (.Name x p) (e :: es) [] pos) (tE X.K (eCall F fa)) := PE.imp (pe_call G hr hg hm hk hb .nil pass0 ha hdb he hpl) fun _ _ _ t => rd_call hn t
end
theorem fn_ok {P : Program} {w : World} {K : PySem.W.Frag} {mg : Str → Option Value} {base : Heap} {x qual : Str} {st : Stmt} {f : Addr} {fd : FuncData} {N ps : List Str} {k n : Nat} {b : SS} (Fn : Fun K x qual st f fd) (Sc : FnScope N ps (defScope st)) (hn : n = ps.length)
    (hbody : ∀ (cdv : Value) (A : Around) (outer : List Env) (s : Shared) (H : Hp) (E : XK), Room k (A.deeper (PyProof.Rows.envOfC qual (defScope st) s.heap.objs.size f cdv)) →
      PSs (cxOf CX0 P w K mg base N qual (defScope st) f cdv A outer s H E).nox (defBody st) (tS K b)) : FnOk P w K mg base CX0 (k + 1) f fd ps (spF K (runFn N.length b) n) := by
  refine Fn.ok Sc (spF_len hn) fun cdv A outer s H vs Q E hr h => ⟨_, hbody cdv A outer s H E hr, fn_body h⟩

def gS (fo fi : EE) : GG := fun x env => match fo env with
  | some (.var j, e1) => match fi e1 with
    | some (.pd (.int k), e2) => putL j k x e2
    | _ => none
  | _ => none
theorem rd_gS {K : PySem.W.Frag} {fo fi : EE} {v : V} {σ : St} {H : Hp} {Q : St → Hp → Prop} (h : tG K (gS fo fi) v σ H Q) : gSub (tE K fo) (tE K fi) rSetL v σ H Q := by
  obtain ⟨B, env, x, env', en, r, ev, q⟩ := h
  unfold gS at ev
  split at ev
  · rename_i j e1 h1
    split at ev
    · rename_i k e2 h2
      refine ⟨B, env, _, _, en, h1, fun B1 H1 o a1 r1 => ⟨B1, e1, _, _, a1.en, h2, fun B2 H2 w a2 r2 => ?_⟩⟩
      have r2 : Rp K B2 H2 w (.int k) := r2
      cases r2
      have a12 := a1.trans en a2
      unfold putL at ev
      split at ev
      · rename_i m xs hm
        split at ev
        · cases ev
        rename_i hf
        split at ev
        · cases ev
        rename_i i hi
        cases ev
        have hx : σ[j]? = some (some o) := r1.1
        obtain ⟨p, g1, g2, us, g3, g4⟩ := a12.en.mu j _ _ hm
        rw [hx] at g1
        cases g1
        have rv : Rp K B2 H2 v x := r.grow (a12.grow en)
        refine ⟨p, us, k, i, rfl, rfl, g3, by rw [g4.length]; exact hi, ?_⟩
        obtain ⟨gw, aw⟩ := AtS.write (o := .lst (us.set i v)) (c' := .ls (xs.set i x)) a12.en hm hf hx (fun o' h' im => by rw [g3] at h'; cases h'; exact im) (fun H' _ h1 g' => ⟨_, h1, (g4.set rv i).grow g'⟩)
        exact q _ _ _ ((a12.trans en aw).s)
      · cases ev
    · cases ev
  · cases ev
theorem g_sub {X : Cx} {o i : Expr} {pos : Pos} {fo fi : EE} (ho : PE X o (tE X.K fo)) (hi : PE X i (tE X.K fi))
    (ha : ∀ v, assign (.Subscript o i pos) X.env v = (do
      let ov ← holding [v] (eval o X.env)
      let iv ← holding [v, ov] (eval i X.env)
      standAt pos
      holding [v, ov, iv] (setItem ov iv v)
      release [v, ov, iv] []) := by intro _; rfl) : PG X (.Subscript o i pos) (tG X.K (gS fo fi)) := PG.imp (pg_sub ho hi set_list ha) fun _ _ _ _ t => rd_gS t
end T3

end
section
set_option linter.all false
set_option autoImplicit false
set_option Elab.async false
namespace T3
open PySem L2
variable [TabL]

def zipD (xs ys : List PyData) : List PyData := List.zipWith (fun x y => .tuple [x, y]) xs ys
theorem wk_zt {K : PySem.W.Frag} {a b : Addr} {xs ys : List PyData} : Wk K (RZ.ItzT K a b) (fun _ => False) (fun B H => Rp K B H (.ref a) (.tuple xs) ∧ Rp K B H (.ref b) (.tuple ys)) (zipD xs ys) where
  go i B H g hi := by
    obtain ⟨g1, g2⟩ := g
    obtain ⟨_, us, e, h1, h2⟩ := Cn.tuple (.rp g1)
    cases e
    obtain ⟨_, ws, e, h3, h4⟩ := Cn.tuple (.rp g2)
    cases e
    simp only [zipD, List.length_zipWith] at hi
    have l1 := h2.length
    have l2 := h4.length
    exact ⟨us, ws, us[i]'(by omega), ws[i]'(by omega), h1, h3, by simp, by simp⟩
  stop B H g := by
    obtain ⟨g1, g2⟩ := g
    obtain ⟨_, us, e, h1, h2⟩ := Cn.tuple (.rp g1)
    cases e
    obtain ⟨_, ws, e, h3, h4⟩ := Cn.tuple (.rp g2)
    cases e
    refine ⟨us, ws, h1, h3, ?_⟩
    simp only [zipD, List.length_zipWith]
    have l1 := h2.length
    have l2 := h4.length
    omega
  yld i B H x H' d g hd hy := by
    obtain ⟨g1, g2⟩ := g
    obtain ⟨_, us, e, h1, h2⟩ := Cn.tuple (.rp g1)
    cases e
    obtain ⟨_, ws, e, h3, h4⟩ := Cn.tuple (.rp g2)
    cases e
    obtain ⟨T, u, w, rfl, nT, rfl, f1, f2⟩ := hy
    refine ⟨.inr (.inl ⟨T, _, nT, rfl⟩), ?_⟩
    simp only [zipD, List.getElem?_zipWith] at hd
    have k1 := f1 us h1
    have k2 := f2 ws h3
    obtain ⟨x, m1, m2⟩ := h2.getV k1
    obtain ⟨y, m3, m4⟩ := h4.getV k2
    rw [m1, m3] at hd
    cases hd
    have gr : Grow B H B (upd H T (.tup [u, w])) := ⟨fun q o h _ => keep_upd nT q o h, fun q h => .inl h⟩
    exact .tup (.inl (.inl upd_same)) (.cons (m2.grow gr) (.cons (m4.grow gr) .nil))
  keep W B H W' B' H' g s wb _ := ⟨g.1.grow (s.grow wb), g.2.grow (s.grow wb)⟩
def tupOf : R → Option (List PyData)
  | .pd (.tuple xs) => some xs
  | .nt xs => some xs
  | _ => none
theorem tupOf_at {K : PySem.W.Frag} {H₀ : Hp} {B : Mset} {H : Hp} {σ : St} {env : Sl} {v : V} {d : R} {xs : List PyData} (h : RA K H₀ B H σ env v d) (c : tupOf d = some xs) : Rp K B H v (.tuple xs) := by
  unfold tupOf at c
  split at c
  · cases c; exact h
  · cases c; obtain ⟨a, rfl, h⟩ := h; exact h.rp
  · cases c
def iZt (f : EA) : EI := fun env => match f env with
  | some ([d1, d2], e) => match tupOf d1 with
    | none => none
    | some xs => match tupOf d2 with
      | none => none
      | some ys => some (zipD xs ys, none, e)
  | _ => none
theorem i_zip {X : Cx} {e e2 : Expr} {f : EA} {p pos tpos : Pos} {elts : List Expr} {kk : Nat} (hg : Gl X "zip") (hm : X.mg "zip" = none) (ha : PA X [e, e2] (tA X.K f))
    (hs : starEach [e, e2] X.env = (false, eval e X.env) :: starEach [e2] X.env := by rfl) (hpl : (backTo pos (starEach [e2] X.env)).any (·.1) = false := by rfl) :
    PI X (.Tuple elts kk tpos) (.Call (.Name "zip" p) [e, e2] [] pos) (tI X.K (iZt f)) := PI.imp (RZ.pi_zipA hg hm ha hs hpl) fun σ H R h => by
  obtain ⟨B, env, xs, lk, env', en, ev, q⟩ := h
  unfold iZt at ev
  split at ev
  · rename_i d1 d2 e1 h1
    split at ev
    · cases ev
    rename_i xs h2
    split at ev
    · cases ev
    rename_i ys h3
    cases ev
    refine ⟨B, env, _, _, en, h1, fun B1 H1 vs a1 rr => ?_⟩
    match vs, rr with
    | [v, w], rr =>
      have r1 := tupOf_at (rr.each 0 v d1 rfl rfl) h2
      have r2 := tupOf_at (rr.each 1 w d2 rfl rfl) h3
      obtain ⟨a, us, rfl, g1, _⟩ := Cn.tuple (.rp r1)
      obtain ⟨b, ws, rfl, g3, _⟩ := Cn.tuple (.rp r2)
      exact ⟨a, b, us, ws, rfl, .inr ⟨g1, g3, q B1 H1 _ _ _ _ a1 rfl wk_zt ⟨r1, r2⟩ (fun _ z => z.elim)⟩⟩
    | [], rr => have := rr.len; simp at this
    | [_], rr => have := rr.len; simp at this
    | _ :: _ :: _ :: _, rr => have := rr.len; simp at this
  · cases ev
def rgT (i j : Int) : List PyData := (List.range (j - i).toNat).map fun k => .int (i + (k : Nat))
theorem rg_rp {K : PySem.W.Frag} {B : Mset} {H : Hp} {i j : Int} : RpA K B H (rgV i j) (rgT i j) := by
  have : ∀ l : List Nat, RpA K B H (l.map fun k => V.int (i + (k : Nat))) (l.map fun k => PyData.int (i + (k : Nat))) := by
    intro l
    induction l with
    | nil => exact .nil
    | cons x l ih => exact .cons (.int _) ih
  exact this _
def KdOk (K : PySem.W.Frag) (w : World) (d : Addr) (kvs : List (Str × PyData)) : Prop := ∀ z x, kvs.lookup z = some x → ∃ v0, KDct K w d z v0 ∧ ∀ B H, Rp K B H v0 x
def eKd (kvs : List (Str × PyData)) (f : EE) : EE := fun env => match f env with
  | some (.pd (.str z), e) => match kvs.lookup z with
    | some x => some (.pd x, e)
    | none => none
  | _ => none
theorem e_kd {X : Cx} {a b : Expr} {d : Addr} {kvs : List (Str × PyData)} {f : EE} {pos : Pos} (D : KdOk X.K X.w d kvs) (ha : PE X a (tC (.ref d))) (hb : PE X b (tE X.K f)) (hs : PlainIx b := by exact fun _ _ => rfl) : PE X (.Subscript a b pos) (tE X.K (eKd kvs f)) := by
  refine PE.imp (pe_ix ix_kdict ha hb hs) fun σ H Q t => ?_
  obtain ⟨B, env, r, env', en, ev, q⟩ := t
  unfold eKd at ev
  split at ev
  · rename_i z e1 h1
    split at ev
    · rename_i x hx
      cases ev
      refine ⟨B, env, _, _, en, h1, fun B1 H1 v a1 r1 => ?_⟩
      have r1 : Rp X.K B1 H1 v (.str z) := r1
      cases r1
      obtain ⟨v0, g1, g3⟩ := D z x hx
      exact ⟨d, z, v0, rfl, rfl, g1, q B1 H1 v0 a1 (g3 B1 H1)⟩
    · cases ev
  · cases ev
end T3

end
section
set_option linter.all false
set_option autoImplicit false
set_option Elab.async false
namespace T3
open PySem L2
variable [TabL]

theorem u65 {k : Nat} {A : Around} (r : Room k A) : A.units + 65 < cLine := by have := r.un; omega
theorem u64 {k : Nat} {A : Around} (r : Room k A) : A.units + 64 < cLine := by have := r.un; omega
theorem u0 {k : Nat} {A : Around} (r : Room k A) : A.units < cLine := by have := r.un; omega
theorem u1 {k : Nat} {A : Around} (r : Room k A) : A.units + 1 < cLine := by have := r.un; omega
def At0 (K : PySem.W.Frag) (mg : Str → Option Value) (x : Str) (st : Stmt) (ps : List Str) : Prop := ∃ f fd, Fun K x x st f fd ∧ mg x = some (.ref f) ∧ Binds K fd ps []
def Has (P : Program) (w : World) (K : PySem.W.Frag) (mg : Str → Option Value) (base : Heap) (x : Str) (n : Nat) (F : FnD) (k : Nat) : Prop := ∃ f fd ps, FnOk P w K mg base CX0 k f fd ps (spF K F n) ∧ mg x = some (.ref f) ∧ PySem.W.keepIn K (.ref f) = true ∧ Binds K fd ps []
theorem has_of {P : Program} {w : World} {K : PySem.W.Frag} {mg : Str → Option Value} {base : Heap} {x : Str} {st : Stmt} {N ps : List Str} {k n : Nat} {b : SS} (h : At0 K mg x st ps) (Sc : FnScope N ps (defScope st)) (hn : n = ps.length)
    (hbody : ∀ (f : Addr) (cdv : Value) (A : Around) (outer : List Env) (s : Shared) (H : Hp) (E : XK), Room k (A.deeper (PyProof.Rows.envOfC x (defScope st) s.heap.objs.size f cdv)) →
      PSs (cxOf CX0 P w K mg base N x (defScope st) f cdv A outer s H E).nox (defBody st) (tS K b)) : Has P w K mg base x n (runFn N.length b) (k + 1) := by
  obtain ⟨f, fd, h1, h2, h3⟩ := h
  exact ⟨f, fd, ps, fn_ok h1 Sc hn fun cdv A outer s H E hr => hbody f cdv A outer s H E hr, h2, h1.kp, h3⟩
section
variable {X : Cx} {k n : Nat} {F : FnD} {x : Str} {p pos : Pos} {e : Expr} {es : List Expr} {fa : EA}
theorem e_fn (h : Has X.prog X.w X.K X.mg X.base x n F k) (hr : Room k X.A) (hn : lenA fa n) (ha : PA X (e :: es) (tA X.K fa)) (hg : Gl X x := by rfl) (hdb : (x == ("__debug__" : Str)) = false := by decide) (he : starEach (e :: es) X.env = (false, eval e X.env) :: starEach es X.env := by rfl) (hpl : (backTo pos (starEach es X.env)).any (·.1) = false := by rfl) :
    PE X (.Call (.Name x p) (e :: es) [] pos) (tE X.K (eCall F fa)) := by
  obtain ⟨f, fd, ps, h1, h2, h3, h4⟩ := h
  exact e_call h1 hr hg h2 h3 h4 hn ha hdb he hpl
end
def KC (K : PySem.W.Frag) (mg : Str → Option Value) (x : Str) (d : PyData) : Prop := ∃ v u, mg x = some u ∧ RelV v u ∧ ∀ B H, Rp K B H v d
theorem e_glob {X : Cx} {x : Str} {d : PyData} {pos : Pos} (h : KC X.K X.mg x d) (hg : Gl X x := by rfl) (hd : (x == ("__debug__" : Str)) = false := by decide) : PE X (.Name x pos) (tE X.K (eC d)) := by
  obtain ⟨v, u, h1, h2, h3⟩ := h
  exact e_c (pe_glob hg h1 h2 hd) h3
def KD (K : PySem.W.Frag) (w : World) (mg : Str → Option Value) (x : Str) (kvs : List (Str × PyData)) : Prop := ∃ d, mg x = some (.ref d) ∧ KdOk K w d kvs
theorem e_kdn {X : Cx} {x : Str} {b : Expr} {kvs : List (Str × PyData)} {f : EE} {p pos : Pos} (h : KD X.K X.w X.mg x kvs) (hb : PE X b (tE X.K f)) (hg : Gl X x := by rfl) (hd : (x == ("__debug__" : Str)) = false := by decide) (hs : PlainIx b := by exact fun _ _ => rfl) : PE X (.Subscript (.Name x p) b pos) (tE X.K (eKd kvs f)) := by
  obtain ⟨d, h1, h2⟩ := h
  exact e_kd h2 (pe_glob (v := .ref d) hg h1 rfl hd) hb hs
section
variable {X : Cx} {pos : Pos}
theorem k_int {i : Int} {j : Nat} : PE X (.Constant (.int i) j pos) (tE X.K (eC (.int i))) := e_c pe_int fun _ _ => .int _
theorem k_str {i : Str} {j : Nat} : PE X (.Constant (.str i) j pos) (tE X.K (eC (.str i))) := e_c pe_str fun _ _ => .str _
theorem k_bl {i : Bool} {j : Nat} : PE X (.Constant (.bool i) j pos) (tE X.K (eC (.bool i))) := e_c pe_bl fun _ _ => .bl _
theorem k_non {j : Nat} : PE X (.Constant .none j pos) (tE X.K (eC .none)) := e_c pe_non fun _ _ => .non
variable {a b : Expr} {fa fb : EE}
def eAdd (fa fb : EE) : EE := eThen (eTwo fa fb) kAdd
def eSub (fa fb : EE) : EE := eThen (eTwo fa fb) kSub
noncomputable def eMul (fa fb : EE) : EE := eThen (eTwo fa fb) kMul
noncomputable def eFdiv (fa fb : EE) : EE := eThen (eTwo fa fb) kFdiv
def eMod (fa fb : EE) : EE := eThen (eTwo fa fb) kMod
noncomputable def ePow (fa fb : EE) : EE := eThen (eTwo fa fb) kPow
def eEq (fa fb : EE) : EE := eThen (eTwo fa fb) (kE oEq)
def eNe (fa fb : EE) : EE := eThen (eTwo fa fb) (kE oNe)
def eLt (fa fb : EE) : EE := eThen (eTwo fa fb) kLt
def eGt (fa fb : EE) : EE := eThen (eTwo fa fb) kGt
def eGe (fa fb : EE) : EE := eThen (eTwo fa fb) kGe
def eIn (fa fb : EE) : EE := eThen (eTwo fa fb) (kE (oIn false))
def eNin (fa fb : EE) : EE := eThen (eTwo fa fb) (kE (oIn true))
def eIs (fa fb : EE) : EE := eThen (eTwo fa fb) (kE (oIsN false))
def eIx (fa fb : EE) : EE := eThen (eTwo fa fb) (kE oIx)
theorem x_add (ha : PE X a (tE X.K fa)) (hb : PE X b (tE X.K fb)) : PE X (.BinOp a .Add b pos) (tE X.K (eAdd fa fb)) :=
  e_op (OpR.or op_add (OpR.or op_add_str (OpR.or op_catA op_cat))) (con_or2 (con_E ok_I0) (con_or2 (con_E ok_catS) (con_or2 (con_T ok_catT) c_catL))) ha hb
theorem x_sub (ha : PE X a (tE X.K fa)) (hb : PE X b (tE X.K fb)) : PE X (.BinOp a .Sub b pos) (tE X.K (eSub fa fb)) := e_op op_sub (con_E ok_I0) ha hb
theorem x_mul (ha : PE X a (tE X.K fa)) (hb : PE X b (tE X.K fb)) : PE X (.BinOp a .Mult b pos) (tE X.K (eMul fa fb)) := e_op (OpR.or op_mul op_repT) (con_or2 (con_E ok_I) (con_T ok_repT)) ha hb
theorem x_fdiv (ha : PE X a (tE X.K fa)) (hb : PE X b (tE X.K fb)) : PE X (.BinOp a .FloorDiv b pos) (tE X.K (eFdiv fa fb)) := e_op op_fdivW (con_E ok_I) ha hb
theorem x_mod (ha : PE X a (tE X.K fa)) (hb : PE X b (tE X.K fb)) : PE X (.BinOp a .Mod b pos) (tE X.K (eMod fa fb)) := e_op op_mod (con_E ok_I) ha hb
theorem x_pow (ha : PE X a (tE X.K fa)) (hb : PE X b (tE X.K fb)) : PE X (.BinOp a .Pow b pos) (tE X.K (ePow fa fb)) := e_op op_pow (con_E ok_I) ha hb
theorem x_ix (ha : PE X a (tE X.K fa)) (hb : PE X b (tE X.K fb)) (hs : PlainIx b := by exact fun _ _ => rfl) : PE X (.Subscript a b pos) (tE X.K (eIx fa fb)) := e_ix ix_seq (con_E ok_ix) ha hb hs
variable {k : Nat}
structure Cmp2 (X : Cx) (op : CmpOp) (kk : KK) : Prop where
  ex : ∃ r : R2, OpR X (compareOp op) r ∧ Con X.K kk (l2 r)
theorem q_eq (hr : Room k X.A) : Cmp2 X .Eq (kE oEq) := ⟨_, op_eqD (u64 hr), con_E ok_eq⟩
theorem q_ne (hr : Room k X.A) : Cmp2 X .NotEq (kE oNe) := ⟨_, op_neD (u64 hr), con_E ok_ne⟩
theorem q_lt (hr : Room k X.A) : Cmp2 X .Lt kLt := ⟨_, OpR.or op_lt (OpR.or (op_ltT (u0 hr)) (op_ltG (u64 hr))), con_or2 (con_E ok_B0) (con_or2 (con_E ok_ltT) (con_E ok_ltG))⟩
theorem q_gt (hr : Room k X.A) : Cmp2 X .Gt kGt := ⟨_, OpR.or op_gt (op_gtG (u64 hr)), con_or2 (con_E ok_B0) (con_E ok_gtG)⟩
theorem q_ge (hr : Room k X.A) : Cmp2 X .GtE kGe := ⟨_, op_ge, con_E ok_B0⟩
theorem q_in (hr : Room k X.A) : Cmp2 X .In (kE (oIn false)) := ⟨_, OpR.or (op_inD (u65 hr)) (op_inT (u65 hr)), con_E ok_in⟩
theorem q_nin (hr : Room k X.A) : Cmp2 X .NotIn (kE (oIn true)) := ⟨_, OpR.or (op_notInD (u65 hr)) (op_notInT (u65 hr)), con_E ok_notin⟩
theorem q_is (hr : Room k X.A) : Cmp2 X .Is (kE (oIsN false)) := ⟨_, op_isN, con_E ok_isN⟩
theorem x_cmp {op : CmpOp} {kk : KK} (q : Cmp2 X op kk) (ha : PE X a (tE X.K fa)) (hb : PE X b (tE X.K fb)) (hm : behindInMarks op b = false := by rfl) : PE X (.Compare a [op] [b] pos) (tE X.K (eThen (eTwo fa fb) kk)) := by
  obtain ⟨r, h1, h2⟩ := q.ex
  exact e_cmp h1 h2 ha hb hm
theorem y_cmp {op : CmpOp} {kk : KK} (q : Cmp2 X op kk) (ha : PE X a (tE X.K fa)) (hb : PE X b (tE X.K fb)) (hm : behindInMarks op b = false := by rfl) : PT X (.Compare a [op] [b] pos) (tT X.K (bT (eThen (eTwo fa fb) kk))) := by
  obtain ⟨r, h1, h2⟩ := q.ex
  exact b_cmp h1 h2 ha hb hm
end
section
variable {X : Cx} {p pos : Pos} {e : Expr} {es : List Expr} {f : EA} {k : Nat}
structure Blt (X : Cx) (x : Str) (kk : KK) : Prop where
  ex : ∃ (id : String) (r : List V → Hp → VK → Prop), CallR X (.builtin id) r ∧ Con X.K kk r ∧ bootBuiltins x = some (.builtin id)
structure Bty (X : Cx) (x : Str) (kk : KK) : Prop where
  ex : ∃ (id : String) (r : List V → Hp → VK → Prop), CallR X (.type id) r ∧ Con X.K kk r ∧ bootBuiltins x = some (.type id)
theorem x_blt {x : Str} {kk : KK} (B : Blt X x kk) (hm : X.mg x = none) (ha : PA X (e :: es) (tA X.K f)) (hg : Gl X x := by rfl) (hn : x ≠ "__name__" := by decide) (hdb : (x == ("__debug__" : Str)) = false := by decide) (he : starEach (e :: es) X.env = (false, eval e X.env) :: starEach es X.env := by rfl) (hpl : (backTo pos (starEach es X.env)).any (·.1) = false := by rfl) :
    PE X (.Call (.Name x p) (e :: es) [] pos) (tE X.K (eThen f kk)) := by
  obtain ⟨id, r, h1, h2, h3⟩ := B.ex
  exact e_callB h1 h2 hg hm h3 ha hn hdb he hpl
theorem x_bty {x : Str} {kk : KK} (B : Bty X x kk) (hm : X.mg x = none) (ha : PA X (e :: es) (tA X.K f)) (hg : Gl X x := by rfl) (hn : x ≠ "__name__" := by decide) (hdb : (x == ("__debug__" : Str)) = false := by decide) (he : starEach (e :: es) X.env = (false, eval e X.env) :: starEach es X.env := by rfl) (hpl : (backTo pos (starEach es X.env)).any (·.1) = false := by rfl) :
    PE X (.Call (.Name x p) (e :: es) [] pos) (tE X.K (eThen f kk)) := by
  obtain ⟨id, r, h1, h2, h3⟩ := B.ex
  exact e_callTy h1 h2 hg hm h3 ha hn hdb he hpl
theorem w_len (hc : X.calm = true) (hr : Room k X.A) : Blt X "len" (kE oLen) := ⟨_, _, cr_len, c_len, PySem.boot_len⟩
theorem w_all (hc : X.calm = true) (hr : Room k X.A) : Blt X "all" (kE oAll) := ⟨_, _, cr_all hc, c_all, by decide +kernel⟩
theorem w_max (hc : X.calm = true) (hr : Room k X.A) : Blt X "max" (kE oMax) := ⟨_, _, cr_mx hc (u64 hr), c_mx, by decide +kernel⟩
theorem w_min (hc : X.calm = true) (hr : Room k X.A) : Blt X "min" (kE oMin) := ⟨_, _, cr_mn hc (u64 hr), c_mn, by decide +kernel⟩
theorem w_int (hc : X.calm = true) (hr : Room k X.A) : Bty X "int" (kE oInt1) := ⟨_, _, call_int1, c_int1, by decide +kernel⟩
theorem w_tuple (hc : X.calm = true) (hr : Room k X.A) : Bty X "tuple" kTupN := ⟨_, _, cr_tupN, c_tupN, by decide +kernel⟩
end
section
variable {X : Cx} {o e : Expr} {es : List Expr} {fo : EE} {fa : EA} {apos cpos : Pos} {k : Nat}
theorem m_append (ho : PE X o (tE X.K fo)) (ha : PA X [e] (tA X.K fa)) (hbase : attributeBase o "append" X.env (eval o X.env) = eval o X.env := by rfl)
    (hfew : ((backTo cpos (starEach [e] X.env)).all (fun x => !x.1) && (backToKw cpos (keywordEach [] X.env)).all (fun x => x.1.isSome)
      && decide (([e] : List Expr).length + ([] : List Keyword).length + (if ([] : List Keyword).isEmpty then 0 else 1) < 30)) = true := by rfl)
    (hline : (apos.endLine == cpos.line) = true := by rfl) (hs : starEach [e] X.env = (false, eval e X.env) :: starEach [] X.env := by rfl) (hplain : (backTo cpos (starEach [] X.env)).any (·.1) = false := by rfl) :
    PE X (.Call (.Attribute o "append" apos) [e] [] cpos) (tE X.K (eBM isL fo fa kAppend)) :=
  PE.imp (pe_bm PySem.F.plainAttrs_list PySem.F.slot_list_append PySem.F.type_list_append mt_append ho ha hbase hfew hline hs hplain) fun _ _ _ t => rd_bm ty_L c_append t
theorem m_extend (ho : PE X o (tE X.K fo)) (ha : PA X [e] (tA X.K fa)) (hbase : attributeBase o "extend" X.env (eval o X.env) = eval o X.env := by rfl)
    (hfew : ((backTo cpos (starEach [e] X.env)).all (fun x => !x.1) && (backToKw cpos (keywordEach [] X.env)).all (fun x => x.1.isSome)
      && decide (([e] : List Expr).length + ([] : List Keyword).length + (if ([] : List Keyword).isEmpty then 0 else 1) < 30)) = true := by rfl)
    (hline : (apos.endLine == cpos.line) = true := by rfl) (hs : starEach [e] X.env = (false, eval e X.env) :: starEach [] X.env := by rfl) (hplain : (backTo cpos (starEach [] X.env)).any (·.1) = false := by rfl) :
    PE X (.Call (.Attribute o "extend" apos) [e] [] cpos) (tE X.K (eBM isL fo fa kExtend)) :=
  PE.imp (pe_bm PySem.F.plainAttrs_list PySem.F.slot_list_extend PySem.F.type_list_extend mt_extend ho ha hbase hfew hline hs hplain) fun _ _ _ t => rd_bm ty_L c_extend t
end
section
variable {X : Cx}
theorem x_lc {elt tg iter : Expr} {ifs : List Expr} {scope : Scope} {pos : Pos} {it : EI} {g : GG} {t : EB} {f : EE} {vs : List Nat} (own : List (Str × Nat)) (hc : X.calm = true) (hN : X.N.Nodup) (hv : own.map (·.2) = vs) (hi : PI X tg iter (tI X.K it)) (ok : BlkOk X.N X.env.scope scope own) (ho : Only g vs)
    (hg : ∀ (s : Shared) (H : Hp) (C : Addr) (cl : List (Str × Addr)) (fp : List Addr), PG (X.blk s H scope (compEnvC scope cl C X.env) fp) tg (tGv X.K g vs)) (ht : ∀ (s : Shared) (H : Hp) (C : Addr) (cl : List (Str × Addr)) (fp : List Addr), PTs (X.blk s H scope (compEnvC scope cl C X.env) fp) ifs (tT X.K t))
    (he : ∀ (s : Shared) (H : Hp) (C : Addr) (cl : List (Str × Addr)) (fp : List Addr), PE (X.blk s H scope (compEnvC scope cl C X.env) fp) elt (tE X.K f)) (hs : ∀ x, foldedSetIterable iter X.env x = pure x := by intro _; rfl) :
    PE X (.ListComp elt [⟨tg, iter, ifs, 0⟩] scope pos) (tE X.K (eLc it g t f vs)) := by
  subst hv
  exact e_lc hc hN hi ok ho hg ht he hs
theorem x_setLc {i : Nat} {y : Str} {py : Pos} {elt tg iter : Expr} {ifs : List Expr} {scope : Scope} {pos spos : Pos} {it : EI} {g : GG} {t : EB} {f : EE} {vs : List Nat} (own : List (Str × Nat)) (hc : X.calm = true) (hN : X.N.Nodup) (hv : own.map (·.2) = vs) (hy : X.N[i]? = some y) (hyl : X.env.scope.names.lookup y = some .local)
    (hsw : swapsWith (.ListComp elt [⟨tg, iter, ifs, 0⟩] scope pos) (some (.Name y py)) spos.line X.env = pure true) (hi : PI X tg iter (tI X.K it)) (ok : BlkOk X.N X.env.scope scope own) (ho : Only g vs)
    (hg : ∀ (s : Shared) (H : Hp) (C : Addr) (cl : List (Str × Addr)) (fp : List Addr), PG (X.blk s H scope (compEnvC scope cl C X.env) fp) tg (tGv X.K g vs)) (ht : ∀ (s : Shared) (H : Hp) (C : Addr) (cl : List (Str × Addr)) (fp : List Addr), PTs (X.blk s H scope (compEnvC scope cl C X.env) fp) ifs (tT X.K t))
    (he : ∀ (s : Shared) (H : Hp) (C : Addr) (cl : List (Str × Addr)) (fp : List Addr), PE (X.blk s H scope (compEnvC scope cl C X.env) fp) elt (tE X.K f)) (hs : ∀ x, foldedSetIterable iter X.env x = pure x := by intro _; rfl) :
    PS X (.Assign [.Name y py] (.ListComp elt [⟨tg, iter, ifs, 0⟩] scope pos) spos) (tS X.K (sSet i (eLc it g t f vs))) := by
  subst hv
  exact s_setLc hc hN hy hyl hsw hi ok ho hg ht he hs
end
end T3

end
section
set_option linter.all false
set_option autoImplicit false
set_option Elab.async false
namespace T3
open PySem PyProof.Rows
variable [TabL]
theorem collect_tup {prog : Program} {w : World} {A : Around} {E : Value → Shared → Prop} {s : Shared} {l : Addr} {vs : List Value} {Q : List Value → Shared → Prop} (hl : IsTup s.heap l vs.toArray)
    (h : Q vs { s with heap := (s.heap.push (seqObj "list" #[] 0)).update s.heap.objs.size (Obj.mapSeq (· ++ vs.toArray)) }) (hsz : vs.length ≤ sizeLine) : wpAny (model prog w) A (collect (.ref l)) Q E s := by
  obtain ⟨o, ho, hc, n, hd⟩ := hl
  have eL : (s.heap.push (seqObj "list" #[] 0)).get? s.heap.objs.size = some (seqObj "list" #[] 0) := Heap.get?_push_size _ rfl
  have eO : (s.heap.push (seqObj "list" #[] 0)).get? l = some o := Heap.get?_push_of_some _ ho
  unfold collect
  refine wpAny_bind (wpAny_runValue (codeAny_builtin entry_proto_collect' ?_))
  show wpAny (model prog w) _ (do again (.builtin "list.__iadd__" ⟨[← newList [], .ref l], []⟩)) _ _ s
  refine wpAny_bind (wpAny_newList (wpAny_pure
    ⟨Code.quiet_builtin _ (by decide +kernel), codeAny_builtin entry_list_iadd' ?_⟩))
  show wpAny (model prog w) _ (Builtin.List.listExtendWith (.ref s.heap.objs.size) (.ref l) (.ref s.heap.objs.size)) _ _ { s with heap := s.heap.push (seqObj "list" #[] 0) }
  unfold Builtin.List.listExtendWith
  refine wpAny_bind (wpAny_typeOf (T := "tuple") ⟨o, eO, hc⟩ ?_)
  have ht : (Value.type "tuple" == Value.type "tuple") = true := rfl
  rw [if_pos (by rw [ht]; simp)]
  refine wpAny_bind (listItems_at eO hd (wpAny_bind (listItems_at (xs := #[]) (n := 0) eL rfl ?_)))
  have hsz' : ((#[] : Array Value) ++ vs.toArray).size ≤ sizeLine + 1 := by simp; omega
  rw [if_neg (by simp)]
  refine wpAny_bind (listUpdate_at (xs := #[]) (n := 0) eL rfl (wpAny_pure ?_) (Nat.zero_le _) hsz')
  refine wpAny_bind (wpAny_load (get?_update_seq eL _) ?_)
  show wpAny (model prog w) A (pure ((#[] : Array Value) ++ vs.toArray).toList) Q E _
  have e0 : ((#[] : Array Value) ++ vs.toArray).toList = vs := by simp
  rw [e0]
  exact wpAny_pure h
end T3
namespace T3
open PySem PyProof.Rows SrtO Srt
variable [TabL]
theorem sorted_tup {prog : Program} {w : World} {A : Around} {E : Value → Shared → Prop} {s : Shared} {l : Addr} {vs : List Value} {ltv : Value → Value → Bool} {Q : Value → Shared → Prop} (O : Swo ltv) (hl : IsTup s.heap l vs.toArray) (hz : vs.length ≤ sizeLine)
    (hS : 2 ≤ vs.length → ∀ (h₁ : Heap) (a : Addr), h₁.get? a = some (seqObj "list" vs.toArray 0) → (∀ b o, s.heap.get? b = some o → b ≠ a ∧ h₁.get? b = some o) → SortableO prog w A.in1.in1 { s with heap := h₁ } a vs ltv)
    (h : ∀ out : List Value, Srtd ltv out → Stb ltv out vs → Q (.ref (s.heap.objs.size + 1)) { s with heap := sortedAll s.heap vs out.toArray }) : wpAny (model prog w) A (call (.builtin "sorted") [.ref l]) Q E s := by
  refine Calls.call_function_entry kind_sorted plain_sorted entry_sorted (args_sorted1 _) ?_
  unfold Builtin.«sorted»
  refine wpAny_bind (m := checkCount "sorted" 1 1 _) (wpAny_pure (wpAny_bind (collect_tup hl (wpAny_bind (wpAny_newList ?_ hz)) hz)))
  generalize eg : (s.heap.push (seqObj "list" #[] 0)).update s.heap.objs.size (Obj.mapSeq (· ++ vs.toArray)) = g
  have hg : g.objs.size = s.heap.objs.size + 1 := by rw [← eg, Heap.size_update, size_push']
  have new : (g.push (seqObj "list" vs.toArray 0)).get? (s.heap.objs.size + 1) = some (seqObj "list" vs.toArray 0) := by rw [← hg]; exact Heap.get?_push_size _ rfl
  have keep : ∀ b o, s.heap.get? b = some o → b ≠ s.heap.objs.size + 1 ∧ (g.push (seqObj "list" vs.toArray 0)).get? b = some o := fun b o q => by
    have hb : b < s.heap.objs.size := Heap.lt_size q
    refine ⟨Nat.ne_of_lt (Nat.lt_succ_of_lt hb), Heap.get?_push_of_some _ ?_⟩
    rw [← eg, Heap.get?_update_ne _ _ _ _ (Nat.ne_of_lt hb)]
    exact Heap.get?_push_of_some _ q
  show wpAny (model prog w) _ _ _ _ { s with heap := g.push (seqObj "list" vs.toArray 0) }
  rw [hg]
  refine wpAny_bind (wpAny_holding (wpAny_call_entry slot_list_sort ⟨_, new, rfl⟩ entry_list_sort
    (list_sort_ord O new hz (fun h2 => hS h2 _ _ new keep) fun out a1 a2 => ⟨_, rfl, wpAny_pure ⟨_, rfl, ?_⟩⟩) (args_list_sort _)))
  subst eg
  exact h out a1 a2
end T3

namespace T3
open PySem L2
variable [TabL]
def rSrtT (K : PySem.W.Frag) : List V → Hp → VK → Prop := fun vs H Q => ∃ (a : Addr) (ns : List Int), vs = [V.ref a] ∧ SqT K H a (ns.map V.int) ∧
  ∀ (ns' : List Int) (p : Addr), ns'.Perm ns → ns'.Pairwise (· ≤ ·) → H p = none → Q (.ref p) (upd H p (.lst (ns'.map V.int)))
theorem cr_srtT {X : Cx} : CallR X (.builtin "sorted") (rSrtT X.K) := by
  intro pins s σ H vs us Q I r h
  obtain ⟨a, ns, rfl, hs, q⟩ := h
  obtain ⟨its, rv, hl, hz⟩ := I.tuple hs
  rw [Vals.ref1 r]
  have hi := rv.ints
  have hz' : its.length ≤ sizeLine := by rw [← rv.length]; exact hz
  refine sorted_tup SrtO.swo_int hl hz' (fun h2 h₁ a' _ _ => SrtO.ints_sortable hi h2) fun out h1 h2 => ?_
  obtain ⟨k1, k2, k3⟩ := SrtO.ints_out hi h1 h2
  obtain ⟨ep, he'⟩ := PyProof.Rows.sortedAll_at s.heap its out.toArray
  have hlen : ((out.map SrtO.iv).map V.int).length ≤ sizeLine := by
    rw [List.length_map] at hz ⊢
    rw [k2.length_eq]
    exact hz
  refine ⟨.ref _, upd H (s.heap.objs.size + 1) (.lst ((out.map SrtO.iv).map V.int)), ?_, rfl, q _ _ k2 k3 (I.hok.fresh (Nat.le_succ _))⟩
  exact I.laid (t' := s.toks) (fun _ _ => PyProof.Rows.sortedAll_old) (Nat.le_succ _)
    ⟨hlen, out, ep, vals_of_ints k1, he'⟩
def pair? : PyData → Option (Int × Int)
  | .tuple [.int i, .int j] => if 0 ≤ i ∧ i < 64 ∧ 0 ≤ j ∧ j < 64 then some (i, j) else none
  | _ => none
def pairs? : List PyData → Option (List (Int × Int))
  | [] => some []
  | x :: xs => match pair? x with
    | none => none
    | some p => match pairs? xs with
      | none => none
      | some ps => some (p :: ps)
def clD (p : Int × Int) : PyData := .tuple [.int p.1, .int p.2]
theorem pair_eq {x : PyData} {p : Int × Int} (h : pair? x = some p) : x = clD p ∧ 0 ≤ p.1 ∧ p.1 < 64 ∧ 0 ≤ p.2 ∧ p.2 < 64 := by
  unfold pair? at h
  split at h
  · split at h
    · rename_i hc; cases h; exact ⟨rfl, hc⟩
    · cases h
  · cases h
theorem pairs_eq : ∀ {xs : List PyData} {ps : List (Int × Int)}, pairs? xs = some ps → xs = ps.map clD ∧ ∀ p ∈ ps, 0 ≤ p.1 ∧ p.1 < 64 ∧ 0 ≤ p.2 ∧ p.2 < 64
  | [], ps, h => by cases h; exact ⟨rfl, fun p hp => by simp at hp⟩
  | x :: xs, ps, h => by
    unfold pairs? at h
    split at h
    · cases h
    rename_i p hp
    split at h
    · cases h
    rename_i qs hq
    cases h
    obtain ⟨h1, h2⟩ := pair_eq hp
    obtain ⟨h3, h4⟩ := pairs_eq hq
    refine ⟨by rw [h1, h3]; rfl, fun z hz => ?_⟩
    rcases List.mem_cons.mp hz with e | e
    · rw [e]; exact h2
    · exact h4 z e
def prLe (p q : Int × Int) : Bool := decide (p.1 * 64 + p.2 ≤ q.1 * 64 + q.2)
def kSorted : KK := fun ds env => match ds with
  | [d] => match ctn env d with
    | some (.list xs) => match ints? xs with
      | some ns => some (.tmp (.ls ((ns.mergeSort fun a b => decide (a ≤ b)).map .int)), env)
      | none => if xs.length < 64 then match pairs? xs with
          | some ps => some (.tmp (.ls ((ps.mergeSort prLe).map clD)), env)
          | none => none
        else none
    | some (.tuple xs) => match ints? xs with
      | some ns => some (.tmp (.ls ((ns.mergeSort fun a b => decide (a ≤ b)).map .int)), env)
      | none => none
    | _ => none
  | _ => none
def rSort3 (K : PySem.W.Frag) : List V → Hp → VK → Prop := cOr (rSortedI K) (cOr (rSrtT K) (rSortU K 2 64))
theorem cr_sort3 {X : Cx} : CallR X (.builtin "sorted") (rSort3 X.K) := CallR.or cr_sortedI (CallR.or cr_srtT (cr_sortT (by decide)))
theorem ms_int {ns ns' : List Int} (h1 : ns'.Perm ns) (h2 : ns'.Pairwise (· ≤ ·)) : ns' = ns.mergeSort fun a b => decide (a ≤ b) := by
  refine List.Perm.eq_of_pairwise (le := (· ≤ ·)) (fun a b _ _ x y => Int.le_antisymm x y) h2 ?_ (h1.trans (List.mergeSort_perm _ _).symm)
  have := List.pairwise_mergeSort (le := fun a b : Int => decide (a ≤ b)) (fun a b c h1 h2 => by simp at h1 h2 ⊢; omega) (fun a b => by simp; omega) ns
  exact this.imp (by intro a b h; simpa using h)
theorem RpA.perm {K : PySem.W.Frag} {B : Mset} {H : Hp} {us ys : List V} (h : ys.Perm us) : ∀ {xs : List PyData}, RpA K B H us xs → ∃ zs, RpA K B H ys zs ∧ zs.Perm xs := by
  induction h with
  | nil => intro xs r; cases r; exact ⟨[], .nil, .nil⟩
  | cons x _ ih =>
    intro xs r
    cases r with
    | cons r1 r2 => obtain ⟨zs, h1, h2⟩ := ih r2; exact ⟨_, .cons r1 h1, h2.cons _⟩
  | swap x y l =>
    intro xs r
    cases r with
    | cons r1 r2 =>
      cases r2 with
      | cons r3 r4 => exact ⟨_, .cons r3 (.cons r1 r4), .swap _ _ _⟩
  | trans _ _ ih1 ih2 =>
    intro xs r
    obtain ⟨zs, h1, h2⟩ := ih2 r
    obtain ⟨ws, h3, h4⟩ := ih1 h1
    exact ⟨ws, h3, h4.trans h2⟩
theorem code_pr (p : Int × Int) : TS.code 64 [p.1, p.2] = p.1 * 64 + p.2 := code_pair p.1 p.2
theorem tupI_of {K : PySem.W.Frag} {B : Mset} {H : Hp} {v : V} {p : Int × Int} (h : Rp K B H v (clD p)) : TupI K H v [p.1, p.2] := by
  cases h with
  | tup h r =>
    have e := RpA.ints (ns := [p.1, p.2]) r
    rw [e] at h
    exact ⟨_, rfl, h⟩
theorem map_perm_clD {zs : List PyData} {ps : List (Int × Int)} (h : zs.Perm (ps.map clD)) : ∃ qs : List (Int × Int), zs = qs.map clD ∧ qs.Perm ps := by
  have hz : ∀ z ∈ zs, ∃ p ∈ ps, clD p = z := fun z hz => List.mem_map.mp (h.mem_iff.mp hz)
  have : ∃ qs : List (Int × Int), zs = qs.map clD := by
    clear h
    induction zs with
    | nil => exact ⟨[], rfl⟩
    | cons z zs ih =>
      obtain ⟨p, _, e⟩ := hz z (by simp)
      obtain ⟨qs, e2⟩ := ih (fun y hy => hz y (by simp [hy]))
      exact ⟨p :: qs, by rw [e2, ← e]; rfl⟩
  obtain ⟨qs, rfl⟩ := this
  refine ⟨qs, rfl, ?_⟩
  let un : PyData → Int × Int := fun d => match d with
    | .tuple [.int i, .int j] => (i, j)
    | _ => (0, 0)
  have hu : ∀ l : List (Int × Int), (l.map clD).map un = l := fun l => by
    rw [List.map_map]
    exact List.map_id'' (fun p => rfl) l
  have := h.map un
  rw [hu, hu] at this
  exact this
theorem c_sorted {K : PySem.W.Frag} : Con K kSorted (rSort3 K) := by
  intro σ H B env B1 H1 env1 vs ds d e2 Q en a rr hk q
  unfold kSorted at hk
  split at hk
  · rename_i d1
    match vs, rr with
    | [v], rr =>
      split at hk
      · rename_i xs hx
        obtain ⟨p, us, rfl, h1, h2⟩ := (Cn.of a.en (rr.each 0 v d1 rfl rfl) hx).list
        split at hk
        · rename_i ns hn
          cases hk
          rw [ints_map hn] at h2
          have e := h2.ints
          subst e
          refine .inl ⟨p, ns, rfl, h1, fun ns' r k1 k2 nr => ?_⟩
          rw [ms_int k1 k2]
          exact con_new en a nr (RpA.of_ints _) q
        · split at hk
          · rename_i hl
            split at hk
            · rename_i ps hp
              cases hk
              obtain ⟨e, hb⟩ := pairs_eq hp
              subst e
              refine .inr (.inr ⟨p, us, rfl, h1, by rw [h2.length]; exact hl, fun x hx => ?_, fun ys r k1 k2 nr => ?_⟩)
              · obtain ⟨i, hi, e⟩ := List.getElem_of_mem hx
                obtain ⟨dd, g1, g2⟩ := h2.getV (i := i) (v := x) (by rw [← e]; exact List.getElem?_eq_getElem hi)
                rw [List.getElem?_map] at g1
                cases hpi : ps[i]? with
                | none => rw [hpi] at g1; cases g1
                | some pp =>
                  rw [hpi] at g1
                  cases g1
                  have hbb := hb pp (List.mem_of_getElem? hpi)
                  refine ⟨[pp.1, pp.2], tupI_of g2, rfl, fun m hm => ?_⟩
                  simp only [List.mem_cons, List.not_mem_nil, or_false] at hm
                  rcases hm with e | e
                  · rw [e]; exact ⟨hbb.1, hbb.2.1⟩
                  · rw [e]; exact hbb.2.2
              · obtain ⟨zs, g1, g2⟩ := h2.perm k1
                obtain ⟨qs, rfl, g3⟩ := map_perm_clD g2
                have ord : qs.Pairwise (fun x y => x.1 * 64 + x.2 ≤ y.1 * 64 + y.2) := by
                  have : ∀ {ys : List V} {qs : List (Int × Int)}, RpA K B1 H1 ys (qs.map clD) → ys.Pairwise (fun x y => ∀ n m, TupI K H1 x n → TupI K H1 y m → TS.code 64 n ≤ TS.code 64 m) → qs.Pairwise (fun x y => x.1 * 64 + x.2 ≤ y.1 * 64 + y.2) := by
                    intro ys qs
                    induction qs generalizing ys with
                    | nil => intro _ _; exact .nil
                    | cons c qs ih =>
                      intro r pw
                      cases r with
                      | cons r1 r2 =>
                        cases pw with
                        | cons w1 w2 =>
                          refine .cons (fun y hy => ?_) (ih r2 w2)
                          obtain ⟨j, hj, e⟩ := List.getElem_of_mem hy
                          obtain ⟨vv, z1, z2⟩ := r2.get (i := j) (d := clD y) (by rw [List.getElem?_map, List.getElem?_eq_getElem hj, e]; rfl)
                          have := w1 vv (List.mem_of_getElem? z1) _ _ (tupI_of r1) (tupI_of z2)
                          rw [code_pr, code_pr] at this
                          exact this
                  exact this g1 k2
                have eq : qs = ps.mergeSort prLe := by
                  have hbq : ∀ z : Int × Int, z ∈ qs → 0 ≤ z.1 ∧ z.1 < 64 ∧ 0 ≤ z.2 ∧ z.2 < 64 := fun z hz => hb z (g3.mem_iff.mp hz)
                  refine List.Perm.eq_of_pairwise (le := fun x y : Int × Int => x.1 * 64 + x.2 ≤ y.1 * 64 + y.2) (fun x y hx hy l1 l2 => ?_) ord ?_ (g3.trans (List.mergeSort_perm _ _).symm)
                  · have b1 := hbq x hx
                    have b2 := hb y ((List.mergeSort_perm ps prLe).mem_iff.mp hy)
                    exact Prod.ext (by omega) (by omega)
                  · have := List.pairwise_mergeSort (le := prLe) (fun a b c h1 h2 => by simp [prLe] at h1 h2 ⊢; omega) (fun a b => by simp [prLe]; omega) ps
                    exact this.imp (by intro a b h; simpa [prLe] using h)
                rw [← eq] at q
                exact con_new en a nr g1 q
            · cases hk
          · cases hk
      · rename_i xs hx
        obtain ⟨p, us, rfl, h1, h2⟩ := (Cn.of a.en (rr.each 0 v d1 rfl rfl) hx).tuple
        split at hk
        · rename_i ns hn
          cases hk
          rw [ints_map hn] at h2
          have e := h2.ints
          subst e
          refine .inr (.inl ⟨p, ns, rfl, h1, fun ns' r k1 k2 nr => ?_⟩)
          rw [ms_int k1 k2]
          exact con_new en a nr (RpA.of_ints _) q
        · cases hk
      · cases hk
    | [], rr => have := rr.len; simp at this
    | _ :: _ :: _, rr => have := rr.len; simp at this
  · cases hk
theorem w_sorted {X : Cx} {k : Nat} (hc : X.calm = true) (hr : Room k X.A) : Blt X "sorted" kSorted := ⟨_, _, cr_sort3, c_sorted, by decide +kernel⟩
end T3

end
section
set_option linter.all false
set_option autoImplicit false
set_option Elab.async false
namespace T3
open PySem L2
variable [TabL]

noncomputable instance (a b : Int) : Decidable (RgOk a b) := Classical.propDecidable _
def dnOk (i j : Int) : Prop := -(2 ^ 62) ≤ i ∧ i < 2 ^ 62 ∧ -(2 ^ 62) ≤ j ∧ j < 2 ^ 62 ∧ (i - j).toNat ≤ 1000000
noncomputable instance (a b : Int) : Decidable (dnOk a b) := Classical.propDecidable _
section
variable {X : Cx} {a b c : Expr} {fa fb fc : EE} {p p2 pos pos2 : Pos}
end
section
variable {X : Cx} {a b c : Expr} {ta tb tc : TE} {p p2 pos pos2 : Pos}
end
def key? : PyData → Option Key
  | .int i => some (.inl i)
  | .str s => some (.inr s)
  | _ => none
theorem key_v {K : PySem.W.Frag} {B : Mset} {H : Hp} {v : V} {x : PyData} {k : Key} (h : Rp K B H v x) (e : key? x = some k) : v = kV k := by
  cases h <;> cases e <;> rfl
def putD (kvs : List (Key × PyData)) (k : Key) (x : PyData) : List (Key × PyData) :=
  if (kvs.any fun kv => decide (kv.1 = k)) = true then kvs.map (fun kv => if kv.1 = k then (kv.1, x) else kv) else kvs ++ [(k, x)]
def valD (kvs : List (Key × PyData)) (k : Key) : Option PyData := (kvs.find? fun kv => decide (kv.1 = k)).map (·.2)
theorem KvR.len {K : PySem.W.Frag} {B : Mset} {H : Hp} {ws : List (Key × V)} {kvs : List (Key × PyData)} (h : KvR K B H ws kvs) : ws.length = kvs.length := Paired.length h
theorem KvR.any {K : PySem.W.Frag} {B : Mset} {H : Hp} {k : Key} : ∀ {ws : List (Key × V)} {kvs : List (Key × PyData)}, KvR K B H ws kvs → (ws.any fun kv => decide (kv.1 = k)) = (kvs.any fun kv => decide (kv.1 = k))
  | _, _, .nil => rfl
  | _, _, .cons r t => by
    simp only [List.any_cons, r.1, KvR.any t]
theorem KvR.val {K : PySem.W.Frag} {B : Mset} {H : Hp} {k : Key} : ∀ {ws : List (Key × V)} {kvs : List (Key × PyData)}, KvR K B H ws kvs → (∃ v x, valV ws k = some v ∧ valD kvs k = some x ∧ Rp K B H v x) ∨ (valV ws k = none ∧ valD kvs k = none)
  | _, _, .nil => .inr ⟨rfl, rfl⟩
  | _, _, .cons (a := p) (b := q) r t => by
    by_cases e : q.1 = k
    · refine .inl ⟨p.2, q.2, ?_, ?_, r.2⟩
      · simp [valV, r.1, e]
      · simp [valD, e]
    · have e' : ¬ p.1 = k := by rw [r.1]; exact e
      rcases KvR.val (k := k) t with ⟨v, x, h1, h2, h3⟩ | ⟨h1, h2⟩
      · exact .inl ⟨v, x, by simpa [valV, e'] using h1, by simpa [valD, e] using h2, h3⟩
      · exact .inr ⟨by simpa [valV, e'] using h1, by simpa [valD, e] using h2⟩
theorem KvR.mapPut {K : PySem.W.Frag} {B : Mset} {H : Hp} {k : Key} {v : V} {x : PyData} (r : Rp K B H v x) : ∀ {ws : List (Key × V)} {kvs : List (Key × PyData)}, KvR K B H ws kvs → KvR K B H (ws.map fun kv => if kv.1 = k then (kv.1, v) else kv) (kvs.map fun kv => if kv.1 = k then (kv.1, x) else kv)
  | _, _, .nil => .nil
  | _, _, .cons (a := p) (b := q) h t => by
    refine .cons ?_ (KvR.mapPut r t)
    by_cases e : q.1 = k
    · have e' : p.1 = k := by rw [h.1]; exact e
      dsimp only
      rw [if_pos e, if_pos e']
      exact ⟨h.1, r⟩
    · have e' : ¬ p.1 = k := by rw [h.1]; exact e
      dsimp only
      rw [if_neg e, if_neg e']
      exact h
theorem KvR.app {K : PySem.W.Frag} {B : Mset} {H : Hp} {k : Key} {v : V} {x : PyData} (r : Rp K B H v x) : ∀ {ws : List (Key × V)} {kvs : List (Key × PyData)}, KvR K B H ws kvs → KvR K B H (ws ++ [(k, v)]) (kvs ++ [(k, x)])
  | _, _, .nil => .cons ⟨rfl, r⟩ .nil
  | _, _, .cons h t => .cons h (KvR.app r t)
theorem KvR.put {K : PySem.W.Frag} {B : Mset} {H : Hp} {k : Key} {v : V} {x : PyData} {ws : List (Key × V)} {kvs : List (Key × PyData)} (h : KvR K B H ws kvs) (r : Rp K B H v x) : KvR K B H (putK ws k v) (putD kvs k x) := by
  unfold putK putD
  rw [h.any]
  split
  · exact h.mapPut r
  · exact h.app r
def eDnew : EE := fun env => some (.tmp (.dk []), env)
theorem x_dnew {X : Cx} {pos : Pos} : PE X (.Dict [] [] pos) (tE X.K eDnew) := PE.imp pe_dnewK fun σ H Q t => by
  obtain ⟨B, env, d, env', en, ev, q⟩ := t
  cases ev
  intro p np
  obtain ⟨g, a2⟩ := (At.refl en).alloc en np (.dK []) True (fun _ => False) (fun _ f => f.elim)
  refine q _ _ _ a2 ⟨p, rfl, np, .inr ⟨trivial, rfl⟩, ⟨[], upd_same, .nil⟩, fun i m d h1 h2 => ?_⟩
  obtain ⟨b, h3, h4, _⟩ := en.mu i m d h1
  rw [h3] at h2
  cases h2
  obtain ⟨o', ho⟩ := en.dom _ h4
  rw [np] at ho; cases ho
section
variable {X : Cx} {i o : Expr} {fk fd : EE} {pos : Pos}
end
end T3

end
section
set_option linter.all false
set_option autoImplicit false
set_option Elab.async false
namespace T3
open PySem L2
variable [TabL]
def l3 (r : V → V → V → Hp → VK → Prop) : List V → Hp → VK → Prop := fun vs H Q => ∀ x y z, vs = [x, y, z] → r x y z H Q
end T3

end
section
set_option linter.all false
set_option autoImplicit false
set_option Elab.async false
namespace T3
open PySem L2
variable [TabL]
theorem at0_mk {K : PySem.W.Frag} {h : Heap} {mg : Str → Option Value} {x : Str} {st : Stmt} {ps : List Str} {f : Addr} {oc : Value} {od an : Option Addr} {osl : Array (Option Value)} {kV doc pm cdv ct : Value} (X : K.In h) (G : h.Ns mainGlobals mg)
    (a : PySem.W.nsIn K mainGlobals x = some (some (.ref f))) (l : K.lookup f = some ⟨oc, od, .func (PySem.W.fnOf x x (defArgs st) (defBody st) (defScope st) .none kV doc pm an cdv ct), osl⟩) (c : PySem.W.codeIn K cdv x = true) (k : PySem.W.keepIn K (.ref f) = true)
    (hb : ∀ (kV doc pm : Value) (an : Option Addr) (cdv ct : Value) (us : List Value), us.length = ps.length → bindArgs (PySem.W.fnOf x x (defArgs st) (defBody st) (defScope st) .none kV doc pm an cdv ct) ⟨us, []⟩ = pure (ps.zip us)) : At0 K mg x st ps := by
  have F := fun_mk (st := st) l c k
  exact ⟨f, _, F, PySem.W.mg_of X G a, F.binds hb⟩
inductive KV1 (K : PySem.W.Frag) : Value → PyData → Prop
  | none : KV1 K .none .none
  | bool (b : Bool) : KV1 K (.bool b) (.bool b)
  | int (i : Int) (t : Tok) : KV1 K (.int i t) (.int i)
  | str (x : Str) (t : Tok) : KV1 K (.str x t) (.str x)
def kvB (K : PySem.W.Frag) : Nat → Value → PyData → Bool
  | 0, _, _ => false
  | _ + 1, .none, .none => true
  | _ + 1, .bool b, .bool c => b == c
  | _ + 1, .int i _, .int j => i == j
  | _ + 1, .str x _, .str y => decide (x = y)
  | n + 1, .ref a, .tuple ds => match K.lookup a with
    | some o => match o.cls, o.data with
      | .type t, .seq its _ => t == "tuple" && decide (its.size ≤ 1000) && decide (its.size = ds.length) && (its.toList.zip ds).all fun p => kvB K n p.1 p.2
      | _, _ => false
    | none => false
  | _ + 1, _, _ => false
theorem kv_rp {K : PySem.W.Frag} : ∀ (n : Nat) (u : Value) (d : PyData), kvB K n u d = true → ∃ v, RelV v u ∧ ∀ B H, Rp K B H v d
  | 0, _, _, h => by cases h
  | n + 1, u, d, h => by
    unfold kvB at h
    split at h
    · cases h
    · exact ⟨.non, rfl, fun _ _ => .non⟩
    · rename_i b c _
      have e : b = c := by simpa using h
      subst e
      exact ⟨.bl b, rfl, fun _ _ => .bl b⟩
    · rename_i i t j _
      have e : i = j := by simpa using h
      subst e
      exact ⟨.int i, ⟨t, rfl⟩, fun _ _ => .int i⟩
    · rename_i x t y _
      have e : x = y := by simpa using h
      subst e
      exact ⟨.str x, ⟨t, rfl⟩, fun _ _ => .str x⟩
    · rename_i m a ds hm
      cases hm
      split at h
      · rename_i o ho
        split at h
        · rename_i t its k hc hd
          simp only [Bool.and_eq_true, beq_iff_eq, decide_eq_true_eq, List.all_eq_true] at h
          obtain ⟨⟨⟨ht, hs⟩, hl⟩, ha⟩ := h
          have go : ∀ (us : List Value) (ds : List PyData), us.length = ds.length → (∀ p ∈ us.zip ds, kvB K n p.1 p.2 = true) → ∃ vs, Vals vs us ∧ ∀ B H, RpA K B H vs ds := by
            intro us
            induction us with
            | nil =>
              intro ds hl _
              cases ds with
              | nil => exact ⟨[], .nil, fun _ _ => .nil⟩
              | cons _ _ => simp at hl
            | cons u us ih =>
              intro ds hl hz
              cases ds with
              | nil => simp at hl
              | cons d ds =>
                obtain ⟨v, r1, r2⟩ := kv_rp n u d (hz (u, d) (by simp))
                obtain ⟨vs, q1, q2⟩ := ih ds (by simpa using hl) (fun p hp => hz p (by simp [hp]))
                exact ⟨v :: vs, .cons r1 q1, fun B H => .cons (r2 B H) (q2 B H)⟩
          obtain ⟨vs, q1, q2⟩ := go its.toList ds (by simpa using hl) ha
          subst ht
          exact ⟨.ref a, rfl, fun B H => .tup (.inr ⟨o, its, k, ho, hc, hd, Nat.le_of_lt (small1000 hs), q1⟩) (q2 B H)⟩
        · cases h
      · cases h
    · cases h
theorem kc_by {K : PySem.W.Frag} {h : Heap} {mg : Str → Option Value} {x : Str} {u : Value} {d : PyData} {n : Nat} (X : K.In h) (G : h.Ns mainGlobals mg) (a : PySem.W.nsIn K mainGlobals x = some (some u)) (q : kvB K n u d = true) : KC K mg x d := by
  obtain ⟨v, r, q⟩ := kv_rp n u d q
  exact ⟨v, u, PySem.W.mg_of X G a, r, q⟩
def kdB (K : PySem.W.Frag) (d : Addr) (kvs : List (Str × PyData)) : Bool := kvs.all fun p => match PySem.W.nsIn K d p.1 with
  | some (some u) => kvB K 9 u p.2
  | _ => false
theorem lookup_mem {α : Type} : ∀ {l : List (Str × α)} {z : Str} {x : α}, l.lookup z = some x → (z, x) ∈ l
  | [], z, x, h => by simp at h
  | (y, b) :: l, z, x, h => by
    rw [List.lookup_cons] at h
    split at h
    · rename_i e
      cases h
      have : z = y := by simpa using e
      subst this
      simp
    · simp [lookup_mem h]
theorem kd_mk {K : PySem.W.Frag} {w : World} {h : Heap} {mg : Str → Option Value} {x : Str} {d : Addr} {es : Array DictEntry} {n : Nat} {kvs : List (Str × PyData)} (X : K.In h) (G : h.Ns mainGlobals mg) (a : PySem.W.nsIn K mainGlobals x = some (some (.ref d)))
    (l : K.lookup d = some ⟨.type "dict", none, .dict es n, #[]⟩) (k : PySem.W.KeysLit w.params es.toList) (q : kdB K d kvs = true) : KD K w mg x kvs := by
  refine ⟨d, PySem.W.mg_of X G a, fun z y hz => ?_⟩
  have hm := lookup_mem hz
  have := List.all_eq_true.mp q _ hm
  dsimp only at this
  split at this
  · rename_i u hu
    obtain ⟨v, r, q⟩ := kv_rp 9 u y this
    exact ⟨v, ⟨es, n, u, l, k, hu, r⟩, q⟩
  · cases this
theorem law_spT {K : PySem.W.Frag} {F : FnD} {H : Hp} {a : Addr} {ns : List Int} (hF : ∃ as, F [.pd (.list (ns.map .int))] = some (.pd (.bool true), as)) (tb : TbB (fun _ => False) H) (hS : SqL K H a (ns.map V.int)) : spF K F 1 [.ref a] H (fun v _ => v = .bl true) fun _ _ _ => False := by
  obtain ⟨as, hF⟩ := hF
  have rp : Rp K (fun _ => False) H (.ref a) (.list (ns.map .int)) := by
    rcases hS with (h | ⟨o, h⟩) | ⟨o, its, n, h1, h2, h3, h4, h5, h6⟩
    · exact .lst h (fun z => z) (RpA.of_ints _)
    · exact .frz h (RpA.of_ints _)
    · exact .kls h1 h2 h3 h4 h5 h6 (RpA.of_ints _)
  refine ⟨rfl, fun _ => False, [.pd (.list (ns.map .int))], _, as, ⟨rfl, fun i x h => ?_, fun i x h => ?_, fun i m c h => ?_, fun i j m n c d b h => ?_, fun b h => h.elim, tb⟩, hF, fun B' H' v _ r _ => ?_⟩
  · cases i with
    | zero => simp at h; subst h; exact ⟨_, rfl, rp⟩
    | succ i => simp at h
  · cases i with
    | zero => simp at h
    | succ i => simp at h
  · cases i with
    | zero => simp at h
    | succ i => simp at h
  · cases i with
    | zero => simp at h
    | succ i => simp at h
  · have r : Rp K B' H' v (.bool true) := r
    cases r
    rfl
end T3
namespace T3
open PySem L2
end T3

end
section
set_option linter.all false
set_option autoImplicit false
set_option Elab.async false
namespace T3
open PySem L2
variable [TabL]
section
variable (env : Sl) (i j n : Nat) (fa fb fc : EE) (f g : EA) (s1 s2 : SS) (b1 b2 : EB) (k k1 k2 : KK) (d : R) (ds : List R) (x : PyData) (xs : List PyData)
@[simp] theorem z_var : eVar i env = (match env[i]? with
  | some (some (.pd x)) => some (.pd x, env)
  | some (some (.nt x)) => some (.nt x, env)
  | some (some (.mu _ _)) => some (.var i, env)
  | _ => none) := rfl
@[simp] theorem z_c : eC x env = some (.pd x, env) := rfl
@[simp] theorem z_nil : eNil env = some ([], env) := rfl
@[simp] theorem z_cons : eCons fa f env = (match fa env with
  | none => none
  | some (d, e1) => match f e1 with
    | none => none
    | some (ds, e2) => some (d :: ds, e2)) := rfl
@[simp] theorem z_then : eThen f k env = (match f env with
  | none => none
  | some (ds, e1) => k ds e1) := rfl
@[simp] theorem z_two : eTwo fa fb = eCons fa (eCons fb eNil) := rfl
@[simp] theorem z_one : eOne fa = eCons fa eNil := rfl
@[simp] theorem z_ctn1 : ctn env (.pd x) = some x := rfl
@[simp] theorem z_ctn2 : ctn env (.nt xs) = some (.tuple xs) := rfl
@[simp] theorem z_ctn3 : ctn env (.tmp (.ls xs)) = some (.list xs) := rfl
@[simp] theorem z_ctn4 : ctn env (.var i) = (match env[i]? with
    | some (some (.mu _ (.ls xs))) => some (.list xs)
    | _ => none) := rfl
@[simp] theorem z_ctns0 : ctns env [] = some [] := rfl
@[simp] theorem z_ctns1 : ctns env (d :: ds) = (match ctn env d with
    | none => none
    | some x => match ctns env ds with
      | none => none
      | some xs => some (x :: xs)) := rfl
@[simp] theorem z_kE (o : List PyData → Option PyData) : kE o ds env = (match ctns env ds with
  | none => none
  | some xs => match o xs with
    | none => none
    | some z => some (.pd z, env)) := rfl
@[simp] theorem z_kT (o : List PyData → Option (List PyData)) : kT o ds env = (match ctns env ds with
  | none => none
  | some xs => match o xs with
    | none => none
    | some z => some (.pd (.tuple z), env)) := rfl
@[simp] theorem z_kL (o : List PyData → Option (List PyData)) : kL o ds env = (match ctns env ds with
  | none => none
  | some xs => match o xs with
    | none => none
    | some z => some (.tmp (.ls z), env)) := rfl
@[simp] theorem z_kOr : kOr k1 k2 ds env = (match k1 ds env with
  | some r => some r
  | none => k2 ds env) := rfl
@[simp] theorem z_bT : bT fa env = (match fa env with
  | some (.pd (.bool b), e) => some (b, e)
  | _ => none) := rfl
@[simp] theorem z_bAnd : bAnd b1 b2 env = (match b1 env with
  | none => none
  | some (b, e) => if b = true then b2 e else some (false, e)) := rfl
@[simp] theorem z_bOr : bOr b1 b2 env = (match b1 env with
  | none => none
  | some (b, e) => if b = true then some (true, e) else b2 e) := rfl
@[simp] theorem z_bNot : bNot b1 env = (match b1 env with
  | none => none
  | some (b, e) => some (!b, e)) := rfl
@[simp] theorem z_eB : eB b1 env = (match b1 env with
  | none => none
  | some (b, e) => some (.pd (.bool b), e)) := rfl
@[simp] theorem z_eIf : eIf b1 fa fb env = (match b1 env with
  | none => none
  | some (b, e) => if b = true then fa e else fb e) := rfl
@[simp] theorem z_pass : sPass env = some (.nx, env) := rfl
@[simp] theorem z_seq : sSeq s1 s2 env = (match s1 env with
  | none => none
  | some (.nx, e1) => s2 e1
  | some (fl, e1) => some (fl, e1)) := rfl
@[simp] theorem z_if : sIf b1 s1 s2 env = (match b1 env with
  | none => none
  | some (b, e) => if b = true then s1 e else s2 e) := rfl
@[simp] theorem z_ret : sRet fa env = (match fa env with
  | none => none
  | some (d, e) => some (.rt d, e)) := rfl
@[simp] theorem z_expr : sExpr fa env = (match fa env with
  | none => none
  | some (_, e) => some (.nx, e)) := rfl
@[simp] theorem z_never : sNever env = none := rfl
@[simp] theorem z_free : free env i = (match env[i]? with
  | some (some (.mu .own _)) => true
  | some (some (.pd _)) => true
  | some (some (.nt _)) => true
  | some none => true
  | _ => false) := rfl
@[simp] theorem z_setR : setR i d env = (if free env i = true then match d with
    | .pd x => some (env.set i (some (.pd x)))
    | .nt x => some (env.set i (some (.nt x)))
    | .tmp c => some (env.set i (some (.mu .own c)))
    | .var _ => none
  else none) := rfl
@[simp] theorem z_set : sSet i fa env = (match fa env with
  | none => none
  | some (d, e) => match setR i d e with
    | none => none
    | some e2 => some (.nx, e2)) := rfl
@[simp] theorem z_gN : gN i x env = setR i (.pd x) env := rfl
@[simp] theorem z_gNl : gNl [] env = some env := rfl
@[simp] theorem z_gCn (g1 : GG) (gs : GGs) : gCn g1 gs (x :: xs) env = (match g1 x env with
    | none => none
    | some e => gs xs e) := rfl
@[simp] theorem z_gT (gs : GGs) : gT n gs (.tuple xs) env = (if xs.length = n then gs xs env else none) := rfl
@[simp] theorem z_asg (g1 : GG) : sAsg fa g1 env = (match fa env with
  | some (.pd x, e) => match g1 x e with
    | none => none
    | some e2 => some (.nx, e2)
  | some (.nt xs, e) => match g1 (.tuple xs) e with
    | none => none
    | some e2 => some (.nx, e2)
  | _ => none) := rfl
@[simp] theorem z_data1 : data1 (.pd x) = some x := rfl
@[simp] theorem z_data2 : data1 (.nt xs) = some (.tuple xs) := rfl
@[simp] theorem z_data3 : data1 (.tmp (.ls xs)) = some (.list xs) := rfl
@[simp] theorem z_data4 : data1 (.var i) = none := rfl
@[simp] theorem z_datas0 : datas [] = some [] := rfl
@[simp] theorem z_datas1 : datas (d :: ds) = (match data1 d with
    | none => none
    | some x => match datas ds with
      | none => none
      | some xs => some (x :: xs)) := rfl
@[simp] theorem z_kTup : kTup ds env = (match datas ds with
  | none => none
  | some xs => if xs.length ≤ 1000 then some (.pd (.tuple xs), env) else none) := rfl
@[simp] theorem z_kLst : kLst ds env = (match datas ds with
  | none => none
  | some xs => if xs.length ≤ 1000 then some (.tmp (.ls xs), env) else none) := rfl
@[simp] theorem z_for (it : EI) (g1 : GG) : sFor it g1 s1 env = (match it env with
  | none => none
  | some (xs, lk, e1) => match forL g1 s1 xs e1 with
    | none => none
    | some (fl, e2) => some (fl, unlock lk e2)) := rfl
@[simp] theorem z_unl : unlock none env = env := rfl
@[simp] theorem z_call (F : FnD) : eCall F f env = (match f env with
  | none => none
  | some (ds, e1) => match toArgs e1 ds with
    | none => none
    | some as => if varsApart ds = true then match F as with
        | none => none
        | some (.var _, _) => none
        | some (d, as') => some (d, back ds as' e1)
      else none) := rfl
@[simp] theorem z_arg1 : toArg env (.pd x) = some (.pd x) := rfl
@[simp] theorem z_arg2 : toArg env (.nt xs) = some (.nt xs) := rfl
@[simp] theorem z_arg3 (c : Ct) : toArg env (.tmp c) = some (.mu .bor c) := rfl
@[simp] theorem z_arg4 : toArg env (.var i) = (match env[i]? with
    | some (some (.mu .fro c)) => some (.mu .fro c)
    | some (some (.mu _ c)) => some (.mu .bor c)
    | _ => none) := rfl
@[simp] theorem z_args0 : toArgs env [] = some [] := rfl
@[simp] theorem z_args1 : toArgs env (d :: ds) = (match toArg env d with
    | none => none
    | some a => match toArgs env ds with
      | none => none
      | some as => some (a :: as)) := rfl
@[simp] theorem z_va0 : varsApart [] = true := rfl
@[simp] theorem z_va1 : varsApart (.pd x :: ds) = varsApart ds := rfl
@[simp] theorem z_va2 : varsApart (.nt xs :: ds) = varsApart ds := rfl
@[simp] theorem z_va3 (c : Ct) : varsApart (.tmp c :: ds) = varsApart ds := rfl
@[simp] theorem z_va4 : varsApart (.var i :: ds) = (!hasVar i ds && varsApart ds) := rfl
@[simp] theorem z_hv0 : hasVar i [] = false := rfl
@[simp] theorem z_hv1 : hasVar i (.pd x :: ds) = hasVar i ds := rfl
@[simp] theorem z_hv2 : hasVar i (.nt xs :: ds) = hasVar i ds := rfl
@[simp] theorem z_hv3 (c : Ct) : hasVar i (.tmp c :: ds) = hasVar i ds := rfl
@[simp] theorem z_hv4 : hasVar i (.var j :: ds) = (decide (i = j) || hasVar i ds) := rfl
variable (s : S) (as : List S)
@[simp] theorem z_bk0 : back [] [] env = env := rfl
@[simp] theorem z_bk1 : back (.pd x :: ds) (s :: as) env = back ds as env := rfl
@[simp] theorem z_bk2 : back (.nt xs :: ds) (s :: as) env = back ds as env := rfl
@[simp] theorem z_bk3 (c : Ct) : back (.tmp c :: ds) (s :: as) env = back ds as env := rfl
@[simp] theorem z_bk4 (m : Md) (c : Ct) : back (.var i :: ds) (.mu m c :: as) env = (match env[i]? with
    | some (some (.mu m _)) => back ds as (env.set i (some (.mu m c)))
    | _ => back ds as env) := rfl
@[simp] theorem z_out1 : outR env (.pd x) = some (.pd x) := rfl
@[simp] theorem z_out2 : outR env (.nt xs) = some (.nt xs) := rfl
@[simp] theorem z_out3 (c : Ct) : outR env (.tmp c) = some (.tmp c) := rfl
@[simp] theorem z_out4 : outR env (.var i) = (match env[i]? with
    | some (some (.mu .own c)) => some (.tmp c)
    | _ => none) := rfl
variable (e0 : Option S)
@[simp] theorem z_fin0 : finals [] env = some [] := by cases env <;> rfl
@[simp] theorem z_fin1 : finals (.pd x :: as) (e0 :: env) = (match finals as env with
    | none => none
    | some l => some (.pd x :: l)) := rfl
@[simp] theorem z_fin2 : finals (.nt xs :: as) (e0 :: env) = (match finals as env with
    | none => none
    | some l => some (.nt xs :: l)) := rfl
@[simp] theorem z_fin3 (m m' : Md) (c c' : Ct) : finals (.mu m c :: as) (some (.mu m' c') :: env) = (if m = m' ∧ m ≠ .own then match finals as env with
      | none => none
      | some l => some (.mu m c' :: l)
    else none) := rfl
theorem run_of {n : Nat} {b : SS} {as : List S} {e : Sl} (h : startE n as = e) : runFn n b as = (match b e with
  | some (.rt d, e) => match outR e d with
    | none => none
    | some d' => match finals as e with
      | none => none
      | some as' => some (d', as')
  | some (.nx, e) => match finals as e with
    | none => none
    | some as' => some (.pd .none, as')
  | _ => none) := by rw [← h]; rfl
end
end T3

end
section
set_option linter.all false
set_option autoImplicit false
set_option Elab.async false
namespace T3
open PySem L2
variable [TabL]
section
variable (env : Sl) (fa fb fc : EE) (f : EA) (g : GG) (t : EB) (it : EI) (vs : List Nat) (x : PyData)
@[simp] theorem z_add : eAdd fa fb env = eThen (eCons fa (eCons fb eNil)) kAdd env := rfl
@[simp] theorem z_sub : eSub fa fb env = eThen (eCons fa (eCons fb eNil)) kSub env := rfl
@[simp] theorem z_mul : eMul fa fb env = eThen (eCons fa (eCons fb eNil)) kMul env := rfl
@[simp] theorem z_fdiv : eFdiv fa fb env = eThen (eCons fa (eCons fb eNil)) kFdiv env := rfl
@[simp] theorem z_mod : eMod fa fb env = eThen (eCons fa (eCons fb eNil)) kMod env := rfl
@[simp] theorem z_pow : ePow fa fb env = eThen (eCons fa (eCons fb eNil)) kPow env := rfl
@[simp] theorem z_eq : eEq fa fb env = eThen (eCons fa (eCons fb eNil)) (kE oEq) env := rfl
@[simp] theorem z_ne : eNe fa fb env = eThen (eCons fa (eCons fb eNil)) (kE oNe) env := rfl
@[simp] theorem z_lt : eLt fa fb env = eThen (eCons fa (eCons fb eNil)) kLt env := rfl
@[simp] theorem z_gt : eGt fa fb env = eThen (eCons fa (eCons fb eNil)) kGt env := rfl
@[simp] theorem z_ge : eGe fa fb env = eThen (eCons fa (eCons fb eNil)) kGe env := rfl
@[simp] theorem z_in : eIn fa fb env = eThen (eCons fa (eCons fb eNil)) (kE (oIn false)) env := rfl
@[simp] theorem z_nin : eNin fa fb env = eThen (eCons fa (eCons fb eNil)) (kE (oIn true)) env := rfl
@[simp] theorem z_is : eIs fa fb env = eThen (eCons fa (eCons fb eNil)) (kE (oIsN false)) env := rfl
@[simp] theorem z_ix : eIx fa fb env = eThen (eCons fa (eCons fb eNil)) (kE oIx) env := rfl
@[simp] theorem z_lc : eLc it g t fa vs env = (match it env with
  | none => none
  | some (xs, lk, e1) => if xs.length ≤ 1000000 then match lcL g t fa vs xs e1 [] with
      | none => none
      | some (acc, e2) => some (.tmp (.ls acc), unlock lk e2)
    else none) := rfl
@[simp] theorem z_seqI : iSeq fa env = (match fa env with
  | some (.pd (.tuple xs), e) => some (xs, none, e)
  | some (.nt xs, e) => some (xs, none, e)
  | some (.pd (.list xs), e) => some (xs, none, e)
  | some (.pd (.str s), e) => some (signs s, none, e)
  | some (.tmp (.ls xs), e) => some (xs, none, e)
  | some (.var i, e) => match e[i]? with
    | some (some (.mu m (.ls xs))) => some (xs, some (i, m), e.set i (some (.mu .fro (.ls xs))))
    | _ => none
  | _ => none) := rfl
@[simp] theorem z_bm (ty : Sl → R → Bool) (k : KK) : eBM ty fa f k env = (match fa env with
  | none => none
  | some (d, e1) => if ty e1 d = true then match f e1 with
      | none => none
      | some (ds, e2) => k (d :: ds) e2
    else none) := rfl
@[simp] theorem z_dnew : eDnew env = some (.tmp (.dk []), env) := rfl
@[simp] theorem z_gS : gS fa fb x env = (match fa env with
  | some (.var j, e1) => match fb e1 with
    | some (.pd (.int k), e2) => putL j k x e2
    | _ => none
  | _ => none) := rfl
@[simp] theorem z_sl (lo hi : EO) : eSl fa lo hi env = (match fa env with
  | none => none
  | some (d, e1) => match lo e1 with
    | none => none
    | some (l, e2) => match hi e2 with
      | none => none
      | some (h, e3) => kSl l h [d] e3) := rfl
@[simp] theorem z_par (i j : Nat) : sPar i j f env = (match f env with
  | some ([d1, d2], e) => match setR i d1 e with
    | none => none
    | some e2 => match setR j d2 e2 with
      | none => none
      | some e3 => some (.nx, e3)
  | _ => none) := rfl
@[simp] theorem z_oNo : oNo env = some (none, env) := rfl
@[simp] theorem z_unl1 (i : Nat) (m : Md) : unlock (some (i, m)) env = (match env[i]? with
  | some (some (.mu _ c)) => env.set i (some (.mu m c))
  | _ => env) := by rfl
end
end T3

end
section
set_option linter.all false
set_option autoImplicit false
set_option Elab.async false
namespace T3
open PySem PySem.Spec PyProof.Rows L2
variable [TabL]
structure FnG (P : Program) (w : World) (K : PySem.W.Frag) (mg : Str → Option Value) (base : Heap) (k : Nat) (f : Addr) (fd : FuncData) (ps : List Str) (sp : Sp) : Prop where
  sizes : ∀ xs H Q E, sp xs H Q E → xs.length = ps.length
  go : ∀ (A : Around) (out : List Env) (s : Shared) (H : Hp) (ar : Args) (us : List Value) (xs : List V) (Q : VK) (E : XK), Room k A → A.guards = some [] → Env0 P w K mg base A out s H → BindsTo s fd ar (ps.zip us) → Vals xs us → sp xs H Q E →
    codeAny (model P w) A (.call (.ref f) ar) (CR CX0 out P w H s Q E) s
section
variable {P : Program} {w : World} {K : PySem.W.Frag} {mg : Str → Option Value} {base : Heap} {k : Nat} {f : Addr} {fd : FuncData} {ps : List Str} {sp : Sp}
theorem ce_of {X : Cx} {out : List Env} {H₀ : Hp} {s₀ : Shared} {Q : VK} {τ : L2.St} {H2 : Hp} {z : V} {u : Value} {s2 : Shared} (J : Inv X [] τ H2 s2) (ho : s2.os = s₀.os) (hu : Un (frs out) [] H₀ H2 s₀.heap s2.heap) (rv : RelV z u) (q : Q z H2) : CE out X.prog X.w H₀ s₀ Q u s2 := ⟨z, H2, ho, J.bare, hu, J.hok, rv, q⟩
theorem fnG_of {nm qu : Str} {pr : Arguments} {bd : List Stmt} {sc : Scope} {dV kV doc pm cdv ct oc : Value} {an od : Option Addr} {osl : Array (Option Value)} {N : List Str}
    (at_ : K.lookup f = some ⟨oc, od, .func (PySem.W.fnOf nm qu pr bd sc dV kV doc pm an cdv ct), osl⟩) (cod : PySem.W.codeIn K cdv qu = true) (Sc : FnScope N ps sc) (sizes : ∀ xs H Q E, sp xs H Q E → xs.length = ps.length)
    (hb : ∀ (A : Around) (out : List Env) (s : Shared) (H : Hp) (xs : List V) (Q : VK) (E : XK), Room k (A.deeper (envOfC qu sc s.heap.objs.size f cdv)) → A.guards = some [] → sp xs H Q E →
      ∃ t, PSs (cxOf CX0 P w K mg base N qu sc f cdv A out s H E) bd t ∧ t { nx := fun _ H' => Q .non H', rt := Q } (L2.start N xs) H) :
    FnG P w K mg base (k + 1) f (PySem.W.fnOf nm qu pr bd sc dV kV doc pm an cdv ct) ps sp := by
  constructor
  · exact sizes
  intro A out s H ar us xs Q E rm gd ev bi vl hs
  have kin : K.In s.heap := ev.mod.kin.keeps fun a o h => (ev.bs a o h).1
  have nolim : s.heap.NoLimit := ev.mod.nolimit.keeps fun a o h => (ev.bs a o h).1
  have kinds : ∀ y ∈ ps.zip us, sc.names.lookup y.1 = some .local ∨ (sc.names.lookup y.1 = some .cell ∧ ((cellsFrom (s.heap.objs.size + 1) sc.names []).lookup y.1).isSome = true) := by
    rintro ⟨a, b⟩ hy
    refine (Sc.par a (List.of_mem_zip hy).1).imp id fun q => ⟨q, ?_⟩
    exact PySem.W.cellsFrom_some _ _ _ (.inl q)
  refine codeAny_call_function rm.depth (kin _ _ at_) rfl Sc.co Sc.gen rfl (PySem.W.codeRec_of kin cod) ?_
  refine bi _ _ _ _ (wpAny_newFunctionEnv_cells Sc.kind kinds fun env ee s1 ic => ?_)
  subst ee
  refine ⟨nolim.keeps ic.toInCall.keep, codeAny_func ?_⟩
  obtain ⟨t, h1, h2⟩ := hb A out s H xs Q E (rm.deeper _) gd hs
  have J := inv_start (CX := CX0) (P := P) (w := w) (E := E) Sc rm.hd ev (sizes _ _ _ _ hs) vl ic
  refine wpAny_mono (h1.run [] s1 (L2.start N xs) H _ J h2) (fun fl s2 hf => ?_) fun _ _ hx => hx
  match fl, hf with
  | .ret u, ⟨z, τ, H2, J2, rv, q⟩ => exact ce_of J2 J2.os J2.base rv q
  | .next, ⟨τ, H2, J2, q⟩ => exact ce_of (z := .non) (u := .none) J2 J2.os J2.base rfl q
  | .brk, ⟨_, _, _, q⟩ => exact q.elim
  | .cont, ⟨_, _, _, q⟩ => exact q.elim
end
end T3

end
section
set_option linter.all false
set_option autoImplicit false
set_option Elab.async false
namespace T3
open PySem PySem.Spec PyProof.Rows L2
variable [TabL]
section
variable {X : Cx} {k n : Nat} {f : Addr} {fd : FuncData} {ps : List Str} {sp : Sp} {x : Str} {p pos : Pos} {e : Expr} {es : List Expr} {t : TA} {F : FnD} {fa : EA}
end
section
variable {X : Cx} {k n : Nat} {F : FnD} {x : Str} {p pos : Pos} {e : Expr} {es : List Expr} {fa : EA}
end
end T3

end
section
set_option linter.all false
set_option autoImplicit false
set_option Elab.async false
namespace T3
open PySem PySem.Spec PyProof.Rows L2
variable [TabL]
section
variable {P : Program} {w : World} {K : PySem.W.Frag} {mg mb : Str → Option Value} {k : Nat} {fa a : Addr} {fd : FuncData} {x : Str} {sp : Sp} {s : Shared} {vs : List Value} {ns : List Int}
structure Scr (K : PySem.W.Frag) (s : Shared) (a : Addr) (H : Hp) : Prop where
  only : L2.Only H
  one : ∀ b, H b ≠ none → b = a
  kn : H a ≠ none → K.lookup a = none
theorem Scr.nd {H : Hp} (c : Scr K s a H) (ha : s.heap.get? a = some { cls := .type "list", data := .seq vs.toArray }) {b : Addr} {o : Obj} {es : Array DictEntry} {m : Nat} (h : s.heap.get? b = some o) (d : o.data = .dict es m) : H b = none := by
  apply Classical.byContradiction
  intro z
  have e := c.one b z
  rw [e, ha] at h
  injection h with h
  rw [← h] at d
  cases d
theorem Scr.spc {H : Hp} (c : Scr K s a H) (ha : s.heap.get? a = some { cls := .type "list", data := .seq vs.toArray }) {b : Addr} {m : Str → Option Value} (h : s.heap.Ns b m) : (hidT s.heap H).Ns b m := by
  obtain ⟨o, es, n, h1, h2, h3⟩ := h
  exact ⟨o, es, n, hidT_get h1 (c.nd ha h1 h2), h2, h3⟩
theorem Scr.kin {H : Hp} (c : Scr K s a H) (KX : K.In s.heap) : K.In (hidT s.heap H) := by
  intro b o h
  refine hidT_get (KX b o h) (Classical.byContradiction fun z => ?_)
  have e := c.one b z
  subst e
  rw [c.kn z] at h
  cases h
theorem Scr.run {H : Hp} (c : Scr K s a H) (ha : s.heap.get? a = some { cls := .type "list", data := .seq vs.toArray }) (KX : K.In s.heap) (hm : s.heap.Ns mainGlobals mg) (hb : s.heap.Ns builtinsNs mb) (hbb : ∀ x : Str, x ≠ "__name__" → mb x = bootBuiltins x) (nl : s.heap.NoLimit) (hg : s.gens = #[])
    (hr : Room k callerA) (F : ∀ base : Heap, K.In base → base.Ns mainGlobals mg → FnG P w K mg base k fa fd [x] sp) (bi : ∀ (s : Shared) (u : Value), BindsTo s fd ⟨[u], []⟩ [(x, u)]) (hok : HOk P w H s.heap)
    (hs : sp [.ref a] H (fun v _ => v = .bl true) fun _ _ _ => False) :
    codeAny (model P w) callerA (.call (.ref fa) ⟨[.ref a], []⟩) (fun r s2 => r = .ok (.ret (.bool true)) ∧ OldK s.heap s2.heap ∧ s2.os = s.os ∧ AllBare s2.gens) s := by
  obtain ⟨mc, n1, n2⟩ := nl
  have md : Mod K mg (hidT s.heap H) := ⟨c.kin KX, c.spc ha hm, ⟨mb, c.spc ha hb, hbb⟩, mc, c.spc ha n1, n2⟩
  have ev : Env0 P w K mg (hidT s.heap H) callerA [] s H := {
    frames := rfl
    mod := md
    bs := fun b o h => of_hidT h
    bsz := Nat.le_of_eq (hidT_size _ _)
    funs := trivial
    frf := fun b h => nomatch (show b ∈ ([] : List Addr) from h)
    hok := hok
    bare := .of_eq hg }
  have cc := (F _ md.kin (c.spc ha hm)).go callerA [] s H ⟨[.ref a], []⟩ [.ref a] [.ref a] _ _ hr rfl ev (bi s (.ref a)) (.cons rfl .nil) hs
  refine codeAny_mono cc ?_
  intro r s2 h
  match r, h with
  | .ok .next, h => exact h.elim
  | .ok .brk, h => exact h.elim
  | .ok .cont, h => exact h.elim
  | .error _, h => exact h.elim
  | .ok (.ret u), ⟨v, H2, os, br, un, hok2, rv, q⟩ =>
    have q : v = .bl true := q
    subst q
    have eu : u = .bool true := rv
    subst eu
    refine ⟨rfl, OldK.of_keep ?_, os, br⟩
    intro b o h
    rcases c.only b with z | ⟨ob, ys, z⟩
    · exact un.keep b o h z (fun y => nomatch (show b ∈ ([] : List Addr) from y)) (by simp)
    · have h1 := (hok b _ z).1
      rw [h] at h1
      cases h1
      exact (hok2 b _ (un.frzs b o _ z)).1
end
end T3

end
section
set_option linter.all false
set_option autoImplicit false
set_option Elab.async false
namespace T3
open PySem PySem.Spec PyProof.Rows L2
variable [TabL]
def ShOk (d : PyData) : Prop := SeqAt.shaped d = true ∧ d.showable = true ∧ d.shown.length ≤ 1000000
noncomputable instance (d : PyData) : Decidable (ShOk d) := Classical.propDecidable _
noncomputable def oRepr : List PyData → Option PyData
  | [.tuple xs] => if ShOk (.tuple xs) then some (.str (PyData.tuple xs).shown) else none
  | [.list xs] => if ShOk (.list xs) then some (.str (PyData.list xs).shown) else none
  | _ => none
def rRepr (K : PySem.W.Frag) : List V → Hp → VK → Prop := fun vs H Q => ∃ (a : Addr) (d : PyData), vs = [V.ref a] ∧ Dp K H (.ref a) d ∧ ShOk d ∧ Q (.str d.shown) H
theorem cr_repr {X : Cx} (gd : X.A.guards = some []) (hu : X.A.units + 66 < cLine) : CallR X (.builtin "repr") (rRepr X.K) := by
  intro pins s σ H xs us Q J r h
  obtain ⟨a, d, rfl, dp, ⟨sh, sw, sz⟩, q⟩ := h
  obtain ⟨u, rfl, rv⟩ := vals1 r
  have eu : u = .ref a := rv
  subst eu
  obtain ⟨as, rd⟩ := Dp.reads J d _ _ dp rfl
  have cl : d.canLay0 = true := SeqAt.canLay_of_shaped sh
  have dd := SeqAt.depth_of_shaped sh
  refine repr_of_reads' rd sw (PyData.noDict_hsm (PyData.hasDict_of_canLay d cl)) gd (by omega) (fun _ _ e => e) (fun h' t tk hk => ?_) (Nat.le_of_lt (small sz))
  exact ⟨.str d.shown, H, Inv.turnedL (ch := []) J (fun b o _ e => hk b o e) (fun b z => nomatch z), ⟨t, rfl⟩, q⟩
def oEqS : List PyData → Option PyData
  | [.str a, .str b] => some (.bool (decide (a = b)))
  | _ => none
def oNeS : List PyData → Option PyData
  | [.str a, .str b] => some (.bool (!decide (a = b)))
  | _ => none
def kEqx : KK := kOr (kE oEqS) (kE oEq)
def kNex : KK := kOr (kE oNeS) (kE oNe)
theorem ok_eqS {K : PySem.W.Frag} : OkE K oEqS (l2 rEq) := by
  intro B H vs xs z Q cn ho q x y e
  unfold oEqS at ho
  split at ho
  · rename_i a b
    cases ho
    obtain ⟨v, w, e2, c1, c2⟩ := cn.two
    rw [e] at e2
    cases e2
    have e1 := c1.str
    have e3 := c2.str
    subst e1 e3
    refine ⟨rfl, ?_⟩
    have : decide (V.str a = V.str b) = decide (a = b) := by by_cases h : a = b <;> simp [h]
    rw [this]
    exact q _ (.bl _)
  · cases ho
theorem ok_neS {K : PySem.W.Frag} : OkE K oNeS (l2 rNe) := by
  intro B H vs xs z Q cn ho q x y e
  unfold oNeS at ho
  split at ho
  · rename_i a b
    cases ho
    obtain ⟨v, w, e2, c1, c2⟩ := cn.two
    rw [e] at e2
    cases e2
    have e1 := c1.str
    have e3 := c2.str
    subst e1 e3
    refine ⟨rfl, ?_⟩
    have : decide (V.str a = V.str b) = decide (a = b) := by by_cases h : a = b <;> simp [h]
    rw [this]
    exact q _ (.bl _)
  · cases ho
section
variable {X : Cx} {k : Nat}
theorem q_eqx (hr : Room k X.A) : Cmp2 X .Eq kEqx := ⟨_, OpR.or op_eq (op_eqD (u64 hr)), con_or2 (con_E ok_eqS) (con_E ok_eq)⟩
theorem q_nex (hr : Room k X.A) : Cmp2 X .NotEq kNex := ⟨_, OpR.or op_ne (op_neD (u64 hr)), con_or2 (con_E ok_neS) (con_E ok_ne)⟩
end
end T3
namespace T3
open PySem PySem.Spec PyProof.Rows L2
variable [TabL]
def eEqx (fa fb : EE) : EE := eThen (eTwo fa fb) kEqx
def eNex (fa fb : EE) : EE := eThen (eTwo fa fb) kNex
@[simp] theorem z_eqx (env : Sl) (fa fb : EE) : eEqx fa fb env = eThen (eCons fa (eCons fb eNil)) kEqx env := rfl
@[simp] theorem z_nex (env : Sl) (fa fb : EE) : eNex fa fb env = eThen (eCons fa (eCons fb eNil)) kNex env := rfl
theorem fn_okG {P : Program} {w : World} {K : PySem.W.Frag} {mg : Str → Option Value} {base : Heap} {x : Str} {st : Stmt} {f : Addr} {fd : FuncData} {N ps : List Str} {k n : Nat} {b : SS} (Fn : Fun K x x st f fd) (Sc : FnScope N ps (defScope st)) (hn : n = ps.length)
    (hb : ∀ (cdv : Value) (A : Around) (out : List Env) (s : Shared) (H : Hp) (E : XK), Room k (A.deeper (envOfC x (defScope st) s.heap.objs.size f cdv)) → (A.deeper (envOfC x (defScope st) s.heap.objs.size f cdv)).guards = some [] →
      PSs (cxOf CX0 P w K mg base N x (defScope st) f cdv A out s H E).nox (defBody st) (tS K b)) : FnG P w K mg base (k + 1) f fd ps (spF K (runFn N.length b) n) := by
  obtain ⟨oc, od, kV, doc, pm, an, cdv, ct, osl, rfl, lk, hcd⟩ := Fn.ex
  exact fnG_of lk hcd Sc (spF_len hn) fun A out s H xs Q E rm gd hs => ⟨_, (hb cdv A out s H E rm gd).nox, fn_body hs⟩
end T3

end
section
set_option linter.all false
set_option autoImplicit false
set_option Elab.async false
namespace T3
open PySem PySem.Spec PyProof.Rows L2
variable [TabL]
end T3

end
section
set_option linter.all false
set_option autoImplicit false
set_option Elab.async false
namespace T3
open PySem PySem.Spec PyProof.Rows L2
variable [TabL]
def strs? : List PyData → Option (List Str)
  | [] => some []
  | .str s :: xs => match strs? xs with
    | none => none
    | some ys => some (s :: ys)
  | _ => none
theorem strs_map : ∀ {xs : List PyData} {ys : List Str}, strs? xs = some ys → xs = ys.map .str
  | [], ys, h => by cases h; rfl
  | .str s :: xs, ys, h => by
    unfold strs? at h
    split at h
    · cases h
    · rename_i zs hz
      cases h
      rw [strs_map hz]
      rfl
  | .int _ :: _, _, h => by cases h
  | .bool _ :: _, _, h => by cases h
  | .none :: _, _, h => by cases h
  | .list _ :: _, _, h => by cases h
  | .tuple _ :: _, _, h => by cases h
  | .dict _ :: _, _, h => by cases h
def JoOk (a : Str) (ys : List Str) : Prop := (ys.map (·.length)).sum + ys.length * a.length ≤ 16777216
noncomputable instance (a : Str) (ys : List Str) : Decidable (JoOk a ys) := Classical.propDecidable _
section
variable {X : Cx} {o e : Expr} {fo : EE} {fa : EA} {apos cpos : Pos}
end
end T3

end
section
set_option linter.all false
set_option autoImplicit false
set_option Elab.async false
namespace T3
open PySem L2
variable [TabL]

mutual
def nk? : PyData → Option NestedKey
  | .none => some .none
  | .int i => some (.num i)
  | .tuple xs => match nks? xs with
    | some ks => some (.tup ks)
    | none => none
  | .bool _ => none
  | .str _ => none
  | .list _ => none
  | .dict _ => none
def nks? : List PyData → Option (List NestedKey)
  | [] => some []
  | x :: xs => match nk? x with
    | some k => match nks? xs with
      | some ks => some (k :: ks)
      | none => none
    | none => none
end
mutual
theorem nk_ok : ∀ (x : PyData) (k : NestedKey), nk? x = some k → k.data = x ∧ ∀ w w', NestedKey.hash w k = NestedKey.hash w' k
  | .none, k, h => by simp only [nk?, Option.some.injEq] at h; subst h; exact ⟨by simp only [NestedKey.data], fun _ _ => by simp only [NestedKey.hash]⟩
  | .int i, k, h => by simp only [nk?, Option.some.injEq] at h; subst h; exact ⟨by simp only [NestedKey.data], fun _ _ => by simp only [NestedKey.hash]⟩
  | .tuple xs, k, h => by
    rw [nk?] at h
    cases e : nks? xs with
    | none => rw [e] at h; cases h
    | some ks =>
      rw [e] at h
      cases h
      obtain ⟨h1, h2⟩ := nks_ok xs ks e
      exact ⟨by rw [NestedKey.data, h1], fun w w' => by rw [NestedKey.hash, NestedKey.hash, h2 w w']⟩
  | .bool _, k, h => by simp [nk?] at h
  | .str _, k, h => by simp [nk?] at h
  | .list _, k, h => by simp [nk?] at h
  | .dict _, k, h => by simp [nk?] at h
theorem nks_ok : ∀ (xs : List PyData) (ks : List NestedKey), nks? xs = some ks → NestedKey.datas ks = xs ∧ ∀ w w', NestedKey.hashes w ks = NestedKey.hashes w' ks
  | [], ks, h => by simp only [nks?, Option.some.injEq] at h; subst h; exact ⟨by simp only [NestedKey.datas], fun _ _ => by simp only [NestedKey.hashes]⟩
  | x :: xs, ks, h => by
    rw [nks?] at h
    cases e : nk? x with
    | none => rw [e] at h; cases h
    | some k =>
      cases e2 : nks? xs with
      | none => rw [e, e2] at h; cases h
      | some ks' =>
        rw [e, e2] at h
        cases h
        obtain ⟨h1, h2⟩ := nk_ok x k e
        obtain ⟨h3, h4⟩ := nks_ok xs ks' e2
        exact ⟨by rw [NestedKey.datas, h1, h3], fun w w' => by rw [NestedKey.hashes, NestedKey.hashes, h2 w w', h4 w w']⟩
end
def tk? (x : PyData) : Option NestedKey := match nk? x with
  | some (.tup ks) => if (NestedKey.tup ks).depth ≤ 8 then some (.tup ks) else none
  | _ => none
theorem tk_ok {x : PyData} {k : NestedKey} (h : tk? x = some k) : NkOk k ∧ k.data = x := by
  unfold tk? at h
  split at h
  · rename_i ks e
    split at h
    · rename_i hd
      cases h
      obtain ⟨h1, h2⟩ := nk_ok _ _ e
      exact ⟨⟨hd, h2, ks, rfl⟩, h1⟩
    · cases h
  · cases h

def valN (kvs : List (NestedKey × PyData)) (k : NestedKey) : Option PyData := (kvs.find? fun q => decide (q.1 = k)).map (·.2)
def putN (kvs : List (NestedKey × PyData)) (k : NestedKey) (x : PyData) : List (NestedKey × PyData) :=
  if (valN kvs k).isSome = true then kvs.map (fun q => if q.1 = k then (q.1, x) else q) else kvs ++ [(k, x)]

def DnAt (K : PySem.W.Frag) (B : Mset) (H : Hp) (a : Addr) (kvs : List (NestedKey × PyData)) : Prop :=
  (kvs = [] ∧ H a = some (.dK [])) ∨ ∃ es, H a = some (DnO a es) ∧ DnR K B H es kvs

def KnE (K : PySem.W.Frag) (B : Mset) (H : Hp) (q : NestedKey × PyData) (x : NestedKey × Addr × Value) : Prop :=
  x.1 = q.1 ∧ NkOk q.1 ∧ Rp K B H (.ref x.2.1) q.1.data ∧ ∃ v, RelV v x.2.2 ∧ Rp K B H v q.2
abbrev Kn (K : PySem.W.Frag) (B : Mset) (H : Hp) : List (NestedKey × PyData) → List (NestedKey × Addr × Value) → Prop := Paired (KnE K B H)

section
variable {K : PySem.W.Frag} {B : Mset} {H : Hp}
theorem Kn.val {k : NestedKey} : ∀ {kvs : List (NestedKey × PyData)} {xs : List (NestedKey × Addr × Value)}, Kn K B H kvs xs → (∃ p v z, atKey xs k = some p ∧ valN kvs k = some z ∧ RelV v p.2 ∧ Rp K B H v z) ∨ (atKey xs k = none ∧ valN kvs k = none)
  | _, _, .nil => .inr ⟨rfl, rfl⟩
  | _, _, .cons (a := q) (b := x) r t => by
    obtain ⟨e1, _, _, v, rv, rp⟩ := r
    by_cases e : q.1 = k
    · have e' : x.1 = k := by rw [e1]; exact e
      exact .inl ⟨x.2, v, q.2, by simp [atKey, e'], by simp [valN, e], rv, rp⟩
    · have e' : ¬ x.1 = k := by rw [e1]; exact e
      rcases Kn.val (k := k) t with ⟨p, v, z, h1, h2, h3⟩ | ⟨h1, h2⟩
      · exact .inl ⟨p, v, z, by simpa [atKey, e'] using h1, by simpa [valN, e] using h2, h3⟩
      · exact .inr ⟨by simpa [atKey, e'] using h1, by simpa [valN, e] using h2⟩
theorem Kn.map {k : NestedKey} {v : V} {u : Value} {z : PyData} (rv : RelV v u) (rp : Rp K B H v z) : ∀ {kvs : List (NestedKey × PyData)} {xs : List (NestedKey × Addr × Value)}, Kn K B H kvs xs → Kn K B H (kvs.map fun q => if q.1 = k then (q.1, z) else q) (xs.map (putAt k u))
  | _, _, .nil => .nil
  | _, _, .cons (a := q) (b := x) r t => by
    refine .cons ?_ (Kn.map rv rp t)
    obtain ⟨e1, e2, e3, e4⟩ := r
    by_cases e : q.1 = k
    · have e' : x.1 = k := by rw [e1]; exact e
      unfold putAt
      dsimp only
      rw [if_pos e, if_pos e']
      exact ⟨e1, e2, e3, v, rv, rp⟩
    · have e' : ¬ x.1 = k := by rw [e1]; exact e
      unfold putAt
      dsimp only
      rw [if_neg e, if_neg e']
      exact ⟨e1, e2, e3, e4⟩
theorem Kn.snoc {q : NestedKey × PyData} {x : NestedKey × Addr × Value} (r : KnE K B H q x) : ∀ {kvs : List (NestedKey × PyData)} {xs : List (NestedKey × Addr × Value)}, Kn K B H kvs xs → Kn K B H (kvs ++ [q]) (xs ++ [x])
  | _, _, .nil => .cons r .nil
  | _, _, .cons h t => .cons h (Kn.snoc r t)
theorem Kn.put {k : NestedKey} {b : Addr} {v : V} {u : Value} {z : PyData} {kvs : List (NestedKey × PyData)} {xs : List (NestedKey × Addr × Value)} (h : Kn K B H kvs xs) (hk : NkOk k) (rk : Rp K B H (.ref b) k.data) (rv : RelV v u) (rp : Rp K B H v z) : Kn K B H (putN kvs k z) (storedH xs k b u) := by
  unfold putN storedH
  rcases h.val (k := k) with ⟨p, v', z', h1, h2, _⟩ | ⟨h1, h2⟩
  · rw [h1, h2]
    exact h.map rv rp
  · rw [h1, h2]
    exact h.snoc ⟨rfl, hk, rk, v, rv, rp⟩
theorem Kn.dn {P : Program} {w : World} : ∀ {kvs : List (NestedKey × PyData)} {xs : List (NestedKey × Addr × Value)}, Kn K B H kvs xs → Paired (DnE K B H) (xs.map (entryOfKey (nestedKind P w))) kvs
  | _, _, .nil => .nil
  | _, _, .cons (a := q) (b := x) r t => by
    obtain ⟨e1, e2, e3, e4⟩ := r
    refine .cons ⟨e2, fun w' => ?_, ⟨x.2.1, rfl, e3⟩, e4⟩ (Kn.dn t)
    show _ = NestedKey.hash w x.1
    rw [e1]
    exact e2.2.1 w' w
theorem Kn.of {P : Program} {w : World} : ∀ {es : List DictEntry} {kvs : List (NestedKey × PyData)}, Paired (DnE K B H) es kvs → ∃ xs, Kn K B H kvs xs ∧ es = xs.map (entryOfKey (nestedKind P w))
  | _, _, .nil => ⟨[], .nil, rfl⟩
  | _, _, .cons (a := e) (b := q) r t => by
    obtain ⟨xs, h1, h2⟩ := Kn.of (P := P) (w := w) t
    obtain ⟨e1, e2, ⟨b, e3, e4⟩, e5⟩ := r
    refine ⟨(q.1, b, e.val) :: xs, .cons ⟨rfl, e1, e4, e5⟩ h1, ?_⟩
    rw [List.map_cons, ← h2]
    congr 1
    show e = ⟨NestedKey.hash w q.1, .ref b, e.val⟩
    rw [e2 w, ← e3]
theorem Kn.len {kvs : List (NestedKey × PyData)} {xs : List (NestedKey × Addr × Value)} (h : Kn K B H kvs xs) : kvs.length = xs.length := Paired.length h
theorem Kn.keys : ∀ {kvs : List (NestedKey × PyData)} {xs : List (NestedKey × Addr × Value)}, Kn K B H kvs xs → xs.map (·.1) = kvs.map (·.1)
  | _, _, .nil => rfl
  | _, _, .cons r t => by rw [List.map_cons, List.map_cons, r.1, Kn.keys t]
end

mutual
theorem nk_is {P : Program} {w : World} {K : PySem.W.Frag} {B : Mset} {H : Hp} {h : Heap} (hok : HOk P w H h) (KX : K.In h) : ∀ (k : NestedKey) (v : V) (u : Value), Rp K B H v k.data → RelV v u → NestedIs h k u
  | .none, v, u, r, q => by
    rw [NestedKey.data] at r
    cases r
    cases (show u = Value.none from q)
    exact .none
  | .num i, v, u, r, q => by
    rw [NestedKey.data] at r
    cases r
    obtain ⟨t, rfl⟩ := (show ∃ t, u = Value.int i t from q)
    exact .int i t
  | .text x, v, u, r, q => by
    rw [NestedKey.data] at r
    cases r
    obtain ⟨t, rfl⟩ := (show ∃ t, u = Value.str x t from q)
    exact .text x t
  | .tup ks, v, u, r, q => by
    rw [NestedKey.data] at r
    cases r with
    | @tup a xs ds h1 h2 =>
      cases (show u = Value.ref a from q)
      obtain ⟨its, o, n, rv, ho, hc, hd⟩ := sqT_at hok KX h1
      exact .tup ho hc hd (nks_is hok KX ks xs its h2 rv)
theorem nks_is {P : Program} {w : World} {K : PySem.W.Frag} {B : Mset} {H : Hp} {h : Heap} (hok : HOk P w H h) (KX : K.In h) : ∀ (ks : List NestedKey) (vs : List V) (us : List Value), RpA K B H vs (NestedKey.datas ks) → Vals vs us → NestedAll h ks us
  | [], vs, us, r, q => by
    rw [NestedKey.datas] at r
    cases r
    cases q
    exact .nil
  | k :: ks, vs, us, r, q => by
    rw [NestedKey.datas] at r
    cases r with
    | cons r1 r2 =>
      cases q with
      | cons q1 q2 => exact .cons (nk_is hok KX k _ _ r1 q1) (nks_is hok KX ks _ _ r2 q2)
end

section
variable {X : Cx} {pins : List (Addr × Obj)} {σ : St} {H : Hp} {s : Shared} {a : Addr} {A : Around} {E : Value → Shared → Prop} {B : Mset} {kvs : List (NestedKey × PyData)} {k : NestedKey}
theorem room9 (hu : A.units + 9 < cLine) : (nestedKind X.prog X.w).room A.in1 := by
  show A.units + 1 + 8 < cLine
  omega
theorem nk_key (I : Inv X pins σ H s) (hk : NkOk k) {b : Addr} (r : Rp X.K B H (.ref b) k.data) : (nestedKind X.prog X.w).is s.heap k b := ⟨nk_is I.hok I.kIn k _ _ r rfl, hk.1⟩
theorem nk_ref (hk : NkOk k) {y : V} {K : PySem.W.Frag} (r : Rp K B H y k.data) : ∃ b, y = .ref b := by
  obtain ⟨_, _, ks, rfl⟩ := hk
  rw [NestedKey.data] at r
  cases r
  exact ⟨_, rfl⟩
theorem dn_open (I : Inv X pins σ H s) (d : DnAt X.K B H a kvs) : (a == sysModules) = false ∧ kvs.length ≤ sizeLine ∧ (kvs.map (·.1)).Nodup ∧ ∃ xs, s.heap.DictOfH (nestedKind X.prog X.w) a xs ∧ Kn X.K B H kvs xs := by
  rcases d with ⟨rfl, d⟩ | ⟨es, d, r⟩
  · obtain ⟨z, y, vs, r, o, es, ep, e1, e2, e3, e4, e5, e6⟩ := dk_of I.hok d
    refine ⟨y, Nat.zero_le _, List.nodup_nil, [], ⟨o, es, ep, e1, e2, e3, ?_, fun _ h => by simp at h, List.nodup_nil⟩, .nil⟩
    cases r
    cases h : es.toList with
    | nil => rfl
    | cons a b => rw [h] at e5; cases e5
  · obtain ⟨⟨y, z, e1, e2, e3⟩, _⟩ := I.hok a _ d
    obtain ⟨xs, x1, x2⟩ := Kn.of (P := X.prog) (w := X.w) r.ent
    refine ⟨y, by rw [← Paired.length r.ent]; exact z, r.nd, xs, ⟨es.o, es.es.toArray, es.ep, e1, e2, e3, by simpa using x2, ?_, by rw [x1.keys]; exact r.nd⟩, x1⟩
    intro x hx
    have all : ∀ {kvs : List (NestedKey × PyData)} {xs : List (NestedKey × Addr × Value)}, Kn X.K B H kvs xs → ∀ x ∈ xs, NkOk x.1 ∧ Rp X.K B H (.ref x.2.1) x.1.data := by
      intro kvs xs h
      induction h with
      | nil => intro x hx; simp at hx
      | cons r t ih =>
        intro x hx
        rcases List.mem_cons.mp hx with rfl | hx
        · obtain ⟨e1, e2, e3, _⟩ := r
          rw [e1]; exact ⟨e2, e3⟩
        · exact ih x hx
    obtain ⟨h1, h2⟩ := all x1 x hx
    exact nk_key I h1 h2
end

def DGt (K : PySem.W.Frag) (B : Mset) (H : Hp) (a : Addr) (y : V) (o : Option PyData) : Prop :=
  (∃ kvs ws k, H a = some (.dK ws) ∧ KvR K B H ws kvs ∧ y = kV k ∧ o = valD kvs k) ∨ ∃ kvs k, DnAt K B H a kvs ∧ NkOk k ∧ Rp K B H y k.data ∧ o = valN kvs k
section
variable {X : Cx} {pins : List (Addr × Obj)} {σ : St} {H : Hp} {s : Shared} {a : Addr} {A : Around} {E : Value → Shared → Prop} {B : Mset} {y : V} {u : Value} {o : Option PyData}
theorem dg_type (I : Inv X pins σ H s) (g : DGt X.K B H a y o) : s.TypeIs (.ref a) "dict" := by
  rcases g with ⟨kvs, ws, k, e, _⟩ | ⟨kvs, k, e, _⟩
  · obtain ⟨_, _, vs, _, dd⟩ := dk_of I.hok e
    exact dd.typeIs
  · obtain ⟨_, _, _, xs, dd, _⟩ := dn_open I e
    exact dd.typeIs
theorem dg_getItem {z : PyData} {Q : Value → Shared → Prop} (hu : A.units + 9 < cLine) (I : Inv X pins σ H s) (g : DGt X.K B H a y (some z)) (ry : RelV y u)
    (h : ∀ w' s' v, Inv X pins σ H s' → RelV v w' → Rp X.K B H v z → Q w' s') : wpAny (model X.prog X.w) A (getItem (.ref a) u) Q E s := by
  rcases g with ⟨kvs, ws, k, e, r, rfl, l⟩ | ⟨kvs, k, e, hk, rk, l⟩
  · rcases r.val (k := k) with ⟨v, x, h1, h2, h3⟩ | ⟨h1, h2⟩
    · rw [h2] at l; cases l
      exact d_getItem (by omega) I (.inl ⟨ws, k, .inl e, rfl, h1.symm⟩) ry fun w' s' I' rv => h w' s' v I' rv h3
    · rw [h2] at l; cases l
  · obtain ⟨b, rfl⟩ := nk_ref hk rk
    cases (show u = Value.ref b from ry)
    obtain ⟨_, _, _, xs, dd, kn⟩ := dn_open I e
    rcases kn.val (k := k) with ⟨p, v, z', h1, h2, h3, h4⟩ | ⟨h1, h2⟩
    · rw [h2] at l; cases l
      exact wpAny_getItem_heap (room9 hu) (nk_key I hk rk) dd h1 (h _ _ v (I.tok _) h3 h4)
    · rw [h2] at l; cases l
theorem dg_notIn {Q : Value → Shared → Prop} (hu : A.units + 9 < cLine) (I : Inv X pins σ H s) (g : DGt X.K B H a y o) (ry : RelV y u) (h : ∀ s', Inv X pins σ H s' → Q (.bool (!o.isSome)) s') :
    wpAny (model X.prog X.w) A (compareOp .NotIn u (.ref a)) Q E s := by
  rcases g with ⟨kvs, ws, k, e, r, rfl, l⟩ | ⟨kvs, k, e, hk, rk, l⟩
  · refine d_notIn (o := valV ws k) (by omega) I (.inl ⟨ws, k, .inl e, rfl, rfl⟩) ry fun s' I' => ?_
    have e : (valV ws k).isSome = o.isSome := by
      rcases r.val (k := k) with ⟨v, x, z1, z2, _⟩ | ⟨z1, z2⟩
      · rw [l, z1, z2]; rfl
      · rw [l, z1, z2]; rfl
    rw [e]
    exact h s' I'
  · obtain ⟨b, rfl⟩ := nk_ref hk rk
    cases (show u = Value.ref b from ry)
    obtain ⟨ns, _, _, xs, dd, kn⟩ := dn_open I e
    refine PyProof.Rows.wpAny_notIn_heap (room9 hu) (nk_key I hk rk) ns dd ?_
    have e : (atKey xs k).isSome = o.isSome := by
      rcases kn.val (k := k) with ⟨p, v, z', h1, h2, _⟩ | ⟨h1, h2⟩
      · rw [l, h1, h2]; rfl
      · rw [l, h1, h2]; rfl
    rw [e]
    exact h _ (I.tok _)
end
end T3

end
section
set_option linter.all false
set_option autoImplicit false
set_option Elab.async false
namespace T3
open PySem L2
variable [TabL]

def pdOf : R → Option PyData
  | .pd x => some x
  | .nt xs => some (.tuple xs)
  | .tmp _ => none
  | .var _ => none
theorem pdOf_rp {K : PySem.W.Frag} {H₀ : Hp} {B : Mset} {H : Hp} {σ : St} {env : Sl} {v : V} {d : R} {x : PyData} (h : RR K H₀ B H σ env v d) (e : pdOf d = some x) : Rp K B H v x := by
  cases d with
  | pd y => cases e; exact h
  | nt y => cases e; obtain ⟨a, rfl, h⟩ := h; exact h.rp
  | tmp t => cases e
  | var i => cases e
def cGet : Ct → PyData → Option (Option PyData)
  | .dk kvs, y => match key? y with
    | some k => some (valD kvs k)
    | none => match tk? y with
      | some _ => match kvs with
        | [] => some none
        | _ :: _ => none
      | none => none
  | .dn kvs, y => match tk? y with
    | some k => some (valN kvs k)
    | none => none
  | .ls _, _ => none
theorem cGet_ok {K : PySem.W.Frag} {B : Mset} {H : Hp} {a : Addr} {c : Ct} {v : V} {y : PyData} {o : Option PyData} (hc : CtR K B H a c) (r : Rp K B H v y) (e : cGet c y = some o) : DGt K B H a v o := by
  cases c with
  | ls xs => cases e
  | dk kvs =>
    obtain ⟨ws, h1, h2⟩ := hc
    dsimp only [cGet] at e
    split at e
    · rename_i k hk
      cases e
      exact .inl ⟨kvs, ws, k, h1, h2, key_v r hk, rfl⟩
    · split at e
      · rename_i k hk
        split at e
        · cases e
          obtain ⟨k1, k2⟩ := tk_ok hk
          refine .inr ⟨[], k, .inl ⟨rfl, ?_⟩, k1, by rw [k2]; exact r, rfl⟩
          cases h2
          exact h1
        · cases e
      · cases e
  | dn kvs =>
    obtain ⟨es, h1, h2⟩ := hc
    dsimp only [cGet] at e
    split at e
    · rename_i k hk
      cases e
      obtain ⟨k1, k2⟩ := tk_ok hk
      exact .inr ⟨kvs, k, .inr ⟨es, h1, h2⟩, k1, by rw [k2]; exact r, rfl⟩
    · cases e
def dGet (env : Sl) (j : Nat) (y : PyData) : Option (Option PyData) := match env[j]? with
  | some (some (.mu _ c)) => cGet c y
  | _ => none
theorem dGet_ok {K : PySem.W.Frag} {B : Mset} {H : Hp} {σ : St} {env : Sl} {j : Nat} {w v : V} {y : PyData} {o : Option PyData} (en : EnvR K B H σ env) (hx : σ[j]? = some (some w)) (r : Rp K B H v y) (e : dGet env j y = some o) : ∃ a, w = .ref a ∧ DGt K B H a v o := by
  unfold dGet at e
  split at e
  · rename_i m c hm
    obtain ⟨p, g1, g2, g3⟩ := en.mu j _ _ hm
    rw [hx] at g1
    cases g1
    exact ⟨p, rfl, cGet_ok g3 r e⟩
  · cases e
def eDg (fd fk : EE) : EE := fun env => match fd env with
  | some (.var j, e1) => match fk e1 with
    | some (d, e2) => match pdOf d with
      | some y => match dGet e2 j y with
        | some (some z) => some (.pd z, e2)
        | _ => none
      | none => none
    | none => none
  | _ => none
def tDg (K : PySem.W.Frag) (td ty : TE) : TE := fun σ H Q => td σ H fun x H1 => ty σ H1 fun y H2 => ∃ B a z, x = .ref a ∧ DGt K B H2 a y (some z) ∧ ∀ v, Rp K B H2 v z → Q v H2
theorem pe_dg {X : Cx} {o i : Expr} {pos : Pos} {td ty : TE} (hu : X.A.units + 9 < cLine) (ho : PE X o td) (hi : PE X i ty) (hs : NoSl i) : PE X (.Subscript o i pos) (tDg X.K td ty) := by
  refine ⟨fun pins s σ H Q I h => ?_⟩
  refine subD_of PySem.F.slot_dict_getitem.lookup hs (thn (ho.run pins s σ H _ I h) fun u s1 ⟨x, H1, I1, rx, q1⟩ => thn (hi.run pins s1 σ H1 _ I1 q1) fun iv s2 ⟨y, H2, I2, ry, B, a, z, ex, g, q2⟩ => ?_)
  subst ex
  obtain rfl : u = Value.ref a := rx
  exact ⟨dg_type I2 g, dg_getItem hu I2 g ry fun w' s3 v I3 rw' rz => ⟨v, H2, I3, rw', q2 v rz⟩⟩
theorem e_dg {X : Cx} {o i : Expr} {pos : Pos} {fd fk : EE} (hu : X.A.units + 9 < cLine) (ho : PE X o (tE X.K fd)) (hi : PE X i (tE X.K fk)) (hs : NoSl i := by intro _ _; rfl) : PE X (.Subscript o i pos) (tE X.K (eDg fd fk)) := PE.imp (pe_dg hu ho hi hs) fun σ H Q t => by
  obtain ⟨B, env, d, env', en, ev, q⟩ := t
  unfold eDg at ev
  split at ev
  · rename_i j e1 h1
    split at ev
    · rename_i d' e2 h2
      split at ev
      · rename_i y hy
        split at ev
        · rename_i z hz
          cases ev
          refine ⟨B, env, _, _, en, h1, fun B1 H1 w a1 r1 => ⟨B1, e1, _, _, a1.en, h2, fun B2 H2 v a2 r2 => ?_⟩⟩
          obtain ⟨a, rfl, g⟩ := dGet_ok a2.en r1.1 (pdOf_rp r2 hy) hz
          exact ⟨B2, a, z, rfl, g, fun v r => q B2 H2 v (a1.trans en a2) r⟩
        · cases ev
      · cases ev
    · cases ev
  · cases ev
def eDi (neg : Bool) (fk fd : EE) : EE := fun env => match fk env with
  | some (d, e1) => match pdOf d with
    | some y => match fd e1 with
      | some (.var j, e2) => match dGet e2 j y with
        | some o => some (.pd (.bool (if neg = true then !o.isSome else o.isSome)), e2)
        | none => none
      | _ => none
    | none => none
  | none => none
def tDi (K : PySem.W.Frag) (neg : Bool) (ty td : TE) : TE := fun σ H Q => ty σ H fun y H1 => td σ H1 fun x H2 => ∃ B a o, x = .ref a ∧ DGt K B H2 a y o ∧ Q (.bl (if neg = true then !o.isSome else o.isSome)) H2
theorem pc_dni {X : Cx} {i o : Expr} {td ty : TE} (hu : X.A.units + 9 < cLine) (hi : PE X i ty) (ho : PE X o td) : PC X .NotIn i o (tDi X.K true ty td) := by
  refine ⟨fun pins s σ H Q I h => ?_⟩
  refine thn (hi.run pins s σ H _ I h) fun iv s1 ⟨y, H1, I1, ry, q1⟩ => thn (ho.run pins s1 σ H1 _ I1 q1) fun u s2 ⟨x, H2, I2, rx, B, a, ov, ex, g, q2⟩ => ?_
  subst ex
  obtain rfl : u = Value.ref a := rx
  exact dg_notIn hu I2 g ry fun s3 I3 => ⟨.bl (!ov.isSome), H2, I3, rfl, q2⟩
theorem rd_di {K : PySem.W.Frag} {fk fd : EE} {neg : Bool} {σ : St} {H : Hp} {Q : VK} (t : tE K (eDi neg fk fd) σ H Q) : tDi K neg (tE K fk) (tE K fd) σ H Q := by
  obtain ⟨B, env, d, env', en, ev, q⟩ := t
  unfold eDi at ev
  split at ev
  · rename_i d' e1 h1
    split at ev
    · rename_i y hy
      split at ev
      · rename_i j e2 h2
        split at ev
        · rename_i o ho
          cases ev
          refine ⟨B, env, _, _, en, h1, fun B1 H1 v a1 r1 => ⟨B1, e1, _, _, a1.en, h2, fun B2 H2 w a2 r2 => ?_⟩⟩
          obtain ⟨a, rfl, g⟩ := dGet_ok a2.en r2.1 ((pdOf_rp r1 hy).grow (a2.grow a1.en)) ho
          exact ⟨B2, a, o, rfl, g, q B2 H2 _ (a1.trans en a2) (.bl _)⟩
        · cases ev
      · cases ev
    · cases ev
  · cases ev
section
variable {X : Cx} {i o : Expr} {fk fd : EE} {pos : Pos}
theorem y_dni (hu : X.A.units + 9 < cLine) (hi : PE X i (tE X.K fk)) (ho : PE X o (tE X.K fd)) (h1 : behindInMarks .NotIn o = false := by rfl) : PT X (.Compare i [.NotIn] [o] pos) (tT X.K (bT (eDi true fk fd))) := b_of (pt_cmp (pc_dni hu hi ho) h1) fun σ H Q t => rd_di t
end

def cPut : Ct → PyData → PyData → Option Ct
  | .dk kvs, y, x => if kvs.length ≤ 1000000 then match key? y with
    | some k => some (.dk (putD kvs k x))
    | none => match tk? y with
      | some k => match kvs with
        | [] => some (.dn [(k, x)])
        | _ :: _ => none
      | none => none
    else none
  | .dn kvs, y, x => if kvs.length ≤ 1000000 then match tk? y with
    | some k => some (.dn (putN kvs k x))
    | none => none
    else none
  | .ls _, _, _ => none
def rSetD (K : PySem.W.Frag) : TSet := fun o i v H Q => ∃ B a x, o = .ref a ∧ Rp K B H v x ∧
  ((∃ kvs ws k, H a = some (.dK ws) ∧ KvR K B H ws kvs ∧ ws.length < sizeLine ∧ i = kV k ∧ Q (upd H a (.dK (putK ws k v)))) ∨
   ∃ kvs k, DnAt K B H a kvs ∧ NkOk k ∧ Rp K B H i k.data ∧ kvs.length < sizeLine ∧ ∀ es, DnR K B H es (putN kvs k x) → Q (upd H a (DnO a es)))
theorem valN_nd {kvs : List (NestedKey × PyData)} {k : NestedKey} (h : valN kvs k = none) : k ∉ kvs.map (·.1) := by
  unfold valN at h
  rw [Option.map_eq_none_iff, List.find?_eq_none] at h
  intro hm
  obtain ⟨q, h1, h2⟩ := List.mem_map.mp hm
  exact h q h1 (by simp [h2])
theorem putN_nd {kvs : List (NestedKey × PyData)} {k : NestedKey} {x : PyData} (h : (kvs.map (·.1)).Nodup) : ((putN kvs k x).map (·.1)).Nodup := by
  unfold putN
  split
  · have e : (kvs.map fun q => if q.1 = k then (q.1, x) else q).map (·.1) = kvs.map (·.1) := by
      rw [List.map_map]
      refine List.map_congr_left fun q _ => ?_
      show (if q.1 = k then (q.1, x) else q).1 = q.1
      split <;> rfl
    rw [e]; exact h
  · rename_i hn
    have hn' : valN kvs k = none := by
      cases e : valN kvs k with
      | none => rfl
      | some z => rw [e] at hn; exact absurd rfl hn
    rw [List.map_append, List.nodup_append]
    refine ⟨h, by simp, fun a ha b hb => ?_⟩
    simp only [List.map_cons, List.map_nil, List.mem_singleton] at hb
    subst hb
    intro e
    subst e
    exact valN_nd hn' ha
theorem putN_len (kvs : List (NestedKey × PyData)) (k : NestedKey) (x : PyData) : (putN kvs k x).length ≤ kvs.length + 1 := by
  unfold putN
  split <;> simp
theorem dn_put {X : Cx} {pins : List (Addr × Obj)} {σ : St} {H : Hp} {s : Shared} {a : Addr} {A : Around} {E : Value → Shared → Prop} {B : Mset} {kvs : List (NestedKey × PyData)} {k : NestedKey} {i v : V} {iv u : Value} {x : PyData} {Q : Unit → Shared → Prop}
    (hu : A.units + 9 < cLine) (I : Inv X pins σ H s) (d : DnAt X.K B H a kvs) (hk : NkOk k) (rk : Rp X.K B H i k.data) (hl : kvs.length < sizeLine) (ri : RelV i iv) (rv : RelV v u) (rp : Rp X.K B H v x)
    (h : ∀ es s', DnR X.K B H es (putN kvs k x) → Inv X pins σ (upd H a (DnO a es)) s' → Q () s') : wpAny (model X.prog X.w) A (setItem (.ref a) iv u) Q E s := by
  obtain ⟨b, rfl⟩ := nk_ref hk rk
  cases (show iv = Value.ref b from ri)
  obtain ⟨ns, _, nd, xs, dd, kn⟩ := dn_open I d
  have mu : Mut (H a) := by
    rcases d with ⟨_, d⟩ | ⟨es, d, _⟩
    · rw [d]; exact True.intro
    · rw [d]; exact True.intro
  refine wpAny_setItem_heap (hsz := by rw [← kn.len]; omega) (room9 hu) (nk_key I hk rk) dd fun h' dd' hs => ?_
  have kn' := kn.put hk rk rv rp
  obtain ⟨q, es, ep, hq, h2, h3, h4, _, h5⟩ := dd'
  refine h ⟨q, ep, (storedH xs k b u).map (entryOfKey (nestedKind X.prog X.w))⟩ _ ⟨kn'.dn, putN_nd nd⟩ (d_write I mu hs ⟨q, hq⟩ ⟨⟨ns, ?_, hq, h2, ?_⟩, ⟨q, hq⟩, fun h1 h2 ⟨z1, z2, z3, z4, z5⟩ st => ⟨z1, z2, st _ z3, z4, z5⟩⟩)
  · dsimp only
    rw [List.length_map, ← kn'.len]
    have := putN_len kvs k x
    omega
  · dsimp only
    rw [← h4, Array.toArray_toList]; exact h3
theorem set_dict {X : Cx} (hu : X.A.units + 9 < cLine) : PSet X (rSetD X.K) := by
  intro pins s σ H o i v ov iv u Q I ro ri rv h
  obtain ⟨B, a, x, rfl, rp, h⟩ := h
  cases (show ov = Value.ref a from ro)
  rcases h with ⟨kvs, ws, k, h1, h2, h3, rfl, q⟩ | ⟨kvs, k, h1, h2, h3, h4, q⟩
  · exact d_setItem (by omega) I (.inl ⟨ws, k, h1, rfl, h3, rfl⟩) ri rv fun s4 I4 => ⟨_, I4, q⟩
  · exact dn_put hu I h1 h2 h3 h4 ri rv rp fun es s' r I' => ⟨_, I', q es r⟩
def dPut (env : Sl) (j : Nat) (y x : PyData) : Option Sl := match env[j]? with
  | some (some (.mu m c)) => if m = .fro then none else match cPut c y x with
    | some c' => some (env.set j (some (.mu m c')))
    | none => none
  | _ => none
theorem lt_line {n : Nat} (h : n ≤ 1000000) : n < sizeLine := small h
theorem dPut_ok {K : PySem.W.Frag} {B : Mset} {H : Hp} {σ : St} {env env' : Sl} {j : Nat} {w v i : V} {y x : PyData} {Q : Hp → Prop} (en : EnvR K B H σ env) (hx : σ[j]? = some (some w)) (ry : Rp K B H i y) (rx : Rp K B H v x) (e : dPut env j y x = some env')
    (q : ∀ B' H', At K σ B H env B' H' env' → Q H') : rSetD K w i v H Q := by
  unfold dPut at e
  split at e
  · rename_i m c hm
    split at e
    · cases e
    rename_i hf
    split at e
    · rename_i c' hc
      cases e
      obtain ⟨p, g1, g2, g3⟩ := en.mu j _ _ hm
      rw [hx] at g1
      cases g1
      refine ⟨B, p, x, rfl, rx, ?_⟩
      cases c with
      | ls xs => cases hc
      | dk kvs =>
        obtain ⟨ws, g4, g5⟩ := g3
        dsimp only [cPut] at hc
        split at hc
        · rename_i hl
          split at hc
          · rename_i k hk
            cases hc
            refine .inl ⟨kvs, ws, k, g4, g5, by rw [g5.len]; exact lt_line hl, key_v ry hk, ?_⟩
            obtain ⟨gw, aw⟩ := AtS.write (o := .dK (putK ws k v)) (c' := .dk (putD kvs k x)) en hm hf hx (fun o' h' im => by rw [g4] at h'; cases h'; exact im) (fun H' _ h1 g' => ⟨_, h1, (g5.put rx).grow g'⟩)
            exact q _ _ aw
          · split at hc
            · rename_i k hk
              split at hc
              · cases hc
                cases g5
                obtain ⟨k1, k2⟩ := tk_ok hk
                refine .inr ⟨[], k, .inl ⟨rfl, g4⟩, k1, by rw [k2]; exact ry, by simpa using lt_line (n := 0) (by omega), fun es r => ?_⟩
                obtain ⟨gw, aw⟩ := AtS.write (o := DnO p es) (c' := .dn [(k, x)]) en hm hf hx (fun o' h' im => by rw [g4] at h'; cases h'; exact im) (fun H' _ h1 g' => ⟨es, h1, DnR.grow g' r⟩)
                exact q _ _ aw
              · cases hc
            · cases hc
        · cases hc
      | dn kvs =>
        obtain ⟨es, g4, g5⟩ := g3
        dsimp only [cPut] at hc
        split at hc
        · rename_i hl
          split at hc
          · rename_i k hk
            cases hc
            obtain ⟨k1, k2⟩ := tk_ok hk
            refine .inr ⟨kvs, k, .inr ⟨es, g4, g5⟩, k1, by rw [k2]; exact ry, lt_line hl, fun es' r => ?_⟩
            obtain ⟨gw, aw⟩ := AtS.write (o := DnO p es') (c' := .dn (putN kvs k x)) en hm hf hx (fun o' h' im => by rw [g4] at h'; cases h'; exact im) (fun H' _ h1 g' => ⟨es', h1, DnR.grow g' r⟩)
            exact q _ _ aw
          · cases hc
        · cases hc
    · cases e
  · cases e
def gDs (fo fi : EE) : GG := fun x env => match fo env with
  | some (.var j, e1) => match fi e1 with
    | some (d, e2) => match pdOf d with
      | some y => dPut e2 j y x
      | none => none
    | none => none
  | _ => none
theorem rd_gDs {K : PySem.W.Frag} {fo fi : EE} {v : V} {σ : St} {H : Hp} {Q : St → Hp → Prop} (h : tG K (gDs fo fi) v σ H Q) : gSub (tE K fo) (tE K fi) (rSetD K) v σ H Q := by
  obtain ⟨B, env, x, env', en, r, ev, q⟩ := h
  unfold gDs at ev
  split at ev
  · rename_i j e1 h1
    split at ev
    · rename_i d e2 h2
      split at ev
      · rename_i y hy
        refine ⟨B, env, _, _, en, h1, fun B1 H1 o a1 r1 => ⟨B1, e1, _, _, a1.en, h2, fun B2 H2 w a2 r2 => ?_⟩⟩
        have a12 := a1.trans en a2
        exact dPut_ok a2.en r1.1 (pdOf_rp r2 hy) (r.grow (a12.grow en)) ev fun B' H' a => q _ _ _ ((a12.trans en a).s)
      · cases ev
    · cases ev
  · cases ev
theorem g_dsub {X : Cx} {o i : Expr} {pos : Pos} {fo fi : EE} (hu : X.A.units + 9 < cLine) (ho : PE X o (tE X.K fo)) (hi : PE X i (tE X.K fi))
    (ha : ∀ v, assign (.Subscript o i pos) X.env v = (do
      let ov ← holding [v] (eval o X.env)
      let iv ← holding [v, ov] (eval i X.env)
      standAt pos
      holding [v, ov, iv] (setItem ov iv v)
      release [v, ov, iv] []) := by intro _; rfl) : PG X (.Subscript o i pos) (tG X.K (gDs fo fi)) := PG.imp (pg_sub ho hi (set_dict hu) ha) fun _ _ _ _ t => rd_gDs t
theorem u9 {k : Nat} {A : Around} (r : Room k A) : A.units + 9 < cLine := by have := r.un; omega
end T3

end
section
set_option linter.all false
set_option autoImplicit false
set_option Elab.async false
set_option maxRecDepth 100000
set_option maxHeartbeats 2000000
namespace ZL
open PySem
section
variable {P : Program} {w : World} {A : Around} {E : Value → Shared → Prop} {s : Shared} {z TI TO T i1 i2 l1 l2 : Addr} {f : Bool} {oT : Obj} {m n : Nat} {xs ys : Array Value} {x y : Value}
def ZS (z TI TO i1 i2 l1 l2 S : Addr) (xs ys : Array Value) (k : Nat) (h : Heap) : Prop := IsPair h TI (.ref i1) (.ref i2) ∧ h.IsTupleIter i1 l1 k ∧ h.IsTupleIter i2 l2 k ∧ h.IsTuple l1 xs ∧ h.IsTuple l2 ys ∧
  ((IsZip h z TI TO .none ∧ ∃ a b, IsPair h TO a b) ∨ ∃ T f oT, IsZipHeld h z TI TO T f ∧ h.get? T = some oT ∧ T ≠ z ∧ T ≠ i1 ∧ T ≠ i2 ∧ T ≠ S)
theorem ZS.keep {k : Nat} {S : Addr} {h h' : Heap} (g : ZS z TI TO i1 i2 l1 l2 S xs ys k h) (d : S ≠ z ∧ S ≠ TI ∧ S ≠ TO ∧ S ≠ i1 ∧ S ≠ i2 ∧ S ≠ l1 ∧ S ≠ l2) (kp : ∀ b o, b ≠ S → h.get? b = some o → h'.get? b = some o) : ZS z TI TO i1 i2 l1 l2 S xs ys k h' := by
  obtain ⟨g1, g2, g3, g4, g5, g6⟩ := g
  obtain ⟨d1, d2, d3, d4, d5, d6, d7⟩ := d
  refine ⟨kp _ _ d2.symm g1, g2.at fun o e => kp _ o d4.symm e, g3.at fun o e => kp _ o d5.symm e, g4.at fun o e => kp _ o d6.symm e, g5.at fun o e => kp _ o d7.symm e, ?_⟩
  rcases g6 with ⟨h1, a, b, h2⟩ | ⟨T, f, oT, h1, h2, r1, r2, r3, r4⟩
  · exact .inl ⟨kp _ _ d1.symm h1, a, b, kp _ _ d3.symm h2⟩
  · exact .inr ⟨T, f, oT, kp _ _ d1.symm h1, kp _ _ r4 h2, r1, r2, r3, r4⟩
end

structure Mk (xs ys : Array Value) (lo : Addr) (h : Heap) (as : List Addr) : Prop where
  rise : as.Pairwise (· < ·)
  above : ∀ a ∈ as, lo < a
  pairs : ∀ (j : Nat) (a : Addr), as[j]? = some a → ∃ x y, xs[j]? = some x ∧ ys[j]? = some y ∧ IsPair h a x y
section
variable {P : Program} {w : World} {A : Around} {s : Shared} {R : Result → Shared → Prop} {z TI TO i1 i2 l1 l2 S : Addr} {xs ys : Array Value}
end
section
variable {P : Program} {w : World} {A : Around} {E : Value → Shared → Prop} {s : Shared} {z TI TO i1 i2 l1 l2 : Addr} {xs ys : Array Value}
end
end ZL

end
section
set_option linter.all false
set_option autoImplicit false
set_option Elab.async false
set_option maxRecDepth 100000
namespace T3
open PySem L2
variable [TabL]
end T3

end
section
set_option linter.all false
set_option autoImplicit false
set_option Elab.async false
set_option maxRecDepth 100000
namespace T3
open PySem L2
variable [TabL]
def allN (kvs : List (NestedKey × PyData)) : List (NestedKey × PyData) := kvs.foldl (fun acc q => putN acc q.1 q.2) []
theorem Kn.all {K : PySem.W.Frag} {B : Mset} {H : Hp} : ∀ {more : List (NestedKey × PyData)} {rs : List (NestedKey × Addr × Value)} {kvs : List (NestedKey × PyData)} {xs : List (NestedKey × Addr × Value)}, Kn K B H more rs → Kn K B H kvs xs → (kvs.map (·.1)).Nodup →
    Kn K B H (more.foldl (fun acc q => putN acc q.1 q.2) kvs) (storedAllH xs rs) ∧ ((more.foldl (fun acc q => putN acc q.1 q.2) kvs).map (·.1)).Nodup
  | _, _, _, _, .nil, k, nd => ⟨k, nd⟩
  | _, _, _, _, .cons (a := q) (b := x) r t, k, nd => by
    obtain ⟨e1, e2, e3, v, e4, e5⟩ := r
    have k' := k.put e2 e3 e4 e5
    rw [← e1] at k'
    have := Kn.all t (by rw [e1] at k'; exact k') (putN_nd (k := q.1) (x := q.2) nd)
    unfold storedAllH at this ⊢
    rw [List.foldl_cons, List.foldl_cons, e1]
    exact this
theorem putAll_len : ∀ (more kvs : List (NestedKey × PyData)), (more.foldl (fun acc q => putN acc q.1 q.2) kvs).length ≤ kvs.length + more.length
  | [], kvs => by simp
  | q :: more, kvs => by
    have h1 := putAll_len more (putN kvs q.1 q.2)
    have h2 := putN_len kvs q.1 q.2
    rw [List.foldl_cons, List.length_cons]
    omega
end T3

end
section
set_option linter.all false
set_option autoImplicit false
set_option Elab.async false
namespace T3
open PySem L2
variable [TabL]
def setAll : List Nat → List R → Sl → Option Sl
  | [], [], e => some e
  | i :: is, d :: ds, e => match setR i d e with
    | none => none
    | some e2 => setAll is ds e2
  | _, _, _ => none
def sParN (is : List Nat) (f : EA) : SS := fun env => match f env with
  | none => none
  | some (ds, e) => if ds.length ≤ 1000 then match setAll is ds e with
      | none => none
      | some e2 => some (.nx, e2)
    else none
@[simp] theorem z_setAll0 (e : Sl) : setAll [] [] e = some e := rfl
@[simp] theorem z_setAll1 (i : Nat) (is : List Nat) (d : R) (ds : List R) (e : Sl) : setAll (i :: is) (d :: ds) e = (match setR i d e with
    | none => none
    | some e2 => setAll is ds e2) := rfl
@[simp] theorem z_parN (is : List Nat) (f : EA) (env : Sl) : sParN is f env = (match f env with
  | none => none
  | some (ds, e) => if ds.length ≤ 1000 then match setAll is ds e with
      | none => none
      | some e2 => some (.nx, e2)
    else none) := rfl
def gNs : List Nat → TGs
  | [] => gNil
  | i :: is => gCons (gName i) (gNs is)
theorem setAll_nv : ∀ {is : List Nat} {ds : List R} {e e' : Sl}, setAll is ds e = some e' → ds.length = is.length ∧ ∀ d ∈ ds, ∀ k, d ≠ .var k
  | [], [], _, _, _ => ⟨rfl, fun d h => by simp at h⟩
  | [], _ :: _, _, _, h => by cases h
  | _ :: _, [], _, _, h => by cases h
  | i :: is, d :: ds, e, e', h => by
    rw [z_setAll1] at h
    split at h
    · cases h
    rename_i e2 h2
    obtain ⟨l, n⟩ := setAll_nv h
    refine ⟨by simp [l], fun x hx k => ?_⟩
    rcases List.mem_cons.mp hx with rfl | hx
    · exact setR_nv h2 k
    · exact n x hx k
theorem rd_names {K : PySem.W.Frag} {σ₀ : St} {B₀ B1 : Mset} {H₀ H1 : Hp} {env e' : Sl} {Q : St → Hp → Prop} (en : EnvR K B₀ H₀ σ₀ env) : ∀ {is : List Nat} {ds : List R} {vs : List V} {e : Sl} {σ : St}, AtS K σ₀ B₀ H₀ env σ B1 H1 e → RRA K H₀ B1 H1 σ e vs ds → setAll is ds e = some e' →
    (∀ σ', AtS K σ₀ B₀ H₀ env σ' B1 H1 e' → Q σ' H1) → gNs is vs σ H1 Q
  | [], [], vs, e, σ, a, r, h, q => by
    cases h
    have := r.len
    cases vs with
    | nil => exact ⟨rfl, q σ a⟩
    | cons _ _ => simp at this
  | [], _ :: _, _, _, _, _, _, h, _ => by cases h
  | _ :: _, [], _, _, _, _, _, h, _ => by cases h
  | i :: is, d :: ds, vs, e, σ, a, r, h, q => by
    rw [z_setAll1] at h
    split at h
    · cases h
    rename_i e2 h2
    have nv := (setAll_nv h).2
    cases vs with
    | nil => have := r.len; simp at this
    | cons v vs =>
      have hl : i < σ.length := by rw [← a.en.len]; exact setR_lt h2
      refine ⟨v, vs, rfl, ?_⟩
      show gNs is vs (σ.set i (some v)) H1 Q
      refine rd_names en (AtS.set en a (r.each 0 v d rfl rfl) h2) ⟨by have := r.len; simpa using this, fun k w d' hw hd => ?_, fun k l c c' w h0 h1 h2 h3 h4 => r.apart (k + 1) (l + 1) c c' w (by omega) (by simpa using h1) (by simpa using h2) (by simpa using h3) (by simpa using h4)⟩ h q
      refine RA.set h2 hl (r.each (k + 1) w d' (by simpa using hw) (by simpa using hd)) (fun c c' z1 z2 z3 => ?_) (nv d' (List.mem_of_getElem? hd))
      subst z1 z2 z3
      exact r.apart 0 (k + 1) c c' v (by omega) rfl (by simpa using hd) rfl (by simpa using hw)
theorem rd_parN {K : PySem.W.Frag} {is : List Nat} {f : EA} {D : Ends} {σ : St} {H : Hp} (h : tS K (sParN is f) D σ H) : tAsg (tTup (tA K f)) (gTup K is.length (gNs is)) D σ H := by
  obtain ⟨B, env, fl, env', en, ev, q⟩ := h
  unfold sParN at ev
  split at ev
  · cases ev
  rename_i ds e1 h1
  split at ev
  · rename_i hl
    split at ev
    · cases ev
    rename_i e2 h2
    cases ev
    refine ⟨B, env, ds, e1, en, h1, fun B1 H1 vs a1 r1 => ⟨by rw [r1.len]; exact Nat.le_of_lt (small1000 hl), fun p np => ?_⟩⟩
    obtain ⟨g, a2⟩ := a1.alloc en np (.tup vs) False (fun _ => False) (fun _ f => f.elim)
    obtain ⟨_, a3⟩ := (At.refl a1.en).alloc a1.en np (.tup vs) False (fun _ => False) (fun _ f => f.elim)
    refine ⟨p, vs, rfl, .inl (.inl upd_same), by rw [r1.len]; exact (setAll_nv h2).1, ?_⟩
    refine rd_names en a2.s ⟨r1.len, fun k v d hv hd => (r1.each k v d hv hd).later a1.en a3, r1.apart⟩ h2 fun σ' a' => q _ _ _ a'
  · cases ev
section
variable {X : Cx} {es : List Expr} {pos : Pos}
theorem ns_nil : PGs X [] (gNs []) := pgs_nil
theorem ns_cons {e : Expr} {i : Nat} {is : List Nat} (h1 : PG X e (gName i)) (h2 : PGs X es (gNs is)) (hs : (assignEach (e :: es) X.env).map (·.2) = assign e X.env :: (assignEach es X.env).map (·.2) := by rfl) : PGs X (e :: es) (gNs (i :: is)) := pgs_cons h1 h2 hs
theorem s_parN {ts : List Expr} {k k2 : Nat} {p p2 : Pos} {is : List Nat} {f : EA} (hc : X.calm = true) (ha : PA X es (tA X.K f)) (hg : PGs X ts (gNs is)) (hn : (assignEach ts X.env).length = is.length := by rfl) (hst : (assignEach ts X.env).findIdx? (·.1) = none := by rfl)
    (hs : swapsWithSole [.Tuple ts k p] (.Tuple es k2 p2) pos.line X.env = pure false := by rfl) (hw : swappedStores [.Tuple ts k p] (.Tuple es k2 p2) X.env = pure none := by rfl)
    (h1 : (assignEach [.Tuple ts k p] X.env).map (·.2) = [assign (.Tuple ts k p) X.env] := by rfl) : PS X (.Assign [.Tuple ts k p] (.Tuple es k2 p2) pos) (tS X.K (sParN is f)) :=
  PS.imp (ps_asg (pe_tup ha) (pg_tup hc hg hn hst) hs hw h1) fun _ _ _ t => rd_parN t
end
end T3

end
section
set_option linter.all false
set_option autoImplicit false
set_option Elab.async false
set_option maxRecDepth 100000
namespace T3
open PySem L2
variable [TabL]
abbrev EPs := List (EE × EE)
def ePairs : EPs → Sl → Option (List (PyData × PyData) × Sl)
  | [], env => some ([], env)
  | p :: r, env => match p.1 env with
    | none => none
    | some (dk, e1) => match pdOf dk with
      | none => none
      | some k => match p.2 e1 with
        | none => none
        | some (dv, e2) => match pdOf dv with
          | none => none
          | some v => match ePairs r e2 with
            | none => none
            | some (ps, e3) => some ((k, v) :: ps, e3)
@[simp] theorem z_ePairs0 (env : Sl) : ePairs [] env = some ([], env) := rfl
@[simp] theorem z_ePairs1 (p : EE × EE) (r : EPs) (env : Sl) : ePairs (p :: r) env = (match p.1 env with
    | none => none
    | some (dk, e1) => match pdOf dk with
      | none => none
      | some k => match p.2 e1 with
        | none => none
        | some (dv, e2) => match pdOf dv with
          | none => none
          | some v => match ePairs r e2 with
            | none => none
            | some (ps, e3) => some ((k, v) :: ps, e3)) := rfl
def PrR (K : PySem.W.Frag) (B : Mset) (H : Hp) : List (V × V) → List (PyData × PyData) → Prop := Paired fun p q => Rp K B H p.1 q.1 ∧ Rp K B H p.2 q.2
def trsOf (K : PySem.W.Frag) (ps : EPs) : List (TE × TE) := ps.map fun p => (tE K p.1, tE K p.2)
theorem rd_pairs {K : PySem.W.Frag} : ∀ {ps : EPs} {σ : St} {H : Hp} {B : Mset} {env env' : Sl} {ds : List (PyData × PyData)} {Q : List (V × V) → Hp → Prop}, EnvR K B H σ env → ePairs ps env = some (ds, env') →
    (∀ B' H' vs, At K σ B H env B' H' env' → PrR K B' H' vs ds → Q vs H') → tPairs (trsOf K ps) σ H Q
  | [], σ, H, B, env, env', ds, Q, en, ev, q => by
    cases ev
    exact q B H [] (.refl en) .nil
  | p :: r, σ, H, B, env, env', ds, Q, en, ev, q => by
    rw [z_ePairs1] at ev
    split at ev
    · cases ev
    rename_i dk e1 h1
    split at ev
    · cases ev
    rename_i k hk
    split at ev
    · cases ev
    rename_i dv e2 h2
    split at ev
    · cases ev
    rename_i v hv
    split at ev
    · cases ev
    rename_i ps' e3 h3
    cases ev
    refine ⟨B, env, dk, e1, en, h1, fun B1 H1 x a1 r1 => ⟨B1, e1, dv, e2, a1.en, h2, fun B2 H2 y a2 r2 => ?_⟩⟩
    have a12 := a1.trans en a2
    refine rd_pairs a2.en h3 fun B3 H3 vs a3 r3 => q B3 H3 _ (a12.trans en a3) (.cons ⟨?_, ?_⟩ r3)
    · exact ((pdOf_rp r1 hk).grow (a2.grow a1.en)).grow (a3.grow a2.en)
    · exact (pdOf_rp r2 hv).grow (a3.grow a2.en)
theorem At.put {K : PySem.W.Frag} {σ : St} {B B2 : Mset} {H H2 : Hp} {env env2 : Sl} {p : Addr} {o0 o : HO} (en : EnvR K B H σ env) (a : At K σ B H env B2 H2 env2) (hp : H p = none) (bp : B2 p) (h0 : H2 p = some o0) (ni : ¬ Imm o0)
    (ns : ∀ (i : Nat) m d, env2[i]? = some (some (S.mu m d)) → σ[i]? ≠ some (some (V.ref p))) : Grow B2 H2 B2 (upd H2 p o) ∧ At K σ B H env B2 (upd H2 p o) env2 := by
  have g : Grow B2 H2 B2 (upd H2 p o) := ⟨fun q o' h n => by
    by_cases e : q = p
    · subst e
      rcases n with n | n
      · exact absurd bp n.1
      · rw [h0] at h; cases h; exact absurd n ni
    · rw [upd_ne e]; exact h, fun q h => .inl h⟩
  refine ⟨g, ⟨fun q o' h n => ?_, a.st.new, a.st.old, a.st.sub, fun q h => ?_⟩, ⟨a.en.len, fun i x h => ?_, fun i x h => ?_, fun i m d h => ?_, a.en.inj, fun q h => ?_, a.en.tb.on (fun q o' h n => by rw [upd_ne (fun e => n (by rw [e]; exact bp))]; exact h) g.new⟩, a.sm, a.ks⟩
  · have e : q ≠ p := fun z => by rw [z, hp] at h; cases h
    rw [upd_ne e]; exact a.st.keep q o' h n
  · by_cases e : q = p
    · rw [e]; exact hp
    · rw [upd_ne e] at h; exact a.st.liv q h
  · obtain ⟨v, h1, h2⟩ := a.en.pd i x h
    exact ⟨v, h1, h2.grow g⟩
  · obtain ⟨v, h1, h2⟩ := a.en.nt i x h
    exact ⟨v, h1, h2.grow g⟩
  · obtain ⟨b, h1, h2, h3⟩ := a.en.mu i m d h
    have nb : b ≠ p := fun z => ns i m d h (z ▸ h1)
    refine ⟨b, h1, h2, ?_⟩
    cases d with
    | ls xs => obtain ⟨vs, h4, h5⟩ := h3; exact ⟨vs, by rw [upd_ne nb]; exact h4, h5.grow g⟩
    | dk xs => obtain ⟨vs, h4, h5⟩ := h3; exact ⟨vs, by rw [upd_ne nb]; exact h4, h5.grow g⟩
    | dn xs => obtain ⟨vs, h4, h5⟩ := h3; exact ⟨vs, by rw [upd_ne nb]; exact h4, h5.grow g⟩
  · by_cases e : q = p
    · subst e; exact ⟨o, upd_same⟩
    · rw [upd_ne e]; exact a.en.dom q h
def keysK : List (PyData × PyData) → Option (List (Key × PyData))
  | [] => some []
  | p :: ps => match key? p.1 with
    | none => none
    | some k => match keysK ps with
      | none => none
      | some r => some ((k, p.2) :: r)
def keysN : List (PyData × PyData) → Option (List (NestedKey × PyData))
  | [] => some []
  | p :: ps => match tk? p.1 with
    | none => none
    | some k => match keysN ps with
      | none => none
      | some r => some ((k, p.2) :: r)
def allK (kvs : List (Key × PyData)) : List (Key × PyData) := kvs.foldl (fun acc q => putD acc q.1 q.2) []
theorem KvR.merge {K : PySem.W.Frag} {B : Mset} {H : Hp} : ∀ {more : List (Key × V)} {ms : List (Key × PyData)} {ws : List (Key × V)} {kvs : List (Key × PyData)}, KvR K B H more ms → KvR K B H ws kvs → KvR K B H (mergeK ws more) (ms.foldl (fun acc q => putD acc q.1 q.2) kvs)
  | _, _, _, _, .nil, r => r
  | _, _, _, _, .cons (a := p) (b := q) h t, r => by
    have := r.put (k := q.1) h.2
    unfold mergeK
    rw [List.foldl_cons, List.foldl_cons, h.1]
    exact KvR.merge t this
theorem keysK_ok {K : PySem.W.Frag} {B : Mset} {H : Hp} : ∀ {vs : List (V × V)} {ds : List (PyData × PyData)} {kvs : List (Key × PyData)}, PrR K B H vs ds → keysK ds = some kvs → ∃ ws : List (Key × V), vs = ws.map (fun kv => (kV kv.1, kv.2)) ∧ KvR K B H ws kvs
  | _, _, kvs, .nil, e => by cases e; exact ⟨[], rfl, .nil⟩
  | _, _, kvs, .cons (a := p) (b := q) r t, e => by
    unfold keysK at e
    split at e
    · cases e
    rename_i k hk
    split at e
    · cases e
    rename_i r' hr
    cases e
    obtain ⟨ws, h1, h2⟩ := keysK_ok t hr
    refine ⟨(k, p.2) :: ws, ?_, .cons ⟨rfl, r.2⟩ h2⟩
    rw [List.map_cons, ← h1, ← key_v r.1 hk]
theorem keysN_ok {K : PySem.W.Frag} {B : Mset} {H : Hp} : ∀ {vs : List (V × V)} {ds : List (PyData × PyData)} {kvs : List (NestedKey × PyData)}, PrR K B H vs ds → keysN ds = some kvs → Paired (fun (p : V × V) (q : NestedKey × PyData) => NkOk q.1 ∧ Rp K B H p.1 q.1.data ∧ Rp K B H p.2 q.2) vs kvs
  | _, _, kvs, .nil, e => by cases e; exact .nil
  | _, _, kvs, .cons (a := p) (b := q) r t, e => by
    unfold keysN at e
    split at e
    · cases e
    rename_i k hk
    split at e
    · cases e
    rename_i r' hr
    cases e
    obtain ⟨h1, h2⟩ := tk_ok hk
    exact .cons ⟨h1, by rw [h2]; exact r.1, r.2⟩ (keysN_ok t hr)
def tDispN (K : PySem.W.Frag) (trs : List (TE × TE)) : TE := fun σ H Q => ∀ p, H p = none → tPairs trs σ (upd H p (.dK [])) fun ps H2 => H2 p = some (.dK []) ∧ ∃ B kvs, Paired (fun (p : V × V) (q : NestedKey × PyData) => NkOk q.1 ∧ Rp K B H2 p.1 q.1.data ∧ Rp K B H2 p.2 q.2) ps kvs ∧ kvs.length ≤ 15 ∧
  ∀ es, DnR K B H2 es (allN kvs) → Q (.ref p) (upd H2 p (DnO p es))
theorem carr_of {X : Cx} {pins : List (Addr × Obj)} {σ : St} {H : Hp} {s : Shared} {B : Mset} (I : Inv X pins σ H s) : ∀ {ps : List (V × V)} {ws : List (Value × Value)} {kvs : List (NestedKey × PyData)}, VV ps ws → Paired (fun (p : V × V) (q : NestedKey × PyData) => NkOk q.1 ∧ Rp X.K B H p.1 q.1.data ∧ Rp X.K B H p.2 q.2) ps kvs →
    ∃ xs, CarriesH (nestedKind X.prog X.w) s.heap ws xs ∧ Kn X.K B H kvs xs
  | _, _, _, .nil, .nil => ⟨[], True.intro, .nil⟩
  | _, _, _, .cons (a := p) (b := u) r t, .cons (b := q) h t' => by
    obtain ⟨xs, h1, h2⟩ := carr_of I t t'
    obtain ⟨k1, k2, k3⟩ := h
    obtain ⟨b, eb⟩ := nk_ref k1 k2
    obtain ⟨u1, u2⟩ := u
    have e1 : u1 = Value.ref b := by have := r.1; rw [eb] at this; exact this
    subst e1
    rw [eb] at k2
    exact ⟨(q.1, b, u2) :: xs, ⟨rfl, rfl, nk_key I k1 k2, h1⟩, .cons ⟨rfl, k1, k2, p.2, r.2, k3⟩ h2⟩
theorem pe_dispN {X : Cx} {pos : Pos} {keys : List (Option Expr)} {values : List Expr} {trs : List (TE × TE)} (hu : X.A.units + 9 < cLine) (h : PPs X pos keys values trs) (hall : keys.all (·.isSome) = true) (hl : keys.length = values.length) (h0 : keys ≠ [])
    (h15 : keys.length ≤ 15) : PE X (.Dict keys values pos) (tDispN X.K trs) := by
  refine ⟨fun pins s σ H Q I q => ?_⟩
  have hn := I.hok.fresh (Nat.le_refl s.heap.objs.size)
  have I1 := I.laid (a := s.heap.objs.size) (o := .dK []) (h' := s.heap.push { cls := .type "dict", data := .dict #[] }) (t' := s.toks) (fun _ _ q => Heap.get?_push_of_some _ q) (Nat.le_refl _) (dk_empty s.heap I.big)
  have hlen := pairTrees_length keys values X.env pos hall hl
  have hne : pairTrees keys values X.env pos ≠ [] := fun he => by
    rw [he] at hlen
    exact h0 (List.length_eq_zero_iff.mp hlen.symm)
  rw [arm_eval_Dict, zip_pairTrees keys values X.env pos hall hl, dictDisplay_pairs _ hne (by rw [hlen]; omega)]
  refine wpAny_bind (wpAny_standAt (wpAny_bind (wpAny_subDictH (knd := nestedKind X.prog X.w) (show X.A.units + 8 < cLine by omega) (by rw [hlen]; exact h15) (thn (h.run pins _ σ _ _ I1 (q _ hn)) fun ws s2 ⟨ps, H2, I2, rel, e, B, kvs, hp, h16, q2⟩ => ?_))))
  obtain ⟨xs, hc, hk⟩ := carr_of I2 rel hp
  obtain ⟨ns, _, _, xs0, dd, kn0⟩ := dn_open I2 (.inl ⟨rfl, e⟩ : DnAt X.K B H2 s.heap.objs.size [])
  cases kn0
  refine ⟨xs, hc, dd, fun h' tk dd' hs => wpAny_pure ?_⟩
  obtain ⟨kn, nd⟩ := Kn.all hk (.nil : Kn X.K B H2 [] []) (by simp)
  obtain ⟨q', es, ep, hq', h2, h3, h4, _, h5⟩ := dd'
  refine ⟨.ref s.heap.objs.size, _, d_write (t' := tk) (ob := DnO s.heap.objs.size ⟨q', ep, (storedAllH [] xs).map (entryOfKey (nestedKind X.prog X.w))⟩) I2 (by rw [e]; exact True.intro) hs ⟨q', hq'⟩ ⟨⟨ns, ?_, hq', h2, ?_⟩, ⟨q', hq'⟩, fun g1 g2 ⟨z1, z2, z3, z4, z5⟩ st => ⟨z1, z2, st _ z3, z4, z5⟩⟩, rfl, q2 _ ⟨kn.dn, nd⟩⟩
  · dsimp only
    rw [List.length_map, ← kn.len]
    have h1 := putAll_len kvs []
    simp only [List.length_nil, Nat.zero_add] at h1
    rw [sizeLine_eq]
    omega
  · dsimp only
    rw [← h4, Array.toArray_toList]; exact h3
def eDisp (ps : EPs) : EE := fun env => match ePairs ps env with
  | none => none
  | some (ds, e1) => if ds.length ≤ 15 then match keysK ds with
      | some kvs => some (.tmp (.dk (allK kvs)), e1)
      | none => match keysN ds with
        | some kvs => some (.tmp (.dn (allN kvs)), e1)
        | none => none
    else none
@[simp] theorem z_disp (ps : EPs) (env : Sl) : eDisp ps env = (match ePairs ps env with
  | none => none
  | some (ds, e1) => if ds.length ≤ 15 then match keysK ds with
      | some kvs => some (.tmp (.dk (allK kvs)), e1)
      | none => match keysN ds with
        | some kvs => some (.tmp (.dn (allN kvs)), e1)
        | none => none
    else none) := rfl
theorem keysK_len : ∀ {ds : List (PyData × PyData)} {kvs : List (Key × PyData)}, keysK ds = some kvs → kvs.length = ds.length
  | [], _, e => by cases e; rfl
  | p :: ds, kvs, e => by
    unfold keysK at e
    split at e
    · cases e
    split at e
    · cases e
    rename_i r hr
    cases e
    simp [keysK_len hr]
theorem keysN_len : ∀ {ds : List (PyData × PyData)} {kvs : List (NestedKey × PyData)}, keysN ds = some kvs → kvs.length = ds.length
  | [], _, e => by cases e; rfl
  | p :: ds, kvs, e => by
    unfold keysN at e
    split at e
    · cases e
    split at e
    · cases e
    rename_i r hr
    cases e
    simp [keysN_len hr]
theorem e_disp {X : Cx} {pos : Pos} {keys : List (Option Expr)} {values : List Expr} {ps : EPs} (hu : X.A.units + 9 < cLine) (h : PPs X pos keys values (trsOf X.K ps)) (hall : keys.all (·.isSome) = true := by rfl) (hl : keys.length = values.length := by rfl) (h0 : keys ≠ [] := by decide)
    (h15 : keys.length ≤ 15 := by decide) : PE X (.Dict keys values pos) (tE X.K (eDisp ps)) := by
  refine ⟨fun pins s σ H Q I t => ?_⟩
  obtain ⟨B, env, d, env', en, ev, q⟩ := t
  unfold eDisp at ev
  split at ev
  · cases ev
  rename_i ds e1 h1
  split at ev
  · rename_i hl15
    split at ev
    · rename_i kvs hk
      cases ev
      refine (pe_disp h hall hl h0 h15).run pins s σ H Q I fun p np => ?_
      obtain ⟨g, a1⟩ := (At.refl en).alloc en np (.dK []) True (fun _ => False) (fun _ f => f.elim)
      refine rd_pairs a1.en h1 fun B2 H2 vs a2 r2 => ?_
      have a12 := a1.trans en a2
      have wp : ¬ Wof σ env p := fun w => by
        obtain ⟨o, ho⟩ := en.dom p (en.wb p w)
        rw [np] at ho; cases ho
      have k2 : H2 p = some (.dK []) := a2.st.keep p _ upd_same (.inl ⟨wp, fun _ z => nomatch z⟩)
      have b2 : B2 p := a2.st.old p (.inr ⟨trivial, rfl⟩) wp
      have ns : ∀ (i : Nat) m d, env'[i]? = some (some (S.mu m d)) → σ[i]? ≠ some (some (V.ref p)) := fun i m d z1 z2 => by
        obtain ⟨c', z3⟩ := a2.sm i m d z1
        obtain ⟨b, z4, z5, _⟩ := en.mu i m c' z3
        rw [z4] at z2
        cases z2
        obtain ⟨o, ho⟩ := en.dom _ z5
        rw [np] at ho; cases ho
      obtain ⟨ws, e1, r3⟩ := keysK_ok r2 hk
      refine ⟨k2, ws, e1, by rw [Paired.length r3, keysK_len hk]; exact hl15, ?_⟩
      obtain ⟨g3, a3⟩ := At.put (o := .dK (mergeK [] ws)) en a12 np b2 k2 (fun z => z) ns
      exact q _ _ _ a3 ⟨p, rfl, np, b2, ⟨_, upd_same, (KvR.merge r3 (.nil : KvR X.K B2 H2 [] [])).grow g3⟩, ns⟩
    · split at ev
      · rename_i kvs hk
        cases ev
        refine (pe_dispN hu h hall hl h0 h15).run pins s σ H Q I fun p np => ?_
        obtain ⟨g, a1⟩ := (At.refl en).alloc en np (.dK []) True (fun _ => False) (fun _ f => f.elim)
        refine rd_pairs a1.en h1 fun B2 H2 vs a2 r2 => ?_
        have a12 := a1.trans en a2
        have wp : ¬ Wof σ env p := fun w => by
          obtain ⟨o, ho⟩ := en.dom p (en.wb p w)
          rw [np] at ho; cases ho
        have k2 : H2 p = some (.dK []) := a2.st.keep p _ upd_same (.inl ⟨wp, fun _ z => nomatch z⟩)
        have b2 : B2 p := a2.st.old p (.inr ⟨trivial, rfl⟩) wp
        have ns : ∀ (i : Nat) m d, env'[i]? = some (some (S.mu m d)) → σ[i]? ≠ some (some (V.ref p)) := fun i m d z1 z2 => by
          obtain ⟨c', z3⟩ := a2.sm i m d z1
          obtain ⟨b, z4, z5, _⟩ := en.mu i m c' z3
          rw [z4] at z2
          cases z2
          obtain ⟨o, ho⟩ := en.dom _ z5
          rw [np] at ho; cases ho
        refine ⟨k2, B2, kvs, keysN_ok r2 hk, by rw [keysN_len hk]; exact hl15, fun es r => ?_⟩
        obtain ⟨g3, a3⟩ := At.put (o := DnO p es) en a12 np b2 k2 (fun z => z) ns
        exact q _ _ _ a3 ⟨p, rfl, np, b2, ⟨es, upd_same, DnR.grow g3 r⟩, ns⟩
      · cases ev
  · cases ev
section
variable {X : Cx} {pos : Pos}
theorem ds_nil : PPs X pos [] [] (trsOf X.K []) := pps_nil
theorem ds_cons {k v : Expr} {ks : List (Option Expr)} {vs : List Expr} {fk fv : EE} {ps : EPs} (hk : PE X k (tE X.K fk)) (hv : PE X v (tE X.K fv)) (hr : PPs X pos ks vs (trsOf X.K ps)) : PPs X pos (some k :: ks) (v :: vs) (trsOf X.K ((fk, fv) :: ps)) := pps_cons hk hv hr
end
mutual
def unK : PyData → Option NestedKey
  | .none => some .none
  | .int i => some (.num i)
  | .str x => some (.text x)
  | .tuple xs => match unKs xs with
    | some ks => some (.tup ks)
    | none => none
  | .bool _ => none
  | .list _ => none
  | .dict _ => none
def unKs : List PyData → Option (List NestedKey)
  | [] => some []
  | x :: xs => match unK x with
    | some k => match unKs xs with
      | some ks => some (k :: ks)
      | none => none
    | none => none
end
mutual
theorem unK_data : ∀ k : NestedKey, unK k.data = some k
  | .none => by rw [NestedKey.data, unK]
  | .num i => by rw [NestedKey.data, unK]
  | .text x => by rw [NestedKey.data, unK]
  | .tup ks => by rw [NestedKey.data, unK, unKs_datas ks]
theorem unKs_datas : ∀ ks : List NestedKey, unKs (NestedKey.datas ks) = some ks
  | [] => by rw [NestedKey.datas, unKs]
  | k :: ks => by rw [NestedKey.datas, unKs, unK_data k, unKs_datas ks]
end
def decN : List (PyData × PyData) → Option (List (NestedKey × PyData))
  | [] => some []
  | q :: r => match unK q.1 with
    | some n => match decN r with
      | some t => some ((n, q.2) :: t)
      | none => none
    | none => none
theorem decN_of : ∀ kvs : List (NestedKey × PyData), decN (kvs.map fun q => (q.1.data, q.2)) = some kvs
  | [] => rfl
  | q :: r => by
    simp only [List.map_cons, decN, unK_data, decN_of r]
def decK : List (PyData × PyData) → Option (List (Key × PyData))
  | [] => some []
  | q :: r => match key? q.1 with
    | some n => match decK r with
      | some t => some ((n, q.2) :: t)
      | none => none
    | none => none
theorem key_data : ∀ k : Key, key? (keyD k) = some k
  | .inl _ => rfl
  | .inr _ => rfl
theorem decK_of : ∀ kvs : List (Key × PyData), decK (kvs.map fun q => (keyD q.1, q.2)) = some kvs
  | [] => rfl
  | q :: r => by
    simp only [List.map_cons, decK, key_data, decK_of r]
def dcOf : PyData → Option Ct
  | .dict ((.list [], .none) :: r) => match decN r with
    | some kvs => some (.dn kvs)
    | none => none
  | .dict ((.list [.none], .none) :: r) => match decK r with
    | some kvs => some (.dk kvs)
    | none => none
  | _ => none
theorem dcOf_dn (kvs : List (NestedKey × PyData)) : dcOf (ctD (.dn kvs)) = some (.dn kvs) := by
  show (match decN (kvs.map fun q => (q.1.data, q.2)) with
    | some kvs => some (Ct.dn kvs)
    | none => none) = _
  rw [decN_of]
theorem dcOf_dk (kvs : List (Key × PyData)) : dcOf (ctD (.dk kvs)) = some (.dk kvs) := by
  show (match decK (kvs.map fun q => (keyD q.1, q.2)) with
    | some kvs => some (Ct.dk kvs)
    | none => none) = _
  rw [decK_of]
theorem dcOf_ok {K : PySem.W.Frag} {B : Mset} {H : Hp} {v : V} {x : PyData} {c : Ct} (r : Rp K B H v x) (e : dcOf x = some c) : ∃ a, v = .ref a ∧ CtR K B H a c := by
  cases r with
  | dct h nb h4 nd r1 r2 =>
    have e := (dcOf_dn _).symm.trans e
    cases e
    exact ⟨_, rfl, _, h, dn_join h4 r1 r2, nd⟩
  | dck h nb hk r =>
    have e := (dcOf_dk _).symm.trans e
    cases e
    exact ⟨_, rfl, _, h, kv_join hk r⟩
  | _ => simp [dcOf] at e
def rGet (env : Sl) : R → PyData → Option (Option PyData)
  | .var j, y => dGet env j y
  | .tmp c, y => cGet c y
  | .pd x, y => match dcOf x with
    | some c => cGet c y
    | none => none
  | .nt _, _ => none
theorem rGet_ok {K : PySem.W.Frag} {H₀ : Hp} {B : Mset} {H : Hp} {σ : St} {env : Sl} {w v : V} {d : R} {y : PyData} {o : Option PyData} (en : EnvR K B H σ env) (h : RA K H₀ B H σ env w d) (r : Rp K B H v y) (e : rGet env d y = some o) : ∃ a, w = .ref a ∧ DGt K B H a v o := by
  cases d with
  | pd x =>
    have e : (match dcOf x with
      | some c => cGet c y
      | none => none) = some o := e
    split at e
    · rename_i c hc
      obtain ⟨a, rfl, hc⟩ := dcOf_ok h hc
      exact ⟨a, rfl, cGet_ok hc r e⟩
    · cases e
  | nt x => cases e
  | var j => exact dGet_ok en h r e
  | tmp c =>
    obtain ⟨a, rfl, _, _, hc, _⟩ := h
    exact ⟨a, rfl, cGet_ok hc r e⟩
def eDx (fd fk : EE) : EE := fun env => match fd env with
  | none => none
  | some (d0, e1) => match fk e1 with
    | none => none
    | some (d, e2) => match pdOf d with
      | none => none
      | some y => match rGet e2 d0 y with
        | some (some z) => some (.pd z, e2)
        | _ => none
@[simp] theorem z_dx (fd fk : EE) (env : Sl) : eDx fd fk env = (match fd env with
  | none => none
  | some (d0, e1) => match fk e1 with
    | none => none
    | some (d, e2) => match pdOf d with
      | none => none
      | some y => match rGet e2 d0 y with
        | some (some z) => some (.pd z, e2)
        | _ => none) := rfl
@[simp] theorem z_rGet1 (env : Sl) (j : Nat) (y : PyData) : rGet env (.var j) y = dGet env j y := rfl
@[simp] theorem z_rGet3 (env : Sl) (x : PyData) (y : PyData) : rGet env (.pd x) y = (match dcOf x with
    | some c => cGet c y
    | none => none) := rfl
@[simp] theorem z_rGet2 (env : Sl) (c : Ct) (y : PyData) : rGet env (.tmp c) y = cGet c y := rfl
theorem e_dx {X : Cx} {o i : Expr} {pos : Pos} {fd fk : EE} (hu : X.A.units + 9 < cLine) (ho : PE X o (tE X.K fd)) (hi : PE X i (tE X.K fk)) (hs : NoSl i := by intro _ _; rfl) : PE X (.Subscript o i pos) (tE X.K (eDx fd fk)) := PE.imp (pe_dg hu ho hi hs) fun σ H Q t => by
  obtain ⟨B, env, d, env', en, ev, q⟩ := t
  unfold eDx at ev
  split at ev
  · cases ev
  rename_i d0 e1 h1
  split at ev
  · cases ev
  rename_i d' e2 h2
  split at ev
  · cases ev
  rename_i y hy
  split at ev
  · rename_i z hz
    cases ev
    refine ⟨B, env, _, _, en, h1, fun B1 H1 w a1 r1 => ⟨B1, e1, _, _, a1.en, h2, fun B2 H2 v a2 r2 => ?_⟩⟩
    obtain ⟨a, rfl, g⟩ := rGet_ok a2.en (r1.ra.later a1.en a2) (pdOf_rp r2 hy) hz
    exact ⟨B2, a, z, rfl, g, fun v r => q B2 H2 v (a1.trans en a2) r⟩
  · cases ev
end T3

end
section
set_option linter.all false
set_option autoImplicit false
set_option Elab.async false
set_option maxRecDepth 100000
namespace T3
open PySem L2
variable [TabL]
def IsDD (H : Hp) (a : Addr) : Prop := (∃ ws, H a = some (.dK ws)) ∨ ∃ es, H a = some (DnO a es)
theorem isDD_at {X : Cx} {pins : List (Addr × Obj)} {σ : St} {H : Hp} {s : Shared} {a : Addr} (I : Inv X pins σ H s) (d : IsDD H a) :
    s.TypeIs (.ref a) "dict" ∧ (∀ b, Value.ref a = .ref b → ∃ ob, s.heap.get? b = some ob ∧ ob.dict = none) := by
  rcases d with ⟨kvs, e⟩ | ⟨es, e⟩
  · obtain ⟨t1, t2, _⟩ := isD_at I (.inl ⟨kvs, .inl e⟩)
    exact ⟨t1, t2⟩
  · obtain ⟨⟨y, z, e1, e2, e3⟩, _⟩ := I.hok a _ e
    exact ⟨⟨_, e1, e2.1⟩, fun b q => by cases q; exact ⟨_, e1, e2.2.1⟩⟩
section
variable {X : Cx} {pins : List (Addr × Obj)} {σ : St} {H : Hp} {s : Shared} {a : Addr} {A : Around} {E : Value → Shared → Prop} {B : Mset} {y d : V} {u r : Value} {o : Option PyData} {x : PyData}
theorem dg_get2 {Q : Value → Shared → Prop} (hu : A.units + 9 < cLine) (I : Inv X pins σ H s) (g : DGt X.K B H a y o) (ry : RelV y u) (rd : RelV d r) (rp : Rp X.K B H d x)
    (h : ∀ w' s' v, Inv X pins σ H s' → RelV v w' → Rp X.K B H v (o.getD x) → Q w' s') : wpAny (model X.prog X.w) A (call (.builtin "dict.get") [.ref a, u, r]) Q E s := by
  rcases g with ⟨kvs, ws, k, e, rr, rfl, l⟩ | ⟨kvs, k, e, hk, rk, l⟩
  · refine d_get2 (o := valV ws k) (by omega) I (.inl ⟨ws, k, .inl e, rfl, rfl⟩) ry rd fun w' s' I' rv => h w' s' _ I' rv ?_
    rcases rr.val (k := k) with ⟨v, z, h1, h2, h3⟩ | ⟨h1, h2⟩
    · rw [l, h1, h2]; exact h3
    · rw [l, h1, h2]; exact rp
  · obtain ⟨b, rfl⟩ := nk_ref hk rk
    cases (show u = Value.ref b from ry)
    obtain ⟨ns, _, _, xs, dd, kn⟩ := dn_open I e
    refine call_meetsIn PySem.F.slot_dict_get dd.typeIs PySem.F.entry_dict_get (PySem.F.args_dict_get_3 _ _ _) (meetsH_dict_get_default (nestedKind X.prog X.w) a b ns r) ⟨room9 hu, k, xs, nk_key I hk rk, dd, ?_⟩
    rcases kn.val (k := k) with ⟨p, v, z, h1, h2, h3, h4⟩ | ⟨h1, h2⟩
    · rw [h1]
      exact h _ _ v (I.tok _) h3 (by rw [l, h2]; exact h4)
    · rw [h1]
      exact h _ _ d (I.tok _) rd (by rw [l, h2]; exact rp)
end
def tGt2 (K : PySem.W.Frag) (td ty tx : TE) : TE := fun σ H Q => td σ H fun v H1 => ∃ a, v = .ref a ∧ IsDD H1 a ∧ ty σ H1 fun y H2 => tx σ H2 fun z H3 => ∃ B o x, DGt K B H3 a y o ∧ Rp K B H3 z x ∧ ∀ w, Rp K B H3 w (o.getD x) → Q w H3
section
variable {X : Cx} {o e f : Expr} {apos cpos : Pos} {td ty tx : TE}
theorem pe_gt2 (hu : X.A.units + 9 < cLine) (ho : PE X o td) (he : PE X e ty) (hf : PE X f tx) (m : M2 X o "get" apos e f cpos) : PE X (.Call (.Attribute o "get" apos) [e, f] [] cpos) (tGt2 X.K td ty tx) := by
  refine ⟨fun pins s σ H Q I h => ?_⟩
  refine wpAny_Call_method m.base m.few m.line PySem.F.plainAttrs_dict PySem.F.slot_dict_get PySem.F.type_dict_get (thn (ho.run pins s σ H _ I h) fun u s1 ⟨x, H1, I1, rx, a, ex, d, q1⟩ => ?_)
  subst ex
  obtain rfl : u = Value.ref a := rx
  obtain ⟨t1, t2⟩ := isDD_at I1 d
  refine ⟨t1, t2, ?_⟩
  rw [m.trees]
  refine Calls.callWith_builtin rfl (Calls.evalArgs_plain (Calls.spliced_cons (thn (he.run pins s1 σ H1 _ I1 q1) fun iv s2 ⟨y, H2, I2, ry, q2⟩ => Calls.spliced_cons (thn (hf.run pins s2 σ H2 _ I2 q2) fun fv s3 ⟨z, H3, I3, rz, B, ov, xx, g, rp, q3⟩ => Calls.spliced_nil ?_))))
  exact dg_get2 hu I3 g ry rz rp fun w' s4 v I4 rw' rpv => ⟨v, H3, I4, rw', q3 v rpv⟩
end
def isDc (env : Sl) : R → Bool
  | .var j => match env[j]? with
    | some (some (.mu _ (.dk _))) => true
    | some (some (.mu _ (.dn _))) => true
    | _ => false
  | .tmp (.dk _) => true
  | .tmp (.dn _) => true
  | _ => false
theorem isDc_ok {K : PySem.W.Frag} {H₀ : Hp} {B : Mset} {H : Hp} {σ : St} {env : Sl} {w : V} {d : R} (en : EnvR K B H σ env) (h : RA K H₀ B H σ env w d) (e : isDc env d = true) : ∃ a, w = .ref a ∧ IsDD H a := by
  cases d with
  | pd x => cases e
  | nt x => cases e
  | var j =>
    dsimp only [isDc] at e
    split at e
    · rename_i m kvs hm
      obtain ⟨a, h1, _, ws, h2, _⟩ := en.mu _ _ _ hm
      have h : σ[j]? = some (some w) := h
      rw [h] at h1
      cases h1
      exact ⟨a, rfl, .inl ⟨ws, h2⟩⟩
    · rename_i m kvs hm
      obtain ⟨a, h1, _, es, h2, _⟩ := en.mu _ _ _ hm
      have h : σ[j]? = some (some w) := h
      rw [h] at h1
      cases h1
      exact ⟨a, rfl, .inr ⟨es, h2⟩⟩
    · cases e
  | tmp c =>
    obtain ⟨a, rfl, _, _, hc, _⟩ := h
    cases c with
    | ls xs => cases e
    | dk kvs => obtain ⟨ws, h2, _⟩ := hc; exact ⟨a, rfl, .inl ⟨ws, h2⟩⟩
    | dn kvs => obtain ⟨es, h2, _⟩ := hc; exact ⟨a, rfl, .inr ⟨es, h2⟩⟩
def eGt2 (fd fk fx : EE) : EE := fun env => match fd env with
  | none => none
  | some (d0, e1) => if isDc e1 d0 = true then match fk e1 with
      | none => none
      | some (d, e2) => match pdOf d with
        | none => none
        | some y => match fx e2 with
          | none => none
          | some (d', e3) => match pdOf d' with
            | none => none
            | some x => match rGet e3 d0 y with
              | some o => some (.pd (o.getD x), e3)
              | none => none
    else none
@[simp] theorem z_gt2 (fd fk fx : EE) (env : Sl) : eGt2 fd fk fx env = (match fd env with
  | none => none
  | some (d0, e1) => if isDc e1 d0 = true then match fk e1 with
      | none => none
      | some (d, e2) => match pdOf d with
        | none => none
        | some y => match fx e2 with
          | none => none
          | some (d', e3) => match pdOf d' with
            | none => none
            | some x => match rGet e3 d0 y with
              | some o => some (.pd (o.getD x), e3)
              | none => none
    else none) := rfl
section
variable {X : Cx} {o e f : Expr} {apos cpos : Pos} {fd fk fx : EE}
theorem e_gt2 (hu : X.A.units + 9 < cLine) (ho : PE X o (tE X.K fd)) (he : PE X e (tE X.K fk)) (hf : PE X f (tE X.K fx)) (m : M2 X o "get" apos e f cpos := by exact ⟨by rfl, by rfl, by rfl, by rfl⟩) : PE X (.Call (.Attribute o "get" apos) [e, f] [] cpos) (tE X.K (eGt2 fd fk fx)) := PE.imp (pe_gt2 hu ho he hf m) fun σ H Q t => by
  obtain ⟨B, env, d, env', en, ev, q⟩ := t
  unfold eGt2 at ev
  split at ev
  · cases ev
  rename_i d0 e1 h1
  split at ev
  · rename_i hd
    split at ev
    · cases ev
    rename_i d1 e2 h2
    split at ev
    · cases ev
    rename_i y hy
    split at ev
    · cases ev
    rename_i d2 e3 h3
    split at ev
    · cases ev
    rename_i x hx
    split at ev
    · rename_i ov hg
      cases ev
      refine ⟨B, env, _, _, en, h1, fun B1 H1 w a1 r1 => ?_⟩
      obtain ⟨a, rfl, dd⟩ := isDc_ok a1.en r1.ra hd
      refine ⟨a, rfl, dd, B1, e1, _, _, a1.en, h2, fun B2 H2 v a2 r2 => ⟨B2, e2, _, _, a2.en, h3, fun B3 H3 z a3 r3 => ?_⟩⟩
      have a23 := a2.trans a1.en a3
      obtain ⟨a', e', g⟩ := rGet_ok a3.en (r1.ra.later a1.en a23) ((pdOf_rp r2 hy).grow (a3.grow a2.en)) hg
      cases e'
      exact ⟨B3, ov, x, g, pdOf_rp r3 hx, fun w r => q B3 H3 w ((a1.trans en a2).trans en a3) r⟩
    · cases ev
  · cases ev
end
end T3

end
section
set_option linter.all false
set_option autoImplicit false
set_option Elab.async false
set_option maxRecDepth 100000
namespace T3
open PySem L2
variable [TabL]
noncomputable def kLrg : KK := fun ds env => match ds with
  | [.pd (.int n)] => if RgOk 0 n then some (.tmp (.ls (rgT 0 n)), env) else none
  | [.pd (.int i), .pd (.int j)] => if RgOk i j then some (.tmp (.ls (rgT i j)), env) else none
  | _ => none
noncomputable def eLrg (f : EA) : EE := eThen f kLrg
@[simp] theorem z_lrg (f : EA) (env : Sl) : eLrg f env = (match f env with
  | none => none
  | some (ds, e1) => kLrg ds e1) := rfl
section
variable {X : Cx} {a b : Expr} {fa fb : EE} {p p2 pos pos2 : Pos}
theorem rl_fin {K : PySem.W.Frag} {σ : St} {B B1 : Mset} {H H1 : Hp} {env env1 : Sl} {q : Addr} {ws : List V} {xs : List PyData} {Q : VK} (en : EnvR K B H σ env) (a : At K σ B H env B1 H1 env1) (np : H1 q = none) (hw : ∀ B H, RpA K B H ws xs)
    (k : ∀ B' H' v, At K σ B H env B' H' env1 → RR K H B' H' σ env1 v (.tmp (.ls xs)) → Q v H') : Q (.ref q) (upd H1 q (.lst ws)) := con_new en a np (hw _ _) k
theorem x_lrg1 (zt : X.mg "list" = none) (zr : X.mg "range" = none) (ha : PE X a (tE X.K fa)) (hc : X.calm = true := by rfl) (hg : Gl X "list" := by rfl) (hg2 : Gl X "range" := by rfl) (na : starEach [a] X.env = (false, eval a X.env) :: starEach [] X.env := by rfl)
    (nt : starEach [.Call (.Name "range" p2) [a] [] pos2] X.env = (false, eval (.Call (.Name "range" p2) [a] [] pos2) X.env) :: starEach [] X.env := by rfl) : PE X (.Call (.Name "list" p) [.Call (.Name "range" p2) [a] [] pos2] [] pos) (tE X.K (eLrg (eCons fa eNil))) :=
  PE.imp (pe_listRg hc hg zt (prg_1 hg2 zr ha na) nt) fun σ H Q t => by
    obtain ⟨B, env, d, env', en, ev, q⟩ := t
    unfold eLrg eThen at ev
    rw [z_cons] at ev
    cases h1 : fa env with
    | none => rw [h1] at ev; cases ev
    | some r =>
      obtain ⟨d1, e1⟩ := r
      rw [h1] at ev
      simp only [z_nil, kLrg] at ev
      split at ev
      · rename_i ds n he
        cases he
        split at ev
        · rename_i ok
          cases ev
          refine ⟨B, env, _, _, en, h1, fun B1 H1 v a1 r1 => ?_⟩
          have r1 : Rp X.K B1 H1 v (.int n) := r1
          cases r1
          exact ⟨n, rfl, ok, fun p np => rl_fin en a1 np (fun _ _ => rg_rp) q⟩
        · cases ev
      · rename_i he; cases he
      · cases ev
end
end T3

end
section
set_option linter.all false
set_option autoImplicit false
set_option Elab.async false
set_option maxRecDepth 100000
namespace T3
open PySem L2
variable [TabL]
def kRepL : KK := fun ds env => match ds with
  | [d, .pd (.int k)] => match lsOf env d with
    | none => none
    | some xs => if 0 ≤ k ∧ k ≤ 1000 ∧ xs.length ≤ 1000 then some (.tmp (.ls (List.replicate k.toNat xs).flatten), env) else none
  | _ => none
theorem c_repL {K : PySem.W.Frag} : Con K kRepL (l2 rRep) := by
  intro σ H B env B1 H1 env1 vs ds d e2 Q en a rr hk q x y e
  unfold kRepL at hk
  split at hk
  · rename_i d1 k
    split at hk
    · cases hk
    rename_i xs hx
    split at hk
    · rename_i hl
      cases hk
      subst e
      obtain ⟨p, us, rfl, h1, h2⟩ := lsOf_at a.en (rr.each 0 x d1 rfl rfl) hx
      have h3 : Rp K B1 H1 y (.int k) := rr.each 1 y (.pd (.int k)) rfl rfl
      cases h3
      have hm : xs.length * k.toNat ≤ 1000 * 1000 := Nat.mul_le_mul hl.2.2 (by omega)
      exact ⟨p, k, us, rfl, rfl, h1, by omega, by omega, by rw [h2.length]; exact Nat.le_of_lt (small hm), fun r nr => con_new en a nr (h2.rep _) q⟩
    · cases hk
  · cases hk
def oRepS : List PyData → Option PyData
  | [.str s, .int k] => if 0 ≤ k ∧ k ≤ 1000 ∧ s.length ≤ 1000 then some (.str (Txt.mul s k)) else none
  | _ => none
def rRepS : R2 := fun x y H Q => ∃ s k, x = .str s ∧ y = .int k ∧ 0 ≤ k ∧ k ≤ 1000 ∧ s.length ≤ 1000 ∧ Q (.str (Txt.mul s k)) H
theorem mulOk_of {s : Str} {k : Int} (h1 : 0 ≤ k) (h2 : k ≤ 1000) (h3 : s.length ≤ 1000) : MulOk s k := by
  have hm : s.length * k.toNat ≤ 1000 * 1000 := Nat.mul_le_mul h3 (by omega)
  refine ⟨?_, fun h4 _ => ?_, fun h4 _ => ?_⟩
  · rw [Bool.or_eq_false_iff, decide_eq_false_iff_not, decide_eq_false_iff_not]
    omega
  · have : ((2 : Int) ^ 63 - 1) / 1000 ≤ (2 ^ 63 - 1) / k := by
      refine Int.le_ediv_of_mul_le (by omega) ?_
      have : ((2 : Int) ^ 63 - 1) / 1000 * k ≤ ((2 : Int) ^ 63 - 1) / 1000 * 1000 := Int.mul_le_mul_of_nonneg_left h2 (by decide)
      have h5 : ((2 : Int) ^ 63 - 1) / 1000 * 1000 ≤ 2 ^ 63 - 1 := by decide
      omega
    have h6 : (1000 : Int) ≤ (2 ^ 63 - 1) / 1000 := by decide
    omega
  · show decide (s.length * k.toNat > sizeLine) = false
    rw [decide_eq_false_iff_not]
    have := small hm
    omega
theorem op_repS {X : Cx} : OpR X (binaryOp .Mult) rRepS := by
  intro pins s σ H x y v u Q I rx ry h
  obtain ⟨i, k, rfl, rfl, h1, h2, h3, q⟩ := h
  obtain ⟨t, rfl⟩ := rx
  obtain ⟨t', rfl⟩ := ry
  exact SB.mul (mulOk_of h1 h2 h3) (fun t' tk => ⟨.str _, H, I.tok _, ⟨_, rfl⟩, q⟩)
theorem ok_repS {K : PySem.W.Frag} : OkE K oRepS (l2 rRepS) := by
  intro B H vs xs z Q cn ho q x y e
  unfold oRepS at ho
  split at ho
  · split at ho
    · rename_i hl
      cases ho
      obtain ⟨v, w, e2, c1, c2⟩ := cn.two
      rw [e] at e2
      cases e2
      exact ⟨_, _, c1.str, c2.int, hl.1, hl.2.1, hl.2.2, q _ (Rp.str _)⟩
    · cases ho
  · cases ho
noncomputable def kMul2 : KK := kOr kRepL (kE oRepS)
noncomputable def eMul2 (fa fb : EE) : EE := eThen (eTwo fa fb) kMul2
@[simp] theorem z_mul2 (fa fb : EE) (env : Sl) : eMul2 fa fb env = eThen (eCons fa (eCons fb eNil)) kMul2 env := rfl
theorem x_mul2 {X : Cx} {a b : Expr} {fa fb : EE} {pos : Pos} (ha : PE X a (tE X.K fa)) (hb : PE X b (tE X.K fb)) : PE X (.BinOp a .Mult b pos) (tE X.K (eMul2 fa fb)) := e_op (OpR.or op_rep op_repS) (con_or2 c_repL (con_E ok_repS)) ha hb
end T3

end
section
set_option linter.all false
set_option autoImplicit false
set_option Elab.async false
set_option maxRecDepth 100000
namespace T3
open PySem L2
variable [TabL]
end T3

end
section
set_option linter.all false
set_option autoImplicit false
set_option Elab.async false
namespace T3
open PySem L2
variable [TabL]
end T3

end
section
set_option linter.all false
set_option autoImplicit false
set_option Elab.async false
set_option maxRecDepth 100000
namespace T3
open PySem L2
open Sem (wp)
open AutoSeq1 (wpAny_loadPart')
variable [TabL]
end T3

end
section
set_option linter.all false
set_option autoImplicit false
set_option Elab.async false
namespace T3
open PySem L2 PyProof.Rows
variable [TabL]
theorem len_same {a b : List Int} (h1 : a.Nodup) (h2 : b.Nodup) (h : ∀ x, x ∈ a ↔ x ∈ b) : a.length = b.length :=
  Nat.le_antisymm (h1.length_le_of_subset fun x hx => (h x).mp hx) (h2.length_le_of_subset fun x hx => (h x).mpr hx)
def tLST (K : PySem.W.Frag) (ta : TE) : TE := fun σ H Q => ta σ H fun x H1 => ∃ (t : Addr) (ns : List Int), x = V.ref t ∧ SqT K H1 t (ns.map V.int) ∧ ns.length < 64 ∧ ns.Nodup ∧ Q (.int ns.length) H1
theorem pe_lst {X : Cx} {a : Expr} {ta : TE} {p p2 q pos : Pos} (hc : X.calm = true) (hg : Gl X "len") (hm : X.mg "len" = none) (hg2 : Gl X "set") (hm2 : X.mg "set" = none) (ha : PE X a ta)
    (na : starEach [a] X.env = (false, eval a X.env) :: starEach [] X.env := by rfl) : PE X (.Call (.Name "len" p) [.Call (.Name "set" p2) [a] [] q] [] pos) (tLST X.K ta) := by
  refine ⟨fun pins s σ H Q I h => Call_ (ld_blt I hg hm PySem.boot_len ?_)⟩
  refine PyProof.Rows.callWith_builtin1 (PyProof.Rows.args_cons (Call_ (ld_blt I hg2 hm2 PyProof.Rows.boot_set ?_)) rfl) rfl rfl
  refine PyProof.Rows.callWith_type1 (PyProof.Rows.args_cons (thn (ha.run pins s σ H _ I h) fun v s1 ⟨x, H1, I1, r1, k1⟩ => PyProof.Rows.args_nil ?_) na) na rfl
  obtain ⟨t, ns, rfl, hq, b, nd, k1⟩ := k1
  cases r1
  obtain ⟨its, r, pt, hz⟩ := I1.tuple hq
  refine call_set_tupI ns (I1.ok.hd hc) (show s1.heap.IsTuple t its.toArray from pt) (by simpa using r.ints) (by unfold scanBound; omega) fun h' tk c R1 hcn hk => ?_
  obtain ⟨o, es, ep, z, ho, hex, hd, g, nk, hm3, hb, hf, hn, _, _⟩ := R1
  have ec : c = ns.length := by
    have := len_same nk nd fun x => by rw [← hm3 x]; simp
    rw [List.length_map, Array.length_toList, hn] at this
    exact this
  subst ec
  refine PyProof.Rows.args_nil ?_
  have I2 : Inv X pins σ H1 { s1 with heap := h', toks := tk } := I1.kept fun b o e => hk b o e
  exact call_len_set ho hex hd hf (by rw [hn]; omega) ⟨.int ns.length, H1, I2.tok _, ⟨_, by rw [hn]⟩, k1⟩
end T3

end
section
set_option linter.all false
set_option autoImplicit false
set_option Elab.async false
namespace T3
open PySem L2
variable [TabL]
end T3

end
section
set_option linter.all false
set_option autoImplicit false
set_option Elab.async false
namespace T3
open PySem PyProof.Rows
variable [TabL]
theorem sorted_strT {prog : Program} {w : World} {A : Around} {E : Value → Shared → Prop} {s : Shared} {l : Addr} {vs : List Value} {ss : List Str} {Q : Value → Shared → Prop} (hl : IsTup s.heap l vs.toArray) (hS : StrsAre vs ss) (h64 : vs.length < 64)
    (h : ∀ (out : Array Value) (ss' : List Str), StrsAre out.toList ss' → ss'.Perm ss → sortedS ss' = true → Q (.ref (s.heap.objs.size + 1)) { s with heap := sortedAll s.heap vs out }) : wpAny (model prog w) A (call (.builtin "sorted") [.ref l]) Q E s := by
  have hz : vs.length ≤ sizeLine := by rw [sizeLine_eq]; omega
  refine Calls.call_function_entry kind_sorted plain_sorted entry_sorted (args_sorted1 _) ?_
  unfold Builtin.«sorted»
  refine wpAny_bind (m := checkCount "sorted" 1 1 _) (wpAny_pure (wpAny_bind (collect_tup hl (wpAny_bind (wpAny_newList ?_ hz)) hz)))
  generalize eg : (s.heap.push (seqObj "list" #[] 0)).update s.heap.objs.size (Obj.mapSeq (· ++ vs.toArray)) = g
  have hg : g.objs.size = s.heap.objs.size + 1 := by rw [← eg, Heap.size_update, size_push']
  have new : (g.push (seqObj "list" vs.toArray 0)).get? (s.heap.objs.size + 1) = some (seqObj "list" vs.toArray 0) := by rw [← hg]; exact Heap.get?_push_size _ rfl
  show wpAny (model prog w) _ _ _ _ { s with heap := g.push (seqObj "list" vs.toArray 0) }
  rw [hg]
  refine wpAny_bind (wpAny_holding (wpAny_call_entry slot_list_sort ⟨_, new, rfl⟩ entry_list_sort
    (list_sort_treeK strKind_oneLt new hS.keysOf (fun v₁ v₂ rest e => keyKind_strs (by rw [← e]; exact hS)) h64 fun st' a1 a2 => ⟨_, rfl, ?_⟩) (args_list_sort _)))
  subst eg
  obtain ⟨ss', h1, h2, h3⟩ := sorted_out_str hS a1 a2
  exact wpAny_pure ⟨_, rfl, h _ ss' h1 h2 h3⟩
end T3
namespace T3
open PySem L2
variable [TabL]
def rSrtS (K : PySem.W.Frag) : List V → Hp → VK → Prop := fun vs H Q => ∃ (a : Addr) (xs : List Str), vs = [V.ref a] ∧ SqT K H a (xs.map V.str) ∧ xs.length < 64 ∧
  ∀ (ys : List Str) (p : Addr), ys.Perm xs → PyProof.Rows.sortedS ys = true → H p = none → Q (.ref p) (upd H p (.lst (ys.map V.str)))
theorem cr_srtS {X : Cx} : CallR X (.builtin "sorted") (rSrtS X.K) := by
  intro pins s σ H vs us Q I r h
  obtain ⟨a, xs, rfl, hs, h64, q⟩ := h
  obtain ⟨its, rv, hl, hz⟩ := I.tuple hs
  rw [Vals.ref1 r]
  have e0 := rv.length
  rw [List.length_map] at e0
  refine sorted_strT hl rv.strs (by rw [← e0]; exact h64) fun out ys h1 h2 h3 => ?_
  obtain ⟨ep, he'⟩ := PyProof.Rows.sortedAll_at s.heap its out
  have hlen : (ys.map V.str).length ≤ sizeLine := by rw [List.length_map, h2.length_eq]; exact small64 h64
  refine ⟨.ref _, upd H (s.heap.objs.size + 1) (.lst (ys.map V.str)), ?_, rfl, q ys _ h2 h3 (I.hok.fresh (Nat.le_succ _))⟩
  exact I.laid (t' := s.toks) (fun _ _ => PyProof.Rows.sortedAll_old) (Nat.le_succ _) ⟨hlen, out.toList, ep, vals_of_strs h1, he'⟩
def ltr : List Str := ["n", "e", "s", "w"]
def ltrS : List Str := ["e", "n", "s", "w"]
theorem ltr_all : ∀ a ∈ ltr, ∀ b ∈ ltr, ∀ c ∈ ltr, ∀ d ∈ ltr, [a, b, c, d].Nodup → PyProof.Rows.sortedS [a, b, c, d] = true → [a, b, c, d] = ltrS := by decide +kernel
theorem ltr_sorted {ys : List Str} (h : ys.Perm ltr) (hs : PyProof.Rows.sortedS ys = true) : ys = ltrS := by
  have nd : ys.Nodup := h.nodup_iff.mpr (by decide +kernel)
  have ln := h.length_eq
  have mm : ∀ y ∈ ys, y ∈ ltr := fun y hy => h.mem_iff.mp hy
  match ys, ln with
  | [a, b, c, d], _ => exact ltr_all a (mm a (by simp)) b (mm b (by simp)) c (mm c (by simp)) d (mm d (by simp)) nd hs
  | [], ln => simp [ltr] at ln
  | [_], ln => simp [ltr] at ln
  | [_, _], ln => simp [ltr] at ln
  | [_, _, _], ln => simp [ltr] at ln
  | _ :: _ :: _ :: _ :: _ :: _, ln => simp [ltr] at ln
def kSrtL : KK := fun ds env => match ds with
  | [.pd d] => match d with
    | .tuple xs => match strs? xs with
      | some ss => if ss = ltr then some (.tmp (.ls (ltrS.map .str)), env) else none
      | none => none
    | _ => none
  | _ => none
theorem c_srtL {K : PySem.W.Frag} : Con K kSrtL (rSrtS K) := by
  intro σ H B env B1 H1 env1 vs ds d e2 Q en a rr hk q
  unfold kSrtL at hk
  split at hk
  · rename_i d1
    split at hk
    · rename_i xs
      split at hk
      · rename_i ss hs
        split at hk
        · rename_i hl
          cases hk
          match vs, rr with
          | [v], rr =>
            obtain ⟨p, us, rfl, h1, h2⟩ := (Cn.of a.en (rr.each 0 v _ rfl rfl) (x := .tuple xs) rfl).tuple
            rw [strs_map hs] at h2
            have e := h2.strs
            subst e
            refine ⟨p, ss, rfl, h1, by rw [hl]; decide, fun ys r k1 k2 nr => ?_⟩
            subst hl
            rw [ltr_sorted k1 k2]
            refine con_new en a nr ?_ q
            exact .cons (.str _) (.cons (.str _) (.cons (.str _) (.cons (.str _) .nil)))
          | [], rr => have := rr.len; simp at this
          | _ :: _ :: _, rr => have := rr.len; simp at this
        · cases hk
      · cases hk
    · cases hk
  · cases hk
theorem w_srtL {X : Cx} : Blt X "sorted" kSrtL := ⟨_, _, cr_srtS, c_srtL, by decide +kernel⟩
end T3

end
section
set_option linter.all false
set_option autoImplicit false
set_option Elab.async false
namespace T3
open PySem L2
variable [TabL]
def bLs (f : EE) : EB := fun env => match f env with
  | some (d, e) => match ctn e d with
    | some (.list xs) => some (!xs.isEmpty, e)
    | some (.tuple xs) => some (!xs.isEmpty, e)
    | _ => none
  | _ => none
@[simp] theorem z_bLs (f : EE) (env : Sl) : bLs f env = (match f env with
  | some (d, e) => match ctn e d with
    | some (.list xs) => some (!xs.isEmpty, e)
    | some (.tuple xs) => some (!xs.isEmpty, e)
    | _ => none
  | _ => none) := rfl
theorem emp_of {K : PySem.W.Frag} {B : Mset} {H : Hp} {us : List V} {xs : List PyData} (h : RpA K B H us xs) : (!xs.isEmpty) = !us.isEmpty := by
  cases h <;> rfl
theorem b_lst {X : Cx} {a : Expr} {f : EE} (h : PE X a (tE X.K f)) (he : ∀ whole, isTrue a X.env whole = (do let v ← whole; standAt a.pos; holding [v] (truthy v)) := by exact fun _ => rfl) : PT X a (tT X.K (bLs f)) :=
  PT.imp (pt_truth h he) fun σ H Q t => by
    obtain ⟨B, env, b, env', en, ev, q⟩ := t
    unfold bLs at ev
    split at ev
    · rename_i d e1 h1
      split at ev
      · rename_i xs hx
        cases ev
        refine ⟨B, env, d, _, en, h1, fun B1 H1 v a1 r1 => ?_⟩
        obtain ⟨p, us, rfl, g1, g2⟩ := (Cn.of a1.en r1.ra hx).list
        exact ⟨_, .inl ⟨us, g1, emp_of g2⟩, q B1 H1 a1⟩
      · rename_i xs hx
        cases ev
        refine ⟨B, env, d, _, en, h1, fun B1 H1 v a1 r1 => ?_⟩
        obtain ⟨p, us, rfl, g1, g2⟩ := (Cn.of a1.en r1.ra hx).tuple
        exact ⟨_, .inr (.inl ⟨us, g1, emp_of g2⟩), q B1 H1 a1⟩
      · cases ev
    · cases ev
end T3

end
section
set_option linter.all false
set_option autoImplicit false
set_option Elab.async false
namespace T3
open PySem PyProof.Rows TS
variable [TabL]
end T3
namespace T3
open PySem L2
variable [TabL]
end T3

end
section
set_option linter.all false
set_option autoImplicit false
set_option Elab.async false
namespace T3
open PySem L2
variable [TabL]
def sMov (i j : Nat) : SS := fun env => match env[j]? with
  | some (some (.mu .own c)) => if free env i = true ∧ i ≠ j then some (.nx, (env.set j none).set i (some (.mu .own c))) else none
  | _ => none
theorem rd_mov {K : PySem.W.Frag} {i j : Nat} {D : Ends} {σ : St} {H : Hp} (h : tS K (sMov i j) D σ H) : tAsg (tVar j) (gName i) D σ H := by
  obtain ⟨B, env, fl, env', en, ev, q⟩ := h
  unfold sMov at ev
  split at ev
  · rename_i c hj
    split at ev
    · rename_i hc
      obtain ⟨hf, ne⟩ := hc
      cases ev
      obtain ⟨a, ha, hB, hC⟩ := en.mu j .own c hj
      obtain ⟨hi, hm⟩ := free_ne hf
      have hiσ : i < σ.length := by rw [← en.len]; exact hi
      have ne' : j ≠ i := fun z => ne z.symm
      have out : ∀ (k : Nat) x, ((env.set j none).set i (some (.mu .own c)))[k]? = some (some x) → (k = i ∧ x = .mu .own c) ∨ (i ≠ k ∧ j ≠ k ∧ env[k]? = some (some x)) := fun k x e => by
        rcases get_set e with ⟨z, z'⟩ | ⟨z, e⟩
        · exact .inl ⟨z.symm, by cases z'; rfl⟩
        · rcases get_set e with ⟨y, y'⟩ | ⟨y, e⟩
          · cases y'
          · exact .inr ⟨z, y, e⟩
      have wsub : ∀ b, Wof (σ.set i (some (.ref a))) ((env.set j none).set i (some (.mu .own c))) b → Wof σ env b := by
        rintro b ⟨k, m, c', h1, h2, h3⟩
        rcases out k _ h1 with ⟨rfl, _⟩ | ⟨z, y, e⟩
        · rw [List.getElem?_set_self hiσ] at h3
          cases h3
          exact ⟨j, .own, c, hj, by decide, ha⟩
        · rw [List.getElem?_set_ne z] at h3
          exact ⟨k, m, c', e, h2, h3⟩
      refine ⟨_, ha, q B _ H ⟨⟨fun _ _ h _ => h, fun _ h => .inl h, fun _ h _ => h, fun b w => .inl (wsub b w), fun _ h => h⟩, ⟨by simp [en.len], fun k x h => ?_, fun k x h => ?_, fun k m c' h => ?_, fun k l m n c1 c2 b h1 h2 h3 h4 => ?_, en.dom, en.tb⟩, fun k m c' h hn => ?_⟩⟩
      · rcases out k _ h with ⟨_, z⟩ | ⟨z, y, e⟩
        · cases z
        · obtain ⟨v, h1, h2⟩ := en.pd k x e
          exact ⟨v, by rw [List.getElem?_set_ne z]; exact h1, h2⟩
      · rcases out k _ h with ⟨_, z⟩ | ⟨z, y, e⟩
        · cases z
        · obtain ⟨v, h1, h2⟩ := en.nt k x e
          exact ⟨v, by rw [List.getElem?_set_ne z]; exact h1, h2⟩
      · rcases out k _ h with ⟨rfl, z⟩ | ⟨z, y, e⟩
        · cases z
          exact ⟨a, by rw [List.getElem?_set_self hiσ], hB, hC⟩
        · obtain ⟨v, h1, h2⟩ := en.mu k m c' e
          exact ⟨v, by rw [List.getElem?_set_ne z]; exact h1, h2⟩
      · rcases out k _ h1 with ⟨rfl, _⟩ | ⟨z, y, e⟩
        · rcases out l _ h2 with ⟨rfl, _⟩ | ⟨z2, y2, e2⟩
          · rfl
          · rw [List.getElem?_set_self hiσ] at h3
            cases h3
            rw [List.getElem?_set_ne z2] at h4
            exact absurd (en.inj j l _ _ _ _ a hj e2 ha h4) y2
        · rcases out l _ h2 with ⟨rfl, _⟩ | ⟨z2, y2, e2⟩
          · rw [List.getElem?_set_self hiσ] at h4
            cases h4
            rw [List.getElem?_set_ne z] at h3
            exact absurd (en.inj j k _ _ _ _ a hj e ha h3) y
          · rw [List.getElem?_set_ne z] at h3
            rw [List.getElem?_set_ne z2] at h4
            exact en.inj k l _ _ _ _ b e e2 h3 h4
      · have k1 : i ≠ k := fun z => by subst z; exact hn (hm _ _ h)
        have k2 : j ≠ k := fun z => by subst z; rw [hj] at h; cases h; exact hn rfl
        exact ⟨by rw [List.getElem?_set_ne k1], c', by rw [List.getElem?_set_ne k1, List.getElem?_set_ne k2]; exact h⟩
    · cases ev
  · cases ev
theorem s_mov {X : Cx} {pos : Pos} {e : Expr} {i j : Nat} {x : Str} {pos' : Pos} (hN : X.N.Nodup) (hi : X.N[i]? = some x) (hx : Loc X.env.scope x) (he : PE X e (tVar j)) (hs : swapsWith e (some (.Name x pos')) pos.line X.env = pure false := by rfl) (hf : X.fn x = true ∨ X.env.scope.names.lookup x = some .local := by first | exact .inl rfl | exact .inr rfl | assumption) :
    PS X (.Assign [.Name x pos'] e pos) (tS X.K (sMov i j)) := PS.imp (ps_set hN hi hx he hs hf) fun _ _ _ t => rd_mov t
@[simp] theorem z_mov (i j : Nat) (env : Sl) : sMov i j env = (match env[j]? with
  | some (some (.mu .own c)) => if free env i = true ∧ i ≠ j then some (.nx, (env.set j none).set i (some (.mu .own c))) else none
  | _ => none) := rfl
end T3

end
section
set_option linter.all false
set_option autoImplicit false
set_option Elab.async false
namespace T3
open PySem PySem.Spec PySem.W L2 PyProof.Rows
variable [TabL]
end T3
namespace T3
open PySem L2
variable [TabL]
end T3

end
section
set_option linter.all false
set_option autoImplicit false
set_option Elab.async false
set_option maxRecDepth 100000
set_option maxHeartbeats 1000000
namespace ZM
open PySem RZ
open PySem.Sem (wp)
def Fin (prog : Program) (w : World) (it : Addr) (P : Heap → Prop) : Prop :=
  ∀ {A : Around} {E : Value → Shared → Prop} {Q : Value → Shared → Prop} {s : Shared}, A.handled = none → P s.heap → (∀ h' e, Heap.ExtBut it s.heap h' → (∃ o, h'.get? e = some o ∧ o.cls = .type "StopIteration") → E (.ref e) { s with heap := h' }) → wpAny (model prog w) A (Builtin.SmallTypes.nextOf (.ref it)) Q E s
section
variable {prog : Program} {w : World} {A : Around} {E : Value → Shared → Prop} {s : Shared}
end
end ZM

end
section
set_option linter.all false
set_option autoImplicit false
set_option Elab.async false
set_option maxRecDepth 100000
set_option maxHeartbeats 1000000
namespace ZM
open PySem PySem.Spec PyProof.Rows L2 RZ
end ZM
namespace T3
open PySem L2
variable [TabL]
end T3

end
section
set_option linter.all false
set_option autoImplicit false
set_option Elab.async false
namespace T3
open PySem L2
variable [TabL]
end T3

end
section
set_option linter.all false
set_option autoImplicit false
set_option Elab.async false
namespace T3
open PySem L2
variable [TabL]
def wS (f : SS) (env : Sl) (P : Fl → Sl → Prop) : Prop := match f env with
  | none => False
  | some p => P p.1 p.2
theorem wS_ex {f : SS} {env : Sl} {P : Fl → Sl → Prop} : wS f env P ↔ ∃ fl e, f env = some (fl, e) ∧ P fl e := by
  unfold wS
  constructor
  · intro h
    split at h
    · exact h.elim
    · rename_i p hp
      exact ⟨p.1, p.2, hp, h⟩
  · rintro ⟨fl, e, h1, h2⟩
    rw [h1]
    exact h2
def Go (g : SS) (P : Fl → Sl → Prop) (e : Sl) : Prop := wS g e P
def nxt (K : Sl → Prop) (P : Fl → Sl → Prop) : Fl → Sl → Prop
  | .nx, e => K e
  | .bk, e => P .bk e
  | .ct, e => P .ct e
  | .rt d, e => P (.rt d) e
def wF (F : FnD) (as : List S) (Q : R → List S → Prop) : Prop := ∃ r as', F as = some (r, as') ∧ Q r as'
def retP (as : List S) (Q : R → List S → Prop) : Fl → Sl → Prop
  | .rt d, e => ∃ d' as', outR e d = some d' ∧ finals as e = some as' ∧ Q d' as'
  | .nx, e => ∃ as', finals as e = some as' ∧ Q (.pd .none) as'
  | .bk, _ => False
  | .ct, _ => False
def lpP (I : Sl → Prop) (P : Fl → Sl → Prop) : Fl → Sl → Prop
  | .nx, e => I e
  | .ct, e => I e
  | .bk, e => P .nx e
  | .rt d, e => P (.rt d) e
section
variable {f g : SS} {env : Sl} {P P' : Fl → Sl → Prop} {K : Sl → Prop} {e : Sl}
theorem go : Go g P e ↔ wS g e P := Iff.rfl
@[simp] theorem nxt_nx : nxt K P .nx e = K e := rfl
@[simp] theorem nxt_rt {d : R} : nxt K P (.rt d) e = P (.rt d) e := rfl
@[simp] theorem lpP_nx : lpP K P .nx e = K e := rfl
@[simp] theorem lpP_ct : lpP K P .ct e = K e := rfl
@[simp] theorem lpP_bk : lpP K P .bk e = P .nx e := rfl
@[simp] theorem lpP_rt {d : R} : lpP K P (.rt d) e = P (.rt d) e := rfl
@[simp] theorem retP_rt {as : List S} {Q : R → List S → Prop} {d : R} : retP as Q (.rt d) e = ∃ d' as', outR e d = some d' ∧ finals as e = some as' ∧ Q d' as' := rfl
@[simp] theorem retP_nx {as : List S} {Q : R → List S → Prop} : retP as Q .nx e = ∃ as', finals as e = some as' ∧ Q (.pd .none) as' := rfl
theorem wS.imp (h : wS f env P) (i : ∀ fl e, P fl e → P' fl e) : wS f env P' := let ⟨fl, e, a, b⟩ := wS_ex.mp h; wS_ex.mpr ⟨fl, e, a, i fl e b⟩
theorem wS_of {fl : Fl} (h : f env = some (fl, e)) (q : P fl e) : wS f env P := wS_ex.mpr ⟨fl, e, h, q⟩
theorem wS_seq (h : wS f env (nxt (Go g P) P)) : wS (sSeq f g) env P := by
  rw [wS_ex] at h ⊢
  obtain ⟨fl, e, h1, h2⟩ := h
  cases fl with
  | nx =>
    obtain ⟨fl, e', h3, h4⟩ := wS_ex.mp h2
    exact ⟨fl, e', by simp [h1, h3], h4⟩
  | bk => exact ⟨_, _, by simp [h1], h2⟩
  | ct => exact ⟨_, _, by simp [h1], h2⟩
  | rt d => exact ⟨_, _, by simp [h1], h2⟩
def gW (g : GG) (x : PyData) (e : Sl) (K : Sl → Prop) : Prop := match g x e with
  | none => False
  | some e1 => K e1
theorem gW_ex {g : GG} {x : PyData} {e : Sl} {K : Sl → Prop} (h : gW g x e K) : ∃ e1, g x e = some e1 ∧ K e1 := by
  unfold gW at h
  split at h
  · exact h.elim
  · rename_i e1 h1
    exact ⟨e1, h1, h⟩
theorem wS_forL {g : GG} {body : SS} (I : List PyData → Sl → Prop) (hs : ∀ x rest e, I (x :: rest) e → gW g x e (Go body (lpP (I rest) P))) (he : ∀ e, I [] e → P .nx e) : ∀ xs e, I xs e → wS (forL g body xs) e P
  | [], e, h => wS_of (fl := .nx) rfl (he e h)
  | x :: xs, e, h => by
    obtain ⟨e1, h1, hw⟩ := gW_ex (hs x xs e h)
    obtain ⟨fl, e2, h2, h3⟩ := wS_ex.mp hw
    cases fl with
    | nx =>
      obtain ⟨fl, e3, h4, h5⟩ := wS_ex.mp (wS_forL I hs he xs e2 h3)
      exact wS_of (by simp only [forL, h1, h2, h4]) h5
    | ct =>
      obtain ⟨fl, e3, h4, h5⟩ := wS_ex.mp (wS_forL I hs he xs e2 h3)
      exact wS_of (by simp only [forL, h1, h2, h4]) h5
    | bk => exact wS_of (fl := .nx) (by simp only [forL, h1, h2]) h3
    | rt d => exact wS_of (fl := .rt d) (by simp only [forL, h1, h2]) h3
theorem wS_for {it : EI} {g : GG} {body : SS} {xs : List PyData} {lk : Lk} (hi : it env = some (xs, lk, e)) (I : List PyData → Sl → Prop) (h0 : I xs e)
    (hs : ∀ x rest e, I (x :: rest) e → gW g x e (Go body (lpP (I rest) fun fl e => P fl (unlock lk e)))) (he : ∀ e, I [] e → P .nx (unlock lk e)) : wS (sFor it g body) env P := by
  obtain ⟨fl, e', h1, h2⟩ := wS_ex.mp (wS_forL (P := fun fl e => P fl (unlock lk e)) I hs he xs e h0)
  exact wS_of (by simp only [z_for, hi, h1]) h2
def bW (c : EB) (e : Sl) (K L : Sl → Prop) : Prop := match c e with
  | none => False
  | some p => if p.1 = true then K p.2 else L p.2
theorem bW_ex {c : EB} {e : Sl} {K L : Sl → Prop} (h : bW c e K L) : ∃ b e1, c e = some (b, e1) ∧ if b = true then K e1 else L e1 := by
  unfold bW at h
  split at h
  · exact h.elim
  · rename_i p h1
    exact ⟨p.1, p.2, h1, h⟩
theorem wS_whileN {c : EB} {body : SS} (I : Nat → Sl → Prop) (hs : ∀ n e, I n e → bW c e (fun e1 => wS body e1 (lpP (fun e => ∃ m, m < n ∧ I m e) P)) (P .nx)) : ∀ n e, I n e → ∃ N fl e', whileN c body N e = some (fl, e') ∧ P fl e' := by
  intro n
  induction n using Nat.strongRecOn with
  | _ n ih =>
    intro e h
    obtain ⟨b, e1, h1, h2⟩ := bW_ex (hs n e h)
    cases b with
    | false => exact ⟨1, .nx, e1, by simp only [whileN, h1], h2⟩
    | true =>
      obtain ⟨fl, e2, h3, h4⟩ := wS_ex.mp h2
      cases fl with
      | nx =>
        obtain ⟨m, hm, hI⟩ := h4
        obtain ⟨N, fl, e3, h5, h6⟩ := ih m hm e2 hI
        exact ⟨N + 1, fl, e3, by simp only [whileN, h1, h3, h5], h6⟩
      | ct =>
        obtain ⟨m, hm, hI⟩ := h4
        obtain ⟨N, fl, e3, h5, h6⟩ := ih m hm e2 hI
        exact ⟨N + 1, fl, e3, by simp only [whileN, h1, h3, h5], h6⟩
      | bk => exact ⟨1, .nx, e2, by simp only [whileN, h1, h3], h4⟩
      | rt d => exact ⟨1, .rt d, e2, by simp only [whileN, h1, h3], h4⟩
theorem wS_while {c : EB} {body : SS} (I : Nat → Sl → Prop) (n : Nat) (h0 : I n env) (hs : ∀ n e, I n e → bW c e (fun e1 => wS body e1 (lpP (fun e => ∃ m, m < n ∧ I m e) P)) (P .nx)) : wS (sWhile c body) env P := by
  obtain ⟨N, fl, e', h1, h2⟩ := wS_whileN I hs n env h0
  exact wS_of (sWhile_of h1) h2
theorem wF_run {n : Nat} {b : SS} {as : List S} {Q : R → List S → Prop} (h : startE n as = e) (q : wS b e (retP as Q)) : wF (runFn n b) as Q := by
  obtain ⟨fl, e', h1, h2⟩ := wS_ex.mp q
  cases fl with
  | nx =>
    obtain ⟨as', h3, h4⟩ := h2
    exact ⟨_, _, by rw [run_of h, h1]; simp only [h3], h4⟩
  | rt d =>
    obtain ⟨d', as', h3, h4, h5⟩ := h2
    exact ⟨_, _, by rw [run_of h, h1]; simp only [h3, h4], h5⟩
  | bk => exact h2.elim
  | ct => exact h2.elim
end
end T3

end
section
set_option linter.all false
set_option autoImplicit false
set_option Elab.async false
namespace T3
open PySem L2
variable [TabL]
section
variable (env : Sl) (fa fb : EE) (f : EA) (x y : PyData) (j : Nat) (ds : List R) (neg : Bool)
@[simp] theorem z_dg : eDg fa fb env = (match fa env with
  | some (.var j, e1) => match fb e1 with
    | some (d, e2) => match pdOf d with
      | some y => match dGet e2 j y with
        | some (some z) => some (.pd z, e2)
        | _ => none
      | none => none
    | none => none
  | _ => none) := rfl
@[simp] theorem z_di : eDi neg fa fb env = (match fa env with
  | some (d, e1) => match pdOf d with
    | some y => match fb e1 with
      | some (.var j, e2) => match dGet e2 j y with
        | some o => some (.pd (.bool (if neg = true then !o.isSome else o.isSome)), e2)
        | none => none
      | _ => none
    | none => none
  | none => none) := rfl
@[simp] theorem z_pdOf1 : pdOf (.pd x) = some x := rfl
@[simp] theorem z_pdOf2 (xs : List PyData) : pdOf (.nt xs) = some (.tuple xs) := rfl
@[simp] theorem z_dGet : dGet env j y = (match env[j]? with
  | some (some (.mu _ c)) => cGet c y
  | _ => none) := rfl
@[simp] theorem z_dPut : dPut env j y x = (match env[j]? with
  | some (some (.mu m c)) => if m = .fro then none else match cPut c y x with
    | some c' => some (env.set j (some (.mu m c')))
    | none => none
  | _ => none) := rfl
@[simp] theorem z_gDs : gDs fa fb x env = (match fa env with
  | some (.var j, e1) => match fb e1 with
    | some (d, e2) => match pdOf d with
      | some y => dPut e2 j y x
      | none => none
    | none => none
  | _ => none) := rfl
end
end T3

end
section
set_option linter.all false
set_option autoImplicit false
set_option Elab.async false
namespace MM
open PySem L2 T3
abbrev Cell := Int × Int
abbrev Ly := Int × Int × Int
inductive Dir where | n | e | s | w
  deriving DecidableEq
def Dir.code : Dir → Nat
  | .n => 110
  | .e => 101
  | .s => 115
  | .w => 119
def chS (d : Dir) : Str := ⟨#[d.code]⟩
def rowS (ds : List Dir) : Str := ⟨(ds.map Dir.code).toArray⟩
def lyD (l : Ly) : PyData := .tuple [.int l.1, .int l.2.1, .int l.2.2]
def stD (c : Cell) (l : Ly) : PyData := .tuple [clD c, lyD l]
def stepC (c : Cell) : Dir → Cell
  | .n => (c.1, c.2 + 1)
  | .e => (c.1 + 1, c.2)
  | .s => (c.1, c.2 - 1)
  | .w => (c.1 - 1, c.2)
def roll (l : Ly) : Dir → Ly
  | .n => (l.2.1, 5 - l.1, l.2.2)
  | .s => (5 - l.2.1, l.1, l.2.2)
  | .e => (l.2.2, l.2.1, 5 - l.1)
  | .w => (5 - l.2.2, l.2.1, l.1)
def lyings : List Ly := [(0, 1, 2), (0, 2, 4), (0, 3, 1), (0, 4, 3), (1, 0, 3), (1, 2, 0), (1, 3, 5), (1, 5, 2), (2, 0, 1), (2, 1, 5), (2, 4, 0), (2, 5, 4), (3, 0, 4), (3, 1, 0), (3, 4, 5), (3, 5, 1), (4, 0, 2), (4, 2, 5), (4, 3, 0), (4, 5, 3), (5, 1, 3), (5, 2, 1), (5, 3, 4), (5, 4, 2)]
theorem roll_mem : ∀ l ∈ lyings, ∀ d, roll l d ∈ lyings := by
  intro l hl d
  cases d <;> revert l <;> decide
theorem chS_n : chS .n = "n" := by decide
theorem chS_e : chS .e = "e" := by decide
theorem chS_s : chS .s = "s" := by decide
theorem chS_inj {a b : Dir} (h : chS a = chS b) : a = b := by
  cases a <;> cases b <;> first | rfl | (exfalso; revert h; decide)
theorem eqv_int (i j : Int) : PyData.eqv (.int i) (.int j) = decide (i = j) := by
  simp only [PyData.eqv]; by_cases h : i = j <;> simp [h]
theorem eqv_cell (c d : Cell) : PyData.eqv (clD c) (clD d) = decide (c = d) := by
  simp only [clD, PyData.eqv, PyData.eqvAll]
  by_cases h1 : c.1 = d.1 <;> by_cases h2 : c.2 = d.2 <;> simp [h1, h2, Prod.ext_iff]
theorem eqv_ly (c d : Ly) : PyData.eqv (lyD c) (lyD d) = decide (c = d) := by
  simp only [lyD, PyData.eqv, PyData.eqvAll]
  by_cases h1 : c.1 = d.1 <;> by_cases h2 : c.2.1 = d.2.1 <;> by_cases h3 : c.2.2 = d.2.2 <;> simp [h1, h2, h3, Prod.ext_iff]
theorem eqv_ch (a b : Dir) : PyData.eqv (.str (chS a)) (.str (chS b)) = decide (a = b) := by
  simp only [PyData.eqv]
  by_cases h : a = b
  · simp [h]
  · simp [h]
    intro z
    exact h (chS_inj z)
theorem sh_int (i : Int) : SeqAt.shaped (.int i) = true := by simp [SeqAt.shaped, PyData.canLay0, PyData.depth]
theorem sh_ch (d : Dir) : SeqAt.shaped (.str (chS d)) = true := by cases d <;> simp [SeqAt.shaped, PyData.canLay0, PyData.depth, PyData.strOk, chS, Dir.code]
theorem sh_cell (c : Cell) : SeqAt.shaped (clD c) = true := by simp [clD, SeqAt.shaped, PyData.canLay0, PyData.canLayAll0, PyData.depth, PyData.depthAll]
theorem sh_ly (c : Ly) : SeqAt.shaped (lyD c) = true := by simp [lyD, SeqAt.shaped, PyData.canLay0, PyData.canLayAll0, PyData.depth, PyData.depthAll]
theorem lay_map {α : Type} (f : α → PyData) (h : ∀ a, (f a).canLay0 = true) : ∀ l : List α, PyData.canLayAll0 (l.map f) = true
  | [] => by simp [PyData.canLayAll0]
  | a :: l => by simp [PyData.canLayAll0, h a, lay_map f h l]
theorem depth_map {α : Type} (f : α → PyData) (k : Nat) (h : ∀ a, (f a).depth ≤ k) : ∀ l : List α, PyData.depthAll (l.map f) ≤ k
  | [] => by simp [PyData.depthAll]
  | a :: l => by
    have h1 := h a
    have h2 := depth_map f k h l
    simp only [List.map_cons, PyData.depthAll]
    omega
theorem sh_tup {α : Type} (f : α → PyData) (h1 : ∀ a, (f a).canLay0 = true) (h2 : ∀ a, (f a).depth ≤ 60) (l : List α) : SeqAt.shaped (.tuple (l.map f)) = true := by
  have a := lay_map f h1 l
  have b := depth_map f 60 h2 l
  simp only [SeqAt.shaped, PyData.canLay0, PyData.depth, a, Bool.true_and, decide_eq_true_eq]
  exact decide_eq_true (by omega)
theorem sh_lst {α : Type} (f : α → PyData) (h1 : ∀ a, (f a).canLay0 = true) (h2 : ∀ a, (f a).depth ≤ 60) (l : List α) : SeqAt.shaped (.list (l.map f)) = true := by
  have a := lay_map f h1 l
  have b := depth_map f 60 h2 l
  simp only [SeqAt.shaped, PyData.canLay0, PyData.depth, a, Bool.true_and, decide_eq_true_eq]
  exact decide_eq_true (by omega)
theorem sh_cells (l : List Cell) : SeqAt.shaped (.tuple (l.map clD)) = true := sh_tup clD (fun c => by simp [clD, PyData.canLay0, PyData.canLayAll0]) (fun c => by simp [clD, PyData.depth, PyData.depthAll]) l
theorem sh_cellsL (l : List Cell) : SeqAt.shaped (.list (l.map clD)) = true := sh_lst clD (fun c => by simp [clD, PyData.canLay0, PyData.canLayAll0]) (fun c => by simp [clD, PyData.depth, PyData.depthAll]) l
theorem any_cell (c : Cell) (l : List Cell) : ((l.map clD).any fun z => PyData.eqv z (clD c)) = decide (c ∈ l) := by
  induction l with
  | nil => simp
  | cons a l ih =>
    rw [List.map_cons, List.any_cons, ih, eqv_cell]
    by_cases h : a = c
    · simp [h]
    · have h' : ¬ c = a := fun z => h z.symm
      simp [h, h']
theorem lcL_pure {g : GG} {t : EB} {f : EE} {vs : List Nat} {env : Sl} {α : Type} {p : α → Bool} {y : α → PyData} {q : α → PyData} : ∀ (as : List α) (acc : List PyData),
    (∀ a ∈ as, ∃ e1 e2, g (q a) (wipeE env vs) = some e1 ∧ t e1 = some (p a, e2) ∧ (p a = true → ∃ d e3, f e2 = some (d, e3) ∧ data1 d = some (y a) ∧ unwipe env e3 vs = env) ∧ (p a = false → unwipe env e2 vs = env)) →
    lcL g t f vs (as.map q) env acc = some (acc ++ (as.filter p).map y, env)
  | [], acc, _ => by simp [lcL]
  | a :: as, acc, h => by
    obtain ⟨e1, e2, h1, h2, h3, h4⟩ := h a (by simp)
    have ih := fun acc => lcL_pure (g := g) (t := t) (f := f) (vs := vs) (env := env) (p := p) (y := y) (q := q) as acc (fun b hb => h b (by simp [hb]))
    rw [List.map_cons]
    unfold lcL
    rw [h1]
    simp only [h2]
    cases hp : p a with
    | true =>
      obtain ⟨d, e3, k1, k2, k3⟩ := h3 hp
      simp only [k1, k2, k3, if_true, ih, List.filter_cons, hp, List.map_cons, List.append_assoc, List.cons_append, List.nil_append]
    | false =>
      simp only [h4 hp, ih, List.filter_cons, hp]
      simp
theorem lcL_all {g : GG} {f : EE} {vs : List Nat} {env : Sl} {α : Type} {y : α → PyData} {q : α → PyData} (as : List α) 
    (h : ∀ a ∈ as, ∃ e1 d e3, g (q a) (wipeE env vs) = some e1 ∧ f e1 = some (d, e3) ∧ data1 d = some (y a) ∧ unwipe env e3 vs = env) :
    lcL g bYes f vs (as.map q) env [] = some (as.map y, env) := by
  have := lcL_pure (g := g) (t := bYes) (f := f) (vs := vs) (env := env) (p := fun _ => true) (y := y) (q := q) as [] (fun a ha => by
    obtain ⟨e1, d, e3, h1, h2, h3, h4⟩ := h a ha
    exact ⟨e1, e1, h1, rfl, fun _ => ⟨d, e3, h2, h3, h4⟩, fun z => by simp at z⟩)
  rw [this, List.filter_eq_self.mpr (fun _ _ => rfl)]
  rfl
theorem bools_of {α : Type} (f : α → Bool) : ∀ l : List α, bools? (l.map fun a => .bool (f a)) = some (l.map f)
  | [] => rfl
  | a :: l => by simp [bools?, bools_of f l]
end MM

end
section
set_option linter.all false
set_option autoImplicit false
set_option Elab.async false
namespace MM
open PySem L2 T3
structure RD (p k : Nat) (d : PyData) : Prop where
  lay : d.canLay0 = true
  dep : d.depth ≤ p
  shw : d.showable = true
  lvs : d.leavesShort 13 = true
  wt : d.weight ≤ k
theorem RD.int {i : Int} (h1 : -999999999999 ≤ i) (h2 : i ≤ 999999999999) : RD 0 40 (.int i) := by
  have hl : i.natAbs.log2 ≤ 39 := by
    by_cases h0 : i.natAbs = 0
    · rw [h0]; decide
    · have : i.natAbs.log2 < 40 := (Nat.log2_lt h0).mpr (by omega)
      omega
  refine ⟨by simp [PyData.canLay0], by simp [PyData.depth], ?_, ?_, ?_⟩
  · simp only [PyData.showable, decide_eq_true_eq]; omega
  · simp only [PyData.leavesShort, decide_eq_true_eq]; exact PyData.shown_int_le2 h1 h2
  · simp only [PyData.weight]; split <;> omega
theorem RD.none : RD 0 40 .none := ⟨by simp [PyData.canLay0], by simp [PyData.depth], by simp [PyData.showable], by simp [PyData.leavesShort], by simp [PyData.weight]⟩
theorem RD.bool (b : Bool) : RD 0 40 (.bool b) := ⟨by simp [PyData.canLay0], by simp [PyData.depth], by simp [PyData.showable], by simp [PyData.leavesShort], by simp [PyData.weight]⟩
theorem RD.all {p k : Nat} : ∀ {xs : List PyData}, (∀ x ∈ xs, RD p k x) → PyData.canLayAll0 xs = true ∧ PyData.depthAll xs ≤ p ∧ PyData.showableAll xs = true ∧ PyData.leavesShortAll 13 xs = true ∧ PyData.weightAll xs ≤ (k + 1) * xs.length
  | [], _ => by simp [PyData.canLayAll0, PyData.depthAll, PyData.showableAll, PyData.leavesShortAll, PyData.weightAll]
  | x :: xs, h => by
    obtain ⟨a1, a2, a3, a4, a5⟩ := h x (by simp)
    obtain ⟨b1, b2, b3, b4, b5⟩ := RD.all (xs := xs) fun y hy => h y (by simp [hy])
    refine ⟨by simp [PyData.canLayAll0, a1, b1], ?_, by simp [PyData.showableAll, a3, b3], by simp [PyData.leavesShortAll, a4, b4], ?_⟩
    · simp only [PyData.depthAll]; omega
    · simp only [PyData.weightAll, List.length_cons]
      rw [Nat.mul_add]
      omega
theorem RD.tup {p k n : Nat} {xs : List PyData} (h : ∀ x ∈ xs, RD p k x) (hn : xs.length ≤ n) : RD (p + 1) ((k + 1) * n) (.tuple xs) := by
  obtain ⟨b1, b2, b3, b4, b5⟩ := RD.all h
  refine ⟨by simp [PyData.canLay0, b1], ?_, by simp [PyData.showable, b3], by simp [PyData.leavesShort, b4], ?_⟩
  · simp only [PyData.depth]; omega
  · simp only [PyData.weight]
    exact Nat.le_trans b5 (Nat.mul_le_mul_left _ hn)
theorem RD.lst {p k n : Nat} {xs : List PyData} (h : ∀ x ∈ xs, RD p k x) (hn : xs.length ≤ n) : RD (p + 1) ((k + 1) * n) (.list xs) := by
  obtain ⟨b1, b2, b3, b4, b5⟩ := RD.all h
  refine ⟨by simp [PyData.canLay0, b1], ?_, by simp [PyData.showable, b3], by simp [PyData.leavesShort, b4], ?_⟩
  · simp only [PyData.depth]; omega
  · simp only [PyData.weight]
    exact Nat.le_trans b5 (Nat.mul_le_mul_left _ hn)
theorem RD.mono {p k p' k' : Nat} {d : PyData} (h : RD p k d) (h1 : p ≤ p') (h2 : k ≤ k') : RD p' k' d := ⟨h.lay, Nat.le_trans h.dep h1, h.shw, h.lvs, Nat.le_trans h.wt h2⟩
theorem RD.ok {p k : Nat} {d : PyData} (h : RD p k d) (h1 : p ≤ 60) (h2 : k ≤ 60000) : ShOk d := by
  have := h.dep
  have hw := h.wt
  refine ⟨?_, h.shw, ?_⟩
  · unfold SeqAt.shaped
    rw [h.lay, Bool.true_and]
    exact decide_eq_true (by omega)
  · have := PyData.shown_le 13 (by omega) d h.lvs
    omega
theorem RD.cell {c : Cell} (h : -9 ≤ c.1 ∧ c.1 ≤ 9 ∧ -9 ≤ c.2 ∧ c.2 ≤ 9) : RD 1 82 (clD c) := RD.tup (k := 40) (n := 2) (by
  intro x hx
  simp only [List.mem_cons, List.not_mem_nil, or_false] at hx
  rcases hx with rfl | rfl
  · exact RD.int (by omega) (by omega)
  · exact RD.int (by omega) (by omega)) (by simp)
theorem RD.ly {l : Ly} (h : l ∈ lyings) : RD 1 123 (lyD l) := RD.tup (k := 40) (n := 3) (by
  have b : 0 ≤ l.1 ∧ l.1 ≤ 5 ∧ 0 ≤ l.2.1 ∧ l.2.1 ≤ 5 ∧ 0 ≤ l.2.2 ∧ l.2.2 ≤ 5 := by revert l; decide
  intro x hx
  simp only [List.mem_cons, List.not_mem_nil, or_false] at hx
  rcases hx with rfl | rfl | rfl
  · exact RD.int (by omega) (by omega)
  · exact RD.int (by omega) (by omega)
  · exact RD.int (by omega) (by omega)) (by simp)
theorem repr_t {xs : List PyData} (h : ShOk (.tuple xs)) : oRepr [.tuple xs] = some (.str (PyData.tuple xs).shown) := by
  show (if ShOk (.tuple xs) then some (PyData.str (PyData.tuple xs).shown) else none) = _
  exact if_pos h
end MM

end
section
set_option linter.all false
set_option autoImplicit false
set_option Elab.async false
namespace MM
open PySem L2 T3
def itr (m : Nat → Nat) : Nat → Nat → Nat
  | 0, x => x
  | k + 1, x => itr m k (m x)
theorem itr_succ (m : Nat → Nat) : ∀ k x, itr m (k + 1) x = m (itr m k x)
  | 0, x => rfl
  | k + 1, x => by
    show itr m (k + 1) (m x) = m (itr m (k + 1) x)
    rw [itr_succ m k (m x)]
    rfl
theorem itr_add (m : Nat → Nat) : ∀ a b x, itr m (a + b) x = itr m a (itr m b x)
  | a, 0, x => rfl
  | a, b + 1, x => by
    show itr m (a + b) (m x) = itr m a (itr m b (m x))
    exact itr_add m a b (m x)
theorem itr_lt {n : Nat} {m : Nat → Nat} (hm : ∀ j, j < n → m j < n) : ∀ k x, x < n → itr m k x < n
  | 0, x, h => h
  | k + 1, x, h => itr_lt hm k (m x) (hm x h)
theorem itr_inj {n : Nat} {m : Nat → Nat} (hm : ∀ j, j < n → m j < n) (hi : ∀ i j, i < n → j < n → m i = m j → i = j) : ∀ k x y, x < n → y < n → itr m k x = itr m k y → x = y
  | 0, _, _, _, _, h => h
  | k + 1, x, y, hx, hy, h => hi x y hx hy (itr_inj hm hi k (m x) (m y) (hm x hx) (hm y hy) h)
theorem home {n : Nat} {m : Nat → Nat} (hm : ∀ j, j < n → m j < n) (hi : ∀ i j, i < n → j < n → m i = m j → i = j) (x : Nat) (hx : x < n) : ∃ k, 1 ≤ k ∧ k ≤ n ∧ itr m k x = x := by
  apply Classical.byContradiction
  intro hno
  have hno' : ∀ k, 1 ≤ k → k ≤ n → itr m k x ≠ x := fun k h1 h2 h3 => hno ⟨k, h1, h2, h3⟩
  have nd : ((List.range (n + 1)).map fun k => itr m k x).Nodup := by
    rw [List.Nodup, List.pairwise_map]
    have := List.pairwise_lt_range (n := n + 1)
    refine List.Pairwise.imp_of_mem ?_ this
    intro a b ha hb hab he
    have hb' : b ≤ n := by have := List.mem_range.mp hb; omega
    have e1 : itr m a (itr m (b - a) x) = itr m b x := by rw [← itr_add]; congr 1; omega
    have e2 := itr_inj hm hi a x (itr m (b - a) x) hx (itr_lt hm _ x hx) (by rw [e1]; exact he)
    exact hno' (b - a) (by omega) (by omega) e2.symm
  have sub : ((List.range (n + 1)).map fun k => itr m k x) ⊆ List.range n := by
    intro y hy
    obtain ⟨k, _, rfl⟩ := List.mem_map.mp hy
    exact List.mem_range.mpr (itr_lt hm k x hx)
  have := nd.length_le_of_subset sub
  simp at this
  omega
theorem period {n : Nat} {m : Nat → Nat} (hm : ∀ j, j < n → m j < n) (hi : ∀ i j, i < n → j < n → m i = m j → i = j) (x : Nat) (hx : x < n) : ∃ k, 1 ≤ k ∧ k ≤ n ∧ itr m k x = x ∧ ∀ j, 1 ≤ j → j < k → itr m j x ≠ x := by
  obtain ⟨k, h1, h2, h3⟩ := home hm hi x hx
  have : ∀ k, 1 ≤ k → itr m k x = x → ∃ k', 1 ≤ k' ∧ k' ≤ k ∧ itr m k' x = x ∧ ∀ j, 1 ≤ j → j < k' → itr m j x ≠ x := by
    intro k
    induction k using Nat.strongRecOn with
    | ind k ih =>
      intro h1 h3
      by_cases h : ∃ j, 1 ≤ j ∧ j < k ∧ itr m j x = x
      · obtain ⟨j, a, b, c⟩ := h
        obtain ⟨k', p1, p2, p3, p4⟩ := ih j b a c
        exact ⟨k', p1, by omega, p3, p4⟩
      · exact ⟨k, h1, Nat.le_refl _, h3, fun j a b c => h ⟨j, a, b, c⟩⟩
  obtain ⟨k', p1, p2, p3, p4⟩ := this k h1 h3
  exact ⟨k', p1, by omega, p3, p4⟩
end MM

end
section
set_option linter.all false
set_option autoImplicit false
set_option Elab.async false
namespace MM
open PySem L2 T3
def orb (m : Nat → Nat) (k x : Nat) : List Nat := (List.range k).map fun t => itr m t x
def PerP (n : Nat) (m : Nat → Nat) (x k : Nat) : Prop := 1 ≤ k ∧ k ≤ n ∧ itr m k x = x ∧ ∀ j, 1 ≤ j → j < k → itr m j x ≠ x
noncomputable def per (n : Nat) (m : Nat → Nat) (x : Nat) : Nat := Classical.epsilon (PerP n m x)
theorem per_spec {n : Nat} {m : Nat → Nat} (hm : ∀ j, j < n → m j < n) (hi : ∀ i j, i < n → j < n → m i = m j → i = j) {x : Nat} (hx : x < n) : PerP n m x (per n m x) := Classical.epsilon_spec (period hm hi x hx)
theorem orb_mem {m : Nat → Nat} {k x y : Nat} : y ∈ orb m k x ↔ ∃ t, t < k ∧ itr m t x = y := by
  simp [orb]
theorem orb_all {n : Nat} {m : Nat → Nat} {x k : Nat} (h : PerP n m x k) : ∀ t, itr m t x ∈ orb m k x := by
  have : ∀ t, ∃ s, s < k ∧ itr m s x = itr m t x := by
    intro t
    induction t with
    | zero => exact ⟨0, h.1, rfl⟩
    | succ t ih =>
      obtain ⟨s, h1, h2⟩ := ih
      by_cases e : s + 1 = k
      · exact ⟨0, h.1, by rw [itr_succ, ← h2, ← itr_succ m s x, e, h.2.2.1]; rfl⟩
      · exact ⟨s + 1, by omega, by rw [itr_succ, itr_succ, h2]⟩
  intro t
  exact orb_mem.mpr (this t)
end MM

end
section
set_option linter.all false
set_option autoImplicit false
set_option Elab.async false
namespace MM
open PySem L2 T3
end MM

end
section
set_option linter.all false
set_option autoImplicit false
set_option Elab.async false
namespace MM
open PySem L2 T3
end MM

end
section
set_option linter.all false
set_option autoImplicit false
set_option Elab.async false
set_option maxRecDepth 10000
namespace MM
open PySem L2 T3
def ck (c : Cell) : NestedKey := .tup [.num c.1, .num c.2]
def lcOk (g : GG) (f : EE) (vs : List Nat) (e : Sl) (x y : PyData) : Prop := match g x (wipeE e vs) with
  | none => False
  | some e1 => match f e1 with
    | none => False
    | some p => data1 p.1 = some y ∧ unwipe e p.2 vs = e
theorem lcOk_ex {g : GG} {f : EE} {vs : List Nat} {e : Sl} {x y : PyData} (h : lcOk g f vs e x y) : ∃ e1, g x (wipeE e vs) = some e1 ∧ ∃ p, f e1 = some p ∧ data1 p.1 = some y ∧ unwipe e p.2 vs = e := by
  unfold lcOk at h
  split at h
  · exact h.elim
  · rename_i e1 h1
    split at h
    · exact h.elim
    · rename_i p h2
      exact ⟨e1, h1, p, h2, h⟩
theorem lc_all {it : EI} {g : GG} {f : EE} {vs : List Nat} {env e : Sl} {lk : Lk} {α : Type} {q y : α → PyData} (as : List α) (hi : it env = some (as.map q, lk, e)) (hl : as.length ≤ 1000000) (h : ∀ a ∈ as, lcOk g f vs e (q a) (y a)) :
    eLc it g bYes f vs env = some (.tmp (.ls (as.map y)), unlock lk e) := by
  have := lcL_all (g := g) (f := f) (vs := vs) (env := e) (y := y) (q := q) as fun a ha => by
    obtain ⟨e1, h1, p, h2, h3, h4⟩ := lcOk_ex (h a ha)
    exact ⟨e1, p.1, p.2, h1, h2, h3, h4⟩
  rw [z_lc, hi]
  simp only [List.length_map, hl, if_true, this]
def lcIf (g : GG) (t : EB) (f : EE) (vs : List Nat) (e : Sl) (x : PyData) (b : Bool) (y : PyData) : Prop := match g x (wipeE e vs) with
  | none => False
  | some e1 => match t e1 with
    | none => False
    | some r => r.1 = b ∧ if b = true then match f r.2 with
        | none => False
        | some p => data1 p.1 = some y ∧ unwipe e p.2 vs = e
      else unwipe e r.2 vs = e
theorem lcIf_ex {g : GG} {t : EB} {f : EE} {vs : List Nat} {e : Sl} {x y : PyData} {b : Bool} (h : lcIf g t f vs e x b y) : ∃ e1, g x (wipeE e vs) = some e1 ∧ ∃ r, t e1 = some r ∧ r.1 = b ∧ if b = true then ∃ q, f r.2 = some q ∧ data1 q.1 = some y ∧ unwipe e q.2 vs = e else unwipe e r.2 vs = e := by
  unfold lcIf at h
  split at h
  · exact h.elim
  · rename_i e1 h1
    split at h
    · exact h.elim
    · rename_i r h2
      refine ⟨e1, h1, r, h2, h.1, ?_⟩
      have h3 := h.2
      split at h3
      · rename_i hb
        rw [if_pos hb]
        split at h3
        · exact h3.elim
        · rename_i p hp
          exact ⟨p, hp, h3⟩
      · rename_i hb
        rw [if_neg hb]
        exact h3
theorem lc_if {it : EI} {g : GG} {t : EB} {f : EE} {vs : List Nat} {env e : Sl} {lk : Lk} {α : Type} {q y : α → PyData} {p : α → Bool} (as : List α) (hi : it env = some (as.map q, lk, e)) (hl : as.length ≤ 1000000) (h : ∀ a ∈ as, lcIf g t f vs e (q a) (p a) (y a)) :
    eLc it g t f vs env = some (.tmp (.ls ((as.filter p).map y)), unlock lk e) := by
  have := lcL_pure (g := g) (t := t) (f := f) (vs := vs) (env := e) (p := p) (y := y) (q := q) as [] fun a ha => by
    obtain ⟨e1, h1, ⟨b, e2⟩, h2, rfl, h3⟩ := lcIf_ex (h a ha)
    refine ⟨e1, e2, h1, h2, fun z => ?_, fun z => ?_⟩
    · rw [if_pos z] at h3
      obtain ⟨q, h4, h5, h6⟩ := h3
      exact ⟨q.1, q.2, h4, h5, h6⟩
    · rw [if_neg (by rw [z]; decide)] at h3; exact h3
  rw [z_lc, hi]
  simp only [List.length_map, hl, if_true, this, List.nil_append]
end MM

end
section
set_option linter.all false
set_option autoImplicit false
set_option Elab.async false
namespace T3
open PySem L2
variable [TabL]
def frS : Option S → Bool
  | some (.mu .own _) => true
  | some (.pd _) => true
  | some (.nt _) => true
  | none => true
  | _ => false
@[simp] theorem frS_n : frS none = true := rfl
@[simp] theorem frS_p (x : PyData) : frS (some (.pd x)) = true := rfl
@[simp] theorem frS_t (x : List PyData) : frS (some (.nt x)) = true := rfl
@[simp] theorem frS_o (c : Ct) : frS (some (.mu .own c)) = true := rfl
theorem free_frS {e : Sl} {i : Nat} {s : Option S} (h : e[i]? = some s) : free e i = frS s := by
  unfold free frS
  rw [h]
  rcases s with _ | s
  · rfl
  · cases s with
    | pd x => rfl
    | nt x => rfl
    | mu m c => cases m <;> rfl
theorem free_ne_set {e : Sl} {i j : Nat} {s : Option S} (h : i ≠ j) : free (e.set i s) j = free e j := by
  unfold free
  rw [List.getElem?_set_ne h]
theorem free_eq_set {e : Sl} {i : Nat} {s : Option S} (h : i < e.length) : free (e.set i s) i = frS s := free_frS (by simp [h])
structure Al (k n : Nat) (e : Sl) : Prop where
  len : e.length = n
  fre : ∀ i, k ≤ i → i < n → free e i = true
theorem Al.set {k n i : Nat} {e : Sl} {s : Option S} (h : Al k n e) (q : frS s = true) : Al k n (e.set i s) := by
  refine ⟨by rw [List.length_set, h.len], fun j h1 h2 => ?_⟩
  by_cases z : i = j
  · subst z
    rw [free_eq_set (by rw [h.len]; exact h2)]
    exact q
  · rw [free_ne_set z]
    exact h.fre j h1 h2
theorem Al.start {n : Nat} (as : List S) (h : as.length ≤ n) : Al as.length n (startE n as) := by
  refine ⟨by simp [startE]; omega, fun i h1 h2 => ?_⟩
  have : (startE n as)[i]? = some none := by
    unfold startE
    rw [List.getElem?_append_right (by simpa using h1), List.length_map, List.getElem?_replicate, if_pos (by omega)]
  rw [free_frS this]
  rfl
structure Kp (e e' : Sl) (vs : List Nat) : Prop where
  len : e'.length = e.length
  at_ : ∀ i, i ∉ vs → e'[i]? = e[i]?
@[simp] theorem Kp.refl (e : Sl) (vs : List Nat) : Kp e e vs := ⟨rfl, fun _ _ => rfl⟩
theorem Kp.set {e e' : Sl} {vs : List Nat} {v : Nat} {s : Option S} (h : Kp e e' vs) (m : v ∈ vs) : Kp e (e'.set v s) vs :=
  ⟨by rw [List.length_set, h.len], fun i hi => by
    have ne : v ≠ i := fun z => hi (by rw [← z]; exact m)
    rw [List.getElem?_set_ne ne, h.at_ i hi]⟩
@[simp] theorem Kp.wipe (e : Sl) (vs : List Nat) : Kp e (wipeE e vs) vs := ⟨wipeE_len, fun i hi => wipeE_out hi⟩
theorem Kp.un {e e' : Sl} {vs : List Nat} (h : Kp e e' vs) : unwipe e e' vs = e := by
  have key : ∀ ws, unwipe e e' ws = unwipe e e' ws ∧ ∀ i, (unwipe e e' ws)[i]? = if i ∈ ws then e[i]? else e'[i]? := by
    intro ws
    induction ws with
    | nil => exact ⟨rfl, fun i => by simp [unwipe]⟩
    | cons v ws ih =>
      refine ⟨rfl, fun i => ?_⟩
      have l : (unwipe e e' ws).length = e.length := by rw [unwipe_len, h.len]
      unfold unwipe
      rw [List.getElem?_set]
      by_cases z : v = i
      · subst z
        rw [if_pos rfl, l]
        by_cases y : v < e.length
        · simp [y]
        · simp [y, List.getElem?_eq_none (Nat.le_of_not_lt y)]
      · rw [if_neg z, ih.2 i]
        simp only [List.mem_cons]
        by_cases y : i ∈ ws
        · simp [y]
        · rw [if_neg y, if_neg (by simp [y]; exact fun q => z q.symm)]
  refine List.ext_getElem? fun i => ?_
  rw [(key vs).2 i]
  split
  · rfl
  · rename_i q
    exact h.at_ i q
theorem wipe_at (e : Sl) (i : Nat) : ∀ vs : List Nat, (wipeE e vs)[i]? = if i ∈ vs then (if i < e.length then some none else none) else e[i]?
  | [] => by simp [wipeE]
  | v :: vs => by
    unfold wipeE
    rw [List.getElem?_set, wipe_at e i vs, wipeE_len]
    by_cases z : v = i
    · subst z; simp
    · rw [if_neg z]
      have : i ∈ v :: vs ↔ i ∈ vs := ⟨fun q => (List.mem_cons.mp q).elim (fun y => absurd y.symm z) id, List.mem_cons_of_mem _⟩
      simp [this]
theorem wipe_free {e : Sl} {i : Nat} {vs : List Nat} (h : i ∈ vs) (l : i < e.length) : free (wipeE e vs) i = true := by
  rw [free_frS (s := none) (by rw [wipe_at]; simp [h, l])]
  rfl
def lcO (g : GG) (f : EE) (vs : List Nat) (e : Sl) (x y : PyData) : Prop := match g x (wipeE e vs) with
  | none => False
  | some e1 => match f e1 with
    | none => False
    | some p => data1 p.1 = some y ∧ Kp e p.2 vs
def lcI (g : GG) (t : EB) (f : EE) (vs : List Nat) (e : Sl) (x : PyData) (b : Bool) (y : PyData) : Prop := match g x (wipeE e vs) with
  | none => False
  | some e1 => match t e1 with
    | none => False
    | some r => r.1 = b ∧ if b = true then match f r.2 with
        | none => False
        | some p => data1 p.1 = some y ∧ Kp e p.2 vs
      else Kp e r.2 vs
theorem lcA {it : EI} {g : GG} {f : EE} {vs : List Nat} {env e : Sl} {lk : Lk} {α : Type} {q : α → PyData} {as : List α} (y : α → PyData) (hi : it env = some (as.map q, lk, e)) (hl : as.length ≤ 1000000) (h : ∀ a ∈ as, lcO g f vs e (q a) (y a)) :
    eLc it g bYes f vs env = some (.tmp (.ls (as.map y)), unlock lk e) :=
  MM.lc_all as hi hl fun a ha => by
    have := h a ha
    unfold lcO at this
    unfold MM.lcOk
    split
    · rename_i z; rw [z] at this; exact this
    · rename_i e1 z
      rw [z] at this
      simp only at this
      split
      · rename_i z2; rw [z2] at this; exact this
      · rename_i p z2
        rw [z2] at this
        exact ⟨this.1, this.2.un⟩
theorem lcF {it : EI} {g : GG} {t : EB} {f : EE} {vs : List Nat} {env e : Sl} {lk : Lk} {α : Type} {q : α → PyData} {as : List α} (p : α → Bool) (y : α → PyData) (hi : it env = some (as.map q, lk, e)) (hl : as.length ≤ 1000000) (h : ∀ a ∈ as, lcI g t f vs e (q a) (p a) (y a)) :
    eLc it g t f vs env = some (.tmp (.ls ((as.filter p).map y)), unlock lk e) :=
  MM.lc_if as hi hl fun a ha => by
    have := h a ha
    unfold lcI at this
    unfold MM.lcIf
    split
    · rename_i z; rw [z] at this; exact this
    · rename_i e1 z
      rw [z] at this
      simp only at this
      split
      · rename_i z2; rw [z2] at this; exact this
      · rename_i r z2
        rw [z2] at this
        simp only at this
        refine ⟨this.1, ?_⟩
        have t2 := this.2
        split
        · rename_i hb
          rw [if_pos hb] at t2
          split
          · rename_i z3; rw [z3] at t2; exact t2
          · rename_i p z3
            rw [z3] at t2
            exact ⟨t2.1, t2.2.un⟩
        · rename_i hb
          rw [if_neg hb] at t2
          exact t2.un
end T3

end
section
set_option linter.all false
set_option autoImplicit false
set_option Elab.async false
set_option maxRecDepth 10000
namespace MM
open PySem L2 T3
structure Pm (n : Nat) (m : Nat → Nat) : Prop where
  lt : ∀ j, j < n → m j < n
  inj : ∀ i j, i < n → j < n → m i = m j → i = j
section
variable {n : Nat} {m : Nat → Nat}
theorem Pm.prd (h : Pm n m) {x : Nat} (hx : x < n) : PerP n m x (per n m x) := per_spec h.lt h.inj hx
theorem Pm.mem (h : Pm n m) {x y : Nat} (hx : x < n) : y ∈ orb m (per n m x) x ↔ ∃ t, itr m t x = y := by
  constructor
  · intro e
    obtain ⟨t, _, e⟩ := orb_mem.mp e
    exact ⟨t, e⟩
  · rintro ⟨t, rfl⟩
    exact orb_all (h.prd hx) t
theorem itr_fix {x : Nat} (h : m x = x) : ∀ t, itr m t x = x
  | 0 => rfl
  | t + 1 => by rw [itr_succ, itr_fix h t, h]
def Fst (n : Nat) (m : Nat → Nat) (x : Nat) : Prop := x < n ∧ 1 < per n m x ∧ ∀ y ∈ orb m (per n m x) x, x ≤ y
open Classical in
noncomputable def fsts (n : Nat) (m : Nat → Nat) : List Nat := (List.range n).filter fun x => decide (Fst n m x)
open Classical in
noncomputable def left (n : Nat) (m : Nat → Nat) (F : List Nat) : List Nat := (List.range n).filter fun j => decide (∃ x ∈ F, j ∈ orb m (per n m x) x)
noncomputable def ord (n : Nat) (m : Nat → Nat) : Nat := ((fsts n m).map (per n m)).foldl Nat.lcm 1
end
end MM

end
section
set_option linter.all false
set_option autoImplicit false
set_option Elab.async false
set_option maxRecDepth 10000
namespace MM
open PySem L2 T3
section
variable {n : Nat} {m : Nat → Nat}
end
end MM

end
section
set_option linter.all false
set_option autoImplicit false
set_option Elab.async false
namespace MM
end MM

end
section
set_option linter.all false
set_option autoImplicit false
set_option Elab.async false
namespace MM
open PySem L2 T3
section
variable {n : Nat} {m : Nat → Nat}
end
structure Cj (n : Nat) (m : Nat → Nat) (n' : Nat) (m' : Nat → Nat) (A : Nat → Nat) : Prop where
  p : Pm n m
  p' : Pm n' m'
  lt : ∀ j, j < n → A j < n'
  inj : ∀ i j, i < n → j < n → A i = A j → i = j
  cm : ∀ j, j < n → m' (A j) = A (m j)
  fx : ∀ y, y < n' → (∀ j, j < n → A j ≠ y) → m' y = y
section
variable {n n' : Nat} {m m' A : Nat → Nat}
theorem Cj.itr (h : Cj n m n' m' A) {j : Nat} (hj : j < n) : ∀ t, MM.itr m' t (A j) = A (MM.itr m t j)
  | 0 => rfl
  | t + 1 => by rw [itr_succ, itr_succ, h.itr hj t, h.cm _ (itr_lt h.p.lt t j hj)]
theorem Cj.iff (h : Cj n m n' m' A) {j : Nat} (hj : j < n) (t : Nat) : MM.itr m' t (A j) = A j ↔ MM.itr m t j = j := by
  rw [h.itr hj]
  exact ⟨fun e => h.inj _ _ (itr_lt h.p.lt t j hj) hj e, fun e => by rw [e]⟩
theorem Cj.all (h : Cj n m n' m' A) (t : Nat) : (∀ y, y < n' → MM.itr m' t y = y) ↔ ∀ j, j < n → MM.itr m t j = j := by
  constructor
  · exact fun z j hj => (h.iff hj t).mp (z _ (h.lt j hj))
  · intro z y hy
    by_cases e : ∃ j, j < n ∧ A j = y
    · obtain ⟨j, hj, rfl⟩ := e
      exact (h.iff hj t).mpr (z j hj)
    · exact itr_fix (h.fx y hy fun j hj q => e ⟨j, hj, q⟩) t
end
end MM

end
section
set_option linter.all false
set_option autoImplicit false
set_option Elab.async false
namespace T3
open PySem L2
variable [TabL]
structure Pk where
  a : Int
  b : Int
  t : Nat
def penK (p : Pk) : Ct := .ls [.int p.a, .int p.b, .int (p.t : Nat)]
def upD (n : Nat) : List PyData := (List.range n).map fun j => .int ((j : Nat) : Int)
theorem upD_len (n : Nat) : (upD n).length = n := by simp [upD]
theorem rg1_up {f : EA} {env e : Sl} {n : Nat} (h : f env = some ([.pd (.int (n : Nat))], e)) (hn : n ≤ 1000) : iRg1 f env = some (upD n, none, e) := by
  have b : RgI1 (n : Int) := by
    unfold RgI1
    have h1 : (-(2 ^ 62) : Int) ≤ 0 := by decide
    have h2 : (1000 : Int) < 2 ^ 62 := by decide
    omega
  have u : rgD 0 n 1 = upD n := by simp [rgD, upD]
  unfold iRg1
  rw [h]
  show (if RgI1 (n : Int) then some (rgD 0 (n : Int).toNat 1, none, e) else none) = _
  rw [if_pos b, Int.toNat_natCast, u]
theorem rg1_max {N : Nat} {e : Sl} (ns : List Int) (hN : 1 ≤ N) (hN2 : N ≤ 1000) (h0 : e[0]? = some (some (.pd (.list (ns.map .int))))) :
    iRg1 (eCons (eThen (eCons (eC (.int 1)) (eCons (eThen (eCons (eThen (eCons (eVar 0) eNil) (kE oLen)) (eCons (eC (.int (N : Int))) eNil)) (kE oMin)) eNil)) (kE oMax)) eNil) e = some (upD (max 1 (min ns.length N)), none, e) := by
  have h1 : (if (N : Int) < ns.length then (N : Int) else ns.length) = ((min ns.length N : Nat) : Int) := by split <;> omega
  have h2 : (if ((min ns.length N : Nat) : Int) > 1 then ((min ns.length N : Nat) : Int) else 1) = ((max 1 (min ns.length N) : Nat) : Int) := by split <;> omega
  refine rg1_up (n := max 1 (min ns.length N)) ?_ (by omega)
  simp only [z_cons, z_then, z_c, z_var, h0, z_nil, z_kE, z_ctns1, z_ctns0, z_ctn1, oLen, List.length_map, oMin, h1, oMax, h2]
def TurnP (n C : Nat) (s : PyData) (p : Pk) (fl : Fl) (e : Sl) : Prop := (fl = .nx ∨ fl = .ct) ∧ Al 0 n e ∧ e[0]? = some (some (.pd s)) ∧ ∃ q : Pk, e[2]? = some (some (.mu .own (penK q))) ∧ q.t ≤ p.t + C
theorem fin1 {x : PyData} {e : Sl} (h : e[0]? ≠ none) : finals [.pd x] e = some [.pd x] := by
  cases e with
  | nil => simp at h
  | cons a e => simp
def OutI (n : Nat) (s : PyData) (e : Sl) : Prop := Al 0 n e ∧ e[0]? = some (some (.pd s))
def InI (n C M : Nat) (s : PyData) (rest : List PyData) (e : Sl) : Prop := Al 0 n e ∧ e[0]? = some (some (.pd s)) ∧ ∃ q : Pk, e[2]? = some (some (.mu .own (penK q))) ∧ q.t + C * rest.length ≤ C * M
theorem outer {n N M C : Nat} {fcell fpen : FnD} {BODY : SS} (ns : List Int) (hn4 : 4 ≤ n) (hN : 1 ≤ N) (hN2 : N ≤ 1000) (hM : M ≤ 1000)
    (hcell : ∀ k : Nat, ∃ i, fcell [.pd (.list (ns.map .int)), .pd (.int (k : Nat))] = some (.pd (.int i), [.pd (.list (ns.map .int)), .pd (.int (k : Nat))]))
    (hpen : ∀ i : Int, ∃ p : Pk, p.t = 0 ∧ fpen [.pd (.int i)] = some (.tmp (penK p), [.pd (.int i)]))
    (hbody : ∀ (e : Sl) (p : Pk), Al 0 n e → e[0]? = some (some (.pd (.list (ns.map .int)))) → e[2]? = some (some (.mu .own (penK p))) → p.t ≤ C * M → wS BODY e (TurnP n C (.list (ns.map .int)) p)) :
    ∃ as, runFn n (sSeq (sFor (iRg1 (eCons (eThen (eCons (eC (.int 1)) (eCons (eThen (eCons (eThen (eCons (eVar 0) eNil) (kE oLen)) (eCons (eC (.int (N : Int))) eNil)) (kE oMin)) eNil)) (kE oMax)) eNil)) (gN 1) (sSeq (sSet 2 (eCall fpen (eCons (eCall fcell (eCons (eVar 0) (eCons (eVar 1) eNil))) eNil)))
      (sFor (iRg1 (eCons (eC (.int (M : Int))) eNil)) (gN 3) BODY))) (sRet (eC (.bool true)))) [.pd (.list (ns.map .int))] = some (.pd (.bool true), as) := by
  generalize hs : PyData.list (ns.map .int) = s at *
  have key : wF (runFn n (sSeq (sFor (iRg1 (eCons (eThen (eCons (eC (.int 1)) (eCons (eThen (eCons (eThen (eCons (eVar 0) eNil) (kE oLen)) (eCons (eC (.int (N : Int))) eNil)) (kE oMin)) eNil)) (kE oMax)) eNil)) (gN 1) (sSeq (sSet 2 (eCall fpen (eCons (eCall fcell (eCons (eVar 0) (eCons (eVar 1) eNil))) eNil)))
      (sFor (iRg1 (eCons (eC (.int (M : Int))) eNil)) (gN 3) BODY))) (sRet (eC (.bool true))))) [.pd s] (fun r _ => r = .pd (.bool true)) := by
    have A0 : Al 0 n (startE n [.pd s]) := by
      have a := Al.start (n := n) [.pd s] (by simp; omega)
      refine ⟨a.len, fun i h1 h2 => ?_⟩
      by_cases z : i = 0
      · subst z
        rw [free_frS (s := some (.pd s)) (by simp [startE])]
        rfl
      · exact a.fre i (by simp; omega) h2
    refine wF_run (e := startE n [.pd s]) rfl ?_
    have h0 : (startE n [.pd s])[0]? = some (some (.pd s)) := by simp [startE]
    generalize startE n [.pd s] = e0 at *
    refine wS_seq ?_
    refine wS_for (xs := upD (max 1 (min ns.length N))) (lk := none) (e := e0) (rg1_max ns hN hN2 (by rw [hs]; exact h0)) (fun rest e => (∀ x ∈ rest, ∃ k : Nat, x = .int (k : Nat)) ∧ OutI n s e) ⟨fun x hx => by
      obtain ⟨j, _, rfl⟩ := List.mem_map.mp hx; exact ⟨j, rfl⟩, A0, h0⟩ ?_ ?_
    · rintro x rest e ⟨hx, A, h0⟩
      obtain ⟨k, rfl⟩ := hx x (by simp)
      obtain ⟨i, ec⟩ := hcell k
      obtain ⟨p, pt, ep⟩ := hpen i
      have f1 := A.fre 1 (by omega) (by omega)
      have A1 := A.set (i := 1) (s := some (.pd (.int (k : Nat)))) rfl
      have g0 : (e.set 1 (some (.pd (.int (k : Nat)))))[0]? = some (some (.pd s)) := by rw [List.getElem?_set_ne (by decide)]; exact h0
      have g1 : (e.set 1 (some (.pd (.int (k : Nat)))))[1]? = some (some (.pd (.int (k : Nat)))) := by rw [List.getElem?_set_self (by rw [A.len]; omega)]
      simp only [gW, z_gN, z_setR, f1, if_true]
      rw [go]
      generalize e.set 1 (some (.pd (.int (k : Nat)))) = e1 at *
      have f2 := A1.fre 2 (by omega) (by omega)
      refine wS_seq ?_
      have A2 := A1.set (i := 2) (s := some (.mu .own (penK p))) rfl
      have b0 : (e1.set 2 (some (.mu .own (penK p))))[0]? = some (some (.pd s)) := by rw [List.getElem?_set_ne (by decide)]; exact g0
      have b2 : (e1.set 2 (some (.mu .own (penK p))))[2]? = some (some (.mu .own (penK p))) := by rw [List.getElem?_set_self (by rw [A1.len]; omega)]
      refine wS_of (fl := .nx) (e := e1.set 2 (some (.mu .own (penK p)))) ?_ ?_
      · simp only [z_set, z_call, z_cons, z_var, g0, g1, z_nil, z_args1, z_arg1, z_args0, z_va1, z_va0, if_true, ec, z_bk1, z_bk0, ep, z_setR, f2]
      rw [nxt_nx, go]
      generalize e1.set 2 (some (.mu .own (penK p))) = e2 at *
      refine wS_for (xs := upD M) (lk := none) (e := e2) (rg1_up (by simp) hM) (InI n C M s) ⟨A2, b0, p, b2, by rw [pt, upD_len]; omega⟩ ?_ ?_
      · rintro y rest' e ⟨A, h0, q, h2, hq⟩
        rw [List.length_cons, Nat.mul_add, Nat.mul_one] at hq
        have f3 := A.fre 3 (by omega) (by omega)
        simp only [gW, z_gN, z_setR, f3, if_true]
        rw [go]
        refine (hbody _ q (A.set rfl) (by rw [List.getElem?_set_ne (by decide)]; exact h0) (by rw [List.getElem?_set_ne (by decide)]; exact h2) (by omega)).imp ?_
        rintro fl e' ⟨hf, A', h0', q', h2', hq'⟩
        have : InI n C M s rest' e' := ⟨A', h0', q', h2', by omega⟩
        rcases hf with rfl | rfl <;> exact this
      · rintro e ⟨A, h0, _⟩
        exact ⟨fun x hx => by
          obtain ⟨k, hk⟩ := ‹∀ x ∈ _ :: rest, ∃ k : Nat, x = .int (k : Nat)› x (List.mem_cons_of_mem _ hx)
          exact ⟨k, hk⟩, A, h0⟩
    · rintro e ⟨_, A, h0⟩
      simp only [z_unl, nxt_nx]
      rw [go]
      have f := fin1 (x := s) (e := e) (by rw [h0]; simp)
      refine wS_of (fl := .rt (.pd (.bool true))) (e := e) (by simp) ?_
      exact ⟨.pd (.bool true), _, rfl, f, rfl⟩
  obtain ⟨r, as, e, rfl⟩ := key
  exact ⟨as, e⟩
end T3

end
section
set_option linter.all false
set_option autoImplicit false
set_option Elab.async false
namespace T3
open PySem L2
variable [TabL]
def pl : Nat → PyData → Bool
  | _, .none => true
  | _, .int _ => true
  | _, .str s => PyData.strOk s
  | n + 1, .tuple xs => xs.all (pl n)
  | n + 1, .list xs => xs.all (pl n)
  | _, _ => false
mutual
theorem pl_lay : ∀ (x : PyData) (n : Nat), pl n x = true → x.canLay0 = true ∧ x.depth ≤ n + 1
  | .none, n, h => ⟨by simp [PyData.canLay0], by simp [PyData.depth]⟩
  | .int i, n, h => ⟨by simp [PyData.canLay0], by simp [PyData.depth]⟩
  | .str s, n, h => ⟨by unfold pl at h; simpa [PyData.canLay0] using h, by simp [PyData.depth]⟩
  | .bool b, n, h => by cases n <;> simp [pl] at h
  | .dict d, n, h => by cases n <;> simp [pl] at h
  | .tuple xs, 0, h => by simp [pl] at h
  | .tuple xs, n + 1, h => by
    obtain ⟨h1, h2⟩ := pl_layA xs n (by simpa [pl] using h)
    exact ⟨by simpa [PyData.canLay0] using h1, by simp only [PyData.depth]; omega⟩
  | .list xs, 0, h => by simp [pl] at h
  | .list xs, n + 1, h => by
    obtain ⟨h1, h2⟩ := pl_layA xs n (by simpa [pl] using h)
    exact ⟨by simpa [PyData.canLay0] using h1, by simp only [PyData.depth]; omega⟩
theorem pl_layA : ∀ (xs : List PyData) (n : Nat), (∀ x ∈ xs, pl n x = true) → PyData.canLayAll0 xs = true ∧ PyData.depthAll xs ≤ n + 1
  | [], n, h => ⟨by simp [PyData.canLayAll0], by simp [PyData.depthAll]⟩
  | x :: xs, n, h => by
    obtain ⟨h1, h2⟩ := pl_lay x n (h x (by simp))
    obtain ⟨h3, h4⟩ := pl_layA xs n fun y hy => h y (by simp [hy])
    exact ⟨by simp [PyData.canLayAll0, h1, h3], by simp only [PyData.depthAll]; omega⟩
end
theorem pl_sh {x : PyData} {n : Nat} (h : pl n x = true) (hn : n ≤ 60) : SeqAt.shaped x = true := by
  obtain ⟨h1, h2⟩ := pl_lay x n h
  unfold SeqAt.shaped
  rw [h1]
  simp
  omega
mutual
theorem pl_eqv : ∀ (x y : PyData) (n m : Nat), pl n x = true → pl m y = true → (PyData.eqv x y = true ↔ x = y)
  | .none, y, n, m, h, h' => by cases y <;> simp [PyData.eqv]
  | .int i, y, n, m, h, h' => by
    cases y <;> simp [PyData.eqv]
    · rename_i b; cases m <;> simp [pl] at h'
  | .str s, y, n, m, h, h' => by cases y <;> simp [PyData.eqv]
  | .bool b, y, n, m, h, h' => by cases n <;> simp [pl] at h
  | .dict d, y, n, m, h, h' => by cases n <;> simp [pl] at h
  | .tuple xs, y, n, m, h, h' => by
    cases y <;> simp [PyData.eqv]
    rename_i ys
    cases n with
    | zero => simp [pl] at h
    | succ n =>
      cases m with
      | zero => simp [pl] at h'
      | succ m => exact pl_eqvA xs ys n m (by simpa [pl] using h) (by simpa [pl] using h')
  | .list xs, y, n, m, h, h' => by
    cases y <;> simp [PyData.eqv]
    rename_i ys
    cases n with
    | zero => simp [pl] at h
    | succ n =>
      cases m with
      | zero => simp [pl] at h'
      | succ m => exact pl_eqvA xs ys n m (by simpa [pl] using h) (by simpa [pl] using h')
theorem pl_eqvA : ∀ (xs ys : List PyData) (n m : Nat), (∀ x ∈ xs, pl n x = true) → (∀ x ∈ ys, pl m x = true) → (PyData.eqvAll xs ys = true ↔ xs = ys)
  | [], [], n, m, _, _ => by simp [PyData.eqvAll]
  | [], y :: ys, n, m, _, _ => by simp [PyData.eqvAll]
  | x :: xs, [], n, m, _, _ => by simp [PyData.eqvAll]
  | x :: xs, y :: ys, n, m, h, h' => by
    simp only [PyData.eqvAll, Bool.and_eq_true]
    rw [pl_eqv x y n m (h x (by simp)) (h' y (by simp)), pl_eqvA xs ys n m (fun z hz => h z (by simp [hz])) (fun z hz => h' z (by simp [hz]))]
    simp
end
theorem pl_ne {x y : PyData} {n m : Nat} (h : pl n x = true) (h' : pl m y = true) (hn : n ≤ 60) (hm : m ≤ 60) (e : x = y) : oNe [x, y] = some (.bool false) := by
  subst e
  simp [oNe, pl_sh h hn, (pl_eqv x x n n h h).mpr rfl]
theorem pl_ne' {x y : PyData} {n m : Nat} (h : pl n x = true) (h' : pl m y = true) (hn : n ≤ 60) (hm : m ≤ 60) (e : x ≠ y) : oNe [x, y] = some (.bool true) := by
  have : PyData.eqv x y = false := by
    cases z : PyData.eqv x y with
    | false => rfl
    | true => exact absurd ((pl_eqv x y n m h h').mp z) e
  simp [oNe, pl_sh h hn, pl_sh h' hm, this]
theorem pl_eq {x y : PyData} {n m : Nat} (h : pl n x = true) (h' : pl m y = true) (hn : n ≤ 60) (hm : m ≤ 60) (e : x = y) : oEq [x, y] = some (.bool true) := by
  subst e
  simp [oEq, pl_sh h hn, (pl_eqv x x n n h h).mpr rfl]
theorem pl_eq' {x y : PyData} {n m : Nat} (h : pl n x = true) (h' : pl m y = true) (hn : n ≤ 60) (hm : m ≤ 60) (e : x ≠ y) : oEq [x, y] = some (.bool false) := by
  have : PyData.eqv x y = false := by
    cases z : PyData.eqv x y with
    | false => rfl
    | true => exact absurd ((pl_eqv x y n m h h').mp z) e
  simp [oEq, pl_sh h hn, pl_sh h' hm, this]
def nmu : S → Bool
  | .mu _ _ => false
  | _ => true
theorem fin_pd : ∀ {as : List S} {e : Sl}, as.all nmu = true → as.length ≤ e.length → finals as e = some as
  | [], e, _, _ => by cases e <;> rfl
  | a :: as, [], _, l => by simp at l
  | a :: as, x :: e, h, l => by
    simp only [List.all_cons, Bool.and_eq_true] at h
    have ih := fin_pd (as := as) (e := e) h.2 (by simpa using l)
    cases a with
    | pd x => simp [ih]
    | nt x => simp [ih]
    | mu m c => simp [nmu] at h
end T3

end
section
set_option linter.all false
set_option autoImplicit false
set_option Elab.async false
namespace T3
open PySem L2
variable [TabL]
end T3

end
section
set_option linter.all false
set_option autoImplicit false
set_option Elab.async false
namespace T3
open PySem L2
variable [TabL]
theorem RRA.one {K : PySem.W.Frag} {H₀ : Hp} {B : Mset} {H : Hp} {σ : St} {env : Sl} {vs : List V} {d : R} (r : RRA K H₀ B H σ env vs [d]) : ∃ v, vs = [v] ∧ RA K H₀ B H σ env v d := by
  match vs, r with
  | [v], r => exact ⟨v, rfl, r.each 0 v d rfl rfl⟩
  | [], r => have := r.len; simp at this
  | _ :: _ :: _, r => have := r.len; simp at this
def Rg3Ok (i j c : Int) : Prop := RgC i j c (Builtin.Range.rangeSize i j c).toNat
noncomputable instance (i j c : Int) : Decidable (Rg3Ok i j c) := Classical.propDecidable _
end T3

end
section
set_option linter.all false
set_option autoImplicit false
set_option Elab.async false
namespace T3
open PySem L2
variable [TabL]
end T3

end
section
set_option linter.all false
set_option autoImplicit false
set_option Elab.async false
namespace T3
open PySem L2
variable [TabL]
def InJ (n C M : Nat) (s : PyData) (rest : List PyData) (e : Sl) : Prop := (∀ x ∈ rest, ∃ j : Nat, j < M ∧ x = .int (j : Nat)) ∧ Al 0 n e ∧ e[0]? = some (some (.pd s)) ∧ ∃ q : Pk, e[2]? = some (some (.mu .own (penK q))) ∧ q.t + C * rest.length ≤ C * M
theorem outerJ {n N M C : Nat} {fcell fpen : FnD} {BODY : SS} (ns : List Int) (hn4 : 4 ≤ n) (hN : 1 ≤ N) (hN2 : N ≤ 1000) (hM : M ≤ 1000)
    (hcell : ∀ k : Nat, ∃ i, fcell [.pd (.list (ns.map .int)), .pd (.int (k : Nat))] = some (.pd (.int i), [.pd (.list (ns.map .int)), .pd (.int (k : Nat))]))
    (hpen : ∀ i : Int, ∃ p : Pk, p.t = 0 ∧ fpen [.pd (.int i)] = some (.tmp (penK p), [.pd (.int i)]))
    (hbody : ∀ (e : Sl) (p : Pk) (j : Nat), j < M → Al 0 n e → e[0]? = some (some (.pd (.list (ns.map .int)))) → e[2]? = some (some (.mu .own (penK p))) → e[3]? = some (some (.pd (.int (j : Nat)))) → p.t ≤ C * M → wS BODY e (TurnP n C (.list (ns.map .int)) p)) :
    ∃ as, runFn n (sSeq (sFor (iRg1 (eCons (eThen (eCons (eC (.int 1)) (eCons (eThen (eCons (eThen (eCons (eVar 0) eNil) (kE oLen)) (eCons (eC (.int (N : Int))) eNil)) (kE oMin)) eNil)) (kE oMax)) eNil)) (gN 1) (sSeq (sSet 2 (eCall fpen (eCons (eCall fcell (eCons (eVar 0) (eCons (eVar 1) eNil))) eNil)))
      (sFor (iRg1 (eCons (eC (.int (M : Int))) eNil)) (gN 3) BODY))) (sRet (eC (.bool true)))) [.pd (.list (ns.map .int))] = some (.pd (.bool true), as) := by
  generalize hs : PyData.list (ns.map .int) = s at *
  have key : ∀ Q : R → List S → Prop, (∀ as, Q (.pd (.bool true)) as) → wF (runFn n (sSeq (sFor (iRg1 (eCons (eThen (eCons (eC (.int 1)) (eCons (eThen (eCons (eThen (eCons (eVar 0) eNil) (kE oLen)) (eCons (eC (.int (N : Int))) eNil)) (kE oMin)) eNil)) (kE oMax)) eNil)) (gN 1) (sSeq (sSet 2 (eCall fpen (eCons (eCall fcell (eCons (eVar 0) (eCons (eVar 1) eNil))) eNil)))
      (sFor (iRg1 (eCons (eC (.int (M : Int))) eNil)) (gN 3) BODY))) (sRet (eC (.bool true))))) [.pd s] Q := by
    intro Q hQ
    have A0 : Al 0 n (startE n [.pd s]) := by
      have a := Al.start (n := n) [.pd s] (by simp; omega)
      refine ⟨a.len, fun i h1 h2 => ?_⟩
      by_cases z : i = 0
      · subst z
        rw [free_frS (s := some (.pd s)) (by simp [startE])]
        rfl
      · exact a.fre i (by simp; omega) h2
    refine wF_run (e := startE n [.pd s]) rfl ?_
    have h0 : (startE n [.pd s])[0]? = some (some (.pd s)) := by simp [startE]
    generalize startE n [.pd s] = e0 at *
    refine wS_seq ?_
    refine wS_for (xs := upD (max 1 (min ns.length N))) (lk := none) (e := e0) (rg1_max ns hN hN2 (by rw [hs]; exact h0)) (fun rest e => (∀ x ∈ rest, ∃ k : Nat, x = .int (k : Nat)) ∧ OutI n s e) ⟨fun x hx => by
      obtain ⟨j, _, rfl⟩ := List.mem_map.mp hx; exact ⟨j, rfl⟩, A0, h0⟩ ?_ ?_
    · rintro x rest e ⟨hx, A, h0⟩
      obtain ⟨k, rfl⟩ := hx x (by simp)
      obtain ⟨i, ec⟩ := hcell k
      obtain ⟨p, pt, ep⟩ := hpen i
      have f1 := A.fre 1 (by omega) (by omega)
      have A1 := A.set (i := 1) (s := some (.pd (.int (k : Nat)))) rfl
      have g0 : (e.set 1 (some (.pd (.int (k : Nat)))))[0]? = some (some (.pd s)) := by rw [List.getElem?_set_ne (by decide)]; exact h0
      have g1 : (e.set 1 (some (.pd (.int (k : Nat)))))[1]? = some (some (.pd (.int (k : Nat)))) := by rw [List.getElem?_set_self (by rw [A.len]; omega)]
      simp only [gW, z_gN, z_setR, f1, if_true]
      rw [go]
      generalize e.set 1 (some (.pd (.int (k : Nat)))) = e1 at *
      have f2 := A1.fre 2 (by omega) (by omega)
      refine wS_seq ?_
      have A2 := A1.set (i := 2) (s := some (.mu .own (penK p))) rfl
      have b0 : (e1.set 2 (some (.mu .own (penK p))))[0]? = some (some (.pd s)) := by rw [List.getElem?_set_ne (by decide)]; exact g0
      have b2 : (e1.set 2 (some (.mu .own (penK p))))[2]? = some (some (.mu .own (penK p))) := by rw [List.getElem?_set_self (by rw [A1.len]; omega)]
      refine wS_of (fl := .nx) (e := e1.set 2 (some (.mu .own (penK p)))) ?_ ?_
      · simp only [z_set, z_call, z_cons, z_var, g0, g1, z_nil, z_args1, z_arg1, z_args0, z_va1, z_va0, if_true, ec, z_bk1, z_bk0, ep, z_setR, f2]
      rw [nxt_nx, go]
      generalize e1.set 2 (some (.mu .own (penK p))) = e2 at *
      refine wS_for (xs := upD M) (lk := none) (e := e2) (rg1_up (by simp) hM) (InJ n C M s) ⟨fun x hx => by
        obtain ⟨j, hj, rfl⟩ := List.mem_map.mp hx; exact ⟨j, List.mem_range.mp hj, rfl⟩, A2, b0, p, b2, by rw [pt, upD_len]; omega⟩ ?_ ?_
      · rintro y rest' e ⟨hy, A, h0, q, h2, hq⟩
        rw [List.length_cons, Nat.mul_add, Nat.mul_one] at hq
        obtain ⟨j, hj, rfl⟩ := hy y (by simp)
        have f3 := A.fre 3 (by omega) (by omega)
        simp only [gW, z_gN, z_setR, f3, if_true]
        rw [go]
        refine (hbody _ q j hj (A.set rfl) (by rw [List.getElem?_set_ne (by decide)]; exact h0) (by rw [List.getElem?_set_ne (by decide)]; exact h2) (by rw [List.getElem?_set_self (by rw [A.len]; omega)]) (by omega)).imp ?_
        rintro fl e' ⟨hf, A', h0', q', h2', hq'⟩
        have : InJ n C M s rest' e' := ⟨fun x hx => hy x (by simp [hx]), A', h0', q', h2', by omega⟩
        rcases hf with rfl | rfl <;> exact this
      · rintro e ⟨_, A, h0, _⟩
        exact ⟨fun x hx' => hx x (List.mem_cons_of_mem _ hx'), A, h0⟩
    · rintro e ⟨_, A, h0⟩
      simp only [z_unl, nxt_nx]
      rw [go]
      have f := fin1 (x := s) (e := e) (by rw [h0]; simp)
      refine wS_of (fl := .rt (.pd (.bool true))) (e := e) (by simp) ?_
      exact ⟨.pd (.bool true), _, rfl, f, hQ _⟩
  obtain ⟨r, as, e, rfl⟩ := key (fun r _ => r = .pd (.bool true)) (fun _ => rfl)
  exact ⟨as, e⟩
end T3

end
section
set_option linter.all false
set_option autoImplicit false
set_option Elab.async false
set_option maxRecDepth 100000
set_option maxHeartbeats 4000000
namespace T3
open PySem L2
open PyProof.Rows
variable [TabL]
end T3

end
section
set_option linter.all false
set_option autoImplicit false
set_option Elab.async false
set_option maxRecDepth 100000
set_option maxHeartbeats 4000000
namespace T3
open PySem L2
open PySem.Spec PyProof.Rows
variable [TabL]
section
variable {prog : Program} {w : World} {A : Around} {E : Value → Shared → Prop} {s : Shared}
end
end T3

end
section
set_option linter.all false
set_option autoImplicit false
set_option Elab.async false
namespace T3
open PySem L2
variable [TabL]
theorem snoc_get {α : Type} {l : List α} {x y : α} {i : Nat} (h : (l ++ [x])[i]? = some y) : l[i]? = some y ∨ (i = l.length ∧ y = x) := by
  rcases Nat.lt_trichotomy i l.length with c | c | c
  · rw [List.getElem?_append_left c] at h
    exact .inl h
  · subst c
    rw [List.getElem?_append_right (Nat.le_refl _)] at h
    simp at h
    exact .inr ⟨rfl, h.symm⟩
  · rw [List.getElem?_append_right (Nat.le_of_lt c)] at h
    have : 1 ≤ i - l.length := by omega
    rw [List.getElem?_eq_none (by simpa using this)] at h
    cases h
section
variable {K : PySem.W.Frag} {B B' : Mset} {H H' : Hp} {σ : St} {e e' : Sl}
end
def isNon1 (o : Obj) : Bool := match o.data with
  | .seq its _ => match its.toList with
    | [.none] => true
    | _ => false
  | _ => false
theorem isNon1_of {o : Obj} (h : isNon1 o = true) : ∃ m, o.data = .seq ([Value.none] : List Value).toArray m := by
  unfold isNon1 at h
  split at h
  · rename_i its m e
    split at h
    · rename_i e2
      refine ⟨m, ?_⟩
      rw [e, ← e2, Array.toArray_toList]
    · cases h
  · cases h
def AtD (K : PySem.W.Frag) (mg : Str → Option Value) (x : Str) (st : Stmt) (ps : List Str) : Prop := ∃ f fd ds, FunD K x x (defArgs st) (defBody st) (defScope st) [V.non] [] f fd ∧ mg x = some (.ref f) ∧ Vals [V.non] ds ∧ Binds K fd ps ds
theorem atD_mk {K : PySem.W.Frag} {h : Heap} {mg : Str → Option Value} {x : Str} {st : Stmt} {ps : List Str} {f T : Addr} {oc : Value} {od an : Option Addr} {osl : Array (Option Value)} {kV doc pm cdv ct : Value} {oT : Obj} (X : K.In h) (G : h.Ns mainGlobals mg) (n : Nat)
    (a : PySem.W.nsIn K mainGlobals x = some (some (.ref f))) (l : K.lookup f = some ⟨oc, od, .func (PySem.W.fnOf x x (defArgs st) (defBody st) (defScope st) (.ref T) kV doc pm an cdv ct), osl⟩) (t : K.lookup T = some oT) (u : isNon1 oT = true) (c : PySem.W.codeIn K cdv x = true) (k : PySem.W.keepIn K (.ref f) = true)
    (hn : n + 1 = ps.length)
    (hb : ∀ (T : Addr) (kV doc pm : Value) (an : Option Addr) (cdv ct : Value) (us its : List Value), us.length = n → its.length = 1 →
      ∃ k, bindArgs (PySem.W.fnOf x x (defArgs st) (defBody st) (defScope st) (.ref T) kV doc pm an cdv ct) ⟨us, []⟩ = seqItems? (.ref T) >>= k ∧ k (some its.toArray) = pure (ps.zip (us ++ its.drop 0))) : AtD K mg x st ps := by
  obtain ⟨m, hm⟩ := isNon1_of u
  have F : FunD K x x (defArgs st) (defBody st) (defScope st) [V.non] [] f _ := ⟨⟨oc, od, .ref T, kV, doc, pm, an, cdv, ct, osl, rfl, l, c, .inr ⟨by simp, T, oT, [.none], m, rfl, t, hm, .cons rfl .nil⟩, .inl rfl⟩, k⟩
  obtain ⟨ds, h1, h2⟩ := F.binds1 (ps := ps) n 0 (by simp) hn hb
  exact ⟨f, _, ds, F, PySem.W.mg_of X G a, h1, h2⟩
section
variable {X : Cx} {k n : Nat} {F : FnD} {x : Str} {p pos : Pos} {e : Expr} {es : List Expr} {fa : EA}
end
end T3

end
section
set_option linter.all false
set_option autoImplicit false
set_option Elab.async false
namespace T3
open PySem L2
variable [TabL]
abbrev Tp := Int × Int × Int
def TpB (p : Tp) : Prop := (0 ≤ p.1 ∧ p.1 < 64) ∧ (0 ≤ p.2.1 ∧ p.2.1 < 64) ∧ 0 ≤ p.2.2 ∧ p.2.2 < 64
instance (p : Tp) : Decidable (TpB p) := by unfold TpB; infer_instance
end T3

end
section
set_option linter.all false
set_option autoImplicit false
set_option Elab.async false
namespace T3
open PySem L2 PySem.W PyProof.Rows PyProof.V
variable [TabL]
end T3

end
section
set_option linter.all false
set_option autoImplicit false
set_option Elab.async false
namespace T3
open PySem L2
variable [TabL]
end T3

end
section
set_option linter.all false
set_option autoImplicit false
set_option Elab.async false
set_option maxRecDepth 100000
set_option maxHeartbeats 1000000
namespace ZE
open PySem RZ ZM
open PySem.Sem (wp)
section
variable {prog : Program} {w : World} {A : Around} {E : Value → Shared → Prop} {s : Shared}
end
end ZE

end
section
set_option linter.all false
set_option autoImplicit false
set_option Elab.async false
set_option maxRecDepth 100000
set_option maxHeartbeats 1000000
namespace ZE
open PySem PySem.Spec PyProof.Rows L2 RZ ZM
end ZE
namespace T3
open PySem L2
variable [TabL]
end T3

end
section
set_option linter.all false
set_option autoImplicit false
set_option Elab.async false
set_option maxRecDepth 100000
namespace LamA
open PySem PySem.Spec PyProof.Rows L2 LamX NdefX
section
variable {Z : Cx} {F : NF} {f : Addr} {params : Arguments} {body : Expr} {pm ctv : Value} {N ps fr : List Str} {ws : List (Option V)} {k i : Nat} {x : Str} {p pos : Pos} {e : Expr} {es : List Expr} {ta : TA} {tb : TE}
theorem cells_on {pins : List (Addr × Obj)} {σ : L2.St} {H : Hp} {s : Shared} {cl : List (Str × Addr)} (C : CellsAt cl fr ws Z.s_0.heap Z.H_0) (hx : ∀ y c, cl.lookup y = some c → c ∉ Z.ex) (J : Inv Z pins σ H s) : CellsAt cl fr ws s.heap H := by
  have st : ∀ y c, cl.lookup y = some c → ∀ v, Z.s_0.heap.IsCell c v → s.heap.IsCell c v := fun y c e v ⟨o, ho, hd⟩ => by
    obtain ⟨sl, z⟩ := J.base.any ho (C.all y c e).1 (hx y c e)
    exact ⟨_, z, hd⟩
  refine ⟨C.len, fun y c e => ?_, C.inj, fun j y e => ?_⟩
  · obtain ⟨n, v, z⟩ := C.all y c e
    refine ⟨?_, v, st y c e v z⟩
    obtain ⟨o, ho, _⟩ := z
    exact J.base.free c o ho n (hx y c e)
  · obtain ⟨c, hc, hv⟩ := C.has j y e
    refine ⟨c, hc, fun v ev => ?_⟩
    obtain ⟨u, r, z⟩ := hv v ev
    exact ⟨u, r, st y c hc _ z⟩
structure LamAt (Z : Cx) (F : NF) (f : Addr) (params : Arguments) (body : Expr) (pm ctv : Value) (fr : List Str) (ws : List (Option V)) : Prop where
  obj : Z.s_0.heap.get? f = some (PySem.W.kla_obj "<lambda>" F.qual params body F.scope F.cl pm F.c ctv)
  free : Z.H_0 f = none
  nfs : f ∉ Z.fs
  nex : f ∉ Z.ex
  cells : CellsAt F.cl fr ws Z.s_0.heap Z.H_0
  cex : ∀ y c, F.cl.lookup y = some c → c ∉ Z.ex
theorem pe_lamA (LA : LamAt Z F f params body pm ctv fr ws) (S : NScope N ps fr F.scope)
    (hbind : ∀ us : List Value, us.length = ps.length → bindArgs (PySem.W.kla_fn "<lambda>" F.qual params body F.scope F.cl pm (.ref F.c) ctv) ⟨us, []⟩ = pure (ps.zip us))
    (hr : Room (k + 1) Z.A) (hbody : ∀ (A : Around) (outer : List Env) (s : Shared) (H : Hp) (E : XK), Room k (A.deeper (envF F f s.heap.objs.size)) → PE (ncx CX0 Z.prog Z.w Z.K Z.mg Z.base N F f A outer s H E).nox body tb)
    (hN : Z.N[i]? = some x) (hv : Vis Z.env.scope x) (ha : PA Z (e :: es) ta) (hd : (x == ("__debug__" : Str)) = false := by decide) (hcd : (x == ("__classdict__" : Str)) = false := by decide)
    (he : starEach (e :: es) Z.env = (false, eval e Z.env) :: starEach es Z.env := by rfl) (hpl : (backTo pos (starEach es Z.env)).any (·.1) = false := by rfl) :
    PE Z (.Call (.Name x p) (e :: es) [] pos) (fun σ H Q => σ[i]? = some (some (.ref f)) ∧ ta σ H fun vs H1 => vs.length = ps.length ∧ H1 F.c = some (CodeO F.c F.qual) ∧ tb (startF N vs ws) H1 Q) := by
  refine ⟨fun pins s σ H Q I h => ?_⟩
  obtain ⟨hs, ht⟩ := h
  have fnAt : ∀ {pins' : List (Addr × Obj)} {σ' : L2.St} {H' : Hp} {s' : Shared}, Inv Z pins' σ' H' s' → s'.heap.get? f = some (PySem.W.kla_obj "<lambda>" F.qual params body F.scope F.cl pm F.c ctv) := fun {pins' σ' H' s'} J => J.base.keep f _ LA.obj LA.free LA.nfs LA.nex
  refine wpAny_Call_Name_kw (thn ((pe_var (pos := p) hN hv hd hcd).run pins s σ H (fun v H1 => v = .ref f ∧ H1 = H) I ⟨.ref f, hs, rfl, rfl⟩) fun u s1 ⟨v, H1, I1, r1, q1⟩ => ?_)
  obtain ⟨ev, eH⟩ := q1
  subst ev
  rw [eH] at I1
  obtain rfl : u = Value.ref f := r1
  refine PySem.W.callWith_F (first := []) ⟨_, _, _, _, fnAt I1⟩ (thn (ha.run pos pins s1 σ H _ I1 ht) fun us s2 ⟨vs, H2, I2, r, hl, hc, q⟩ => ⟨⟨_, _, _, _, fnAt I2⟩, ?_⟩) he hpl
  show wpAny _ _ (call (.ref f) us) _ _ _
  have C2 : CellsAt F.cl fr ws s2.heap H2 := cells_on LA.cells LA.cex I2
  have rc : codeAny (model Z.prog Z.w) Z.A (.call (.ref f) ⟨us, []⟩) (CR CX0 Z.stack Z.prog Z.w H2 s2 Q (fun _ _ _ => False)) s2 := by
    have e0 := I2.env0
    have lim : s2.heap.NoLimit := I2.nolimit
    refine PySem.W.kla_callFunE hr.depth (fnAt I2) rfl S.co S.gen rfl (codeO_at e0.hok hc) ?_
    rw [hbind us (by rw [← r.length]; exact hl)]
    refine wpAny_pure (wpAny_newFunctionEnv S.nocell (fun ⟨n, _⟩ hy => S.par n (List.of_mem_zip hy).1) (fun h₁ hns hsb => ⟨lim.fresh _ hsb, ?_⟩) S.kind)
    show codeAny _ _ (.expr body (envF F f s2.heap.objs.size)) _ _
    have kp : ∀ b o, s2.heap.get? b = some o → h₁.get? b = some o := fun b o z => hsb.extBut b o (Nat.ne_of_lt (Heap.lt_size z)) (Heap.get?_push_of_some _ z)
    have J : Inv (ncx CX0 Z.prog Z.w Z.K Z.mg Z.base N F f Z.A Z.stack s2 H2 (fun _ _ _ => False)) [] (startF N vs ws) H2 { s2 with heap := h₁, toks := s2.toks + (ps.zip us).length } := inv_startN S hr.hd e0 hl r C2 hns kp
    refine PySem.W.kla_codeExpr (wpAny_mono (((hbody Z.A Z.stack s2 H2 (fun _ _ _ => False) (hr.deeper _)).nox).run [] _ _ H2 Q J q) (fun v s' hq => ?_) fun e s' hq => hq)
    obtain ⟨w', H', J', rv, q'⟩ := hq
    exact ⟨w', H', J'.os, J'.bare, J'.base, J'.hok, rv, q'⟩
  refine wpAny_call (codeAny_mono rc fun r s' hq => ?_)
  cases r with
  | error e => exact (show False from hq).elim
  | ok fl =>
    cases fl with
    | ret u => exact I2.after hq
    | next => exact False.elim hq
    | brk => exact False.elim hq
    | cont => exact False.elim hq
end
end LamA

end
section
set_option linter.all false
set_option autoImplicit false
set_option Elab.async false
set_option maxRecDepth 100000
namespace T3
open PySem L2
variable [TabL]
theorem Rp.lam_inv {K : PySem.W.Frag} {B : Mset} {H : Hp} {v : V} {f c a : Addr} {q : Str} {xs : List PyData} (h : Rp K B H v (lamD f c a q xs)) : v = .ref f ∧ H c = some (LamX.CodeO c q) ∧ ¬ B c ∧ NtR K B H a xs := by
  generalize hd : lamD f c a q xs = d at h
  cases h with
  | lam h1 nb h2 h3 r =>
    simp only [lamD, PyData.dict.injEq, List.cons.injEq, Prod.mk.injEq, PyData.int.injEq, PyData.str.injEq, PyData.tuple.injEq, and_true, Int.ofNat_inj] at hd
    obtain ⟨rfl, rfl, rfl, rfl, rfl⟩ := hd
    exact ⟨rfl, h1, nb, _, _, h2, h3, r⟩
  | fn h => simp [lamD, fnV] at hd
  | _ => cases hd
def fApp (xs : List PyData) (f : EA) : EA := fun env => match f env with
  | some (ds, e) => some (ds ++ [.nt xs], e)
  | none => none
open Classical in
noncomputable def eCallD (i : Nat) (lv : PyData) (xs : List PyData) (F : FnD) (f : EA) : EE := fun env => match env[i]? with
  | some (some (.pd d)) => if d = lv then eCall F (fApp xs f) env else none
  | _ => none
theorem z_callD {i : Nat} {lv : PyData} {xs : List PyData} {F : FnD} {f : EA} {env : Sl} (h : env[i]? = some (some (.pd lv))) : eCallD i lv xs F f env = eCall F (fApp xs f) env := by
  unfold eCallD
  rw [h]
  simp
theorem lenA_app {f : EA} {n : Nat} {xs : List PyData} (h : lenA f n) : lenA (fApp xs f) (n + 1) := by
  intro ds e e' q
  unfold fApp at q
  split at q
  · rename_i ds0 e0 h0
    cases q
    rw [List.length_append, h _ _ _ h0]
    rfl
  · cases q
theorem RRA.snocN {K : PySem.W.Frag} {H₀ : Hp} {B : Mset} {H : Hp} {σ : St} {env : Sl} {vs : List V} {ds : List R} {a : Addr} {xs : List PyData} (r : RRA K H₀ B H σ env vs ds) (n : NtR K B H a xs) : RRA K H₀ B H σ env (vs ++ [.ref a]) (ds ++ [.nt xs]) := by
  have hl := r.len
  refine ⟨by simp [hl], fun k v d h1 h2 => ?_, fun k l c c' v ne h1 h2 h3 h4 => ?_⟩
  · rcases snoc_get h1 with h1 | ⟨e1, rfl⟩
    · rcases snoc_get h2 with h2 | ⟨e2, rfl⟩
      · exact r.each k v d h1 h2
      · have := (List.getElem?_eq_some_iff.mp h1).1
        omega
    · rcases snoc_get h2 with h2 | ⟨e2, rfl⟩
      · have := (List.getElem?_eq_some_iff.mp h2).1
        omega
      · exact ⟨a, rfl, n⟩
  · rcases snoc_get h1 with h1 | ⟨_, h1⟩
    · rcases snoc_get h2 with h2 | ⟨_, h2⟩
      · have k1 := (List.getElem?_eq_some_iff.mp h1).1
        have k2 := (List.getElem?_eq_some_iff.mp h2).1
        rw [List.getElem?_append_left (by omega)] at h3 h4
        exact r.apart k l c c' v ne h1 h2 h3 h4
      · cases h2
    · cases h1
theorem fn_expr {K : PySem.W.Frag} {n : Nat} {N : List Str} {fb : EE} {vs : List V} {H : Hp} {Q : VK} {E : XK} (h : spF K (runFn N.length (sRet fb)) n vs H Q E) : tE K fb (start N vs) H Q := by
  obtain ⟨B, env, fl, env', en, ev, q⟩ := fn_body h
  unfold sRet at ev
  split at ev
  · cases ev
  rename_i d e1 he
  injection ev with ev
  injection ev with e2 e3
  subst e2
  subst e3
  exact ⟨B, env, d, e1, en, he, fun B' H' v a r => q B' _ H' a.s v r⟩
section
open LamA NdefX
variable {Z : Cx} {F : NF} {f a : Addr} {params : Arguments} {body : Expr} {pm ctv : Value} {N ps : List Str} {capt : Str} {k i : Nat} {x : Str} {p pos : Pos} {e : Expr} {es : List Expr} {fa : EA} {fb : EE} {xs : List PyData}
theorem e_callD (LA : LamAt Z F f params body pm ctv [capt] [some (.ref a)]) (S : NScope N ps [capt] F.scope) (hNl : N.length = ps.length + 1)
    (hbind : ∀ us : List Value, us.length = ps.length → bindArgs (PySem.W.kla_fn "<lambda>" F.qual params body F.scope F.cl pm (.ref F.c) ctv) ⟨us, []⟩ = pure (ps.zip us))
    (hr : Room (k + 1) Z.A) (hbody : ∀ (A : Around) (outer : List Env) (s : Shared) (H : Hp) (E : XK), Room k (A.deeper (envF F f s.heap.objs.size)) → PE (ncx CX0 Z.prog Z.w Z.K Z.mg Z.base N F f A outer s H E).nox body (tE Z.K fb))
    (hN : Z.N[i]? = some x) (hv : Vis Z.env.scope x) (hn : lenA fa ps.length) (ha : PA Z (e :: es) (tA Z.K fa)) (hd : (x == ("__debug__" : Str)) = false := by decide) (hcd : (x == ("__classdict__" : Str)) = false := by decide)
    (he : starEach (e :: es) Z.env = (false, eval e Z.env) :: starEach es Z.env := by rfl) (hpl : (backTo pos (starEach es Z.env)).any (·.1) = false := by rfl) :
    PE Z (.Call (.Name x p) (e :: es) [] pos) (tE Z.K (eCallD i (lamD f F.c a F.qual xs) xs (runFn N.length (sRet fb)) fa)) := PE.imp (pe_lamA LA S hbind hr hbody hN hv ha hd hcd he hpl) fun σ H Q t => by
  obtain ⟨B, env, d, env', en, ev, q⟩ := t
  unfold eCallD at ev
  split at ev
  · rename_i d0 h0
    split at ev
    · rename_i hs
      subst hs
      obtain ⟨v, hv, hr⟩ := en.pd i _ h0
      obtain ⟨rfl, hc, nb, nt⟩ := hr.lam_inv
      refine ⟨hv, ?_⟩
      obtain ⟨ds, e1, h1, h2⟩ := rd_callS (E := fun _ _ _ => False) (lenA_app hn) en ev q
      unfold fApp at h1
      split at h1
      · rename_i ds0 e0 h3
        cases h1
        refine ⟨B, env, ds0, _, en, h3, fun B1 H1 vs a1 rr => ?_⟩
        have hl : vs.length = ps.length := by rw [rr.len]; exact hn _ _ _ h3
        have g := a1.grow en
        refine ⟨hl, g.keep _ _ hc (.inl ⟨nb, LamX.codeO_ne⟩), ?_⟩
        have sp := h2 B1 H1 (vs ++ [.ref a]) a1 (rr.snocN (nt.grow g))
        have te := fn_expr sp
        have es : start N (vs ++ [V.ref a]) = startF N vs [some (.ref a)] := by
          unfold L2.start startF
          simp [hl, hNl]
        rw [es] at te
        exact te
      · cases h1
    · cases ev
  · cases ev
end
end T3

end
section
set_option linter.all false
set_option autoImplicit false
set_option Elab.async false
set_option maxRecDepth 100000
namespace LamA
open PySem PySem.Spec PyProof.Rows L2 LamX NdefX
def Made (H H1 : Hp) (P c : Addr) (q : Str) (pos : Pos) : Prop :=
  (H1 = H ∧ ∃ ps : Array Value, H P = some (.tbl ps) ∧ codeAmong pos ps.toList = some (.ref c)) ∨
  (H c = none ∧ ∃ ps : Array Value, H P = some (.tbl ps) ∧ TriplesOk ps.toList ∧ H1 = upd (upd H P (.tbl (ps ++ #[rawInt pos.line, rawInt pos.col, .ref c]))) c (CodeO c q))
section
variable {X : Cx} {pins : List (Addr × Obj)} {σ : L2.St} {H : Hp} {s : Shared}
theorem lam_made {c P : Addr} {q : Str} {pr : Arguments} {bd : Expr} {sc : Scope} {pos : Pos} {R : Value → Shared → Prop} {E : Value → Shared → Prop} (J : Inv X pins σ H s) (tb : TabB X.base X.mg c P) (cod : X.env.code = .ref c) (hq : q = X.env.qual ++ "<lambda>") {nm : Nat → Nat → Str} (tS : T3.TabP H P nm) (hnm : nm pos.line pos.col = q) (nodef : defaultsOf pr X.env = ([], [])) (cap : ∀ y ∈ sc.names, y.2 = .free → ∃ c, X.env.cells.lookup y.1 = some c)
    (k : ∀ (f c' : Addr) (pm ctv : Value) (H1 : Hp) (s' : Shared), Inv X pins σ H1 s' → Made H H1 P c' q pos → s'.heap.get? f = some (PySem.W.kla_obj "<lambda>" q pr bd sc (cloFrom X.env.cells sc.names []) pm c' ctv) → H1 f = none → f ∉ frs X.stack → H1 c' = some (CodeO c' q) → R (.ref f) s') :
    wpAny (model X.prog X.w) X.A (eval (.Lambda pr bd sc pos) X.env) R E s := by
  subst hq
  obtain ⟨ps, tP, tOk, tAll⟩ := tS
  have tAll : ∀ cv : Value, codeAmong pos ps.toList = some cv → ∃ c, cv = .ref c ∧ H c = some (CodeO c (X.env.qual ++ "<lambda>")) := fun cv h => by
    obtain ⟨c, e1, e2⟩ := tAll pos cv h
    rw [hnm] at e2
    exact ⟨c, e1, e2⟩
  refine PySem.W.kla_eval nodef ?_
  have bi : s.heap.BuiltinsAt X.mg P := tb.bm.keeps J.bk
  have oP : s.heap.get? P = some { cls := .none, data := .fields ps } := J.hok P _ tP
  have out : ∀ b, s.heap.objs.size ≤ b → b ∉ frs X.stack := fun b hb z => by
    rcases List.mem_cons.mp (J.stkSub _ z) with y | y
    · have l := J.lt
      rw [← y] at l
      exact absurd (Nat.lt_of_lt_of_le l hb) (Nat.lt_irrefl _)
    · exact J.nofs hb y
  cases at_ : codeAmong pos ps.toList with
  | some cv =>
    obtain ⟨c', rfl, told⟩ := tAll cv at_
    refine PySem.W.kla_makeFunctionHit (mg := X.mg) (c := c) (P := P) (ps := ps) (closure_ok cap) J.ok.glob (J.mod.glob.keeps J.bk) cod (tb.code.keeps J.bk) oP tOk at_ bi fun ctv h' tk kp sz => ?_
    have J1 : Inv X pins σ H { s with heap := h'.push (PySem.W.kla_obj "<lambda>" (X.env.qual ++ "<lambda>") pr bd sc (cloFrom X.env.cells sc.names []) ((X.mg "__name__").getD .none) c' ctv), toks := tk } := J.kept fun b o z => Heap.get?_push_of_some _ (kp b o z)
    exact k h'.objs.size c' ((X.mg "__name__").getD .none) ctv H _ J1 (.inl ⟨rfl, ps, tP, at_⟩) (Heap.get?_push_size _ rfl) (J.hok.fresh sz) (out _ sz) told
  | none =>
    refine PySem.W.kla_makeFunction (mg := X.mg) (c := c) (P := P) (ps := ps) (closure_ok cap) J.ok.glob (J.mod.glob.keeps J.bk) cod (tb.code.keeps J.bk) oP tOk at_ tb.gP bi fun c' ctv h' tk kp ge lt rc tab => ?_
    obtain ⟨c2, oc, vs, t, e2, go, gd, gv⟩ := rc
    cases e2
    have sz : s.heap.objs.size ≤ h'.objs.size := Nat.le_trans ge (Nat.le_of_lt lt)
    have nC : H c' = none := J.hok.fresh ge
    have J1 := inv_table (t' := tk) (more := #[rawInt pos.line, rawInt pos.col, .ref c']) (h' := h'.push (PySem.W.kla_obj "<lambda>" (X.env.qual ++ "<lambda>") pr bd sc (cloFrom X.env.cells sc.names []) ((X.mg "__name__").getD .none) c' ctv)) J tP
      (fun b o nb z => Heap.get?_push_of_some _ (kp b o nb z)) (Heap.get?_push_of_some _ tab) ge ⟨oc, vs, t, Heap.get?_push_of_some _ go, gd, gv⟩
    refine k h'.objs.size c' ((X.mg "__name__").getD .none) ctv _ _ J1 (.inr ⟨nC, ps, tP, tOk, rfl⟩) (Heap.get?_push_size _ rfl) ?_ (out _ sz) upd_same
    have n1 : h'.objs.size ≠ c' := Nat.ne_of_gt lt
    have n2 : h'.objs.size ≠ P := Nat.ne_of_gt (Nat.lt_of_lt_of_le (Heap.lt_size oP) sz)
    rw [upd_ne n1, upd_ne n2]
    exact J.hok.fresh sz
end
end LamA
namespace T3
open PySem L2 LamA
variable [TabL]
def TabU : Prop := ∀ p ∈ TabL.l, ∀ p' ∈ TabL.l, p.1 = p'.1 → p.2 = p'.2
section
variable {K : PySem.W.Frag} {B : Mset} {H H1 : Hp} {P c : Addr} {q : Str} {pos : Pos}
theorem made_keep (m : Made H H1 P c q pos) {a : Addr} {o : HO} (h : H a = some o) (n : NT o) : H1 a = some o := by
  rcases m with ⟨rfl, _⟩ | ⟨nc, ps, tP, _, rfl⟩
  · exact h
  · have e1 : a ≠ c := fun z => by rw [z, nc] at h; cases h
    have e2 : a ≠ P := fun z => by
      rw [z, tP] at h
      cases h
      exact n ps rfl
    rw [upd_ne e1, upd_ne e2]
    exact h
theorem made_liv (m : Made H H1 P c q pos) {a : Addr} (h : H1 a = none) : H a = none := by
  rcases m with ⟨rfl, _⟩ | ⟨nc, ps, tP, _, rfl⟩
  · exact h
  · by_cases e1 : a = c
    · rw [e1]; exact nc
    rw [upd_ne e1] at h
    by_cases e2 : a = P
    · rw [e2, upd_same] at h; cases h
    · rw [upd_ne e2] at h; exact h
theorem made_grow (m : Made H H1 P c q pos) : Grow B H B H1 := ⟨fun a o h n => made_keep m h (by
  rcases n with n | n
  · exact n.2
  · cases o <;> first | exact (n : False).elim | exact fun _ z => nomatch z), fun _ h => .inl h⟩
theorem among_app2 {pos p' : Pos} {c cv : Value} (l : List Value) (h : TriplesOk l) (hc : PySem.codeAmong p' (l ++ [rawInt pos.line, rawInt pos.col, c]) = some cv) : PySem.codeAmong p' l = some cv ∨ (cv = c ∧ p'.line = pos.line ∧ p'.col = pos.col) := by
  fun_induction TriplesOk l with
  | case1 =>
    simp only [List.nil_append, rawInt, PySem.codeAmong] at hc
    split at hc
    · rename_i e
      simp only [Bool.and_eq_true, beq_iff_eq] at e
      exact .inr ⟨(Option.some.inj hc).symm, by omega, by omega⟩
    · cases hc
  | case2 a t b u x rest ih =>
    simp only [List.cons_append, PySem.codeAmong] at hc ⊢
    by_cases e : (a == (p'.line : Int) && b == (p'.col : Int)) = true
    · simp only [e, if_true] at hc ⊢
      exact .inl hc
    · simp only [e] at hc ⊢
      exact ih h hc
  | case3 l h1 h2 => exact h.elim
theorem made_tb {nm : Nat → Nat → Str} (m : Made H H1 P c q pos) (u : TabU) (hm : (P, nm) ∈ TabL.l) (hnm : nm pos.line pos.col = q) (dom : ∀ a, B a → ∃ o, H a = some o) (tb : TbB B H) : TbB B H1 := by
  rcases m with ⟨rfl, _⟩ | ⟨nc, ps, tP, tOk, rfl⟩
  · exact tb
  · have nbc : ¬ B c := fun z => by
      obtain ⟨o, e⟩ := dom c z
      rw [nc] at e; cases e
    have nPc : P ≠ c := fun z => by rw [z, nc] at tP; cases tP
    have kc : ∀ a r, H a = some (LamX.CodeO a r) → upd (upd H P (.tbl (ps ++ #[rawInt pos.line, rawInt pos.col, .ref c]))) c (LamX.CodeO c q) a = some (LamX.CodeO a r) := fun a r h => by
      have e1 : a ≠ c := fun z => by rw [z, nc] at h; cases h
      have e2 : a ≠ P := fun z => by
        rw [z, tP] at h
        cases h
      rw [upd_ne e1, upd_ne e2]
      exact h
    intro p hp
    obtain ⟨ps', h1, h2, h3, h4⟩ := tb p hp
    by_cases e : p.1 = P
    · have eq : p.2 = nm := u p hp _ hm e
      rw [e, tP] at h1
      cases h1
      have eL : (ps ++ #[rawInt pos.line, rawInt pos.col, .ref c]).toList = ps.toList ++ [rawInt pos.line, rawInt pos.col, .ref c] := by simp
      refine ⟨_, by rw [e, upd_ne nPc, upd_same], h2, by rw [eL]; exact PySem.TriplesOk_snoc _ _ _ _ tOk, fun pos' cv hc => ?_⟩
      rw [eL] at hc
      rcases among_app2 _ tOk hc with z | ⟨z, z1, z2⟩
      · obtain ⟨d, e1, e2, e3⟩ := h4 pos' cv z
        exact ⟨d, e1, kc d _ e2, e3⟩
      · exact ⟨c, z, by rw [eq, z1, z2, hnm]; exact upd_same, nbc⟩
    · have ec : p.1 ≠ c := fun z => by rw [z, nc] at h1; cases h1
      refine ⟨ps', by rw [upd_ne ec, upd_ne e]; exact h1, h2, h3, fun pos' cv hc => ?_⟩
      obtain ⟨d, e1, e2, e3⟩ := h4 pos' cv hc
      exact ⟨d, e1, kc d _ e2, e3⟩
theorem At.made {σ : St} {B0 : Mset} {H0 : Hp} {env0 env : Sl} (a : At K σ B0 H0 env0 B H env) {nm : Nat → Nat → Str} (m : Made H H1 P c q pos) (u : TabU) (hm : (P, nm) ∈ TabL.l) (hnm : nm pos.line pos.col = q) : At K σ B0 H0 env0 B H1 env := by
  have g : Grow B H B H1 := made_grow m
  have nt : ∀ o, Imm o → NT o := fun o n => by cases o <;> first | exact (n : False).elim | exact fun _ z => nomatch z
  refine ⟨⟨fun p o h n => made_keep m (a.st.keep p o h n) (n.elim (fun n => n.2) (nt o)), a.st.new, a.st.old, a.st.sub, fun p h => a.st.liv p (made_liv m h)⟩, ⟨a.en.len, fun i x h => ?_, fun i x h => ?_, fun i m' d h => ?_, a.en.inj, fun p h => ?_, made_tb m u hm hnm a.en.dom a.en.tb⟩, a.sm, a.ks⟩
  · obtain ⟨v, h1, h2⟩ := a.en.pd i x h
    exact ⟨v, h1, h2.grow g⟩
  · obtain ⟨v, h1, h2⟩ := a.en.nt i x h
    exact ⟨v, h1, h2.grow g⟩
  · obtain ⟨p, h1, h2, h3⟩ := a.en.mu i m' d h
    refine ⟨p, h1, h2, ?_⟩
    cases d with
    | ls xs => obtain ⟨vs, h4, h5⟩ := h3; exact ⟨vs, made_keep m h4 (fun _ z => nomatch z), h5.grow g⟩
    | dk xs => obtain ⟨vs, h4, h5⟩ := h3; exact ⟨vs, made_keep m h4 (fun _ z => nomatch z), h5.grow g⟩
    | dn xs => obtain ⟨vs, h4, h5⟩ := h3; exact ⟨vs, made_keep m h4 (fun _ z => nomatch z), h5.grow g⟩
  · obtain ⟨o, ho⟩ := a.en.dom p h
    cases h1 : H1 p with
    | none => rw [made_liv m h1] at ho; cases ho
    | some o' => exact ⟨o', rfl⟩
theorem RRA.made {σ : St} {H0 : Hp} {env : Sl} {vs : List V} {ds : List R} (r : RRA K H0 B H σ env vs ds) (m : Made H H1 P c q pos) : RRA K H0 B H1 σ env vs ds := by
  have g : Grow B H B H1 := made_grow m
  refine ⟨r.len, fun k v d h1 h2 => ?_, r.apart⟩
  have e := r.each k v d h1 h2
  cases d with
  | pd x => exact Rp.grow g e
  | nt x => obtain ⟨p, e1, e2⟩ := e; exact ⟨p, e1, e2.grow g⟩
  | var i => exact e
  | tmp t =>
    obtain ⟨p, e1, e2, e3, e4, e5⟩ := e
    refine ⟨p, e1, e2, e3, ?_, e5⟩
    cases t with
    | ls xs => obtain ⟨vs, h4, h5⟩ := e4; exact ⟨vs, made_keep m h4 (fun _ z => nomatch z), h5.grow g⟩
    | dk xs => obtain ⟨vs, h4, h5⟩ := e4; exact ⟨vs, made_keep m h4 (fun _ z => nomatch z), h5.grow g⟩
    | dn xs => obtain ⟨vs, h4, h5⟩ := e4; exact ⟨vs, made_keep m h4 (fun _ z => nomatch z), h5.grow g⟩
end
end T3

end
section
set_option linter.all false
set_option autoImplicit false
set_option Elab.async false
set_option maxRecDepth 100000
namespace T3
open PySem PySem.Spec PyProof.Rows L2 LamA NdefX LamX
variable [TabL]
def fApp2 (L : PyData) (f : EA) : EA := fun env => match f env with
  | some (ds, e) => some (ds ++ [.pd L] ++ [.pd .none], e)
  | none => none
open Classical in
noncomputable def eLamC (j : Nat) (q : Str) (G : PyData → List PyData → FnD) (fa : EA) : EE := fun env => match env[j]? with
  | some (some (.nt xs)) => if h : ∃ r, ∀ f c a, eCall (G (lamD f c a q xs) xs) (fApp2 (lamD f c a q xs) fa) env = some r then some (choose h) else none
  | _ => none
theorem eLamC_of {j : Nat} {q : Str} {G : PyData → List PyData → FnD} {fa : EA} {env : Sl} {xs : List PyData} {r : R × Sl} (h0 : env[j]? = some (some (.nt xs))) (h : ∀ f c a, eCall (G (lamD f c a q xs) xs) (fApp2 (lamD f c a q xs) fa) env = some r) : eLamC j q G fa env = some r := by
  have ex : ∃ r, ∀ f c a, eCall (G (lamD f c a q xs) xs) (fApp2 (lamD f c a q xs) fa) env = some r := ⟨r, h⟩
  unfold eLamC
  rw [h0]
  simp only
  rw [dif_pos ex]
  have := Classical.choose_spec ex 0 0 0
  rw [h 0 0 0] at this
  exact this.symm
theorem lenA_app2 {f : EA} {n : Nat} {L : PyData} (h : lenA f n) : lenA (fApp2 L f) (n + 2) := by
  intro ds e e' q
  unfold fApp2 at q
  split at q
  · rename_i ds0 e0 h0
    cases q
    simp [h _ _ _ h0]
  · cases q
theorem RRA.snocP {K : PySem.W.Frag} {H₀ : Hp} {B : Mset} {H : Hp} {σ : L2.St} {env : Sl} {vs : List V} {ds : List R} {v : V} {x : PyData} (r : RRA K H₀ B H σ env vs ds) (n : Rp K B H v x) : RRA K H₀ B H σ env (vs ++ [v]) (ds ++ [.pd x]) := by
  have hl := r.len
  refine ⟨by simp [hl], fun k v d h1 h2 => ?_, fun k l c c' v ne h1 h2 h3 h4 => ?_⟩
  · rcases snoc_get h1 with h1 | ⟨e1, rfl⟩
    · rcases snoc_get h2 with h2 | ⟨e2, rfl⟩
      · exact r.each k v d h1 h2
      · have := (List.getElem?_eq_some_iff.mp h1).1
        omega
    · rcases snoc_get h2 with h2 | ⟨e2, rfl⟩
      · have := (List.getElem?_eq_some_iff.mp h2).1
        omega
      · exact n
  · rcases snoc_get h1 with h1 | ⟨_, h1⟩
    · rcases snoc_get h2 with h2 | ⟨_, h2⟩
      · have k1 := (List.getElem?_eq_some_iff.mp h1).1
        have k2 := (List.getElem?_eq_some_iff.mp h2).1
        rw [List.getElem?_append_left (by omega)] at h3 h4
        exact r.apart k l c c' v ne h1 h2 h3 h4
      · cases h2
    · cases h1
def BodyL (X : Cx) (x : Str) (st : Stmt) (Ng : List Str) (k : Nat) (q : Str) (params : Arguments) (body : Expr) (scope : Scope) (capt : Str) (M : PyData → List PyData → SS) : Prop :=
  ∀ (F : NF) (f a g : Addr) (pm ctv cdv : Value) (xs : List PyData) (A : Around) (outer : List Env) (s : Shared) (H : Hp) (E : XK), F.qual = q → F.scope = scope →
    LamAt (cxOf CX0 X.prog X.w X.K X.mg X.base Ng x (defScope st) g cdv A outer s H E).nox F f params body pm ctv [capt] [some (.ref a)] → Room k (A.deeper (envOfC x (defScope st) s.heap.objs.size g cdv)) →
    PSs (cxOf CX0 X.prog X.w X.K X.mg X.base Ng x (defScope st) g cdv A outer s H E).nox (defBody st) (tS X.K (M (lamD f F.c a q xs) xs))
section
variable {X : Cx} {x : Str} {st : Stmt} {Ng psg : List Str} {k j : Nat} {q capt : Str} {params : Arguments} {body : Expr} {scope : Scope} {M : PyData → List PyData → SS} {p lpos pos : Pos} {e1 e2 : Expr} {f1 f2 : EE} {cX P : Addr}
theorem e_lamC (hD : AtD X.K X.mg x st psg) (hp4 : psg.length = 4) (Sg : FnScope Ng psg (defScope st)) (hB : BodyL X x st Ng k q params body scope capt M) (hr : Room (k + 1) X.A) (hg : Gl X x)
    (hq : q = X.env.qual ++ "<lambda>") (hu : TabU) (hm : (P, fun _ _ => q) ∈ TabL.l) (TB : TabB X.base X.mg cX P) (hcode : X.env.code = .ref cX) (hdef : defaultsOf params X.env = ([], []))
    (hfree : ∀ y ∈ scope.names, y.2 = .free → X.env.scope.names.lookup y.1 = some .cell ∨ X.env.scope.names.lookup y.1 = some .free) (hcap : (capt, NameKind.free) ∈ scope.names) (hj : X.N[j]? = some capt)
    (he1 : PE X e1 (tE X.K f1)) (he2 : PE X e2 (tE X.K f2)) (hdb : (x == ("__debug__" : Str)) = false := by decide)
    (hs1 : starEach [e1, e2, .Lambda params body scope lpos] X.env = (false, eval e1 X.env) :: starEach [e2, .Lambda params body scope lpos] X.env := by rfl) (hs2 : starEach [e2, .Lambda params body scope lpos] X.env = (false, eval e2 X.env) :: starEach [.Lambda params body scope lpos] X.env := by rfl)
    (hs3 : starEach [Expr.Lambda params body scope lpos] X.env = (false, eval (.Lambda params body scope lpos) X.env) :: starEach [] X.env := by rfl) (hpl : (backTo pos (starEach [e2, .Lambda params body scope lpos] X.env)).any (·.1) = false := by rfl) :
    PE X (.Call (.Name x p) [e1, e2, .Lambda params body scope lpos] [] pos) (tE X.K (eLamC j q (fun L xs => runFn Ng.length (M L xs)) (eCons f1 (eCons f2 eNil)))) := by
  refine ⟨fun pins s σ H Q I t => ?_⟩
  obtain ⟨g, fd, dds, FD', hmg, vd, hbind⟩ := hD
  obtain ⟨⟨oc, od, dV, kV, doc, pmg, an, cdv, ct, osl, rfl, lk, hcg, _, _⟩, kp⟩ := FD'
  obtain ⟨B, env, d, env', en, ev, qq⟩ := t
  unfold eLamC at ev
  split at ev
  rotate_left
  · cases ev
  rename_i xs h0
  split at ev
  rotate_left
  · cases ev
  rename_i ex
  have all := Classical.choose_spec ex
  injection ev with ev
  rw [ev] at all
  obtain ⟨a, ha, nt⟩ := en.nt j xs h0
  have hn2 : lenA (eCons f1 (eCons f2 eNil)) 2 := lenA_cons (lenA_cons lenA_nil)
  -- what the arguments are
  obtain ⟨ds0, e0, h3⟩ : ∃ ds0 e0, eCons f1 (eCons f2 eNil) env = some (ds0, e0) := by
    obtain ⟨ds, e1, h1, _⟩ := rd_callS (E := fun _ _ _ => False) (lenA_app2 hn2) en (all 0 0 0) qq
    unfold fApp2 at h1
    split at h1
    · rename_i ds0 e0 h3
      exact ⟨ds0, e0, h3⟩
    · cases h1
  have tA2 : tA X.K (eCons f1 (eCons f2 eNil)) σ H (fun vs H2 => ∃ B2, At X.K σ B H env B2 H2 e0 ∧ RRA X.K H B2 H2 σ e0 vs ds0) := ⟨B, env, ds0, e0, en, h3, fun B1 H1 vs a1 r1 => ⟨B1, a1, r1⟩⟩
  have t1 := rd_cons tA2
  refine wpAny_Call_Name_kw (ld_glob I hg hmg ?_ hdb)
  refine PySem.W.callWith_K (h₀ := X.base) I.ok.mod.kin kp ?_ hs1 hpl
  refine args_cons (thn (he1.run pins s σ H _ I t1) fun u1 s1 ⟨v1, H1, I1, r1, q1⟩ => ?_) hs1
  have t2 := rd_cons q1
  refine args_cons (thn (he2.run pins s1 σ H1 _ I1 t2) fun u2 s2 ⟨v2, H2, I2, r2, q2⟩ => ?_) hs2
  obtain ⟨B2x, env2x, ds2x, env2y, en2x, ev2x, q2⟩ := q2
  cases ev2x
  obtain ⟨B2, a2, rr⟩ := q2 B2x H2 [] (.refl en2x) ⟨rfl, fun k v d h => by simp at h, fun k l c c' v ne h => by simp at h⟩
  have tbs : TabP H2 P (fun _ _ => q) := a2.en.tb.tabs _ hm
  refine args_cons (lam_made I2 TB hcode hq tbs rfl hdef (fun y hy e => (hfree y hy e).elim (fun z => I2.ok.has _ (.inl z)) fun z => I2.ok.has _ (.inr z)) fun f c' pm ctv H3 s3 I3 md hf hfn hfr hco => ?_) hs3
  refine args_nil ⟨I3.kIn, ?_⟩
  have a3 := a2.made md hu hm rfl
  have rr3 := rr.made md
  have nbc : ¬ B2 c' := by
    rcases md with ⟨_, ps, tP, hc⟩ | ⟨nc, _⟩
    · obtain ⟨ps', h1, _, _, h4⟩ := a2.en.tb _ hm
      rw [tP] at h1
      cases h1
      obtain ⟨d', e1, _, e3⟩ := h4 _ _ hc
      cases e1
      exact e3
    · intro z
      obtain ⟨o, ho⟩ := a2.en.dom c' z
      rw [nc] at ho; cases ho
  have nt3 : NtR X.K B2 H3 a xs := (nt.grow (a2.grow en)).grow (made_grow md)
  have rl : Rp X.K B2 H3 (.ref f) (lamD f c' a q xs) := by
    obtain ⟨o, vs, n1, n2, n3⟩ := nt3
    exact .lam hco nbc n1 n2 n3
  obtain ⟨ds, e4, h1, hsp⟩ := rd_callS (E := fun _ _ _ => False) (lenA_app2 hn2) en (all f c' a) qq
  unfold fApp2 at h1
  rw [h3] at h1
  cases h1
  have sp := hsp B2 H3 _ a3 ((rr3.snocP rl).snocP .non)
  -- the call
  have r3 : Vals ([v1, v2] ++ [V.ref f] ++ [V.non]) ([u1, u2, .ref f] ++ dds) := by
    exact Vals.append (.cons r1 (.cons r2 (.cons rfl .nil))) vd
  have LA : ∀ (E : XK), LamAt (cxOf CX0 X.prog X.w X.K X.mg X.base Ng x (defScope st) g cdv X.A X.stack s3 H3 E).nox ⟨"<lambda>", q, params, [], scope, cloFrom X.env.cells scope.names [], c'⟩ f params body pm ctv [capt] [some (.ref a)] := fun E => by
    have cp : Caps X (cloFrom X.env.cells scope.names []) [capt] [j] := Caps.made I3.ok hfree (fun y hy => by
      rw [List.mem_singleton] at hy
      subst hy
      exact hcap) (by simp [hj])
    have ce := cells_of I3 cp
    rw [show ([j] : List Nat).map (slotAt σ) = [some (.ref a)] by simp [slotAt_of ha]] at ce
    exact ⟨hf, hfn, hfr, (fun z => nomatch (show f ∈ ([] : List Addr) from z)), ce, (fun y c _ z => nomatch (show c ∈ ([] : List Addr) from z))⟩
  have rc : codeAny (model X.prog X.w) X.A (.call (.ref g) ⟨[u1, u2, .ref f], []⟩) (CR CX0 X.stack X.prog X.w H3 s3 Q (fun _ _ _ => False)) s3 := by
    refine run_ofS (N := Ng) (ps := psg) (us := [u1, u2, .ref f] ++ dds) (vs := [v1, v2] ++ [V.ref f] ++ [V.non]) lk hcg Sg hr I3.env0 (hbind s3 [u1, u2, .ref f] I3.kIn (by rw [← r3.length, hp4]; rfl)) r3 (by rw [hp4]; rfl) fun hr' => ?_
    exact ⟨_, (hB _ f a g pm ctv cdv xs X.A X.stack s3 H3 _ rfl rfl (LA _) hr').nox, fn_body sp⟩
  refine wpAny_call (codeAny_mono rc fun r s4 hq4 => ?_)
  cases r with
  | error e => exact (show False from hq4).elim
  | ok fl =>
    cases fl with
    | ret u => exact I3.after hq4
    | next => exact False.elim hq4
    | brk => exact False.elim hq4
    | cont => exact False.elim hq4
end
end T3

end
section
set_option linter.all false
set_option autoImplicit false
set_option Elab.async false
set_option maxRecDepth 100000
namespace T3
open PySem PySem.Spec PyProof.Rows L2 LamA LamX
variable [TabL]
def AtC (K : PySem.W.Frag) (mg : Str → Option Value) (x : Str) (st : Stmt) (ps : List Str) (c : Addr) : Prop :=
  ∃ (f : Addr) (oc : Value) (od : Option Addr) (kV doc pm : Value) (an : Option Addr) (ct : Value) (osl : Array (Option Value)), K.lookup f = some ⟨oc, od, .func (PySem.W.fnOf x x (defArgs st) (defBody st) (defScope st) .none kV doc pm an (.ref c) ct), osl⟩ ∧ PySem.W.codeIn K (.ref c) x = true ∧ PySem.W.keepIn K (.ref f) = true ∧ mg x = some (.ref f) ∧ Binds K (PySem.W.fnOf x x (defArgs st) (defBody st) (defScope st) .none kV doc pm an (.ref c) ct) ps []
theorem hasC_of {P : Program} {w : World} {K : PySem.W.Frag} {mg : Str → Option Value} {base : Heap} {x : Str} {st : Stmt} {N ps : List Str} {k n : Nat} {b : SS} {c : Addr} (h : AtC K mg x st ps c) (Sc : FnScope N ps (defScope st)) (hn : n = ps.length)
    (hbody : ∀ (f : Addr) (A : Around) (outer : List Env) (s : Shared) (H : Hp) (E : XK), Room k (A.deeper (PyProof.Rows.envOfC x (defScope st) s.heap.objs.size f (.ref c))) →
      PSs (cxOf CX0 P w K mg base N x (defScope st) f (.ref c) A outer s H E).nox (defBody st) (tS K b)) : Has P w K mg base x n (runFn N.length b) (k + 1) := by
  obtain ⟨f, oc, od, kV, doc, pm, an, ct, osl, lk, hcd, kp, hm, hb⟩ := h
  refine ⟨f, _, ps, fn_of lk hcd Sc (spF_len hn) fun A outer s H vs Q E hr hsp => ?_, hm, kp, hb⟩
  exact ⟨_, (hbody f A outer s H E hr).nox, fn_body hsp⟩
def lamP (st : Stmt) : Arguments := match defBody st with
  | [.Return (some (.Call _ [_, _, .Lambda p _ _ _] _ _)) _] => p
  | _ => defArgs st
def lamB (st : Stmt) : Expr := match defBody st with
  | [.Return (some (.Call _ [_, _, .Lambda _ b _ _] _ _)) _] => b
  | _ => .Name "x" ⟨0, 0, 0, 0⟩
def lamS (st : Stmt) : Scope := match defBody st with
  | [.Return (some (.Call _ [_, _, .Lambda _ _ s _] _ _)) _] => s
  | _ => defScope st
def TabAt (mg : Str → Option Value) (nm : Str) (h : Heap) : Prop := ∃ (f : Addr) (o : Obj) (fd : FuncData) (c P : Addr), mg nm = some (.ref f) ∧ h.get? f = some o ∧ o.data = .func fd ∧ fd.code = .ref c ∧ PySem.W.CodeHd h c P ∧ h.get? P = some { cls := .none, data := .fields #[] } ∧ ∃ (oc : Obj) (vs : Array Value), h.get? c = some oc ∧ oc.data = .fields vs ∧ vs[11]? = some (.ref P)
end T3

end
section
set_option linter.all false
set_option autoImplicit false
set_option Elab.async false
namespace T3
open PySem L2
variable [TabL]
section
variable {X : Cx}
end
end T3

end
section
set_option linter.all false
set_option autoImplicit false
set_option Elab.async false
namespace T3
open PySem L2
variable [TabL]
end T3

end
section
set_option linter.all false
set_option autoImplicit false
set_option Elab.async false
namespace T3
open PySem L2
variable [TabL]
end T3

end
section
set_option linter.all false
set_option autoImplicit false
set_option Elab.async false
set_option maxRecDepth 10000
namespace T3
open PySem L2
variable [TabL]
end T3

end
section
set_option linter.all false
set_option autoImplicit false
set_option Elab.async false
set_option maxRecDepth 100000
namespace T3
open PySem PySem.Spec PyProof.Rows L2
variable [TabL]
theorem relV_inj {v v' : V} {u : Value} (h : L2.RelV v u) (h' : L2.RelV v' u) : v = v' := by
  cases v <;> cases v' <;> unfold L2.RelV at h h' <;> first
    | rfl
    | (subst h; cases h'; rfl)
    | (subst h; cases h'; done)
    | (obtain ⟨_, rfl⟩ := h; obtain ⟨_, q⟩ := h'; cases q; rfl)
    | (obtain ⟨_, rfl⟩ := h; obtain ⟨_, q⟩ := h'; cases q; done)
    | (obtain ⟨_, rfl⟩ := h; cases h'; done)
    | (subst h; obtain ⟨_, q⟩ := h'; cases q; done)
def ItDk (a : Addr) (z : DEs) : It := ⟨fun i H => H a = some (DnO a z) ∧ ∃ e b, z.es[i]? = some e ∧ e.key = .ref b, fun i H x H' => H' = H ∧ ∃ e b, z.es[i]? = some e ∧ e.key = .ref b ∧ x = .ref b, fun i H => H a = some (DnO a z) ∧ z.es.length ≤ i⟩
theorem turn_dk {P : Program} {w : World} {K : PySem.W.Frag} {tg : Expr} (a it : Addr) (z : DEs) : Turn P w K tg (ItDk a z) [it] it (fun i h => h.IsKeyIter it a i z.es.length z.ep) where
  mem := by simp
  obj := fun i h st b hb => by
    have e : b = it := by simpa using hb
    subst e
    obtain ⟨oi, e, c, dd⟩ := st
    exact ⟨oi, e, fun v z => by rw [dd] at z; cases z⟩
  keep := fun i h h' st k => st.at fun oi e => k it (by simp) oi e
  item := by
    intro X hP hw hK hc i pins s σ H E I hf st hg
    subst hP hw hK
    obtain ⟨hd, en, b, hen, hkey⟩ := hg
    obtain ⟨f0, f1, f2, f3, f4, f5⟩ := hf it (by simp)
    obtain ⟨⟨y1, y2, y3, y4, y5⟩, _⟩ := I.hok a _ hd
    refine next_key_item (es := z.es.toArray) (en := en) st y3 y5 (by simp) (by simpa using hen) fun h' st' sb => ?_
    have I1 : Inv X pins σ H { s with heap := h' } := I.turned (t' := s.toks) (fun b ob hb e => (sb.2 b hb).trans e) f0 f1 f3 f4 f5
    obtain ⟨oi, e, c, dd⟩ := id st'
    exact ⟨en.key, rfl, go_of (s := { s with heap := h' }) e c dd (by decide) ⟨.ref b, H, I1, hkey, ⟨rfl, en, b, hen, hkey, rfl⟩, st', fun b hb => (hf b hb).1⟩⟩
  done := by
    intro X hP hw hK hc i pins s σ H E I hf st hg
    subst hP hw hK
    obtain ⟨hd, hi⟩ := hg
    obtain ⟨f0, f1, f2, f3, f4, f5⟩ := hf it (by simp)
    obtain ⟨⟨y1, y2, y3, y4, y5⟩, _⟩ := I.hok a _ hd
    exact next_key_end (es := z.es.toArray) (I.ok.hd hc) st y3 y5 (by simp) hi fun h' eb => ⟨rfl, I.turned (t' := s.toks) (fun b ob hb e => eb b ob hb e) f0 f1 f3 f4 f5⟩
  self := fun A i s Q E st h => wpAny_pyIter_keyiter st h
def ItDi (a : Addr) (z : DEs) : It := ⟨fun i H => H a = some (DnO a z) ∧ ∃ e b v, z.es[i]? = some e ∧ e.key = .ref b ∧ L2.RelV v e.val, fun i H x H' => ∃ T e b v, z.es[i]? = some e ∧ e.key = .ref b ∧ L2.RelV v e.val ∧ x = .ref T ∧ H T = none ∧ H' = upd H T (.tup [.ref b, v]), fun i H => H a = some (DnO a z) ∧ z.es.length ≤ i⟩
theorem turn_di {P : Program} {w : World} {K : PySem.W.Frag} {elts : List Expr} {kk : Nat} {tpos : Pos} (a it : Addr) (z : DEs) : Turn P w K (.Tuple elts kk tpos) (ItDi a z) [it] it (fun i h => ∃ ok ov, IsItemIter h it a i z.es.length z.ep ok ov) where
  mem := by simp
  obj := fun i h st b hb => by
    have e : b = it := by simpa using hb
    subst e
    obtain ⟨ok, ov, e⟩ := st
    exact ⟨_, e, fun v z => nomatch z⟩
  keep := fun i h h' st k => let ⟨ok, ov, e⟩ := st; ⟨ok, ov, k it (by simp) _ e⟩
  item := by
    intro X hP hw hK hc i pins s σ H E I hf st hg
    subst hP hw hK
    obtain ⟨hd, en, b, v, hen, hkey, rv⟩ := hg
    obtain ⟨⟨y1, y2, y3, y4, y5⟩, _⟩ := I.hok a _ hd
    obtain ⟨ok, ov, he⟩ := st
    have hi : i < z.es.toArray.size := by have := (List.getElem?_eq_some_iff.mp hen).1; simpa using this
    have hg : z.es.toArray[i] = en := by have := (List.getElem?_eq_some_iff.mp hen).2; simpa using this
    have hlt : it < s.heap.objs.size := Heap.lt_size he
    have he' : IsItemIter s.heap it a i z.es.toArray.size z.ep ok ov := by simpa using he
    refine wpAny_pyNext_items_item_raw he' ⟨z.o, y3, y4, y5⟩ hi fun h' ho hT hz hk => ?_
    rw [hg] at ho hT
    refine ⟨_, rfl, wpAny_letOwnedTupleGo_items (s := { s with heap := h' }) ho fun h'' he' sb => ?_⟩
    have hT2 : h''.get? s.heap.objs.size = some { cls := .type "tuple", data := .seq #[en.key, en.val] } := (sb.2 _ (Nat.ne_of_gt hlt)).trans hT
    have new : ObjOk X.prog X.w (upd H s.heap.objs.size (.tup [.ref b, v])) h'' s.heap.objs.size (.tup [.ref b, v]) :=
      ⟨by show 2 ≤ sizeLine; decide, [en.key, en.val], .cons hkey (.cons rv .nil), ⟨_, hT2, rfl, _, rfl⟩⟩
    have I1 : Inv X pins σ (upd H s.heap.objs.size (.tup [.ref b, v])) { s with heap := h'' } :=
      I.turnedNew (t' := s.toks) (ch := [it]) (fun b ob hb e => (sb.2 b (by simpa using hb)).trans (hk b ob (by simpa using hb) e)) hf (Nat.le_refl _) new
    refine ⟨.ref s.heap.objs.size, _, I1, rfl, ⟨_, en, b, v, hen, hkey, rv, rfl, I.hok.fresh (Nat.le_refl _), rfl⟩, ⟨en.key, en.val, by simpa using he'⟩, fun b hb => ?_⟩
    have e : b = it := by simpa using hb
    rw [e, upd_ne (Nat.ne_of_lt hlt)]
    exact (hf it (by simp)).1
  done := by
    intro X hP hw hK hc i pins s σ H E I hf st hg
    subst hP hw hK
    obtain ⟨hd, hi⟩ := hg
    obtain ⟨f0, f1, f2, f3, f4, f5⟩ := hf it (by simp)
    obtain ⟨⟨y1, y2, y3, y4, y5⟩, _⟩ := I.hok a _ hd
    obtain ⟨ok, ov, he⟩ := st
    have he' : IsItemIter s.heap it a i z.es.toArray.size z.ep ok ov := by simpa using he
    exact wpAny_pyNext_items_end_raw (I.ok.hd hc) he' ⟨z.o, y3, y4, y5⟩ (by simpa using hi) fun h' eb => ⟨rfl, I.turned (t' := s.toks) (fun b ob hb e => eb b ob hb e) f0 f1 f3 f4 f5⟩
  self := fun A i s Q E st h => let ⟨_, _, e⟩ := st; PySem.W.kcp_self e h
def iDk (td : TE) : TI := fun σ H R => td σ H fun x H1 => ∃ a z, x = .ref a ∧ H1 a = some (DnO a z) ∧ R (ItDk a z) H1
def iDi (td : TE) : TI := fun σ H R => td σ H fun x H1 => ∃ a z, x = .ref a ∧ H1 a = some (DnO a z) ∧ R (ItDi a z) H1
section
variable {X : Cx} {tg e : Expr} {td : TE} {apos cpos : Pos}
theorem pi_dk (he : PE X e td) : PI X tg e (iDk td) := by
  refine ⟨fun pins s σ H R I h => ?_⟩
  refine thn (he.run pins s σ H _ I h) fun u s1 ⟨x, H1, I1, rx, a, z, ex, hd, q⟩ => ?_
  subst ex
  obtain rfl : u = Value.ref a := rx
  obtain ⟨⟨y1, y2, y3, y4, y5⟩, _⟩ := I1.hok a _ hd
  refine iter_keys y1 y3 y4 y5 (pi_one (tk := s1.toks) I1 _ (turn_dk a _ z) ⟨_, Heap.get?_push_size _ rfl, rfl, ?_⟩ q)
  simp
theorem pi_di {elts : List Expr} {kk : Nat} {tpos : Pos} (he : PE X e td) (hbase : attributeBase e "items" X.env (eval e X.env) = eval e X.env := by rfl) (hline : (apos.endLine == cpos.line) = true := by rfl) :
    PI X (.Tuple elts kk tpos) (.Call (.Attribute e "items" apos) [] [] cpos) (iDi td) := by
  refine ⟨fun pins s σ H R I h => ?_⟩
  refine wpAny_Call_method (T := "dict") (id := "dict.items") hbase rfl hline PySem.F.plainAttrs_dict PySem.F.slot_dict_items PySem.F.type_dict_items (thn (he.run pins s σ H _ I h) fun u s1 ⟨x, H1, I1, rx, a, z, ex, hd, q⟩ => ?_)
  subst ex
  obtain rfl : u = Value.ref a := rx
  obtain ⟨⟨y1, y2, y3, y4, y5⟩, _⟩ := I1.hok a _ hd
  refine ⟨⟨z.o, y3, y4.1⟩, fun b e => by cases e; exact ⟨z.o, y3, y4.2.1⟩, ?_⟩
  have raw : s1.heap.DictRaw a z.es.toArray z.ep := ⟨z.o, y3, y4, y5⟩
  have I2 : Inv X pins σ H1 { s1 with heap := s1.heap.push { cls := .type "dict_items", data := .fields #[.ref a] } } := I1.kept (t' := s1.toks) fun b ob q => Heap.get?_push_of_some _ q
  have fin : wpAny (model X.prog X.w) X.A (pyIter (.ref s1.heap.objs.size)) (PIE X pins σ (.Tuple elts kk tpos) R) X.xe { s1 with heap := s1.heap.push { cls := .type "dict_items", data := .fields #[.ref a] } } := by
    refine wpAny_pyIter_items_raw (d := a) (es := z.es.toArray) (ep := z.ep) ⟨_, Heap.get?_push_size _ rfl, rfl, rfl⟩ ⟨z.o, Heap.get?_push_of_some _ y3, y4, y5⟩ (pi_one (tk := s1.toks) I2 _ (turn_di a _ z) ⟨.none, .none, ?_⟩ q)
    have : z.es.toArray.size = z.es.length := by simp
    rw [← this]
    exact Heap.get?_push_size _ rfl
  show wpAny _ _ (callWith cpos (.builtin "dict.items") [.ref a] [] []) _ X.xe s1
  exact method_meetsIn PySem.F.slot_dict_items PySem.F.entry_dict_items rfl (PySem.evalArgs_none ⟨rfl, ⟨z.o, y3, y4.1⟩, PySem.F.args_dict_items_1 _, _, meets_dict_items_raw a y1, ⟨_, _, raw⟩, fin⟩)
end
end T3
namespace T3
open PySem L2
variable [TabL]
def keysD (kvs : List (NestedKey × PyData)) : List PyData := kvs.map fun q => q.1.data
def itemsD (kvs : List (NestedKey × PyData)) : List PyData := kvs.map fun q => .tuple [q.1.data, q.2]
def iKeysN (f : EE) : EI := fun env => match f env with
  | some (.tmp (.dn kvs), e) => some (keysD kvs, none, e)
  | some (.var i, e) => match e[i]? with
    | some (some (.mu m (.dn kvs))) => some (keysD kvs, some (i, m), e.set i (some (.mu .fro (.dn kvs))))
    | _ => none
  | _ => none
def iItemsN (f : EE) : EI := fun env => match f env with
  | some (.tmp (.dn kvs), e) => some (itemsD kvs, none, e)
  | some (.var i, e) => match e[i]? with
    | some (some (.mu m (.dn kvs))) => some (itemsD kvs, some (i, m), e.set i (some (.mu .fro (.dn kvs))))
    | _ => none
  | _ => none
@[simp] theorem z_keysN (f : EE) (env : Sl) : iKeysN f env = (match f env with
  | some (.tmp (.dn kvs), e) => some (keysD kvs, none, e)
  | some (.var i, e) => match e[i]? with
    | some (some (.mu m (.dn kvs))) => some (keysD kvs, some (i, m), e.set i (some (.mu .fro (.dn kvs))))
    | _ => none
  | _ => none) := rfl
@[simp] theorem z_itemsN (f : EE) (env : Sl) : iItemsN f env = (match f env with
  | some (.tmp (.dn kvs), e) => some (itemsD kvs, none, e)
  | some (.var i, e) => match e[i]? with
    | some (some (.mu m (.dn kvs))) => some (itemsD kvs, some (i, m), e.set i (some (.mu .fro (.dn kvs))))
    | _ => none
  | _ => none) := rfl
theorem paired_at {α β : Type} {R : α → β → Prop} : ∀ {as : List α} {bs : List β} {i : Nat} {b : β}, Paired R as bs → bs[i]? = some b → ∃ a, as[i]? = some a ∧ R a b
  | _, _, 0, _, .cons r _, h => by simp at h; subst h; exact ⟨_, rfl, r⟩
  | _, _, i + 1, _, .cons _ t, h => by
    obtain ⟨a, h1, h2⟩ := paired_at (i := i) t (by simpa using h)
    exact ⟨a, by simpa using h1, h2⟩
theorem dnO_nt {a : Addr} {z : DEs} : NT (DnO a z) := fun _ q => nomatch q
theorem wk_dk {K : PySem.W.Frag} {a : Addr} {z : DEs} {kvs : List (NestedKey × PyData)} : Wk K (ItDk a z) (fun q => q = a) (fun B H => H a = some (DnO a z) ∧ DnR K B H z kvs) (keysD kvs) where
  go i B H g hi := by
    obtain ⟨g1, g2⟩ := g
    have hi : i < kvs.length := by simpa [keysD] using hi
    obtain ⟨e, h1, _, _, ⟨b, h2, _⟩, _⟩ := paired_at g2.ent (List.getElem?_eq_getElem hi)
    exact ⟨g1, e, b, h1, h2⟩
  stop B H g := by
    obtain ⟨g1, g2⟩ := g
    exact ⟨g1, by rw [Paired.length g2.ent]; simp [keysD]⟩
  yld i B H x H' d g hd hy := by
    obtain ⟨g1, g2⟩ := g
    obtain ⟨rfl, e, b, h1, h2, rfl⟩ := hy
    refine ⟨.inl rfl, ?_⟩
    simp only [keysD, List.getElem?_map] at hd
    cases hq : kvs[i]? with
    | none => rw [hq] at hd; cases hd
    | some q =>
      rw [hq] at hd
      cases hd
      obtain ⟨e', k1, _, _, ⟨b', k2, k3⟩, _⟩ := paired_at g2.ent hq
      rw [h1] at k1
      cases k1
      rw [h2] at k2
      cases k2
      exact k3
  keep W B H W' B' H' g s wb hp := by
    obtain ⟨g1, g2⟩ := g
    exact ⟨s.keep _ _ g1 (.inl ⟨hp a rfl, dnO_nt⟩), g2.grow (s.grow wb)⟩
theorem wk_di {K : PySem.W.Frag} {a : Addr} {z : DEs} {kvs : List (NestedKey × PyData)} : Wk K (ItDi a z) (fun q => q = a) (fun B H => H a = some (DnO a z) ∧ DnR K B H z kvs) (itemsD kvs) where
  go i B H g hi := by
    obtain ⟨g1, g2⟩ := g
    have hi : i < kvs.length := by simpa [itemsD] using hi
    obtain ⟨e, h1, _, _, ⟨b, h2, _⟩, v, h3, _⟩ := paired_at g2.ent (List.getElem?_eq_getElem hi)
    exact ⟨g1, e, b, v, h1, h2, h3⟩
  stop B H g := by
    obtain ⟨g1, g2⟩ := g
    exact ⟨g1, by rw [Paired.length g2.ent]; simp [itemsD]⟩
  yld i B H x H' d g hd hy := by
    obtain ⟨g1, g2⟩ := g
    obtain ⟨T, e, b, v, h1, h2, h3, rfl, nT, rfl⟩ := hy
    refine ⟨.inr (.inl ⟨T, _, nT, rfl⟩), ?_⟩
    simp only [itemsD, List.getElem?_map] at hd
    cases hq : kvs[i]? with
    | none => rw [hq] at hd; cases hd
    | some q =>
      rw [hq] at hd
      cases hd
      obtain ⟨e', k1, _, _, ⟨b', k2, k3⟩, v', k4, k5⟩ := paired_at g2.ent hq
      rw [h1] at k1
      cases k1
      rw [h2] at k2
      cases k2
      have := relV_inj h3 k4
      subst this
      have gr : Grow B H B (upd H T (.tup [.ref b, v])) := ⟨fun q o h _ => keep_upd nT q o h, fun q h => .inl h⟩
      exact .tup (.inl (.inl upd_same)) (.cons (k3.grow gr) (.cons (k5.grow gr) .nil))
  keep W B H W' B' H' g s wb hp := by
    obtain ⟨g1, g2⟩ := g
    exact ⟨s.keep _ _ g1 (.inl ⟨hp a rfl, dnO_nt⟩), g2.grow (s.grow wb)⟩
theorem rd_keysN {K : PySem.W.Frag} {f : EE} {σ : St} {H : Hp} {R : It → Hp → Prop} (h : tI K (iKeysN f) σ H R) : iDk (tE K f) σ H R := by
  obtain ⟨B, env, xs, lk, env', en, ev, q⟩ := h
  unfold iKeysN at ev
  split at ev
  · rename_i kvs e h1
    cases ev
    refine ⟨B, env, _, _, en, h1, fun B1 H1 v a1 r1 => ?_⟩
    obtain ⟨a, rfl, k0, k1, ⟨z, k2, k3⟩, k4⟩ := r1
    refine ⟨a, z, rfl, k2, q B1 H1 _ _ _ _ a1 rfl wk_dk ⟨k2, k3⟩ (fun p w => ?_)⟩
    subst w
    exact ⟨fun ⟨i, m, c, g1, _, g3⟩ => k4 i m c g1 g3, _, k2⟩
  · rename_i i e h1
    split at ev
    · rename_i m kvs h2
      cases ev
      refine ⟨B, env, _, _, en, h1, fun B1 H1 v a1 r1 => ?_⟩
      obtain ⟨k1, _⟩ := r1
      obtain ⟨a, g1, g2, z, g3, g4⟩ := a1.en.mu i _ _ h2
      rw [k1] at g1
      cases g1
      refine ⟨a, z, rfl, g3, q B1 H1 _ _ _ _ a1 ⟨_, h2, rfl⟩ wk_dk ⟨g3, g4⟩ (fun p w => ?_)⟩
      subst w
      refine ⟨fun ⟨j, m', c, z1, z2, z3⟩ => ?_, _, g3⟩
      rcases get_set z1 with ⟨e1, e2⟩ | ⟨e1, z1⟩
      · cases e2; exact z2 rfl
      · exact e1 (a1.en.inj i j _ _ _ _ _ h2 z1 k1 z3)
    · cases ev
  · cases ev
theorem rd_itemsN {K : PySem.W.Frag} {f : EE} {σ : St} {H : Hp} {R : It → Hp → Prop} (h : tI K (iItemsN f) σ H R) : iDi (tE K f) σ H R := by
  obtain ⟨B, env, xs, lk, env', en, ev, q⟩ := h
  unfold iItemsN at ev
  split at ev
  · rename_i kvs e h1
    cases ev
    refine ⟨B, env, _, _, en, h1, fun B1 H1 v a1 r1 => ?_⟩
    obtain ⟨a, rfl, k0, k1, ⟨z, k2, k3⟩, k4⟩ := r1
    refine ⟨a, z, rfl, k2, q B1 H1 _ _ _ _ a1 rfl wk_di ⟨k2, k3⟩ (fun p w => ?_)⟩
    subst w
    exact ⟨fun ⟨i, m, c, g1, _, g3⟩ => k4 i m c g1 g3, _, k2⟩
  · rename_i i e h1
    split at ev
    · rename_i m kvs h2
      cases ev
      refine ⟨B, env, _, _, en, h1, fun B1 H1 v a1 r1 => ?_⟩
      obtain ⟨k1, _⟩ := r1
      obtain ⟨a, g1, g2, z, g3, g4⟩ := a1.en.mu i _ _ h2
      rw [k1] at g1
      cases g1
      refine ⟨a, z, rfl, g3, q B1 H1 _ _ _ _ a1 ⟨_, h2, rfl⟩ wk_di ⟨g3, g4⟩ (fun p w => ?_)⟩
      subst w
      refine ⟨fun ⟨j, m', c, z1, z2, z3⟩ => ?_, _, g3⟩
      rcases get_set z1 with ⟨e1, e2⟩ | ⟨e1, z1⟩
      · cases e2; exact z2 rfl
      · exact e1 (a1.en.inj i j _ _ _ _ _ h2 z1 k1 z3)
    · cases ev
  · cases ev
theorem i_keysN {X : Cx} {tg l : Expr} {f : EE} (h : PE X l (tE X.K f)) : PI X tg l (tI X.K (iKeysN f)) := PI.imp (pi_dk h) fun _ _ _ t => rd_keysN t
theorem i_itemsN {X : Cx} {e : Expr} {f : EE} {elts : List Expr} {kk : Nat} {tpos apos cpos : Pos} (h : PE X e (tE X.K f)) (hbase : attributeBase e "items" X.env (eval e X.env) = eval e X.env := by rfl) (hline : (apos.endLine == cpos.line) = true := by rfl) :
    PI X (.Tuple elts kk tpos) (.Call (.Attribute e "items" apos) [] [] cpos) (tI X.K (iItemsN f)) := PI.imp (pi_di h hbase hline) fun _ _ _ t => rd_itemsN t
end T3

end
section
set_option linter.all false
set_option autoImplicit false
set_option Elab.async false
set_option maxRecDepth 100000
namespace L2
open PySem PySem.Spec PyProof.Rows
section
variable {X : Cx}
end
end L2
namespace T3
open PySem L2
variable [TabL]
section
variable {X : Cx}
end
end T3

end
section
set_option linter.all false
set_option autoImplicit false
set_option Elab.async false
set_option maxRecDepth 100000
namespace T3
open PySem PySem.Spec PySem.W L2 PyProof.Rows
variable [TabL]
structure DSrc (K : PySem.W.Frag) (B : Mset) (H : Hp) (h : Heap) (a : Addr) (ds : List PyData) where
  es : List DictEntry
  o : Obj
  ep : Nat
  ns : (a == sysModules) = false
  sz : es.length ≤ sizeLine
  ho : h.get? a = some o
  hx : o.ExactDict
  hd : o.data = .dict es.toArray ep
  ks : Paired (fun (e : DictEntry) (d : PyData) => ∃ v, L2.RelV v e.key ∧ Rp K B H v d) es ds
theorem each_paired {α β : Type} {R : α → β → Prop} : ∀ {as : List α} {bs : List β}, Paired R as bs → PySem.W.EachIs R as bs
  | _, _, .nil => .nil
  | _, _, .cons r t => .cons r (each_paired t)
theorem paired_each {α β : Type} {R : α → β → Prop} : ∀ {as : List α} {bs : List β}, PySem.W.EachIs R as bs → Paired R as bs
  | _, _, .nil => .nil
  | _, _, .cons r t => .cons r (paired_each t)
theorem vals_of {K : PySem.W.Frag} {B : Mset} {H : Hp} : ∀ {us : List Value} {ds : List PyData}, Paired (fun (u : Value) (d : PyData) => ∃ v, L2.RelV v u ∧ Rp K B H v d) us ds → ∃ vs, L2.Vals vs us ∧ RpA K B H vs ds
  | _, _, .nil => ⟨[], .nil, .nil⟩
  | _, _, .cons ⟨v, h1, h2⟩ t => let ⟨vs, h3, h4⟩ := vals_of t; ⟨v :: vs, .cons h1 h3, .cons h2 h4⟩
theorem each_reads {h : Heap} : ∀ {us : List Value} {ds : List PyData} {as : List Addr}, ReadsAll h us ds as → PySem.W.EachIs (fun v d => ∃ as, Reads h v d as) us ds := fun {us ds as} r => by
  have := PySem.W.readsAll_each (h := h) (fun d : PyData => d) (vs := us) (bs := ds) (as := as) (by simpa using r)
  exact this
theorem paired_keys {K : PySem.W.Frag} {B : Mset} {H : Hp} : ∀ {es : List DictEntry} {ds : List PyData}, Paired (fun (e : DictEntry) (d : PyData) => ∃ v, L2.RelV v e.key ∧ Rp K B H v d) es ds → Paired (fun (u : Value) (d : PyData) => ∃ v, L2.RelV v u ∧ Rp K B H v d) (es.map (·.key)) ds
  | _, _, .nil => .nil
  | _, _, .cons r t => .cons r (paired_keys t)
theorem srt_core {X : Cx} {pins : List (Addr × Obj)} {s : Shared} {σ : L2.St} {H : Hp} {B : Mset} {Q : VK} {a : Addr} {ds : List PyData} (hc : X.calm = true) (hu : X.A.units + 64 < cLine) (I : Inv X pins σ H s) (S : DSrc X.K B H s.heap a ds)
    (hl : PyData.canLayAll0 ds = true) (hal : PySem.W.AllAlike ds) (hk : PySem.W.Sortable ds) (hdp : ∀ d ∈ ds, d.depth ≤ 30)
    (q : ∀ (ys : List V) (p : Addr), RpA X.K B H ys (ds.mergeSort (PySem.W.dataLe false id)) → H p = none → Q (.ref p) (upd H p (.lst ys))) :
    wpAny (model X.prog X.w) X.A (call (.builtin "sorted") [.ref a]) (fun u s' => ∃ v H', Inv X pins σ H' s' ∧ L2.RelV v u ∧ Q v H') X.xe s := by
  obtain ⟨es, o, ep, lo, hz, ho, hx, hda, hks⟩ := S
  refine Calls.call_function_entry PyProof.Rows.kind_sorted PyProof.Rows.plain_sorted PyProof.Rows.entry_sorted (PyProof.Rows.args_sorted1 _) ?_
  unfold Builtin.«sorted»
  refine wpAny_bind (m := checkCount "sorted" 1 1 _) (wpAny_pure (wpAny_bind (PySem.W.kdu_collect (A := X.A.in1) (KdlSrc.rawDict (es := es.toArray) (ep := ep) lo) (I.ok.hd hc) ⟨o, ho, hx, hda⟩ (by simpa using hz) fun h' tk acc hk' hacc => ?_)))
  have el : acc.toList = es.map (·.key) := by
    apply List.ext_getElem?
    intro i
    obtain ⟨h1, h2⟩ := hacc
    by_cases hi : i < es.length
    · have hi' : i < acc.size := by rw [h1]; simpa using hi
      obtain ⟨_, e⟩ := h2 i acc[i] (Array.getElem?_eq_getElem hi')
      rw [Array.getElem?_toList, Array.getElem?_eq_getElem hi', e]
      simp [hi]
    · rw [Array.getElem?_toList, Array.getElem?_eq_none (by rw [h1]; simpa using hi)]
      simp [hi]
  have I1 : Inv X pins σ H { s with heap := h', toks := tk } := I.kept hk'
  have lk : es.length = ds.length := Paired.length hks
  have pk : Paired (fun (u : Value) (d : PyData) => ∃ v, L2.RelV v u ∧ Rp X.K B H v d) acc.toList ds := by
    rw [el]
    exact paired_keys hks
  obtain ⟨vs0, rv0, rp0⟩ := vals_of pk
  obtain ⟨as, ra⟩ := Dp.readsAll I1 ds vs0 acc.toList (rp0.dp0 hl) rv0
  have er0 := each_reads ra
  have vlen : acc.toList.length = ds.length := by rw [el, List.length_map, lk]
  refine wpAny_bind (wpAny_newList ?_ (by rw [el, List.length_map]; exact hz))
  have hoL : (h'.push (seqObj "list" acc.toList.toArray 0)).get? h'.objs.size = some (seqObj "list" acc.toList.toArray 0) := Heap.get?_push_size _ rfl
  show wpAny _ _ _ _ _ { s with heap := h'.push (seqObj "list" acc.toList.toArray 0), toks := tk }
  have er' : PySem.W.EachIs (fun v d => ∃ as, Reads (sortingHeap (h'.push (seqObj "list" acc.toList.toArray 0)) h'.objs.size acc.toList) v d as) acc.toList ds := er0.mono fun u d ⟨as, r⟩ => ⟨as, PyProof.Rows.Reads.keeps (fun b ob z => sortingHeap_old (Nat.ne_of_lt (Heap.lt_size z)) (Heap.get?_push_of_some _ z)) r⟩
  refine wpAny_bind (wpAny_holding (wpAny_call_entry PyProof.Rows.slot_list_sort ⟨_, hoL, rfl⟩ PyProof.Rows.entry_list_sort
    (PySem.W.list_sort_vals (s := { s with heap := h'.push (seqObj "list" acc.toList.toArray 0), toks := tk }) (κ := PySem.W.dataKind (sortingHeap (h'.push (seqObj "list" acc.toList.toArray 0)) h'.objs.size acc.toList) ds) hoL
      (PySem.W.SortsAt.data (s := { s with heap := sortingHeap (h'.push (seqObj "list" acc.toList.toArray 0)) h'.objs.size acc.toList, toks := tk }) er' hal hk fun d hd => by
        have := hdp d hd
        show X.A.units + 1 + 1 + d.depth < cLine
        omega) (by rw [vlen, ← lk]; exact hz) ⟨.none, rfl, ?_⟩) (PyProof.Rows.args_list_sort _)))
  have ep1 : PySem.W.EachIs (fun (u : Value) (d : PyData) => ∃ v, L2.RelV v u ∧ Rp X.K B H v d) acc.toList ds := each_paired pk
  have sd := PySem.W.sortVals_data (h' := sortingHeap (h'.push (seqObj "list" acc.toList.toArray 0)) h'.objs.size acc.toList) (enc := fun d : PyData => d) (vs := acc.toList) (bs := ds) false ep1 (by exact er') (by simpa using hal)
  rw [List.map_id'] at sd
  have lv := PySem.W.sortVals_length (κ := PySem.W.dataKind (sortingHeap (h'.push (seqObj "list" acc.toList.toArray 0)) h'.objs.size acc.toList) ds) false (ks := acc.toList) (vs := acc.toList) rfl
  generalize PySem.W.sortVals (PySem.W.dataKind (sortingHeap (h'.push (seqObj "list" acc.toList.toArray 0)) h'.objs.size acc.toList) ds) false acc.toList acc.toList = out at *
  obtain ⟨ys, ry, rpy⟩ := vals_of (paired_each sd)
  obtain ⟨e', he'⟩ := PyProof.Rows.sortedHeap_at (vs := acc.toList) (out := out.toArray) hoL
  have hlen : ys.length ≤ sizeLine := by rw [ry.length, lv, vlen, ← lk]; exact hz
  refine wpAny_pure ⟨_, rfl, .ref h'.objs.size, upd H h'.objs.size (.lst ys), I1.laid (t' := tk) (fun b u e => ?_) (Nat.le_refl _)
    (show ObjOk X.prog X.w _ _ _ (.lst ys) from ⟨hlen, out, e', ry, he'⟩), rfl, q ys _ rpy (I1.hok.fresh (Nat.le_refl _))⟩
  have hb : b < h'.objs.size := Heap.lt_size e
  rw [PyProof.Rows.sortedHeap_old (Nat.ne_of_lt hb) (by rw [size_push']; exact Nat.lt_succ_of_lt hb)]
  exact Heap.get?_push_of_some _ e
theorem dn_src {X : Cx} {pins : List (Addr × Obj)} {s : Shared} {σ : L2.St} {H : Hp} {B : Mset} {a : Addr} {z : DEs} {kvs : List (NestedKey × PyData)} (I : Inv X pins σ H s) (h : H a = some (DnO a z)) (r : DnR X.K B H z kvs) : Nonempty (DSrc X.K B H s.heap a (keysD kvs)) := by
  obtain ⟨⟨y1, y2, y3, y4, y5⟩, _⟩ := I.hok a _ h
  refine ⟨⟨z.es, z.o, z.ep, y1, y2, y3, y4, y5, ?_⟩⟩
  unfold keysD
  have : ∀ {es : List DictEntry} {kvs : List (NestedKey × PyData)}, Paired (DnE X.K B H) es kvs → Paired (fun (e : DictEntry) (d : PyData) => ∃ v, L2.RelV v e.key ∧ Rp X.K B H v d) es (kvs.map fun q => q.1.data) := by
    intro es kvs p
    induction p with
    | nil => exact .nil
    | cons r t ih =>
      obtain ⟨_, _, ⟨b, e1, e2⟩, _⟩ := r
      exact .cons ⟨.ref b, e1, e2⟩ ih
  exact this r.ent
def keyD' : Key → PyData
  | .inl i => .int i
  | .inr s => .str s
theorem key_rp {K : PySem.W.Frag} {B : Mset} {H : Hp} {k : Key} {u : Value} (h : keyIs k u = true) : ∃ v, L2.RelV v u ∧ Rp K B H v (keyD' k) := ⟨kV k, relV_key h, by
  cases k with
  | inl i => exact .int i
  | inr x => exact .str x⟩
theorem dk_src {X : Cx} {pins : List (Addr × Obj)} {s : Shared} {σ : L2.St} {H : Hp} {B : Mset} {a : Addr} {ws : List (Key × V)} {kvs : List (Key × PyData)} (I : Inv X pins σ H s) (h : H a = some (.dK ws)) (r : KvR X.K B H ws kvs) : Nonempty (DSrc X.K B H s.heap a (kvs.map fun q => keyD' q.1)) := by
  obtain ⟨z, y, vs, rv, o, es, ep, e1, e2, e3, e4, e5, e6⟩ := dk_of I.hok h
  have key : ∀ {es : List DictEntry} {vs : List (Key × Value)} {ws : List (Key × V)} {kvs : List (Key × PyData)}, Pairs (mixKind X.prog X.w) es vs → KV ws vs → KvR X.K B H ws kvs → Paired (fun (e : DictEntry) (d : PyData) => ∃ v, L2.RelV v e.key ∧ Rp X.K B H v d) es (kvs.map fun q => keyD' q.1) := by
    intro es vs ws kvs p
    induction p generalizing ws kvs with
    | nil =>
      intro k r
      cases k
      cases r
      exact .nil
    | cons p1 p2 p3 ih =>
      intro k r
      cases k with
      | cons k1 k2 =>
        cases r with
        | cons r1 r2 =>
          exact .cons (by dsimp only; rw [r1.1.symm.trans k1.1]; exact key_rp p1) (ih k2 r2)
  have kp := key e5 rv r
  have l1 : es.size = vs.length := by
    have : ∀ {es : List DictEntry} {vs : List (Key × Value)}, Pairs (mixKind X.prog X.w) es vs → es.length = vs.length := by
      intro es vs p
      induction p with
      | nil => rfl
      | cons _ _ _ ih => simp [ih]
    have := this e5
    simpa using this
  have l2 : ws.length = vs.length := Paired.length rv
  exact ⟨⟨es.toList, o, ep, y, by simp; omega, e1, e2, by simpa using e3, kp⟩⟩
def keysOfCt : Ct → Option (List PyData)
  | .dn kvs => some (keysD kvs)
  | .dk kvs => some (kvs.map fun q => keyD' q.1)
  | .ls _ => none
def PlainS (xs : List PyData) : Prop := PyData.canLayAll0 xs = true ∧ PySem.W.AllAlike xs ∧ PySem.W.Sortable xs ∧ ∀ d ∈ xs, d.depth ≤ 30
noncomputable instance (xs : List PyData) : Decidable (PlainS xs) := Classical.propDecidable _
def srtD (xs : List PyData) : List PyData := xs.mergeSort (PySem.W.dataLe false id)
noncomputable def kSrtG : KK := fun ds env => match ds with
  | [.var i] => match env[i]? with
    | some (some (.mu _ c)) => match keysOfCt c with
      | some xs => if PlainS xs then some (.tmp (.ls (srtD xs)), env) else none
      | none => none
    | _ => none
  | _ => none
def rSrtG (K : PySem.W.Frag) : List V → Hp → VK → Prop := fun vs H Q => ∃ (a : Addr) (B : Mset) (xs : List PyData), vs = [V.ref a] ∧ PlainS xs ∧ ((∃ z kvs, H a = some (DnO a z) ∧ DnR K B H z kvs ∧ xs = keysD kvs) ∨ ∃ ws kvs, H a = some (.dK ws) ∧ KvR K B H ws kvs ∧ xs = kvs.map fun q => keyD' q.1) ∧
  ∀ (ys : List V) (p : Addr), RpA K B H ys (srtD xs) → H p = none → Q (.ref p) (upd H p (.lst ys))
theorem cr_srtG {X : Cx} (hc : X.calm = true) (hu : X.A.units + 64 < cLine) : CallR X (.builtin "sorted") (rSrtG X.K) := by
  intro pins s σ H vs us Q I r h
  obtain ⟨a, B, xs, rfl, ⟨p1, p2, p3, p4⟩, src, q⟩ := h
  rw [Vals.ref1 r]
  rcases src with ⟨z, kvs, h1, h2, rfl⟩ | ⟨ws, kvs, h1, h2, rfl⟩
  · obtain ⟨S⟩ := dn_src I h1 h2
    exact srt_core hc hu I S p1 p2 p3 p4 q
  · obtain ⟨S⟩ := dk_src I h1 h2
    exact srt_core hc hu I S p1 p2 p3 p4 q
theorem c_srtG {K : PySem.W.Frag} : Con K kSrtG (rSrtG K) := by
  intro σ H B env B1 H1 env1 vs ds d e2 Q en a rr hk q
  unfold kSrtG at hk
  split at hk
  · rename_i i
    match vs, rr with
    | [v], rr =>
      split at hk
      · rename_i m c hi
        split at hk
        · rename_i xs hx
          split at hk
          · rename_i hp
            cases hk
            obtain ⟨p, hσ, hB, ct⟩ := a.en.mu i _ _ hi
            have hv : v = .ref p := by
              have h1 : σ[i]? = some (some v) := rr.each 0 v _ rfl rfl
              rw [hσ] at h1
              cases h1
              rfl
            subst hv
            refine ⟨p, B1, xs, rfl, hp, ?_, fun ys r g1 nr => con_new en a nr g1 q⟩
            cases c with
            | ls _ => cases hx
            | dn kvs =>
              cases hx
              obtain ⟨z, k1, k2⟩ := ct
              exact .inl ⟨z, kvs, k1, k2, rfl⟩
            | dk kvs =>
              cases hx
              obtain ⟨ws, k1, k2⟩ := ct
              exact .inr ⟨ws, kvs, k1, k2, rfl⟩
          · cases hk
        · cases hk
      · cases hk
    | [], rr => have := rr.len; simp at this
    | _ :: _ :: _, rr => have := rr.len; simp at this
  · cases hk
theorem w_srtG {X : Cx} {k : Nat} (hc : X.calm = true) (hr : Room k X.A) : Blt X "sorted" kSrtG := ⟨_, _, cr_srtG hc (u64 hr), c_srtG, by decide +kernel⟩
end T3

end
section
set_option linter.all false
set_option autoImplicit false
set_option Elab.async false
set_option maxRecDepth 100000
namespace T3
open PySem L2
variable [TabL]
noncomputable def kSrtX : KK := fun ds env => match ds with
  | [d] => match lsOf env d with
    | some xs => if PlainS xs ∧ xs.length ≤ 1000000 then some (.tmp (.ls (srtD xs)), env) else none
    | none => none
  | _ => none
def rSrtX (K : PySem.W.Frag) : List V → Hp → VK → Prop := fun vs H Q => ∃ (a : Addr) (B : Mset) (us : List V) (xs : List PyData), vs = [V.ref a] ∧ PlainS xs ∧ xs.length ≤ 1000000 ∧ SqL K H a us ∧ RpA K B H us xs ∧
  ∀ (ys : List V) (p : Addr), RpA K B H ys (srtD xs) → H p = none → Q (.ref p) (upd H p (.lst ys))
theorem pair_of {K : PySem.W.Frag} {B : Mset} {H : Hp} : ∀ {ws : List V} {us : List Value} {ds : List PyData}, L2.Vals ws us → RpA K B H ws ds → Paired (fun (u : Value) (d : PyData) => ∃ v, L2.RelV v u ∧ Rp K B H v d) us ds
  | _, _, _, .nil, .nil => .nil
  | _, _, _, .cons h1 t1, .cons h2 t2 => .cons ⟨_, h1, h2⟩ (pair_of t1 t2)
theorem cr_srtX {X : Cx} (hu : X.A.units + 64 < cLine) : CallR X (.builtin "sorted") (rSrtX X.K) := by
  intro pins s σ H vs us Q I r h
  obtain ⟨a, B, ws, xs, rfl, ⟨p1, p2, p3, p4⟩, hl, sq, rp, q⟩ := h
  rw [Vals.ref1 r]
  obtain ⟨its, rv, pl, hlen⟩ := I.list sq
  obtain ⟨as, ra⟩ := Dp.readsAll I xs ws its (rp.dp0 p1) rv
  have e1 := each_paired (pair_of rv rp)
  refine PySem.W.sorted_data (vs := its) (bs := xs) (enc := fun d : PyData => d) pl.isList e1 (each_reads ra) (by simpa using p2) (by simpa using p3) (Nat.le_of_lt (small hl)) (fun d hd => by
    have := p4 d hd
    omega) fun out ho eo => ?_
  obtain ⟨ys, ry, rpy⟩ := vals_of (paired_each eo)
  obtain ⟨ep, he'⟩ := PyProof.Rows.sortedAll_at s.heap its out.toArray
  have hys : ys.length ≤ sizeLine := by rw [ry.length, ho]; exact Nat.le_of_lt (small hl)
  exact ⟨.ref _, upd H (s.heap.objs.size + 1) (.lst ys), I.laid (t' := s.toks) (fun _ _ => PyProof.Rows.sortedAll_old) (Nat.le_succ _) ⟨hys, out, ep, ry, he'⟩, rfl, q ys _ rpy (I.hok.fresh (Nat.le_succ _))⟩
theorem c_srtX {K : PySem.W.Frag} : Con K kSrtX (rSrtX K) := by
  intro σ H B env B1 H1 env1 vs ds d e2 Q en a rr hk q
  unfold kSrtX at hk
  split at hk
  · rename_i d1
    match vs, rr with
    | [v], rr =>
      split at hk
      · rename_i xs hx
        split at hk
        · rename_i hp
          cases hk
          obtain ⟨p, ws, rfl, h1, h2⟩ := lsOf_at a.en (rr.each 0 v d1 rfl rfl) hx
          exact ⟨p, B1, ws, xs, rfl, hp.1, hp.2, .inl (.inl h1), h2, fun ys r g1 nr => con_new en a nr g1 q⟩
        · cases hk
      · cases hk
    | [], rr => have := rr.len; simp at this
    | _ :: _ :: _, rr => have := rr.len; simp at this
  · cases hk
theorem w_srtX {X : Cx} {k : Nat} (hr : Room k X.A) : Blt X "sorted" kSrtX := ⟨_, _, cr_srtX (u64 hr), c_srtX, by decide +kernel⟩
end T3

end
section
set_option linter.all false
set_option autoImplicit false
set_option Elab.async false
set_option maxRecDepth 100000
namespace T3
open PySem L2
variable [TabL]
def MinOk (xs : List PyData) : Prop := PyData.canLayAll0 xs = true ∧ PySem.W.AlikeAll xs ∧ PyData.depthAll xs ≤ 30
noncomputable instance (xs : List PyData) : Decidable (MinOk xs) := Classical.propDecidable _
end T3

end
section
set_option linter.all false
set_option autoImplicit false
set_option Elab.async false
set_option maxRecDepth 100000
namespace L2
open PySem PySem.Spec PyProof.Rows
abbrev TLay := Addr → V → V → Hp → (Hp → Prop) → Prop
structure PLay (X : Cx) (l : TLay) : Prop where
  run : ∀ (pins : List (Addr × Obj)) (σ : St) (H : Hp) (s : Shared) (D : Addr) (y z : V) (u r : Value) (N : Hp → Prop) (Q : Unit → Shared → Prop) (E : Value → Shared → Prop),
    Inv X pins σ H s → RelV y u → RelV z r → l D y z H N → (∀ s' H', Inv X pins σ H' s' → N H' → Q () s') → wpAny (model X.prog X.w) X.A (dictSet D u r) Q E s
structure LayT (l : TLay) (D : Addr) (J : It) (g : TG) (tk tv : TE) (vs : List Nat) (σ : St) (W : Nat → Nat → Hp → Prop) (fin : Hp → Prop) : Prop where
  turn : ∀ (i m : Nat) (H : Hp), W i m H → (J.stop i H ∧ fin H) ∨ (J.go i H ∧ ∃ Nx : Hp → Prop, (∀ H', Nx H' → ∃ m', m' < m ∧ W (i + 1) m' H') ∧
    ∀ x H', J.yld i H x H' → g x (wipe σ vs) H' fun τ H2 => wipe τ vs = wipe σ vs ∧ tk τ H2 fun y H4 => tv τ H4 fun z H5 => l D y z H5 Nx)
section
variable {X : Cx}
end
end L2
namespace T3
open PySem L2
variable [TabL]
section
variable {X : Cx}
end
end T3

end
section
set_option linter.all false
set_option autoImplicit false
set_option Elab.async false
set_option maxRecDepth 100000
namespace T3
open PySem L2
variable [TabL]
def gM (i : Nat) : GG := fun x env => match x with
  | .dict [(.bool true, .tuple xs)] => setR i (.nt xs) env
  | _ => setR i (.pd x) env
@[simp] theorem z_gM (i : Nat) (xs : List PyData) (env : Sl) : gM i (ntD xs) env = setR i (.nt xs) env := rfl
@[simp] theorem z_gMp (i : Nat) (xs : List PyData) (env : Sl) : gM i (.tuple xs) env = setR i (.pd (.tuple xs)) env := rfl
@[simp] theorem z_gMl (i : Nat) (xs : List PyData) (env : Sl) : gM i (.list xs) env = setR i (.pd (.list xs)) env := rfl
@[simp] theorem z_gMi (i : Nat) (n : Int) (env : Sl) : gM i (.int n) env = setR i (.pd (.int n)) env := rfl
section
variable {X : Cx} {a b : Expr} {fa fb : EE} {p p2 pos pos2 : Pos}
end
end T3

end
section
set_option linter.all false
set_option autoImplicit false
set_option Elab.async false
set_option maxRecDepth 100000
namespace T3
open PySem PySem.Spec PyProof.Rows L2
variable [TabL]
section
variable {X : Cx}
end
end T3

end
section
set_option linter.all false
set_option autoImplicit false
set_option Elab.async false
set_option maxRecDepth 100000
namespace T3
open PySem PySem.Spec PyProof.Rows L2
variable [TabL]
section
variable {X : Cx} {o e : Expr} {fo : EE} {fa : EA} {apos cpos : Pos}
end
end T3

end
section
set_option linter.all false
set_option autoImplicit false
set_option Elab.async false
set_option maxRecDepth 100000
namespace L2
open PySem PySem.Spec PyProof.Rows
section
variable {P : Program} {w : World} {A : Around} {E : Value → Shared → Prop} {s : Shared}
end
section
variable {X : Cx}
end
end L2
namespace T3
open PySem PySem.Spec PyProof.Rows L2
variable [TabL]
end T3

end
section
set_option linter.all false
set_option autoImplicit false
set_option Elab.async false
set_option maxRecDepth 100000
namespace T3
open PySem L2
variable [TabL]
theorem RpA.two {K : PySem.W.Frag} {B : Mset} {H : Hp} {us : List V} {x y : PyData} (h : RpA K B H us [x, y]) : ∃ w1 w2, us = [w1, w2] ∧ Rp K B H w1 x ∧ Rp K B H w2 y := by
  cases h with
  | cons u1 h =>
    cases h with
    | cons u2 h =>
      cases h
      exact ⟨_, _, rfl, u1, u2⟩
end T3

end
section
set_option linter.all false
set_option autoImplicit false
set_option Elab.async false
set_option maxRecDepth 100000
namespace T3
open PySem L2
variable [TabL]
end T3

end
section
set_option linter.all false
set_option autoImplicit false
set_option Elab.async false
set_option maxRecDepth 100000
namespace T3
open PySem PySem.Spec PyProof.Rows L2 LamA NdefX LamX
variable [TabL]
section
variable {X : Cx} {x : Str} {st : Stmt} {Ng psg : List Str} {k j : Nat} {q capt : Str} {params : Arguments} {body : Expr} {scope : Scope} {M : PyData → List PyData → SS} {p lpos pos : Pos} {e1 e2 : Expr} {f1 f2 : EE} {cX P : Addr} {y : Str} {x4 : PyData} {py : Pos}
end
end T3

end
section
set_option linter.all false
set_option autoImplicit false
set_option Elab.async false
set_option maxRecDepth 100000
namespace T3
open PySem L2
variable [TabL]
end T3

end
section
set_option linter.all false
set_option autoImplicit false
set_option Elab.async false
set_option maxRecDepth 100000
namespace T3
open PySem L2
variable [TabL]
noncomputable instance reprFits (x : Str) : Decidable ((reprText x).length ≤ sizeLine) := Classical.propDecidable _
noncomputable def oReprX : List PyData → Option PyData
  | [.str x] => if (reprText x).length ≤ sizeLine then some (.str (reprText x)) else none
  | [.bool b] => some (.str (if b then "True" else "False"))
  | [.none] => some (.str "None")
  | ds => oRepr ds
def rReprX (K : PySem.W.Frag) : List V → Hp → VK → Prop := fun vs H Q => rRepr K vs H Q ∨ (∃ x, vs = [V.str x] ∧ (reprText x).length ≤ sizeLine ∧ Q (.str (reprText x)) H) ∨ (∃ b, vs = [V.bl b] ∧ Q (.str (if b then "True" else "False")) H) ∨ (vs = [V.non] ∧ Q (.str "None") H)
theorem cr_reprX {X : Cx} (gd : X.A.guards = some []) (hu : X.A.units + 66 < cLine) : CallR X (.builtin "repr") (rReprX X.K) := by
  intro pins s σ H xs us Q J r h
  rcases h with h | ⟨x, rfl, hz, q⟩ | ⟨b, rfl, q⟩ | ⟨rfl, q⟩
  · exact cr_repr gd hu pins s σ H xs us Q J r h
  · obtain ⟨u, rfl, t, rfl⟩ := vals1 r
    exact PySem.P.repr_of_str ⟨.str _, H, J.tok _, ⟨_, rfl⟩, q⟩ hz
  · obtain ⟨u, rfl, e⟩ := vals1 r
    have e : u = .bool b := e
    subst e
    exact PySem.P.repr_of_bool ⟨.str _, H, J.tok _, ⟨_, rfl⟩, q⟩
  · obtain ⟨u, rfl, e⟩ := vals1 r
    have e : u = .none := e
    subst e
    exact PySem.P.repr_of_none ⟨.str _, H, J.tok _, ⟨_, rfl⟩, q⟩
end T3

end
section
set_option linter.all false
set_option autoImplicit false
set_option Elab.async false
set_option maxRecDepth 100000
namespace L2
open PySem PySem.Spec PyProof.Rows
end L2

end
section
set_option linter.all false
set_option autoImplicit false
set_option Elab.async false
set_option maxRecDepth 100000
namespace T3
open PySem L2
variable [TabL]
end T3

end
section
set_option linter.all false
set_option autoImplicit false
set_option Elab.async false
set_option maxRecDepth 100000
namespace L2
open PySem PySem.Spec PyProof.Rows
section
variable {prog : Program} {w : World} {A : Around}
variable {R : Result → Shared → Prop} {it : Addr} {fs ws : List Addr} {m : Nat} {Pv : Nat → Value → Prop} {Sv : Nat → Heap → Prop} {d : Value}
end
end L2

end
section
set_option linter.all false
set_option autoImplicit false
set_option Elab.async false
set_option maxRecDepth 100000
namespace T3
open PySem L2
variable [TabL]
structure Gw (H H' : Hp) : Prop where
  keep : ∀ a o, H a = some o → (NT o ∨ Imm o) → H' a = some o
  liv : ∀ a, H' a = none → H a = none
theorem Gw.grow {H H' : Hp} (g : Gw H H') (B : Mset) : Grow B H B H' := ⟨fun a o h q => g.keep a o h (q.imp (·.2) id), fun a h => .inl h⟩
theorem Gw.trans {H H1 H2 : Hp} (g : Gw H H1) (g' : Gw H1 H2) : Gw H H2 := ⟨fun a o h q => g'.keep a o (g.keep a o h q) q, fun a h => g.liv a (g'.liv a h)⟩
structure F4 where
  a : Addr
  b : Addr
  c : Addr
  d : Addr
def F4.has (q : F4) : Mset := fun x => x = q.a ∨ x = q.b ∨ x = q.c ∨ x = q.d
def F4.with (q : F4) (B : Mset) : Mset := fun x => B x ∨ q.has x
structure W4 where
  w0 : List Int
  w1 : List Int
  u0 : List PyData
  u1 : List PyData
structure WI (K : PySem.W.Frag) (B : Mset) (H₀ : Hp) (n : Nat) (T1 T2 C : Addr) (q : F4) (xs : List PyData) (s : W4) (σ : St) (H : Hp) : Prop where
  len : σ.length = n
  s2 : σ[2]? = some (some (.ref T1))
  s3 : σ[3]? = some (some (.ref T2))
  t1 : H T1 = some (.tup [.ref q.a, .ref q.b])
  t2 : H T2 = some (.tup [.ref q.c, .ref q.d])
  la : H q.a = some (.lst (s.w0.map V.int))
  lb : H q.b = some (.lst (s.w1.map V.int))
  lc : ∃ vs, H q.c = some (.lst vs) ∧ RpA K (q.with B) H vs s.u0
  ld : ∃ vs, H q.d = some (.lst vs) ∧ RpA K (q.with B) H vs s.u1
  lx : ∃ vs, H C = some (.lst vs) ∧ RpA K (q.with B) H vs xs
  gw : Gw H₀ H
  tb : TbB B H
structure Ap (B : Mset) (H₀ : Hp) (C : Addr) (q : F4) : Prop where
  ab : q.a ≠ q.b
  ac : q.a ≠ q.c
  ad : q.a ≠ q.d
  bc : q.b ≠ q.c
  bd : q.b ≠ q.d
  cd : q.c ≠ q.d
  ca : C ≠ q.a
  cb : C ≠ q.b
  cc : C ≠ q.c
  cdd : C ≠ q.d
  f : ∀ x, q.has x → H₀ x = none
  dom : ∀ x, B x → ∃ o, H₀ x = some o
variable {K : PySem.W.Frag} {B : Mset} {H₀ : Hp} {n : Nat} {T1 T2 C : Addr} {q : F4} {xs : List PyData} {s : W4} {σ : St} {H : Hp}
theorem nt_lst (vs : List V) : NT (.lst vs) := fun _ z => nomatch z
theorem WI.go (i : WI K B H₀ n T1 T2 C q xs s σ H) {H' : Hp} (g : Gw H H') (tb : TbB B H') : WI K B H₀ n T1 T2 C q xs s σ H' := by
  have l : ∀ {x : Addr} {ds : List PyData}, (∃ vs, H x = some (.lst vs) ∧ RpA K (q.with B) H vs ds) → ∃ vs, H' x = some (.lst vs) ∧ RpA K (q.with B) H' vs ds := fun ⟨vs, h1, h2⟩ => ⟨vs, g.keep _ _ h1 (.inl (nt_lst _)), h2.grow (g.grow _)⟩
  exact ⟨i.len, i.s2, i.s3, g.keep _ _ i.t1 (.inr trivial), g.keep _ _ i.t2 (.inr trivial), g.keep _ _ i.la (.inl (nt_lst _)), g.keep _ _ i.lb (.inl (nt_lst _)), l i.lc, l i.ld, l i.lx, i.gw.trans g, tb⟩
end T3

end
section
set_option linter.all false
set_option autoImplicit false
set_option Elab.async false
set_option maxRecDepth 100000
namespace T3
open PySem L2
variable [TabL]
section
variable {K : PySem.W.Frag} {B : Mset} {H₀ : Hp} {n : Nat} {T1 T2 C : Addr} {q : F4} {xs : List PyData} {s : W4} {σ : St} {H : Hp}
end
end T3

end
section
set_option linter.all false
set_option autoImplicit false
set_option Elab.async false
set_option maxRecDepth 100000
namespace T3
open PySem L2
variable [TabL]
section
variable {X : Cx} {fc fm : EE}
end
end T3

end
section
set_option linter.all false
set_option autoImplicit false
set_option Elab.async false
set_option maxRecDepth 100000
set_option maxHeartbeats 1000000
namespace ZM3
open PySem RZ ZM
open PySem.Sem (wp)
section
variable {prog : Program} {w : World} {A : Around} {E : Value → Shared → Prop} {s : Shared}
variable {I l1 l2 l3 : Nat}
end
end ZM3

end
section
set_option linter.all false
set_option autoImplicit false
set_option Elab.async false
set_option maxRecDepth 100000
set_option maxHeartbeats 1000000
namespace ZM3
open PySem PySem.Spec PyProof.Rows L2 RZ ZM
section
variable {prog : Program} {w : World} {A : Around} {E : Value → Shared → Prop} {s : Shared} {I l1 l2 l3 : Nat}
end
end ZM3

end
section
set_option linter.all false
set_option autoImplicit false
set_option Elab.async false
set_option maxRecDepth 100000
set_option maxHeartbeats 1000000
namespace ZM3
open PySem PySem.Spec PyProof.Rows L2 RZ ZM
end ZM3
namespace T3
open PySem L2
variable [TabL]
end T3

end
section
set_option linter.all false
set_option autoImplicit false
set_option Elab.async false
set_option maxRecDepth 100000
namespace T3
open PySem L2
variable [TabL]
end T3

end
section
set_option linter.all false
set_option autoImplicit false
set_option Elab.async false
set_option maxRecDepth 100000
namespace T3
open PySem L2 PySem.Spec PyProof.Rows
variable [TabL]
end T3

end
section
set_option linter.all false
set_option autoImplicit false
set_option Elab.async false
set_option maxRecDepth 100000
namespace T3
open PySem L2
variable [TabL]
end T3

end
section
set_option linter.all false
set_option autoImplicit false
set_option Elab.async false
set_option maxRecDepth 100000
namespace T3
open PySem L2
variable [TabL]
section
variable {X : Cx} {pins : List (Addr × Obj)} {σ : St} {H : Hp} {s : Shared} {a : Addr} {A : Around} {E : Value → Shared → Prop}
end
section
variable {X : Cx} {o e f : Expr} {apos cpos : Pos} {td ty tx : TE}
end
section
variable {X : Cx} {o e f : Expr} {apos cpos : Pos} {fd fk fx : EE}
end
end T3

end
section
set_option linter.all false
set_option autoImplicit false
set_option Elab.async false
set_option maxRecDepth 100000
namespace T3
open PySem L2
variable [TabL]
noncomputable def oReprY : List PyData → Option PyData
  | [.int i] => if i.natAbs.log2 < 1920 then some (.str (toString i)) else none
  | ds => oReprX ds
def rReprY (K : PySem.W.Frag) : List V → Hp → VK → Prop := fun vs H Q => rReprX K vs H Q ∨ ∃ i : Int, vs = [V.int i] ∧ i.natAbs.log2 < 1920 ∧ Q (.str (toString i)) H
theorem cr_reprY {X : Cx} (gd : X.A.guards = some []) (hu : X.A.units + 66 < cLine) : CallR X (.builtin "repr") (rReprY X.K) := by
  intro pins s σ H xs us Q J r h
  rcases h with h | ⟨i, rfl, hz, q⟩
  · exact cr_reprX gd hu pins s σ H xs us Q J r h
  · exact SkE.call_repr_int pins s σ H _ us Q J r ⟨i, rfl, hz, q⟩
theorem oReprY_t (xs : List PyData) : oReprY [.tuple xs] = oRepr [.tuple xs] := rfl
end T3

end
section
set_option linter.all false
set_option autoImplicit false
set_option Elab.async false
set_option maxRecDepth 100000
namespace L2
open PySem PySem.Spec PyProof.Rows
section
variable {P : Program} {w : World} {A : Around} {E : Value → Shared → Prop} {s : Shared}
end
section
variable {X : Cx}
end
end L2

end
section
set_option linter.all false
set_option autoImplicit false
set_option Elab.async false
set_option maxRecDepth 100000
namespace T3
open PySem PySem.Spec PyProof.Rows L2
variable [TabL]
end T3

end
section
set_option linter.all false
set_option autoImplicit false
set_option Elab.async false
namespace T3
open PySem PySem.Spec PyProof.Rows L2
variable [TabL]
theorem Vals.at {vs : List V} {us : List Value} (h : Vals vs us) (i : Nat) : (vs[i]? = none ∧ us[i]? = none) ∨ ∃ v u, vs[i]? = some v ∧ us[i]? = some u ∧ RelV v u := by
  induction h generalizing i with
  | nil => exact .inl ⟨by simp, by simp⟩
  | cons r _ ih => cases i with
    | zero => exact .inr ⟨_, _, rfl, rfl, r⟩
    | succ i => simpa using ih i
section
variable {X : Cx} {k n m : Nat} {F : FnD} {x : Str} {p pos kpos : Pos} {e : Expr} {es : List Expr} {kws : List Keyword} {fa : EA} {fe : EE} {ks : List Str} {is : List Nat} {nm : Option Str}
end
end T3

end
section
set_option linter.all false
set_option autoImplicit false
set_option Elab.async false
set_option maxRecDepth 100000
namespace T3
open PySem PySem.Spec PyProof.Rows L2 LamA LamX
variable [TabL]
end T3

end
section
set_option linter.all false
set_option autoImplicit false
set_option Elab.async false
set_option maxRecDepth 100000
namespace T3
open PySem PySem.Spec PyProof.Rows L2
variable [TabL]
mutual
/-- no list in it, and no dict but such as have numbers and texts for keys -/
def okZ : PyData → Bool
  | .none => true
  | .bool _ => true
  | .int _ => true
  | .str _ => true
  | .tuple xs => okZs xs
  | .dict ((.list [.none], .none) :: kvs) => okZk kvs
  | _ => false
def okZs : List PyData → Bool
  | [] => true
  | x :: xs => okZ x && okZs xs
def okZk : List (PyData × PyData) → Bool
  | [] => true
  | (_, x) :: kvs => okZ x && okZk kvs
end
mutual
/-- the datum as the repr tells it -/
def realZ : PyData → PyData
  | .tuple xs => .tuple (realZs xs)
  | .dict ((.list [.none], .none) :: kvs) => .dict (realZk kvs)
  | x => x
def realZs : List PyData → List PyData
  | [] => []
  | x :: xs => realZ x :: realZs xs
def realZk : List (PyData × PyData) → List (PyData × PyData)
  | [] => []
  | (k, x) :: kvs => (k, realZ x) :: realZk kvs
end
theorem realZk_fst : ∀ kvs : List (PyData × PyData), (realZk kvs).map (·.1) = kvs.map (·.1)
  | [] => rfl
  | (k, x) :: kvs => by simp [realZk, realZk_fst kvs]
theorem realZk_snd : ∀ kvs : List (PyData × PyData), (realZk kvs).map (·.2) = realZs (kvs.map (·.2))
  | [] => rfl
  | (k, x) :: kvs => by simp [realZk, realZs, realZk_snd kvs]
theorem okZk_snd : ∀ kvs : List (PyData × PyData), okZk kvs = okZs (kvs.map (·.2))
  | [] => rfl
  | (k, x) :: kvs => by simp [okZk, okZs, okZk_snd kvs]
theorem reads_keys {P : Program} {w : World} {h : Heap} : ∀ {es : List DictEntry} {vs : List (L2.Key × Value)}, Pairs (mixKind P w) es vs → ReadsAll h (es.map (·.key)) (vs.map fun q => keyD q.1) []
  | _, _, .nil => .nil
  | _, _, .cons (e := e) (kv := kv) h1 h2 r => by
    have ih := reads_keys (h := h) r
    obtain ⟨k, v⟩ := kv
    have k1 : keyIs k e.key = true := h1
    have one : Reads h e.key (keyD k) [] := by
      generalize e.key = u at *
      cases k with
      | inl i => cases u <;> simp [keyIs, Value.isInt] at k1; subst k1; exact .int _ _
      | inr x => cases u <;> simp [keyIs, Value.isStrOf] at k1; subst k1; exact .str _ _
    exact .cons (as := []) (bs := []) one ih
theorem pairs_val {P : Program} {w : World} : ∀ {es : List DictEntry} {vs : List (L2.Key × Value)}, Pairs (mixKind P w) es vs → es.map (·.val) = vs.map (·.2)
  | _, _, .nil => rfl
  | _, _, .cons h1 h2 r => by simp [h2, pairs_val r]
theorem kv_fst : ∀ {ws : List (L2.Key × V)} {vs : List (L2.Key × Value)}, KV ws vs → vs.map (·.1) = ws.map (·.1)
  | _, _, .nil => rfl
  | _, _, .cons h r => by simp [← h.1, kv_fst r]
theorem kv_snd : ∀ {ws : List (L2.Key × V)} {vs : List (L2.Key × Value)}, KV ws vs → Vals (ws.map (·.2)) (vs.map (·.2))
  | _, _, .nil => .nil
  | _, _, .cons h r => .cons h.2 (kv_snd r)
mutual
theorem Rp.readsZ {X : Cx} {pins : List (Addr × Obj)} {σ : L2.St} {B : Mset} {H : Hp} {s : Shared} (I : Inv X pins σ H s) : ∀ {v : V} {d : PyData}, Rp X.K B H v d → okZ d = true → ∀ u, RelV v u → ∃ as, Reads s.heap u (realZ d) as ∧ ¬ sysModules ∈ as
  | _, _, .non, _, u, e => by
    have e : u = .none := e
    subst e; exact ⟨[], .none, by simp⟩
  | _, _, .bl b, _, u, e => by
    have e : u = .bool b := e
    subst e; exact ⟨[], .bool b, by simp⟩
  | _, _, .int i, _, u, e => by
    obtain ⟨t, rfl⟩ : ∃ t, u = .int i t := e
    exact ⟨[], .int i t, by simp⟩
  | _, _, .str x, _, u, e => by
    obtain ⟨t, rfl⟩ : ∃ t, u = .str x t := e
    exact ⟨[], .str x t, by simp⟩
  | _, _, .tup h r, ok, u, e => by
    have e : u = .ref _ := e
    subst e
    obtain ⟨its, hv, ht, _⟩ := I.tuple h
    obtain ⟨as, h1, h2⟩ := RpA.readsZ I r (by unfold okZ at ok; exact ok) _ hv
    obtain ⟨o, g1, g2, n, g3⟩ := ht
    unfold realZ
    exact ⟨as, .tuple g1 g2 g3 (by simpa using h1), h2⟩
  | _, _, .dck (kvs := kvs) h nb hk r, ok, u, e => by
    have e : u = .ref _ := e
    subst e
    obtain ⟨_, na, vs, kv, o, es, ep, g1, g2, g3, g4, g5, g6⟩ := (I.hok _ _ h : ObjOk _ _ _ _ _ (.dK _))
    obtain ⟨as, h1, h2⟩ := RpA.readsZ I r (by unfold okZ at ok; rw [okZk_snd, List.map_map] at ok; exact ok) _ (kv_snd kv)
    have hk2 : vs.map (·.1) = kvs.map (·.1) := (kv_fst kv).trans hk
    have rk := reads_keys (h := s.heap) g5
    have rv := pairs_val g5
    unfold realZ
    refine ⟨_ :: [] ++ as, .dict g1 g2.1 g3 (as := []) (bs := as) ?_ ?_, ?_⟩
    · rw [realZk_fst, List.map_map]
      have : vs.map (fun q => keyD q.1) = kvs.map ((fun q : PyData × PyData => q.1) ∘ fun q => (keyD q.1, q.2)) := by
        have := congrArg (List.map keyD) hk2
        simpa [List.map_map, Function.comp_def] using this
      rw [← this]
      exact rk
    · rw [rv, realZk_snd, List.map_map]
      exact h1
    · simp only [List.cons_append, List.nil_append, List.mem_cons, not_or]
      exact ⟨fun z => by rw [← z] at na; simp at na, h2⟩
  | _, _, .lst _ _ _, ok, _, _ => by simp [okZ] at ok
  | _, _, .frz _ _, ok, _, _ => by simp [okZ] at ok
  | _, _, .kls _ _ _ _ _ _ _, ok, _, _ => by simp [okZ] at ok
  | _, _, .fn _, ok, _, _ => by simp [okZ] at ok
  | _, _, .exn, ok, _, _ => by simp [okZ] at ok
  | _, _, .ntp _ _ _, ok, _, _ => by simp [okZ] at ok
  | _, _, .lam _ _ _ _ _, ok, _, _ => by simp [okZ] at ok
  | _, _, .dct _ _ _ _ _ _, ok, _, _ => by simp [okZ] at ok
theorem RpA.readsZ {X : Cx} {pins : List (Addr × Obj)} {σ : L2.St} {B : Mset} {H : Hp} {s : Shared} (I : Inv X pins σ H s) : ∀ {vs : List V} {ds : List PyData}, RpA X.K B H vs ds → okZs ds = true → ∀ us, Vals vs us → ∃ as, ReadsAll s.heap us (realZs ds) as ∧ ¬ sysModules ∈ as
  | _, _, .nil, _, us, e => by
    cases e
    exact ⟨[], .nil, by simp⟩
  | _, _, .cons r1 r2, ok, us, e => by
    cases e with
    | cons e1 e2 =>
      simp only [okZs, Bool.and_eq_true] at ok
      obtain ⟨as, a1, a2⟩ := Rp.readsZ I r1 ok.1 _ e1
      obtain ⟨bs, b1, b2⟩ := RpA.readsZ I r2 ok.2 _ e2
      exact ⟨as ++ bs, .cons a1 b1, by simp [a2, b2]⟩
end
def ShZ (d : PyData) : Prop := okZ d = true ∧ (realZ d).showable = true ∧ (realZ d).depth ≤ 60 ∧ (realZ d).shown.length ≤ 1000000
noncomputable instance (d : PyData) : Decidable (ShZ d) := Classical.propDecidable _
noncomputable def oReprZ : List PyData → Option PyData
  | [.dict kvs] => if ShZ (.dict kvs) then some (.str (realZ (.dict kvs)).shown) else none
  | [.tuple xs] => if ShZ (.tuple xs) then some (.str (realZ (.tuple xs)).shown) else oReprY [.tuple xs]
  | ds => oReprY ds
def rReprZ (K : PySem.W.Frag) : List V → Hp → VK → Prop := fun vs H Q => rReprY K vs H Q ∨ ∃ (B : Mset) (a : Addr) (d : PyData), vs = [V.ref a] ∧ Rp K B H (.ref a) d ∧ ShZ d ∧ Q (.str (realZ d).shown) H
theorem cr_reprZ {X : Cx} (gd : X.A.guards = some []) (hu : X.A.units + 66 < cLine) : CallR X (.builtin "repr") (rReprZ X.K) := by
  intro pins s σ H xs us Q J r h
  rcases h with h | ⟨B, a, d, rfl, rp, ⟨ok, sw, dd, sz⟩, q⟩
  · exact cr_reprY gd hu pins s σ H xs us Q J r h
  · obtain ⟨u, rfl, rv⟩ := vals1 r
    have eu : u = .ref a := rv
    subst eu
    obtain ⟨as, rd, nm⟩ := Rp.readsZ J rp ok _ rfl
    refine repr_of_reads' rd sw (fun _ => nm) gd (by omega) (fun _ _ e => e) (fun h' t tk hk => ?_) (Nat.le_of_lt (small sz))
    exact ⟨.str (realZ d).shown, H, Inv.turnedL (ch := []) J (fun b o _ e => hk b o e) (fun b z => nomatch z), ⟨t, rfl⟩, q⟩
theorem ok_reprY {K : PySem.W.Frag} : OkE K oReprY (rReprY K) := by
  intro B H vs xs z Q cn ho q
  unfold oReprY at ho
  split at ho
  · split at ho
    · rename_i i hi
      cases ho
      obtain ⟨v, e2, c1⟩ := cn.one
      subst e2
      cases c1 with
      | rp r => cases r; exact .inr ⟨i, rfl, hi, q _ (.str _)⟩
    · cases ho
  · left
    unfold oReprX at ho
    split at ho
    · split at ho
      · rename_i x hx
        cases ho
        obtain ⟨v, e2, c1⟩ := cn.one
        subst e2
        cases c1 with
        | rp r => cases r; exact .inr (.inl ⟨_, rfl, by assumption, q _ (.str _)⟩)
      · cases ho
    · rename_i b
      cases ho
      obtain ⟨v, e2, c1⟩ := cn.one
      subst e2
      cases c1 with
      | rp r => cases r; exact .inr (.inr (.inl ⟨_, rfl, q _ (.str _)⟩))
    · cases ho
      obtain ⟨v, e2, c1⟩ := cn.one
      subst e2
      cases c1 with
      | rp r => cases r; exact .inr (.inr (.inr ⟨rfl, q _ (.str _)⟩))
    · left
      unfold oRepr at ho
      split at ho
      · split at ho
        · rename_i ys hs
          cases ho
          obtain ⟨v, e2, c1⟩ := cn.one
          obtain ⟨a, us, rfl, h1, h2⟩ := c1.tuple
          exact ⟨a, _, e2, c1.dp hs.1, hs, q _ (.str _)⟩
        · cases ho
      · split at ho
        · rename_i ys hs
          cases ho
          obtain ⟨v, e2, c1⟩ := cn.one
          obtain ⟨a, us, rfl, h1, h2⟩ := c1.list
          exact ⟨a, _, e2, c1.dp hs.1, hs, q _ (.str _)⟩
        · cases ho
      · cases ho
theorem c_reprZ {K : PySem.W.Frag} : Con K (kE oReprZ) (rReprZ K) := con_E <| by
  intro B H vs xs z Q cn ho q
  unfold oReprZ at ho
  split at ho
  · split at ho
    · rename_i kvs hs
      cases ho
      obtain ⟨v, e2, c1⟩ := cn.one
      subst e2
      cases c1 with
      | rp r =>
        obtain ⟨a, rfl⟩ : ∃ a, v = .ref a := by cases r <;> exact ⟨_, rfl⟩
        exact .inr ⟨_, _, _, rfl, r, hs, q _ (.str _)⟩
    · cases ho
  · split at ho
    · rename_i ys hs
      cases ho
      obtain ⟨v, e2, c1⟩ := cn.one
      subst e2
      cases c1 with
      | rp r =>
        obtain ⟨a, rfl⟩ : ∃ a, v = .ref a := by cases r; exact ⟨_, rfl⟩
        exact .inr ⟨_, _, _, rfl, r, hs, q _ (.str _)⟩
    · exact .inl (ok_reprY _ _ _ _ _ _ cn ho q)
  · exact .inl (ok_reprY _ _ _ _ _ _ cn ho q)
theorem w_reprZ {X : Cx} {k : Nat} (gd : X.A.guards = some []) (hr : Room k X.A) : Blt X "repr" (kE oReprZ) := ⟨_, _, cr_reprZ gd (by have := hr.un; omega), c_reprZ, by decide +kernel⟩
def oIsiZ (t : T5) : List PyData → Option PyData
  | [.dict ((.list [.none], .none) :: _)] => some (.bool false)
  | ds => oIsi t ds
theorem kitD {K : PySem.W.Frag} (t : T5) : PySem.W.kitOne K (.type "dict") (.type t.n) = some false := by
  have : kitB "dict" t.n = some false := by cases t <;> decide +kernel
  exact kit_ty this
theorem e_isiZ {X : Cx} {e : Expr} {f : EE} {x : Str} {p p2 pos : Pos} (t : T5) (h : PE X e (tE X.K f)) (hg : Gl X "isinstance") (hm : X.mg "isinstance" = none) (hg2 : Gl X x) (hm2 : X.mg x = none) (hv2 : bootBuiltins x = some (.type t.n)) (hn2 : x ≠ "__name__" := by decide) (hd2 : (x == ("__debug__" : Str)) = false := by decide)
    (hs1 : starEach [e, .Name x p2] X.env = (false, eval e X.env) :: starEach [.Name x p2] X.env := by rfl) (hs2 : starEach [.Name x p2] X.env = (false, eval (.Name x p2) X.env) :: starEach [] X.env := by rfl) (hpl : (backTo pos (starEach [.Name x p2] X.env)).any (·.1) = false := by rfl) :
    PE X (.Call (.Name "isinstance" p) [e, .Name x p2] [] pos) (tE X.K (eThen (eOne f) (kE (oIsiZ t)))) := by
  refine PE.imp (pe_callB call_isi hg hm PyProof.Rows.boot_isinstance (pa_cons h (pa_cons (pe_bltn (v := .ty t.n) hg2 hm2 hv2 rfl hn2 hd2) pa_nil hs2) hs1) (by decide) (by decide) hs1 hpl) fun σ H Q q => ?_
  have c : Con X.K (kE (oIsiZ t)) (l1 fun x H Q => rIsi X.K [x, .ty t.n] H Q) := con_E <| by
    intro B H vs xs z Q cn ho q x e
    unfold oIsiZ at ho
    split at ho
    · cases ho
      obtain ⟨v, e2, c1⟩ := cn.one
      rw [e] at e2
      cases e2
      cases c1 with
      | rp r =>
        cases r with
        | dck h1 h2 h3 h4 => exact ⟨_, .ty t.n, _, _, _, rfl, .ty _, .base (.dK h1), kitD t, q _ (.bl _)⟩
    · unfold oIsi at ho
      split at ho
      · cases ho
      · cases ho
        obtain ⟨v, e2, c1⟩ := cn.one
        rw [e] at e2
        cases e2
        exact ⟨x, .ty t.n, _, _, _, rfl, .ty _, c1.ty (by assumption), kit5 t _ (by assumption), q _ (.bl _)⟩
      · cases ho
  exact rd_one c q
@[simp] theorem oIsiZ_d (t : T5) (kvs : List (L2.Key × PyData)) : oIsiZ t [dkD kvs] = some (.bool false) := rfl
@[simp] theorem oIsiZ_i (t : T5) (i : Int) : oIsiZ t [.int i] = some (.bool (isi5 t (.int i))) := rfl
@[simp] theorem oIsiZ_b (t : T5) (i : Bool) : oIsiZ t [.bool i] = some (.bool (isi5 t (.bool i))) := rfl
@[simp] theorem oIsiZ_n (t : T5) : oIsiZ t [.none] = some (.bool (isi5 t .none)) := rfl
@[simp] theorem oIsiZ_s (t : T5) (i : Str) : oIsiZ t [.str i] = some (.bool (isi5 t (.str i))) := rfl
@[simp] theorem oIsiZ_t (t : T5) (i : List PyData) : oIsiZ t [.tuple i] = some (.bool (isi5 t (.tuple i))) := rfl
@[simp] theorem oIsiZ_l (t : T5) (i : List PyData) : oIsiZ t [.list i] = some (.bool (isi5 t (.list i))) := rfl
end T3

end
section
set_option linter.all false
set_option autoImplicit false
set_option Elab.async false
set_option maxRecDepth 100000
set_option maxHeartbeats 4000000
namespace T3
open PySem L2 MM
open PyProof.Rows
variable [TabL]
end T3

end
section
set_option linter.all false
set_option autoImplicit false
set_option Elab.async false
namespace T3
open PySem PySem.Spec PyProof.Rows L2 LamX
section
variable {P : Program} {w : World} {K : PySem.W.Frag} {mg mb : Str → Option Value} {k : Nat} {fa a t cc : Addr} {fd : FuncData} {x : Str} {sp : Sp} {s : Shared} {vs : List Value} {ns : List Int}
abbrev emT : Obj := { cls := .none, data := .fields #[] }
structure Sct (K : PySem.W.Frag) (a t : Addr) (H : Hp) : Prop where
  tb : H t = some (.tbl #[])
  kind : ∀ b, b ≠ t → H b = none ∨ ∃ o xs, H b = some (.frz o (.lst xs))
  two : ∀ b, H b ≠ none → b = a ∨ b = t
  free : H a ≠ none → K.lookup a = none
theorem Sct.off {H : Hp} (c : Sct K a t H) (ha : s.heap.get? a = some { cls := .type "list", data := .seq vs.toArray }) (ht : s.heap.get? t = some emT) {b : Addr} {o : Obj} (h : s.heap.get? b = some o) (n1 : ∀ xs m, o.data ≠ .seq xs m) (n2 : o.data ≠ .fields #[]) : H b = none := by
  apply Classical.byContradiction
  intro z
  rcases c.two b z with e | e
  · subst e
    rw [ha] at h
    injection h with h
    exact n1 _ _ (by rw [← h])
  · subst e
    rw [ht] at h
    injection h with h
    exact n2 (by rw [← h])
theorem Sct.off_d {H : Hp} (c : Sct K a t H) (ha : s.heap.get? a = some { cls := .type "list", data := .seq vs.toArray }) (ht : s.heap.get? t = some emT) {b : Addr} {o : Obj} {es : Array DictEntry} {m : Nat} (h : s.heap.get? b = some o) (d : o.data = .dict es m) : H b = none :=
  c.off ha ht h (fun xs n z => by rw [d] at z; cases z) (fun z => by rw [d] at z; cases z)
theorem Sct.spc {H : Hp} (c : Sct K a t H) (ha : s.heap.get? a = some { cls := .type "list", data := .seq vs.toArray }) (ht : s.heap.get? t = some emT) {b : Addr} {m : Str → Option Value} (h : s.heap.Ns b m) : (hidT s.heap H).Ns b m := by
  obtain ⟨o, es, n, h1, h2, h3⟩ := h
  exact ⟨o, es, n, hidT_get h1 (c.off_d ha ht h1 h2), h2, h3⟩
theorem Sct.kin {H : Hp} (c : Sct K a t H) (nT : K.lookup t = none) (KX : K.In s.heap) : K.In (hidT s.heap H) := by
  intro b o h
  refine hidT_get (KX b o h) (Classical.byContradiction fun z => ?_)
  rcases c.two b z with e | e
  · subst e
    rw [c.free z] at h
    cases h
  · subst e
    rw [nT] at h
    cases h
theorem Sct.tbB {H : Hp} (c : Sct K a t H) (ha : s.heap.get? a = some { cls := .type "list", data := .seq vs.toArray }) (ht : s.heap.get? t = some emT) (hd : PySem.W.CodeHd s.heap cc t) (hm : s.heap.Ns mainGlobals mg)
    (bm : ∃ (q : Addr) (ob : Obj), mg "__builtins__" = some (.ref q) ∧ q ≠ builtinsNs ∧ s.heap.get? q = some ob ∧ ob.cls = .type "module" ∧ ob.dict = some builtinsNs ∧ ob.data = .plain) : LamX.TabB (hidT s.heap H) mg cc t := by
  refine ⟨?_, ?_, ?_⟩
  · obtain ⟨o, us, file, tf, flags, tg, inF, text, tt, e1, r1, r2, r3, r4⟩ := hd
    exact ⟨o, us, file, tf, flags, tg, inF, text, tt, hidT_get e1 (c.off ha ht e1 (fun xs m z => by rw [r2] at z; cases z) (fun z => by rw [r2] at z; cases z; simp at r3)), r1, r2, r3, r4⟩
  · obtain ⟨q, ob, b1, b2, b3, b4, b5, b6⟩ := bm
    refine ⟨q, ob, b1, b2, fun z => ?_, fun z => ?_, hidT_get b3 (c.off ha ht b3 (fun xs m z => by rw [b6] at z; cases z) (fun z => by rw [b6] at z; cases z)), b4, b5, b6⟩
    · obtain ⟨o, es, ep, g1, g2, _⟩ := hm
      rw [z, g1] at b3
      cases b3
      rw [g2] at b6
      cases b6
    · rw [z, ht] at b3
      cases b3
      cases b6
  · intro z
    obtain ⟨o, es, ep, g1, g2, _⟩ := hm
    rw [z, ht] at g1
    cases g1
    cases g2
theorem Sct.run {H : Hp} (c : Sct K a t H) (nT : K.lookup t = none) (ha : s.heap.get? a = some { cls := .type "list", data := .seq vs.toArray }) (ht : s.heap.get? t = some emT) (hd : PySem.W.CodeHd s.heap cc t) (KX : K.In s.heap) (hm : s.heap.Ns mainGlobals mg) (hb : s.heap.Ns builtinsNs mb) (hbb : ∀ x : Str, x ≠ "__name__" → mb x = bootBuiltins x) (nl : s.heap.NoLimit) (hg : s.gens = #[])
    (bm : ∃ (q : Addr) (ob : Obj), mg "__builtins__" = some (.ref q) ∧ q ≠ builtinsNs ∧ s.heap.get? q = some ob ∧ ob.cls = .type "module" ∧ ob.dict = some builtinsNs ∧ ob.data = .plain)
    (hr : Room k callerA) (F : ∀ base : Heap, K.In base → base.Ns mainGlobals mg → LamX.TabB base mg cc t → FnG P w K mg base k fa fd [x] sp) (bi : ∀ (s : Shared) (u : Value), BindsTo s fd ⟨[u], []⟩ [(x, u)]) (hok : HOk P w H s.heap)
    (hs : sp [.ref a] H (fun v _ => v = .bl true) fun _ _ _ => False) :
    codeAny (model P w) callerA (.call (.ref fa) ⟨[.ref a], []⟩) (fun r s2 => r = .ok (.ret (.bool true)) ∧ OldK s.heap s2.heap ∧ s2.os = s.os ∧ AllBare s2.gens) s := by
  obtain ⟨mc, n1, n2⟩ := nl
  have md : Mod K mg (hidT s.heap H) := ⟨c.kin nT KX, c.spc ha ht hm, ⟨mb, c.spc ha ht hb, hbb⟩, mc, c.spc ha ht n1, n2⟩
  have ev : Env0 P w K mg (hidT s.heap H) callerA [] s H := {
    frames := rfl
    mod := md
    bs := fun b o h => of_hidT h
    bsz := Nat.le_of_eq (hidT_size _ _)
    funs := trivial
    frf := fun b h => nomatch (show b ∈ ([] : List Addr) from h)
    hok := hok
    bare := .of_eq hg }
  have tbl := c.tbB ha ht hd hm bm
  have cl := (F _ md.kin (c.spc ha ht hm) tbl).go callerA [] s H ⟨[.ref a], []⟩ [.ref a] [.ref a] _ _ hr rfl ev (bi s (.ref a)) (.cons rfl .nil) hs
  refine codeAny_mono cl ?_
  intro r s2 h
  match r, h with
  | .ok .next, h => exact h.elim
  | .ok .brk, h => exact h.elim
  | .ok .cont, h => exact h.elim
  | .error _, h => exact h.elim
  | .ok (.ret u), ⟨v, H2, os, br, un, hok2, rv, q⟩ =>
    have q : v = .bl true := q
    subst q
    have eu : u = .bool true := rv
    subst eu
    have old : ∀ b o, b ≠ t → s.heap.get? b = some o → s2.heap.get? b = some o := fun b o nt h => by
      rcases c.kind b nt with z | ⟨ob, ys, z⟩
      · exact un.keep b o h z (fun y => nomatch (show b ∈ ([] : List Addr) from y)) (by simp)
      · have h1 := (hok b _ z).1
        rw [h] at h1
        cases h1
        exact (hok2 b _ (un.frzs b o _ z)).1
    obtain ⟨mo, z⟩ := un.tbls t #[] c.tb
    have hz := hok2 t _ z
    rw [Array.empty_append] at hz
    refine ⟨rfl, ⟨fun b o h => ?_, fun b o h => ?_⟩, os, br⟩
    · by_cases e : b = t
      · subst e
        rw [ht] at h
        cases h
        exact .inr (.inl ⟨(hd.tab ht).isCodeTable, rfl, #[], mo, rfl, by rw [Array.empty_append]; exact hz⟩)
      · exact .inl (old b o e h)
    · by_cases e : b = t
      · subst e; exact ⟨_, hz⟩
      · exact ⟨o, old b o e h⟩
theorem lawTG (KX : K.In s.heap) (nT : K.lookup t = none) (ht : s.heap.get? t = some emT) (hd : PySem.W.CodeHd s.heap cc t) (hm : s.heap.Ns mainGlobals mg) (hb : s.heap.Ns builtinsNs mb) (hbb : ∀ x : Str, x ≠ "__name__" → mb x = bootBuiltins x) (nl : s.heap.NoLimit) (hg : s.gens = #[])
    (bm : ∃ (q : Addr) (ob : Obj), mg "__builtins__" = some (.ref q) ∧ q ≠ builtinsNs ∧ s.heap.get? q = some ob ∧ ob.cls = .type "module" ∧ ob.dict = some builtinsNs ∧ ob.data = .plain)
    (ha : s.heap.get? a = some { cls := .type "list", data := .seq vs.toArray }) (hi : IntsAre vs ns) (hl : ns.length ≤ sizeLine) (hr : Room k callerA)
    (F : ∀ base : Heap, K.In base → base.Ns mainGlobals mg → LamX.TabB base mg cc t → FnG P w K mg base k fa fd [x] sp) (bi : ∀ (s : Shared) (u : Value), BindsTo s fd ⟨[u], []⟩ [(x, u)])
    (hs : ∀ H : Hp, H t = some (.tbl #[]) → SqL K H a (ns.map V.int) → sp [.ref a] H (fun v _ => v = .bl true) fun _ _ _ => False) :
    codeAny (model P w) callerA (.call (.ref fa) ⟨[.ref a], []⟩) (fun r s2 => r = .ok (.ret (.bool true)) ∧ OldK s.heap s2.heap ∧ s2.os = s.os ∧ AllBare s2.gens) s := by
  have vi := vals_ints hi
  have vl := hi.length
  have nat : a ≠ t := fun z => by
    rw [z, ht] at ha
    cases ha
  cases hk : K.lookup a with
  | some o =>
    have e := KX a o hk
    rw [ha] at e
    injection e with e
    subst e
    let Hs : Hp := fun b => if b = t then some (.tbl #[]) else none
    have at_t : Hs t = some (.tbl #[]) := if_pos rfl
    have off : ∀ b, b ≠ t → Hs b = none := fun b h => if_neg h
    refine Sct.run (H := Hs) ⟨at_t, fun b h => .inl (off b h), fun b z => Classical.byContradiction fun h => z (off b fun e => h (.inr e)), fun z => absurd (off a nat) z⟩ nT ha ht hd KX hm hb hbb nl hg bm hr F bi ?_ (hs _ at_t (.inr ⟨_, vs.toArray, 0, hk, rfl, rfl, rfl, ?_, by simpa using vi⟩))
    · intro b u z
      by_cases e : b = t
      · subst e
        rw [at_t] at z
        cases z
        exact ht
      · rw [off b e] at z
        cases z
    · rw [List.size_toArray, vl]
      exact hl
  | none =>
    let Hs : Hp := fun b => if b = a then some (.frz { cls := .type "list", data := .seq vs.toArray } (.lst (ns.map V.int))) else if b = t then some (.tbl #[]) else none
    have at_a : Hs a = some (.frz { cls := .type "list", data := .seq vs.toArray } (.lst (ns.map V.int))) := if_pos rfl
    have at_t : Hs t = some (.tbl #[]) := (if_neg fun z => nat z.symm).trans (if_pos rfl)
    have off : ∀ b, b ≠ a → b ≠ t → Hs b = none := fun b h h2 => (if_neg h).trans (if_neg h2)
    refine Sct.run (H := Hs) ⟨at_t, fun b h => ?_, fun b z => Classical.byContradiction fun h => z (off b (fun e => h (.inl e)) fun e => h (.inr e)), fun _ => hk⟩ nT ha ht hd KX hm hb hbb nl hg bm hr F bi ?_ (hs _ at_t (.inl (.inr ⟨_, at_a⟩)))
    · by_cases e : b = a
      · subst e; exact .inr ⟨_, _, at_a⟩
      · exact .inl (off b e h)
    · intro b u z
      by_cases e : b = a
      · subst e
        rw [at_a] at z
        cases z
        exact ⟨ha, by rw [List.length_map]; exact hl, vs, 0, vi, ha⟩
      · by_cases e2 : b = t
        · subst e2
          rw [at_t] at z
          cases z
          exact ht
        · rw [off b e e2] at z
          cases z
end
def LawAtG (l : PySem.W.OpenLaw) (w : World) (K : PySem.W.Frag) (k n : Nat) (x : Str) (mg : Str → Option Value) (fa : Addr) (h : Heap) : Prop :=
  ∃ (fd : FuncData) (cc t : Addr) (sp : Sp), h.get? t = some emT ∧ K.lookup t = none ∧ PySem.W.CodeHd h cc t ∧ (∀ (s : Shared) (u : Value), BindsTo s fd ⟨[u], []⟩ [(x, u)]) ∧
    (∀ (H : Hp) (a : Addr) (ns : List Int), ns.length ≤ n → H t = some (.tbl #[]) → SqL K H a (ns.map V.int) → sp [.ref a] H (fun v _ => v = .bl true) fun _ _ _ => False) ∧
    ∀ base : Heap, K.In base → base.Ns mainGlobals mg → LamX.TabB base mg cc t → FnG l.prog w K mg base k fa fd [x] sp
theorem walkTG {l : PySem.W.OpenLaw} {n k : Nat} {q : Program} {loose : List Str} {XP : (Str → Option Value) → Heap → Prop} {YP : World → Heap → Prop} {d : DefRec} {K : Params → PySem.W.Frag} {x nm : Str}
    (hn : l.most = some n) (hn2 : n ≤ sizeLine) (nd : d.params.defaults = []) (hr : Room k callerA) (hrec : ((recsOf q).any fun e => e.name == nm) = true) (hY : ∀ (w : World) (h : Heap), YP w h → (K w.params).In h)
    (F : ∀ (w : World) (mg : Str → Option Value) (fa : Addr) (h : Heap), (K w.params).In h → h.Ns mainGlobals mg → mg d.name = some (.ref fa) → TabAt mg nm h → LawAtG l w (K w.params) k n x mg fa h) :
    PySem.W.WalkO q loose XP YP l.row.toRowW d [] (fun f vs => PySem.call f vs) := by
  refine Att.attach_callB hn nd fun w s₀ s₁ mg mb fa o pm cd doc a vs ns G Y ho hd hcd hmg hobj hints hlen hbits hg => ?_
  have kx := hY w _ Y
  have tab : TabAt mg nm s₁.heap := by
    obtain ⟨e, he, hne⟩ := List.any_eq_true.mp hrec
    obtain ⟨f, o, fd, c, P, h1, h2, h3, h4, h5, h6⟩ := G.T.tab e he
    rw [beq_iff_eq.mp hne] at h1
    obtain ⟨⟨oc, vc, e1, e2, e3, e4⟩, hP⟩ := id h6
    exact ⟨f, o, fd, c, P, h1, h2, h3, h4, PySem.W.CodeHd.of h5 h6, hP, oc, vc, e1, e3, e4⟩
  obtain ⟨fd, cc, t, sp, hT, nT, C, hb, hsp, hF⟩ := F w mg fa _ kx G.T.g hmg tab
  exact lawTG kx nT hT C G.T.g G.T.b G.T.builtins G.T.nolimit hg G.T.bmain hobj hints (Nat.le_trans hlen hn2) hr hF hb fun H hH hS => hsp H a ns hlen hH hS
end T3

end
section
set_option linter.all false
set_option autoImplicit false
set_option Elab.async false
namespace T3
open PySem PySem.Spec PyProof.Rows L2
variable [TabL]
end T3

end
section
set_option linter.all false
set_option autoImplicit false
set_option Elab.async false
set_option maxRecDepth 100000
namespace T3
open PySem PySem.Spec PyProof.Rows L2
variable [TabL]
abbrev XS := Sl → Str → Sl → Prop
def tX (K : PySem.W.Frag) (mg : Str → Option Value) (W : WX) (x : XS) : TS := fun _ σ H => ∃ B env nm C env', EnvR K B H σ env ∧ x env nm env' ∧ mg nm = some (.ref C) ∧ ∀ B' σ' H', AtS K σ B H env σ' B' H' env' → W (.ref C) none σ' H'
def tXE (K : PySem.W.Frag) (mg : Str → Option Value) (W : WX) (x : XS) : TE := fun σ H _ => ∃ B env nm C env', EnvR K B H σ env ∧ x env nm env' ∧ mg nm = some (.ref C) ∧ ∀ B' H', At K σ B H env B' H' env' → W (.ref C) none σ H'
theorem tX.e {K : PySem.W.Frag} {mg : Str → Option Value} {W : WX} {x : XS} {D : Ends} {σ : L2.St} {H : Hp} {Q : VK} (h : tX K mg W x D σ H) : tXE K mg W x σ H Q := by
  obtain ⟨B, env, nm, C, env', en, hx, hm, q⟩ := h
  exact ⟨B, env, nm, C, env', en, hx, hm, fun B' H' a => q B' σ H' a.s⟩
abbrev FnX := List S → Str → Prop
section
variable {X : Cx} {W : WX} {st : Stmt} {rest : List Stmt} {f : SS} {x y : XS} {e : Expr} {pos : Pos}
end
end T3

end
section
set_option linter.all false
set_option autoImplicit false
set_option Elab.async false
set_option maxRecDepth 100000
namespace T3
open PySem PySem.Spec PyProof.Rows PySem.Calls L2
variable [TabL]
section
variable {X : Cx} {C : Addr} {bmB : List Value} {B newId initId : String}
end
structure ExK (K : PySem.W.Frag) (mg : Str → Option Value) (x : Str) (C : Addr) : Prop where
  g : mg x = some (.ref C)
  q : PySem.W.excIn K C [.type "ValueError", .type "Exception", .type "BaseException", .type "object"] "ValueError.__new__" = true
  kp : PySem.W.keepIn K (.ref C) = true
  bs : PySem.W.subIn K (.ref C) (.type "BaseException") = some true
  ty : PySem.W.typeIn K (.ref C) = some (.type "type")
section
variable {X : Cx} {W : WX} {p pos pos2 : Pos} {x : Str} {C : Addr}
end
end T3

end
section
set_option linter.all false
set_option autoImplicit false
set_option Elab.async false
set_option maxRecDepth 100000
namespace T3
open PySem PySem.Spec PyProof.Rows PySem.Calls L2
variable [TabL]
section
variable {X : Cx} {W : WX} {k n : Nat} {F : FnX} {x : Str} {p pos : Pos} {e : Expr} {es : List Expr} {fa : EA}
end
end T3

end
section
set_option linter.all false
set_option autoImplicit false
set_option Elab.async false
set_option maxRecDepth 100000
namespace LamA
open PySem PySem.Spec PyProof.Rows L2 LamX NdefX
section
variable {Z : Cx} {W : WX} {F : NF} {f : Addr} {params : Arguments} {body : Expr} {pm ctv : Value} {N fr : List Str} {ws : List (Option V)} {k i : Nat} {x : Str} {p pos : Pos} {tb : XK → TE}
end
end LamA

end
section
set_option linter.all false
set_option autoImplicit false
set_option Elab.async false
set_option maxRecDepth 100000
namespace T3
open PySem PySem.Spec PyProof.Rows L2
variable [TabL]
abbrev XF := Sl → Option (Str × Sl)
def rl (x : XF) : XS := fun env nm e' => x env = some (nm, e')
section
variable {X : Cx} {W : WX} {st : Stmt} {rest : List Stmt} {f : SS} {x y : XF} {e : Expr} {pos : Pos}
end
end T3

end
section
set_option linter.all false
set_option autoImplicit false
set_option Elab.async false
set_option maxRecDepth 100000
namespace T3
open PySem PySem.Spec PyProof.Rows L2 LamA NdefX LamX
variable [TabL]
structure Wrap (Z : Cx) (e ec : Expr) (wr : EE → EE) : Prop where
  ex : ∃ tw : TE → TE, (∀ te, PE Z ec te → PE Z e (tw te)) ∧ (∀ (fb : EE) (τ σ : L2.St) (H : Hp) (Q : VK) (te : TE), (∀ Q', tE Z.K fb τ H Q' → te σ H Q') → tE Z.K (wr fb) τ H Q → tw te σ H Q) ∧ (∀ (σ : L2.St) (H : Hp) (Q : VK) (te : TE), (∀ Q', te σ H Q') → tw te σ H Q)
end T3

end
section
set_option linter.all false
set_option autoImplicit false
set_option Elab.async false
set_option maxRecDepth 100000
namespace T3
open PySem PySem.Spec PyProof.Rows L2 LamA NdefX LamX
variable [TabL]
section
variable {X : Cx} {x : Str} {st : Stmt} {Ng fr : List Str} {a n te : Str} {k i : Nat} {q : Str} {params : Arguments} {body e1 : Expr} {b0 : Stmt} {su : List Stmt} {scope : Scope} {p lpos pos q1 q2 tp rp hp np : Pos} {cX P CT : Addr} {js : List Nat} {fb : EE} {xb : XF} {wr : EE → EE} {hs : Str → Option PyData}
end
end T3

end
section
set_option linter.all false
set_option autoImplicit false
set_option Elab.async false
set_option maxRecDepth 100000
namespace T3
open PySem PySem.Spec PyProof.Rows L2
variable [TabL]
section
variable {X : Cx} {a D : Addr} {oe : Obj} {pn : List (Addr × Obj)} {n x : Str} {i : Nat} {p p1 p2 pos : Pos} {v : V} {u : Value} {b : Bool}
end
end T3

end
section
set_option linter.all false
set_option autoImplicit false
set_option Elab.async false
set_option maxRecDepth 100000
namespace T3
open PySem PySem.Spec PyProof.Rows L2
variable [TabL]
end T3
namespace T3
open PySem PySem.Spec PyProof.Rows L2
structure ExA (K : PySem.W.Frag) (mg : Str → Option Value) (x : Str) (C CT : Addr) : Prop extends ExK K mg x C where
  c : L2.ExcC K C
  e : PySem.W.exmOne K (.ref C) (.ref CT) = some true
end T3
namespace T3
open PySem PySem.Spec PyProof.Rows L2
variable [TabL]
end T3
namespace T3
open PySem L2
end T3

end
section
set_option linter.all false
set_option autoImplicit false
set_option Elab.async false
set_option maxRecDepth 100000
namespace T3
open PySem PySem.Spec PyProof.Rows L2
variable [TabL]
section
variable {X : Cx} {a C : Addr} {oe : Obj} {pn : List (Addr × Obj)} {x n par : Str} {st : Stmt} {Nw : List Str} {k i : Nat} {b : SS} {p p1 pos : Pos} {e : Expr} {fa : EE}
end
end T3

end
section
set_option linter.all false
set_option autoImplicit false
set_option Elab.async false
namespace T3
open PySem PySem.Spec PyProof.Rows L2 LamX
section
variable {P : Program} {w : World} {K : PySem.W.Frag} {mg mb : Str → Option Value} {k : Nat} {fa a : Addr} {cs : List (Addr × Addr)} {fd : FuncData} {x : Str} {sp : Sp} {s : Shared} {vs : List Value} {ns : List Int}
structure Scs (K : PySem.W.Frag) (a : Addr) (cs : List (Addr × Addr)) (H : Hp) : Prop where
  tb : ∀ p ∈ cs, H p.2 = some (.tbl #[])
  kind : ∀ b, (∀ p ∈ cs, b ≠ p.2) → H b = none ∨ ∃ o xs, H b = some (.frz o (.lst xs))
  two : ∀ b, H b ≠ none → b = a ∨ ∃ p ∈ cs, b = p.2
  free : H a ≠ none → K.lookup a = none
theorem Scs.off {H : Hp} (c : Scs K a cs H) (ha : s.heap.get? a = some { cls := .type "list", data := .seq vs.toArray }) (ht : ∀ p ∈ cs, s.heap.get? p.2 = some emT) {b : Addr} {o : Obj} (h : s.heap.get? b = some o) (n1 : ∀ xs m, o.data ≠ .seq xs m) (n2 : o.data ≠ .fields #[]) : H b = none := by
  apply Classical.byContradiction
  intro z
  rcases c.two b z with e | e
  · subst e
    rw [ha] at h
    injection h with h
    exact n1 _ _ (by rw [← h])
  · obtain ⟨p, hp, rfl⟩ := e
    rw [ht p hp] at h
    injection h with h
    exact n2 (by rw [← h])
theorem Scs.off_d {H : Hp} (c : Scs K a cs H) (ha : s.heap.get? a = some { cls := .type "list", data := .seq vs.toArray }) (ht : ∀ p ∈ cs, s.heap.get? p.2 = some emT) {b : Addr} {o : Obj} {es : Array DictEntry} {m : Nat} (h : s.heap.get? b = some o) (d : o.data = .dict es m) : H b = none :=
  c.off ha ht h (fun xs n z => by rw [d] at z; cases z) (fun z => by rw [d] at z; cases z)
theorem Scs.spc {H : Hp} (c : Scs K a cs H) (ha : s.heap.get? a = some { cls := .type "list", data := .seq vs.toArray }) (ht : ∀ p ∈ cs, s.heap.get? p.2 = some emT) {b : Addr} {m : Str → Option Value} (h : s.heap.Ns b m) : (hidT s.heap H).Ns b m := by
  obtain ⟨o, es, n, h1, h2, h3⟩ := h
  exact ⟨o, es, n, hidT_get h1 (c.off_d ha ht h1 h2), h2, h3⟩
theorem Scs.kin {H : Hp} (c : Scs K a cs H) (nT : ∀ p ∈ cs, K.lookup p.2 = none) (KX : K.In s.heap) : K.In (hidT s.heap H) := by
  intro b o h
  refine hidT_get (KX b o h) (Classical.byContradiction fun z => ?_)
  rcases c.two b z with e | e
  · subst e
    rw [c.free z] at h
    cases h
  · obtain ⟨p, hp, rfl⟩ := e
    rw [nT p hp] at h
    cases h
theorem Scs.tbB {H : Hp} (c : Scs K a cs H) (ha : s.heap.get? a = some { cls := .type "list", data := .seq vs.toArray }) (ht : ∀ p ∈ cs, s.heap.get? p.2 = some emT) (hd : ∀ p ∈ cs, PySem.W.CodeHd s.heap p.1 p.2) (hm : s.heap.Ns mainGlobals mg)
    (bm : ∃ (q : Addr) (ob : Obj), mg "__builtins__" = some (.ref q) ∧ q ≠ builtinsNs ∧ s.heap.get? q = some ob ∧ ob.cls = .type "module" ∧ ob.dict = some builtinsNs ∧ ob.data = .plain) : ∀ p ∈ cs, LamX.TabB (hidT s.heap H) mg p.1 p.2 := by
  intro p hp
  refine ⟨?_, ?_, ?_⟩
  · obtain ⟨o, us, file, tf, flags, tg, inF, text, tt, e1, r1, r2, r3, r4⟩ := hd p hp
    exact ⟨o, us, file, tf, flags, tg, inF, text, tt, hidT_get e1 (c.off ha ht e1 (fun xs m z => by rw [r2] at z; cases z) (fun z => by rw [r2] at z; cases z; simp at r3)), r1, r2, r3, r4⟩
  · obtain ⟨q, ob, b1, b2, b3, b4, b5, b6⟩ := bm
    refine ⟨q, ob, b1, b2, fun z => ?_, fun z => ?_, hidT_get b3 (c.off ha ht b3 (fun xs m z => by rw [b6] at z; cases z) (fun z => by rw [b6] at z; cases z)), b4, b5, b6⟩
    · obtain ⟨o, es, ep, g1, g2, _⟩ := hm
      rw [z, g1] at b3
      cases b3
      rw [g2] at b6
      cases b6
    · rw [z, ht p hp] at b3
      cases b3
      cases b6
  · intro z
    obtain ⟨o, es, ep, g1, g2, _⟩ := hm
    rw [z, ht p hp] at g1
    cases g1
    cases g2
theorem Scs.run {H : Hp} (c : Scs K a cs H) (nT : ∀ p ∈ cs, K.lookup p.2 = none) (ha : s.heap.get? a = some { cls := .type "list", data := .seq vs.toArray }) (ht : ∀ p ∈ cs, s.heap.get? p.2 = some emT) (hd : ∀ p ∈ cs, PySem.W.CodeHd s.heap p.1 p.2) (KX : K.In s.heap) (hm : s.heap.Ns mainGlobals mg) (hb : s.heap.Ns builtinsNs mb) (hbb : ∀ x : Str, x ≠ "__name__" → mb x = bootBuiltins x) (nl : s.heap.NoLimit) (hg : s.gens = #[])
    (bm : ∃ (q : Addr) (ob : Obj), mg "__builtins__" = some (.ref q) ∧ q ≠ builtinsNs ∧ s.heap.get? q = some ob ∧ ob.cls = .type "module" ∧ ob.dict = some builtinsNs ∧ ob.data = .plain)
    (hr : Room k callerA) (F : ∀ base : Heap, K.In base → base.Ns mainGlobals mg → (∀ p ∈ cs, LamX.TabB base mg p.1 p.2) → FnG P w K mg base k fa fd [x] sp) (bi : ∀ (s : Shared) (u : Value), BindsTo s fd ⟨[u], []⟩ [(x, u)]) (hok : HOk P w H s.heap)
    (hs : sp [.ref a] H (fun v _ => v = .bl true) fun _ _ _ => False) :
    codeAny (model P w) callerA (.call (.ref fa) ⟨[.ref a], []⟩) (fun r s2 => r = .ok (.ret (.bool true)) ∧ OldK s.heap s2.heap ∧ s2.os = s.os ∧ AllBare s2.gens) s := by
  obtain ⟨mc, n1, n2⟩ := nl
  have md : Mod K mg (hidT s.heap H) := ⟨c.kin nT KX, c.spc ha ht hm, ⟨mb, c.spc ha ht hb, hbb⟩, mc, c.spc ha ht n1, n2⟩
  have ev : Env0 P w K mg (hidT s.heap H) callerA [] s H := {
    frames := rfl
    mod := md
    bs := fun b o h => of_hidT h
    bsz := Nat.le_of_eq (hidT_size _ _)
    funs := trivial
    frf := fun b h => nomatch (show b ∈ ([] : List Addr) from h)
    hok := hok
    bare := .of_eq hg }
  have tbl := c.tbB ha ht hd hm bm
  have cl := (F _ md.kin (c.spc ha ht hm) tbl).go callerA [] s H ⟨[.ref a], []⟩ [.ref a] [.ref a] _ _ hr rfl ev (bi s (.ref a)) (.cons rfl .nil) hs
  refine codeAny_mono cl ?_
  intro r s2 h
  match r, h with
  | .ok .next, h => exact h.elim
  | .ok .brk, h => exact h.elim
  | .ok .cont, h => exact h.elim
  | .error _, h => exact h.elim
  | .ok (.ret u), ⟨v, H2, os, br, un, hok2, rv, q⟩ =>
    have q : v = .bl true := q
    subst q
    have eu : u = .bool true := rv
    subst eu
    have old : ∀ b o, (∀ p ∈ cs, b ≠ p.2) → s.heap.get? b = some o → s2.heap.get? b = some o := fun b o nt h => by
      rcases c.kind b nt with z | ⟨ob, ys, z⟩
      · exact un.keep b o h z (fun y => nomatch (show b ∈ ([] : List Addr) from y)) (by simp)
      · have h1 := (hok b _ z).1
        rw [h] at h1
        cases h1
        exact (hok2 b _ (un.frzs b o _ z)).1
    have tbs : ∀ p ∈ cs, ∃ mo, s2.heap.get? p.2 = some { cls := .none, data := .fields (#[] ++ mo) } := fun p hp => by
      obtain ⟨mo, z⟩ := un.tbls p.2 #[] (c.tb p hp)
      exact ⟨mo, hok2 p.2 _ z⟩
    refine ⟨rfl, ⟨fun b o h => ?_, fun b o h => ?_⟩, os, br⟩
    · by_cases e : ∃ p ∈ cs, b = p.2
      · obtain ⟨p, hp, rfl⟩ := e
        rw [ht p hp] at h
        cases h
        obtain ⟨mo, hz⟩ := tbs p hp
        rw [Array.empty_append] at hz
        exact .inr (.inl ⟨((hd p hp).tab (ht p hp)).isCodeTable, rfl, #[], mo, rfl, by rw [Array.empty_append]; exact hz⟩)
      · exact .inl (old b o (fun p hp z => e ⟨p, hp, z⟩) h)
    · by_cases e : ∃ p ∈ cs, b = p.2
      · obtain ⟨p, hp, rfl⟩ := e
        obtain ⟨mo, hz⟩ := tbs p hp
        exact ⟨_, hz⟩
      · exact ⟨o, old b o (fun p hp z => e ⟨p, hp, z⟩) h⟩
end
section
variable [TabL]
end
end T3

end
section
set_option linter.all false
set_option autoImplicit false
set_option Elab.async false
set_option maxRecDepth 100000
namespace T3
open PySem PySem.Spec PyProof.Rows L2 LamA NdefX LamX
variable [TabL]
section
variable {X : Cx} {x : Str} {st : Stmt} {Ng psg : List Str} {k j : Nat} {q capt : Str} {params : Arguments} {body : Expr} {scope : Scope} {M : PyData → List PyData → SS} {p lpos pos : Pos} {e1 e2 : Expr} {f1 f2 : EE} {cX P : Addr}
end
section
variable {X : Cx} {x : Str} {st : Stmt} {Ng psg : List Str} {k j : Nat} {q capt : Str} {params : Arguments} {body : Expr} {scope : Scope} {M : PyData → List PyData → SS} {p lpos pos : Pos} {e1 e2 : Expr} {f1 f2 : EE} {cX P : Addr} {y : Str} {x4 : PyData} {py : Pos}
end
end T3

end
section
set_option linter.all false
set_option autoImplicit false
set_option Elab.async false
set_option maxRecDepth 100000
namespace T3
open PySem PySem.Spec PyProof.Rows L2
variable [TabL]
def SplOk (a b : Str) : Prop := (b.length == 0) = false ∧ a.length + 2 ≤ sizeLine
noncomputable instance (a b : Str) : Decidable (SplOk a b) := Classical.propDecidable _
end T3

end
section
set_option linter.all false
set_option autoImplicit false
set_option Elab.async false
set_option maxRecDepth 100000
namespace T3
open PySem PySem.Spec PyProof.Rows L2
variable [TabL]
section
variable {X : Cx} {W : WX} {k : Nat} {F : FnD} {x : Str} {xx : XS} {p pos : Pos} {a : Expr}
end
end T3

end
section
set_option linter.all false
set_option autoImplicit false
set_option Elab.async false
set_option maxRecDepth 100000
namespace T3
open PySem L2
variable [TabL]
def upN (kvs more : List (NestedKey × PyData)) : List (NestedKey × PyData) := more.foldl (fun acc q => putN acc q.1 q.2) kvs
def tUpd (K : PySem.W.Frag) (td te : TE) : TE := fun σ H Q => td σ H fun v H1 => ∃ a, v = .ref a ∧ IsDD H1 a ∧ te σ H1 fun y H2 => ∃ B b kvs more, y = .ref b ∧ a ≠ b ∧ DnAt K B H2 a kvs ∧ kvs ≠ [] ∧ DnAt K B H2 b more ∧ kvs.length + more.length ≤ sizeLine ∧
  ∀ es, DnR K B H2 es (upN kvs more) → Q .non (upd H2 a (DnO a es))
section
variable {X : Cx} {o e : Expr} {apos cpos : Pos} {td te : TE}
theorem dn_up {pins : List (Addr × Obj)} {σ : St} {H : Hp} {s : Shared} {a b : Addr} {A : Around} {E : Value → Shared → Prop} {B : Mset} {kvs more : List (NestedKey × PyData)} {Q : Value → Shared → Prop} (hu : A.units + 9 < cLine) (I : Inv X pins σ H s) (ne : a ≠ b)
    (d : DnAt X.K B H a kvs) (nn : kvs ≠ []) (d' : DnAt X.K B H b more) (hl : kvs.length + more.length ≤ sizeLine) (h : ∀ es s', DnR X.K B H es (upN kvs more) → Inv X pins σ (upd H a (DnO a es)) s' → Q .none s') : wpAny (model X.prog X.w) A (call (.builtin "dict.update") [.ref a, .ref b]) Q E s := by
  obtain ⟨ns, _, nd, xs, dd, kn⟩ := dn_open I d
  obtain ⟨ns', _, nd', ys, dd', kn'⟩ := dn_open I d'
  have mu : Mut (H a) := by
    rcases d with ⟨_, d⟩ | ⟨es, d, _⟩
    · rw [d]; exact True.intro
    · rw [d]; exact True.intro
  have nx : xs ≠ [] := fun z => by
    rw [z] at kn
    cases kn
    exact nn rfl
  obtain ⟨ka, na⟩ := Kn.all kn' kn nd
  have lx := kn.len
  have ly := kn'.len
  refine call_update_dictH (knd := nestedKind X.prog X.w) (room9 hu) ne ns' dd dd' (.inl nx) (by rw [← lx, ← ly]; exact hl) fun h' dh _ hs => ?_
  obtain ⟨q, es, ep, hq, h2, h3, h4, _, h5⟩ := dh
  refine h ⟨q, ep, (storedAllH xs ys).map (entryOfKey (nestedKind X.prog X.w))⟩ _ ⟨ka.dn, na⟩ (d_write I mu hs ⟨q, hq⟩ ⟨⟨ns, ?_, hq, h2, ?_⟩, ⟨q, hq⟩, fun h1 h2 ⟨z1, z2, z3, z4, z5⟩ st => ⟨z1, z2, st _ z3, z4, z5⟩⟩)
  · dsimp only
    rw [List.length_map]
    have := storedAllH_length ys xs
    omega
  · dsimp only
    rw [← h4, Array.toArray_toList]; exact h3
theorem pe_upd (hu : X.A.units + 9 < cLine) (ho : PE X o td) (he : PE X e te) (m : M1 X o "update" apos e cpos) : PE X (.Call (.Attribute o "update" apos) [e] [] cpos) (tUpd X.K td te) := by
  refine ⟨fun pins s σ H Q I h => ?_⟩
  refine wpAny_Call_method m.base m.few m.line PySem.F.plainAttrs_dict PySem.F.slot_dict_update PySem.F.type_dict_update (thn (ho.run pins s σ H _ I h) fun u s1 ⟨x, H1, I1, rx, a, ex, d, q1⟩ => ?_)
  subst ex
  obtain rfl : u = Value.ref a := rx
  obtain ⟨t1, t2⟩ := isDD_at I1 d
  refine ⟨t1, t2, ?_⟩
  rw [m.trees]
  refine Calls.callWith_builtin rfl (Calls.evalArgs_plain (Calls.spliced_cons (thn (he.run pins s1 σ H1 _ I1 q1) fun iv s2 ⟨y, H2, I2, ry, B, b, kvs, more, ey, ne, d1, nn, d2, hl, q2⟩ => Calls.spliced_nil ?_)))
  subst ey
  cases (show iv = Value.ref b from ry)
  exact dn_up hu I2 ne d1 nn d2 hl fun es s' r I' => ⟨.non, _, I', rfl, q2 es r⟩
end
def dnC : Ct → Option (List (NestedKey × PyData))
  | .dn kvs => some kvs
  | .dk [] => some []
  | _ => none
theorem dnC_ok {K : PySem.W.Frag} {B : Mset} {H : Hp} {a : Addr} {c : Ct} {kvs : List (NestedKey × PyData)} (h : CtR K B H a c) (e : dnC c = some kvs) : DnAt K B H a kvs := by
  unfold dnC at e
  split at e
  · cases e
    obtain ⟨es, h1, h2⟩ := h
    exact .inr ⟨es, h1, h2⟩
  · cases e
    obtain ⟨ws, h1, h2⟩ := h
    cases h2
    exact .inl ⟨rfl, h1⟩
  · cases e
def updP (e : Sl) (i j : Nat) : Option (R × Sl) := match e[i]? with
  | some (some (.mu m c)) => match dnC c with
    | some kvs => match e[j]? with
      | some (some (.mu _ c')) => match dnC c' with
        | some more => if i ≠ j ∧ m ≠ .fro ∧ kvs ≠ [] ∧ kvs.length + more.length ≤ 1000000 then some (.pd .none, e.set i (some (.mu m (.dn (upN kvs more))))) else none
        | none => none
      | _ => none
    | none => none
  | _ => none
def eUpd (fd fe : EE) : EE := fun env => match fd env with
  | some (.var i, e1) => if isDc e1 (.var i) = true then match fe e1 with
    | some (.var j, e2) => updP e2 i j
    | _ => none
    else none
  | _ => none
section
variable {X : Cx} {o e : Expr} {apos cpos : Pos} {fd fe : EE}
theorem e_upd (hu : X.A.units + 9 < cLine) (ho : PE X o (tE X.K fd)) (he : PE X e (tE X.K fe)) (m : M1 X o "update" apos e cpos := by exact ⟨by rfl, by rfl, by rfl, by rfl⟩) : PE X (.Call (.Attribute o "update" apos) [e] [] cpos) (tE X.K (eUpd fd fe)) := PE.imp (pe_upd hu ho he m) fun σ H Q t => by
  obtain ⟨B, env, d, env', en, ev, q⟩ := t
  unfold eUpd at ev
  split at ev
  rotate_left
  · cases ev
  rename_i i e1 h1
  split at ev
  rotate_left
  · cases ev
  rename_i hd
  split at ev
  rotate_left
  · cases ev
  rename_i j e2 h2
  unfold updP at ev
  split at ev
  rotate_left
  · cases ev
  rename_i mm c hm
  split at ev
  rotate_left
  · cases ev
  rename_i kvs hk
  split at ev
  rotate_left
  · cases ev
  rename_i m' c' hm'
  split at ev
  rotate_left
  · cases ev
  rename_i more hk'
  split at ev
  rotate_left
  · cases ev
  rename_i hc
  cases ev
  refine ⟨B, env, _, _, en, h1, fun B1 H1 w a1 r1 => ?_⟩
  obtain ⟨a, rfl, dd⟩ := isDc_ok a1.en r1.ra hd
  refine ⟨a, rfl, dd, B1, e1, _, _, a1.en, h2, fun B2 H2 v a2 r2 => ?_⟩
  have xi : σ[i]? = some (some (V.ref a)) := r1.1
  obtain ⟨p, g1, g2, g3⟩ := a2.en.mu i _ _ hm
  rw [xi] at g1
  cases g1
  obtain ⟨b, k1, k2, k3⟩ := a2.en.mu j _ _ hm'
  have xj : σ[j]? = some (some v) := r2.1
  have ev : v = .ref b := by rw [xj] at k1; injection k1 with k1; injection k1
  refine ⟨B2, b, kvs, more, ev, fun z => ?_, dnC_ok g3 hk, hc.2.2.1, dnC_ok k3 hk', Nat.le_of_lt (small hc.2.2.2), fun es r => ?_⟩
  · subst z
    exact hc.1 (a2.en.inj i j _ _ _ _ _ hm hm' xi k1)
  · have ni : ∀ o', H2 a = some o' → ¬ Imm o' := fun o' h' im => by
      rcases dnC_ok g3 hk with ⟨_, g4⟩ | ⟨es, g4, _⟩
      · rw [g4] at h'; cases h'; exact im
      · rw [g4] at h'; cases h'; exact im
    obtain ⟨gw, aw⟩ := AtS.write (o := DnO a es) (c' := .dn (upN kvs more)) a2.en hm hc.2.1 xi ni (fun H' _ h1 g' => ⟨es, h1, DnR.grow g' r⟩)
    exact q B2 _ .non ((a1.trans en a2).trans en aw) .non
end
@[simp] theorem z_updt (fd fe : EE) (env : Sl) : eUpd fd fe env = (match fd env with
  | some (.var i, e1) => if isDc e1 (.var i) = true then match fe e1 with
    | some (.var j, e2) => updP e2 i j
    | _ => none
    else none
  | _ => none) := rfl
end T3

end
section
set_option linter.all false
set_option autoImplicit false
set_option Elab.async false
set_option maxRecDepth 100000
namespace T3
open PySem L2
variable [TabL]
section
variable {prog : Program} {w : World} {A : Around} {E : Value → Shared → Prop} {s : Shared}
theorem min_two_txt {x y : Str} {t u : Tok} {Q : Value → Shared → Prop} (hh : A.handled = none)
    (h : ∀ h' tk, (∀ c o, s.heap.get? c = some o → h'.get? c = some o) → Q (if y.cps.toList < x.cps.toList then .str y u else .str x t) { s with heap := h', toks := tk }) :
    wpAny (model prog w) A (call (.builtin "min") [.str x t, .str y u]) Q E s := by
  obtain ⟨its, hi⟩ : ∃ its : Array Value, its = #[.str x t, .str y u] := ⟨_, rfl⟩
  let sa : Nat → Str := fun i => if i = 0 then x else y
  have at_ : ∀ (i : Nat) v, its[i]? = some v → ∃ z, v = .str (sa i) z := by
    intro i v e
    rw [hi] at e
    match i, e with
    | 0, e => exact ⟨t, by simp at e; rw [← e]; rfl⟩
    | 1, e => exact ⟨u, by simp at e; rw [← e]; rfl⟩
    | i + 2, e => simp at e
  have cmp : CmpOf prog w A.in1 .Lt (fun i v => its[i]? = some v) (fun i j => decide ((sa i).cps.toList < (sa j).cps.toList)) := fun i j vi vj s Q E h1 h2 q => by
    obtain ⟨z1, rfl⟩ := at_ i vi h1
    obtain ⟨z2, rfl⟩ := at_ j vj h2
    exact richCompare_gives (op := .Lt) (typeIs_str s _ z1) (typeIs_str s _ z2) F.slot_str_lt F.entry_str_lt (F.args_str_lt_2 _ _) (gives_str_lt _ _ z1 z2) (fun x => nomatch x) q
  have hT : (s.heap.push { cls := .type "tuple", data := .seq #[.str x t, .str y u] }).IsTuple s.heap.objs.size its := ⟨_, Heap.get?_push_size _ rfl, rfl, 0, by rw [hi]⟩
  refine call_min_two (wpAny_pyIter_tuple hT ?_)
  have hsz : (s.heap.push { cls := .type "tuple", data := .seq #[.str x t, .str y u] }).objs.size = s.heap.objs.size + 1 := Heap.size_push ..
  have n2 : its.size = 2 := by rw [hi]; rfl
  refine ⟨_, [_, s.heap.objs.size], [_], _, _, _, _, rfl, Walks.tuple (A := A.in1) hh _ s.heap.objs.size (by rw [hsz]; exact Nat.ne_of_lt (Nat.lt_succ_self _)) its, ⟨⟨_, Heap.get?_push_size _ rfl, rfl, rfl⟩, hT.push _⟩, fun c hc => ?_, by rw [n2]; omega, cmp, fun v h' tk hP hk => ?_⟩
  · show c < ((s.heap.push _).push _).objs.size
    rw [Heap.size_push, hsz]
    simp only [List.mem_cons, List.not_mem_nil, or_false] at hc
    rcases hc with rfl | rfl
    · rw [hsz]; exact Nat.lt_succ_self _
    · exact Nat.lt_succ_of_lt (Nat.lt_succ_self _)
  · have old : ∀ c o, s.heap.get? c = some o → h'.get? c = some o := fun c o e => by
      refine hk c o (fun hm => ?_) (Heap.get?_push_of_some _ (Heap.get?_push_of_some _ e))
      rw [List.mem_singleton] at hm
      have := Heap.lt_size e
      rw [hm, hsz] at this
      exact Nat.lt_irrefl _ (Nat.lt_of_succ_lt this)
    have q := h h' tk old
    have hP : its[argBest (fun i j => decide ((sa i).cps.toList < (sa j).cps.toList)) 1]? = some v := by
      have : its.size - 1 = 1 := by rw [n2]
      rw [← this]; exact hP
    by_cases c : y.cps.toList < x.cps.toList
    · have e : argBest (fun i j => decide ((sa i).cps.toList < (sa j).cps.toList)) 1 = 1 := by simp [argBest, sa, c]
      rw [e, hi] at hP
      rw [if_pos c] at q
      simp at hP
      rw [← hP]; exact q
    · have e : argBest (fun i j => decide ((sa i).cps.toList < (sa j).cps.toList)) 1 = 0 := by simp [argBest, sa, c]
      rw [e, hi] at hP
      rw [if_neg c] at q
      simp at hP
      rw [← hP]; exact q
end
def minT (x y : Str) : Str := if y.cps.toList < x.cps.toList then y else x
def oMinS : List PyData → Option PyData
  | [.str x, .str y] => some (.str (minT x y))
  | _ => none
def rMinS : List V → Hp → VK → Prop := fun xs H Q => ∃ x y, xs = [.str x, .str y] ∧ Q (.str (minT x y)) H
theorem cr_minS {X : Cx} (hc : X.calm = true) : CallR X (.builtin "min") rMinS := by
  intro pins s σ H xs us Q I r h
  obtain ⟨x, y, rfl, q⟩ := h
  obtain ⟨u, w', rfl, ⟨t, rfl⟩, ⟨t', rfl⟩⟩ := vals2 r
  refine min_two_txt (I.ok.hd hc) fun h' tk k => ⟨_, H, I.kept k, ?_, q⟩
  unfold minT
  by_cases hj : y.cps.toList < x.cps.toList
  · rw [if_pos hj, if_pos hj]; exact ⟨_, rfl⟩
  · rw [if_neg hj, if_neg hj]; exact ⟨_, rfl⟩
theorem c_minS {K : PySem.W.Frag} : Con K (kE oMinS) rMinS := con_E <| by
  intro B H vs xs z Q cn ho q
  unfold oMinS at ho
  split at ho
  · cases ho
    obtain ⟨v, w, rfl, c1, c2⟩ := cn.two
    exact ⟨_, _, by rw [c1.str, c2.str], q _ (.str _)⟩
  · cases ho
theorem w_minS {X : Cx} {k : Nat} (hc : X.calm = true) (hr : Room k X.A) : Blt X "min" (kE oMinS) := ⟨_, _, cr_minS hc, c_minS, by decide +kernel⟩
end T3

end
section
set_option linter.all false
set_option autoImplicit false
set_option Elab.async false
set_option maxRecDepth 100000
namespace T3
open PySem PySem.Spec PySem.W L2 PyProof.Rows
variable [TabL]
theorem lst_core {X : Cx} {pins : List (Addr × Obj)} {s : Shared} {σ : L2.St} {H : Hp} {B : Mset} {Q : VK} {a : Addr} {ds : List PyData} (hc : X.calm = true) (I : Inv X pins σ H s) (S : DSrc X.K B H s.heap a ds)
    (q : ∀ (ys : List V) (p : Addr), RpA X.K B H ys ds → H p = none → Q (.ref p) (upd H p (.lst ys))) :
    wpAny (model X.prog X.w) X.A (call (.type "list") [.ref a]) (fun u s' => ∃ v H', Inv X pins σ H' s' ∧ L2.RelV v u ∧ Q v H') X.xe s := by
  obtain ⟨es, o, ep, lo, hz, ho, hx, hda, hks⟩ := S
  refine kdl_call (KdlSrc.rawDict (es := es.toArray) (ep := ep) lo) (I.ok.hd hc) ⟨o, ho, hx, hda⟩ (by simpa using hz) fun h' tk acc c hk hl hacc => ?_
  have el : acc.toList = es.map (·.key) := by
    apply List.ext_getElem?
    intro i
    obtain ⟨h1, h2⟩ := hacc
    by_cases hi : i < es.length
    · have hi' : i < acc.size := by rw [h1]; simpa using hi
      obtain ⟨_, e⟩ := h2 i acc[i] (Array.getElem?_eq_getElem hi')
      rw [Array.getElem?_toList, Array.getElem?_eq_getElem hi', e]
      simp [hi]
    · rw [Array.getElem?_toList, Array.getElem?_eq_none (by rw [h1]; simpa using hi)]
      simp [hi]
  obtain ⟨ys, ry, rp⟩ := vals_of (paired_keys hks)
  rw [← el] at ry
  have hlen : ys.length ≤ sizeLine := by rw [ry.length, el, List.length_map]; exact hz
  exact ⟨.ref s.heap.objs.size, upd H s.heap.objs.size (.lst ys), I.laid (t' := tk) hk (Nat.le_refl _) (show ObjOk X.prog X.w _ _ _ (.lst ys) from ⟨hlen, acc.toList, c, ry, by simpa using hl⟩), rfl, q ys _ rp (I.hok.fresh (Nat.le_refl _))⟩
def kLstD : KK := fun ds env => match ds with
  | [.var i] => match env[i]? with
    | some (some (.mu _ c)) => match keysOfCt c with
      | some xs => some (.tmp (.ls xs), env)
      | none => none
    | _ => none
  | _ => none
def rLstD (K : PySem.W.Frag) : List V → Hp → VK → Prop := fun vs H Q => ∃ (a : Addr) (B : Mset) (xs : List PyData), vs = [V.ref a] ∧ ((∃ z kvs, H a = some (DnO a z) ∧ DnR K B H z kvs ∧ xs = keysD kvs) ∨ ∃ ws kvs, H a = some (.dK ws) ∧ KvR K B H ws kvs ∧ xs = kvs.map fun q => keyD' q.1) ∧
  ∀ (ys : List V) (p : Addr), RpA K B H ys xs → H p = none → Q (.ref p) (upd H p (.lst ys))
theorem cr_lstD {X : Cx} (hc : X.calm = true) : CallR X (.type "list") (rLstD X.K) := by
  intro pins s σ H vs us Q I r h
  obtain ⟨a, B, xs, rfl, src, q⟩ := h
  rw [Vals.ref1 r]
  rcases src with ⟨z, kvs, h1, h2, rfl⟩ | ⟨ws, kvs, h1, h2, rfl⟩
  · obtain ⟨S⟩ := dn_src I h1 h2
    exact lst_core hc I S q
  · obtain ⟨S⟩ := dk_src I h1 h2
    exact lst_core hc I S q
theorem c_lstD {K : PySem.W.Frag} : Con K kLstD (rLstD K) := by
  intro σ H B env B1 H1 env1 vs ds d e2 Q en a rr hk q
  unfold kLstD at hk
  split at hk
  · rename_i i
    match vs, rr with
    | [v], rr =>
      split at hk
      · rename_i m c hi
        split at hk
        · rename_i xs hx
          cases hk
          obtain ⟨p, hσ, hB, ct⟩ := a.en.mu i _ _ hi
          have hv : v = .ref p := by
            have h1 : σ[i]? = some (some v) := rr.each 0 v _ rfl rfl
            rw [hσ] at h1
            cases h1
            rfl
          subst hv
          refine ⟨p, B1, xs, rfl, ?_, fun ys r g1 nr => con_new en a nr g1 q⟩
          cases c with
          | ls _ => cases hx
          | dn kvs =>
            cases hx
            obtain ⟨z, k1, k2⟩ := ct
            exact .inl ⟨z, kvs, k1, k2, rfl⟩
          | dk kvs =>
            cases hx
            obtain ⟨ws, k1, k2⟩ := ct
            exact .inr ⟨ws, kvs, k1, k2, rfl⟩
        · cases hk
      · cases hk
    | [], rr => have := rr.len; simp at this
    | _ :: _ :: _, rr => have := rr.len; simp at this
  · cases hk
theorem w_lstD {X : Cx} {k : Nat} (hc : X.calm = true) (hr : Room k X.A) : Bty X "list" kLstD := ⟨_, _, cr_lstD hc, c_lstD, by decide +kernel⟩
end T3

end
section
set_option linter.all false
set_option autoImplicit false
set_option Elab.async false
set_option maxRecDepth 100000
set_option maxHeartbeats 4000000
namespace L19
open PySem L2 T3
noncomputable section
variable [TabL]
-- CASES a0 l0 c0 k0 a1 l1 c1 k1 a2 l2 c2 k2 a3 l3 c3 k3 a4 l4 c4 k4 a5 l5 c5 k5 a6 l6 c6 k6 a7 l7 c7 k7 a8 l8 c8 k8 a9 l9 c9 k9 a10 l10 c10 k10 a11 l11 c11 k11 a12 l12 c12 k12 a13 l13 c13 k13 a14 l14 c14 k14 a15 l15 c15 k15 a16 l16 c16 k16 a17 l17 c17 k17 a18 l18 c18 k18 a19 l19 c19 k19 a20 l20 c20 k20 a21 l21 c21 k21 a22 l22 c22 k22 a23 l23 c23 k23 a24 l24 c24 k24 a25 l25 c25 k25 a26 l26 c26 k26 a27 l27 c27 k27 a28 l28 c28 k28 a29 l29 c29 k29 a30 l30 c30 k30 a31 l31 c31 k31 a32 l32 c32 k32 a33 l33 c33 k33 a34 l34 c34 k34 a35 l35 c35 k35 a36 l36 t36 db_u36 c36 k36 z_isinstance z_bool z_int z_len z_tuple z_all z_zip z_sorted z_max z_range z_min z_list z_repr ca_LAST_LINE cb_LAST_LINE ca_MOST_CELLS cb_MOST_CELLS ca_LYINGS cb_LYINGS ca_OPPOSITE_SUM cb_OPPOSITE_SUM ca_LETTERS cb_LETTERS ca_FACES cb_FACES da_STEPS dl_STEPS dk_STEPS db_STEPS db_kT
-- LEVEL 8
-- HOT 1
-- LAM marks_reached
def topS (i : Nat) : Stmt := PySem.Challenge.pw_tumblemarks_k19_marks_brought.main.body.getD i (.Pass ⟨0, 0, 0, 0⟩)
def v_LAST_LINE : PyData := (.int 3)
def v_MOST_CELLS : PyData := (.int 9)
def v_OPPOSITE_SUM : PyData := (.int 5)
def v_LETTERS : PyData := (.tuple [(.str "n"), (.str "e"), (.str "s"), (.str "w")])
def v_LYINGS : PyData := (.tuple [(.tuple [(.int 0), (.int 1), (.int 2)]), (.tuple [(.int 0), (.int 2), (.int 4)]), (.tuple [(.int 0), (.int 3), (.int 1)]), (.tuple [(.int 0), (.int 4), (.int 3)]), (.tuple [(.int 1), (.int 0), (.int 3)]), (.tuple [(.int 1), (.int 2), (.int 0)]), (.tuple [(.int 1), (.int 3), (.int 5)]), (.tuple [(.int 1), (.int 5), (.int 2)]), (.tuple [(.int 2), (.int 0), (.int 1)]), (.tuple [(.int 2), (.int 1), (.int 5)]), (.tuple [(.int 2), (.int 4), (.int 0)]), (.tuple [(.int 2), (.int 5), (.int 4)]), (.tuple [(.int 3), (.int 0), (.int 4)]), (.tuple [(.int 3), (.int 1), (.int 0)]), (.tuple [(.int 3), (.int 4), (.int 5)]), (.tuple [(.int 3), (.int 5), (.int 1)]), (.tuple [(.int 4), (.int 0), (.int 2)]), (.tuple [(.int 4), (.int 2), (.int 5)]), (.tuple [(.int 4), (.int 3), (.int 0)]), (.tuple [(.int 4), (.int 5), (.int 3)]), (.tuple [(.int 5), (.int 1), (.int 3)]), (.tuple [(.int 5), (.int 2), (.int 1)]), (.tuple [(.int 5), (.int 3), (.int 4)]), (.tuple [(.int 5), (.int 4), (.int 2)])])
def v_FACES : PyData := (.int 6)
def v_STEPS : List (Str × PyData) := [("n", (.tuple [(.int 0), (.int 1)])), ("e", (.tuple [(.int 1), (.int 0)])), ("s", (.tuple [(.int 0), (.int (-1))])), ("w", (.tuple [(.int (-1)), (.int 0)]))]
abbrev s_is_whole : Stmt := topS 12
abbrev N_is_whole : List Str := ["thing", "most"]
theorem sc_is_whole : FnScope N_is_whole ["thing", "most"] (defScope s_is_whole) := ⟨rfl, rfl, rfl, by decide +kernel, rfl, by decide +kernel, by decide +kernel⟩
def m_is_whole : SS := (sRet (eB (bAnd (bT (eThen (eOne (eVar 0)) (kE (oIsiZ .int)))) (bAnd (bNot (bT (eThen (eOne (eVar 0)) (kE (oIsiZ .bool))))) (bT (eCh (Cm.f .le) (Cm.f .le) (eC (.int 0)) (eVar 0) (eVar 1)))))))
def f_is_whole : FnD := runFn 2 m_is_whole
theorem p_is_whole {P : Program} {w : World} {K : PySem.W.Frag} {mg : Str → Option Value} {base : Heap} (at_ : At0 K mg "is_whole" s_is_whole ["thing", "most"]) (z_isinstance : mg "isinstance" = none) (z_bool : mg "bool" = none) (z_int : mg "int" = none) : Has P w K mg base "is_whole" 2 f_is_whole 1 := by
  have nd := sc_is_whole.nd
  refine has_of (b := m_is_whole) (N := N_is_whole) (k := 0) at_ sc_is_whole rfl fun f cdv A outer s H E hr => ?_
  exact (ss_one (s_ret (e_and (e_bool (e_isiZ .int (e_var (pv 0)) (by rfl) z_isinstance (by rfl) z_int (by decide +kernel))) (e_and (e_not (e_bool (e_isiZ .bool (e_var (pv 0)) (by rfl) z_isinstance (by rfl) z_bool (by decide +kernel)))) (e_and1 (e_chain .le .le k_int (e_var (pv 0)) (e_var (pv 1))))))))
abbrev s_is_cell : Stmt := topS 13
abbrev N_is_cell : List Str := ["thing", "column", "line"]
theorem sc_is_cell : FnScope N_is_cell ["thing"] (defScope s_is_cell) := ⟨rfl, rfl, rfl, by decide +kernel, rfl, by decide +kernel, by decide +kernel⟩
def m_is_cell : SS := (sSeq (sIf (bOr (bNot (bT (eThen (eOne (eVar 0)) (kE (oIsiZ .tuple))))) (bT (eNe (eThen (eCons (eVar 0) eNil) (kE oLen)) (eC (.int 2))))) (sRet (eC (.bool false))) sPass)
  (sSeq (sAsg (eVar 0) (gT 2 (gCn (gN 1) (gCn (gN 2) gNl))))
  (sRet (eB (bAnd (bT (eCall f_is_whole (eCons (eVar 1) (eCons (eC v_LAST_LINE) eNil)))) (bT (eCall f_is_whole (eCons (eVar 2) (eCons (eC v_LAST_LINE) eNil)))))))))
def f_is_cell : FnD := runFn 3 m_is_cell
theorem p_is_cell {P : Program} {w : World} {K : PySem.W.Frag} {mg : Str → Option Value} {base : Heap} (at_ : At0 K mg "is_cell" s_is_cell ["thing"]) (h_is_whole : Has P w K mg base "is_whole" 2 f_is_whole 1) (z_len : mg "len" = none) (z_isinstance : mg "isinstance" = none) (z_tuple : mg "tuple" = none) (c_LAST_LINE : KC K mg "LAST_LINE" v_LAST_LINE) : Has P w K mg base "is_cell" 1 f_is_cell 2 := by
  have nd := sc_is_cell.nd
  refine has_of (b := m_is_cell) (N := N_is_cell) (k := 1) at_ sc_is_cell rfl fun f cdv A outer s H E hr => ?_
  exact (ss_cons (s_if (PW.pt (b_or (b_not (b_truth (e_isiZ .tuple (e_var (pv 0)) (by rfl) z_isinstance (by rfl) z_tuple (by decide +kernel)))) (b_or1 (y_cmp (q_ne hr) (x_blt (w_len rfl hr) z_len (a_cons (e_var (pv 0)) a_nil)) k_int)))) (ss_one (s_ret k_bl)) ss_nil)
    (ss_cons (s_asg (e_var (pv 0)) (g_tup rfl (gs_cons (g_name (i := 1) nd rfl (.inl rfl)) (gs_cons (g_name (i := 2) nd rfl (.inl rfl)) gs_nil))))
    (ss_one (s_ret (e_and (e_bool (e_fn h_is_whole (hr.mono (by decide)) (lenA_cons (lenA_cons lenA_nil)) (a_cons (e_var (pv 1)) (a_cons (e_glob c_LAST_LINE) a_nil)))) (e_and1 (e_fn h_is_whole (hr.mono (by decide)) (lenA_cons (lenA_cons lenA_nil)) (a_cons (e_var (pv 2)) (a_cons (e_glob c_LAST_LINE) a_nil)))))))))
abbrev s_is_rising : Stmt := topS 14
abbrev N_is_rising : List Str := ["things", "one", "other"]
theorem sc_is_rising : FnScope N_is_rising ["things"] (defScope s_is_rising) := ⟨rfl, rfl, rfl, by decide +kernel, rfl, by decide +kernel, by decide +kernel⟩
def m_is_rising : SS := (sRet (eThen (eCons (eLc (iZt (eCons (eVar 0) (eCons (eSl (eVar 0) (oSome (eC (.int 1))) oNo) eNil))) (gT 2 (gCn (gN 1) (gCn (gN 2) gNl))) bYes (eLt (eVar 1) (eVar 2)) [1, 2]) eNil) (kE oAll)))
def f_is_rising : FnD := runFn 3 m_is_rising
theorem p_is_rising {P : Program} {w : World} {K : PySem.W.Frag} {mg : Str → Option Value} {base : Heap} (at_ : At0 K mg "is_rising" s_is_rising ["things"]) (z_all : mg "all" = none) (z_zip : mg "zip" = none) : Has P w K mg base "is_rising" 1 f_is_rising 1 := by
  have nd := sc_is_rising.nd
  refine has_of (b := m_is_rising) (N := N_is_rising) (k := 0) at_ sc_is_rising rfl fun f cdv A outer s H E hr => ?_
  exact (ss_one (s_ret (x_blt (w_all rfl hr) z_all (a_cons (x_lc [("one", 1), ("other", 2)] rfl nd rfl (i_zip (by rfl) z_zip (a_cons (e_var (pv 0)) (a_cons (e_sl (e_var (pv 0)) (o_some k_int) o_no) a_nil))) (blkOk_by (N := N_is_rising) (sc := defScope s_is_rising) (by decide +kernel)) (only_gT (only_gCn (only_gN (by decide)) (only_gCn (only_gN (by decide)) only_gNl))) (fun _ _ _ _ _ => (v_tup rfl (vs_cons (v_name (i := 1) (by decide) nd rfl (.inl rfl)) (vs_cons (v_name (i := 2) (by decide) nd rfl (.inl rfl)) vs_nil)))) (fun _ _ _ _ _ => ts_yes) (fun _ _ _ _ _ => (x_cmp (q_lt hr) (e_var (pv 1)) (e_var (pv 2))))) a_nil))))
abbrev s_is_floor : Stmt := topS 15
abbrev N_is_floor : List Str := ["thing", "part"]
theorem sc_is_floor : FnScope N_is_floor ["thing"] (defScope s_is_floor) := ⟨rfl, rfl, rfl, by decide +kernel, rfl, by decide +kernel, by decide +kernel⟩
def m_is_floor : SS := (sSeq (sIf (bOr (bNot (bT (eThen (eOne (eVar 0)) (kE (oIsiZ .tuple))))) (bNot (bT (eCh (Cm.f .le) (Cm.f .le) (eC (.int 1)) (eThen (eCons (eVar 0) eNil) (kE oLen)) (eC v_MOST_CELLS))))) (sRet (eC (.bool false))) sPass)
  (sRet (eB (bAnd (bT (eThen (eCons (eLc (iSeq (eVar 0)) (gN 1) bYes (eCall f_is_cell (eCons (eVar 1) eNil)) [1]) eNil) (kE oAll))) (bT (eCall f_is_rising (eCons (eVar 0) eNil)))))))
def f_is_floor : FnD := runFn 2 m_is_floor
theorem p_is_floor {P : Program} {w : World} {K : PySem.W.Frag} {mg : Str → Option Value} {base : Heap} (at_ : At0 K mg "is_floor" s_is_floor ["thing"]) (h_is_rising : Has P w K mg base "is_rising" 1 f_is_rising 1) (h_is_cell : Has P w K mg base "is_cell" 1 f_is_cell 2) (z_len : mg "len" = none) (z_isinstance : mg "isinstance" = none) (z_tuple : mg "tuple" = none) (z_all : mg "all" = none) (c_MOST_CELLS : KC K mg "MOST_CELLS" v_MOST_CELLS) : Has P w K mg base "is_floor" 1 f_is_floor 3 := by
  have nd := sc_is_floor.nd
  refine has_of (b := m_is_floor) (N := N_is_floor) (k := 2) at_ sc_is_floor rfl fun f cdv A outer s H E hr => ?_
  exact (ss_cons (s_if (PW.pt (b_or (b_not (b_truth (e_isiZ .tuple (e_var (pv 0)) (by rfl) z_isinstance (by rfl) z_tuple (by decide +kernel)))) (b_or1 (b_not (b_chain .le .le k_int (x_blt (w_len rfl hr) z_len (a_cons (e_var (pv 0)) a_nil)) (e_glob c_MOST_CELLS)))))) (ss_one (s_ret k_bl)) ss_nil)
    (ss_one (s_ret (e_and (e_bool (x_blt (w_all rfl hr) z_all (a_cons (x_lc [("part", 1)] rfl nd rfl (i_seq (e_var (pv 0))) (blkOk_by (N := N_is_floor) (sc := defScope s_is_floor) (by decide +kernel)) (only_gN (by decide)) (fun _ _ _ _ _ => (v_name (i := 1) (by decide) nd rfl (.inl rfl))) (fun _ _ _ _ _ => ts_yes) (fun _ _ _ _ _ => (e_fn h_is_cell (hr.mono (by decide)) (lenA_cons lenA_nil) (a_cons (e_var (pv 1)) a_nil)))) a_nil))) (e_and1 (e_fn h_is_rising (hr.mono (by decide)) (lenA_cons lenA_nil) (a_cons (e_var (pv 0)) a_nil)))))))
abbrev s_is_cell_of : Stmt := topS 16
abbrev N_is_cell_of : List Str := ["floor", "thing"]
theorem sc_is_cell_of : FnScope N_is_cell_of ["floor", "thing"] (defScope s_is_cell_of) := ⟨rfl, rfl, rfl, by decide +kernel, rfl, by decide +kernel, by decide +kernel⟩
def m_is_cell_of : SS := (sRet (eB (bAnd (bT (eCall f_is_cell (eCons (eVar 1) eNil))) (bT (eIn (eVar 1) (eVar 0))))))
def f_is_cell_of : FnD := runFn 2 m_is_cell_of
theorem p_is_cell_of {P : Program} {w : World} {K : PySem.W.Frag} {mg : Str → Option Value} {base : Heap} (at_ : At0 K mg "is_cell_of" s_is_cell_of ["floor", "thing"]) (h_is_cell : Has P w K mg base "is_cell" 1 f_is_cell 2) : Has P w K mg base "is_cell_of" 2 f_is_cell_of 3 := by
  have nd := sc_is_cell_of.nd
  refine has_of (b := m_is_cell_of) (N := N_is_cell_of) (k := 2) at_ sc_is_cell_of rfl fun f cdv A outer s H E hr => ?_
  exact (ss_one (s_ret (e_and (e_bool (e_fn h_is_cell (hr.mono (by decide)) (lenA_cons lenA_nil) (a_cons (e_var (pv 1)) a_nil))) (e_and1 (x_cmp (q_in hr) (e_var (pv 1)) (e_var (pv 0)))))))
abbrev s_is_lying : Stmt := topS 17
abbrev N_is_lying : List Str := ["thing", "face"]
theorem sc_is_lying : FnScope N_is_lying ["thing"] (defScope s_is_lying) := ⟨rfl, rfl, rfl, by decide +kernel, rfl, by decide +kernel, by decide +kernel⟩
def m_is_lying : SS := (sSeq (sIf (bNot (bT (eThen (eOne (eVar 0)) (kE (oIsiZ .tuple))))) (sRet (eC (.bool false))) sPass)
  (sRet (eB (bAnd (bT (eThen (eCons (eLc (iSeq (eVar 0)) (gN 1) bYes (eCall f_is_whole (eCons (eVar 1) (eCons (eC v_OPPOSITE_SUM) eNil))) [1]) eNil) (kE oAll))) (bT (eIn (eVar 0) (eC v_LYINGS)))))))
def f_is_lying : FnD := runFn 2 m_is_lying
theorem p_is_lying {P : Program} {w : World} {K : PySem.W.Frag} {mg : Str → Option Value} {base : Heap} (at_ : At0 K mg "is_lying" s_is_lying ["thing"]) (h_is_whole : Has P w K mg base "is_whole" 2 f_is_whole 1) (z_isinstance : mg "isinstance" = none) (z_tuple : mg "tuple" = none) (z_all : mg "all" = none) (c_LYINGS : KC K mg "LYINGS" v_LYINGS) (c_OPPOSITE_SUM : KC K mg "OPPOSITE_SUM" v_OPPOSITE_SUM) : Has P w K mg base "is_lying" 1 f_is_lying 2 := by
  have nd := sc_is_lying.nd
  refine has_of (b := m_is_lying) (N := N_is_lying) (k := 1) at_ sc_is_lying rfl fun f cdv A outer s H E hr => ?_
  exact (ss_cons (s_if (b_not (b_truth (e_isiZ .tuple (e_var (pv 0)) (by rfl) z_isinstance (by rfl) z_tuple (by decide +kernel)))) (ss_one (s_ret k_bl)) ss_nil)
    (ss_one (s_ret (e_and (e_bool (x_blt (w_all rfl hr) z_all (a_cons (x_lc [("face", 1)] rfl nd rfl (i_seq (e_var (pv 0))) (blkOk_by (N := N_is_lying) (sc := defScope s_is_lying) (by decide +kernel)) (only_gN (by decide)) (fun _ _ _ _ _ => (v_name (i := 1) (by decide) nd rfl (.inl rfl))) (fun _ _ _ _ _ => ts_yes) (fun _ _ _ _ _ => (e_fn h_is_whole (hr.mono (by decide)) (lenA_cons (lenA_cons lenA_nil)) (a_cons (e_var (pv 1)) (a_cons (e_glob c_OPPOSITE_SUM) a_nil))))) a_nil))) (e_and1 (x_cmp (q_in hr) (e_var (pv 0)) (e_glob c_LYINGS)))))))
abbrev s_is_stand : Stmt := topS 18
abbrev N_is_stand : List Str := ["floor", "thing", "cell", "lying"]
theorem sc_is_stand : FnScope N_is_stand ["floor", "thing"] (defScope s_is_stand) := ⟨rfl, rfl, rfl, by decide +kernel, rfl, by decide +kernel, by decide +kernel⟩
def m_is_stand : SS := (sSeq (sIf (bOr (bNot (bT (eThen (eOne (eVar 1)) (kE (oIsiZ .tuple))))) (bT (eNe (eThen (eCons (eVar 1) eNil) (kE oLen)) (eC (.int 2))))) (sRet (eC (.bool false))) sPass)
  (sSeq (sAsg (eVar 1) (gT 2 (gCn (gN 2) (gCn (gN 3) gNl))))
  (sRet (eB (bAnd (bT (eCall f_is_cell_of (eCons (eVar 0) (eCons (eVar 2) eNil)))) (bT (eCall f_is_lying (eCons (eVar 3) eNil))))))))
def f_is_stand : FnD := runFn 4 m_is_stand
theorem p_is_stand {P : Program} {w : World} {K : PySem.W.Frag} {mg : Str → Option Value} {base : Heap} (at_ : At0 K mg "is_stand" s_is_stand ["floor", "thing"]) (h_is_lying : Has P w K mg base "is_lying" 1 f_is_lying 2) (h_is_cell_of : Has P w K mg base "is_cell_of" 2 f_is_cell_of 3) (z_len : mg "len" = none) (z_isinstance : mg "isinstance" = none) (z_tuple : mg "tuple" = none) : Has P w K mg base "is_stand" 2 f_is_stand 4 := by
  have nd := sc_is_stand.nd
  refine has_of (b := m_is_stand) (N := N_is_stand) (k := 3) at_ sc_is_stand rfl fun f cdv A outer s H E hr => ?_
  exact (ss_cons (s_if (PW.pt (b_or (b_not (b_truth (e_isiZ .tuple (e_var (pv 1)) (by rfl) z_isinstance (by rfl) z_tuple (by decide +kernel)))) (b_or1 (y_cmp (q_ne hr) (x_blt (w_len rfl hr) z_len (a_cons (e_var (pv 1)) a_nil)) k_int)))) (ss_one (s_ret k_bl)) ss_nil)
    (ss_cons (s_asg (e_var (pv 1)) (g_tup rfl (gs_cons (g_name (i := 2) nd rfl (.inl rfl)) (gs_cons (g_name (i := 3) nd rfl (.inl rfl)) gs_nil))))
    (ss_one (s_ret (e_and (e_bool (e_fn h_is_cell_of (hr.mono (by decide)) (lenA_cons (lenA_cons lenA_nil)) (a_cons (e_var (pv 0)) (a_cons (e_var (pv 2)) a_nil)))) (e_and1 (e_fn h_is_lying (hr.mono (by decide)) (lenA_cons lenA_nil) (a_cons (e_var (pv 3)) a_nil))))))))
abbrev s_need_floor : Stmt := topS 19
abbrev N_need_floor : List Str := ["floor"]
theorem sc_need_floor : FnScope N_need_floor ["floor"] (defScope s_need_floor) := ⟨rfl, rfl, rfl, by decide +kernel, rfl, by decide +kernel, by decide +kernel⟩
def m_need_floor : SS := (sIf (bNot (bT (eCall f_is_floor (eCons (eVar 0) eNil)))) sNever sPass)
def f_need_floor : FnD := runFn 1 m_need_floor
theorem p_need_floor {P : Program} {w : World} {K : PySem.W.Frag} {mg : Str → Option Value} {base : Heap} (at_ : At0 K mg "need_floor" s_need_floor ["floor"]) (h_is_floor : Has P w K mg base "is_floor" 1 f_is_floor 3) : Has P w K mg base "need_floor" 1 f_need_floor 4 := by
  have nd := sc_need_floor.nd
  refine has_of (b := m_need_floor) (N := N_need_floor) (k := 3) at_ sc_need_floor rfl fun f cdv A outer s H E hr => ?_
  exact (ss_one (s_if (b_not (b_truth (e_fn h_is_floor (hr.mono (by decide)) (lenA_cons lenA_nil) (a_cons (e_var (pv 0)) a_nil)))) (ss_one s_never) ss_nil))
abbrev s_need_stand : Stmt := topS 20
abbrev N_need_stand : List Str := ["floor", "stand"]
theorem sc_need_stand : FnScope N_need_stand ["floor", "stand"] (defScope s_need_stand) := ⟨rfl, rfl, rfl, by decide +kernel, rfl, by decide +kernel, by decide +kernel⟩
def m_need_stand : SS := (sIf (bNot (bT (eCall f_is_stand (eCons (eVar 0) (eCons (eVar 1) eNil))))) sNever sPass)
def f_need_stand : FnD := runFn 2 m_need_stand
theorem p_need_stand {P : Program} {w : World} {K : PySem.W.Frag} {mg : Str → Option Value} {base : Heap} (at_ : At0 K mg "need_stand" s_need_stand ["floor", "stand"]) (h_is_stand : Has P w K mg base "is_stand" 2 f_is_stand 4) : Has P w K mg base "need_stand" 2 f_need_stand 5 := by
  have nd := sc_need_stand.nd
  refine has_of (b := m_need_stand) (N := N_need_stand) (k := 4) at_ sc_need_stand rfl fun f cdv A outer s H E hr => ?_
  exact (ss_one (s_if (b_not (b_truth (e_fn h_is_stand (hr.mono (by decide)) (lenA_cons (lenA_cons lenA_nil)) (a_cons (e_var (pv 0)) (a_cons (e_var (pv 1)) a_nil))))) (ss_one s_never) ss_nil))
abbrev s_rolled_cell : Stmt := topS 21
abbrev N_rolled_cell : List Str := ["cell", "letter", "column", "line", "eastward", "northward"]
theorem sc_rolled_cell : FnScope N_rolled_cell ["cell", "letter"] (defScope s_rolled_cell) := ⟨rfl, rfl, rfl, by decide +kernel, rfl, by decide +kernel, by decide +kernel⟩
def m_rolled_cell : SS := (sSeq (sAsg (eVar 0) (gT 2 (gCn (gN 2) (gCn (gN 3) gNl))))
  (sSeq (sAsg (eKd v_STEPS (eVar 1)) (gT 2 (gCn (gN 4) (gCn (gN 5) gNl))))
  (sRet (eThen (eCons (eAdd (eVar 2) (eVar 4)) (eCons (eAdd (eVar 3) (eVar 5)) eNil)) kTup))))
def f_rolled_cell : FnD := runFn 6 m_rolled_cell
theorem p_rolled_cell {P : Program} {w : World} {K : PySem.W.Frag} {mg : Str → Option Value} {base : Heap} (at_ : At0 K mg "rolled_cell" s_rolled_cell ["cell", "letter"]) (d_STEPS : KD K w mg "STEPS" v_STEPS) : Has P w K mg base "rolled_cell" 2 f_rolled_cell 1 := by
  have nd := sc_rolled_cell.nd
  refine has_of (b := m_rolled_cell) (N := N_rolled_cell) (k := 0) at_ sc_rolled_cell rfl fun f cdv A outer s H E hr => ?_
  exact (ss_cons (s_asg (e_var (pv 0)) (g_tup rfl (gs_cons (g_name (i := 2) nd rfl (.inl rfl)) (gs_cons (g_name (i := 3) nd rfl (.inl rfl)) gs_nil))))
    (ss_cons (s_asg (e_kdn d_STEPS (e_var (pv 1))) (g_tup rfl (gs_cons (g_name (i := 4) nd rfl (.inl rfl)) (gs_cons (g_name (i := 5) nd rfl (.inl rfl)) gs_nil))))
    (ss_one (s_ret (e_tup (a_cons (x_add (e_var (pv 2)) (e_var (pv 4))) (a_cons (x_add (e_var (pv 3)) (e_var (pv 5))) a_nil)))))))
abbrev s_rolled_lying : Stmt := topS 22
abbrev N_rolled_lying : List Str := ["lying", "letter", "low", "north", "east"]
theorem sc_rolled_lying : FnScope N_rolled_lying ["lying", "letter"] (defScope s_rolled_lying) := ⟨rfl, rfl, rfl, by decide +kernel, rfl, by decide +kernel, by decide +kernel⟩
def m_rolled_lying : SS := (sSeq (sAsg (eVar 0) (gT 3 (gCn (gN 2) (gCn (gN 3) (gCn (gN 4) gNl)))))
  (sSeq (sIf (bT (eEq (eVar 1) (eC (.str "n")))) (sRet (eThen (eCons (eVar 3) (eCons (eSub (eC v_OPPOSITE_SUM) (eVar 2)) (eCons (eVar 4) eNil))) kTup)) sPass)
  (sSeq (sIf (bT (eEq (eVar 1) (eC (.str "s")))) (sRet (eThen (eCons (eSub (eC v_OPPOSITE_SUM) (eVar 3)) (eCons (eVar 2) (eCons (eVar 4) eNil))) kTup)) sPass)
  (sSeq (sIf (bT (eEq (eVar 1) (eC (.str "e")))) (sRet (eThen (eCons (eVar 4) (eCons (eVar 3) (eCons (eSub (eC v_OPPOSITE_SUM) (eVar 2)) eNil))) kTup)) sPass)
  (sRet (eThen (eCons (eSub (eC v_OPPOSITE_SUM) (eVar 4)) (eCons (eVar 3) (eCons (eVar 2) eNil))) kTup))))))
def f_rolled_lying : FnD := runFn 5 m_rolled_lying
theorem p_rolled_lying {P : Program} {w : World} {K : PySem.W.Frag} {mg : Str → Option Value} {base : Heap} (at_ : At0 K mg "rolled_lying" s_rolled_lying ["lying", "letter"]) (c_OPPOSITE_SUM : KC K mg "OPPOSITE_SUM" v_OPPOSITE_SUM) : Has P w K mg base "rolled_lying" 2 f_rolled_lying 1 := by
  have nd := sc_rolled_lying.nd
  refine has_of (b := m_rolled_lying) (N := N_rolled_lying) (k := 0) at_ sc_rolled_lying rfl fun f cdv A outer s H E hr => ?_
  exact (ss_cons (s_asg (e_var (pv 0)) (g_tup rfl (gs_cons (g_name (i := 2) nd rfl (.inl rfl)) (gs_cons (g_name (i := 3) nd rfl (.inl rfl)) (gs_cons (g_name (i := 4) nd rfl (.inl rfl)) gs_nil)))))
    (ss_cons (s_if (y_cmp (q_eq hr) (e_var (pv 1)) k_str) (ss_one (s_ret (e_tup (a_cons (e_var (pv 3)) (a_cons (x_sub (e_glob c_OPPOSITE_SUM) (e_var (pv 2))) (a_cons (e_var (pv 4)) a_nil)))))) ss_nil)
    (ss_cons (s_if (y_cmp (q_eq hr) (e_var (pv 1)) k_str) (ss_one (s_ret (e_tup (a_cons (x_sub (e_glob c_OPPOSITE_SUM) (e_var (pv 3))) (a_cons (e_var (pv 2)) (a_cons (e_var (pv 4)) a_nil)))))) ss_nil)
    (ss_cons (s_if (y_cmp (q_eq hr) (e_var (pv 1)) k_str) (ss_one (s_ret (e_tup (a_cons (e_var (pv 4)) (a_cons (e_var (pv 3)) (a_cons (x_sub (e_glob c_OPPOSITE_SUM) (e_var (pv 2))) a_nil)))))) ss_nil)
    (ss_one (s_ret (e_tup (a_cons (x_sub (e_glob c_OPPOSITE_SUM) (e_var (pv 4))) (a_cons (e_var (pv 3)) (a_cons (e_var (pv 2)) a_nil))))))))))
abbrev s_rolled_stand : Stmt := topS 23
abbrev N_rolled_stand : List Str := ["stand", "letter", "cell", "lying"]
theorem sc_rolled_stand : FnScope N_rolled_stand ["stand", "letter"] (defScope s_rolled_stand) := ⟨rfl, rfl, rfl, by decide +kernel, rfl, by decide +kernel, by decide +kernel⟩
def m_rolled_stand : SS := (sSeq (sAsg (eVar 0) (gT 2 (gCn (gN 2) (gCn (gN 3) gNl))))
  (sRet (eThen (eCons (eCall f_rolled_cell (eCons (eVar 2) (eCons (eVar 1) eNil))) (eCons (eCall f_rolled_lying (eCons (eVar 3) (eCons (eVar 1) eNil))) eNil)) kTup)))
def f_rolled_stand : FnD := runFn 4 m_rolled_stand
theorem p_rolled_stand {P : Program} {w : World} {K : PySem.W.Frag} {mg : Str → Option Value} {base : Heap} (at_ : At0 K mg "rolled_stand" s_rolled_stand ["stand", "letter"]) (h_rolled_lying : Has P w K mg base "rolled_lying" 2 f_rolled_lying 1) (h_rolled_cell : Has P w K mg base "rolled_cell" 2 f_rolled_cell 1) : Has P w K mg base "rolled_stand" 2 f_rolled_stand 2 := by
  have nd := sc_rolled_stand.nd
  refine has_of (b := m_rolled_stand) (N := N_rolled_stand) (k := 1) at_ sc_rolled_stand rfl fun f cdv A outer s H E hr => ?_
  exact (ss_cons (s_asg (e_var (pv 0)) (g_tup rfl (gs_cons (g_name (i := 2) nd rfl (.inl rfl)) (gs_cons (g_name (i := 3) nd rfl (.inl rfl)) gs_nil))))
    (ss_one (s_ret (e_tup (a_cons (e_fn h_rolled_cell (hr.mono (by decide)) (lenA_cons (lenA_cons lenA_nil)) (a_cons (e_var (pv 2)) (a_cons (e_var (pv 1)) a_nil))) (a_cons (e_fn h_rolled_lying (hr.mono (by decide)) (lenA_cons (lenA_cons lenA_nil)) (a_cons (e_var (pv 3)) (a_cons (e_var (pv 1)) a_nil))) a_nil))))))
abbrev s_let_letters : Stmt := topS 24
abbrev N_let_letters : List Str := ["floor", "cell", "letter"]
theorem sc_let_letters : FnScope N_let_letters ["floor", "cell"] (defScope s_let_letters) := ⟨rfl, rfl, rfl, by decide +kernel, rfl, by decide +kernel, by decide +kernel⟩
def m_let_letters : SS := (sRet (eLc (iSeq (eThen (eCons (eC v_LETTERS) eNil) kSrtL)) (gN 2) (bT (eIn (eCall f_rolled_cell (eCons (eVar 1) (eCons (eVar 2) eNil))) (eVar 0))) (eVar 2) [2]))
def f_let_letters : FnD := runFn 3 m_let_letters
theorem p_let_letters {P : Program} {w : World} {K : PySem.W.Frag} {mg : Str → Option Value} {base : Heap} (at_ : At0 K mg "let_letters" s_let_letters ["floor", "cell"]) (h_rolled_cell : Has P w K mg base "rolled_cell" 2 f_rolled_cell 1) (z_sorted : mg "sorted" = none) (c_LETTERS : KC K mg "LETTERS" v_LETTERS) : Has P w K mg base "let_letters" 2 f_let_letters 2 := by
  have nd := sc_let_letters.nd
  refine has_of (b := m_let_letters) (N := N_let_letters) (k := 1) at_ sc_let_letters rfl fun f cdv A outer s H E hr => ?_
  exact (ss_one (s_ret (x_lc [("letter", 2)] rfl nd rfl (i_seq (x_blt w_srtL z_sorted (a_cons (e_glob c_LETTERS) a_nil))) (blkOk_by (N := N_let_letters) (sc := defScope s_let_letters) (by decide +kernel)) (only_gN (by decide)) (fun _ _ _ _ _ => (v_name (i := 2) (by decide) nd rfl (.inl rfl))) (fun _ _ _ _ _ => (ts_one (y_cmp (q_in hr) (e_fn h_rolled_cell (hr.mono (by decide)) (lenA_cons (lenA_cons lenA_nil)) (a_cons (e_var (pv 1)) (a_cons (e_var (pv 2)) a_nil))) (e_var (pv 0))))) (fun _ _ _ _ _ => (e_var (pv 2))))))
abbrev s_spot_of_cell : Stmt := topS 27
abbrev N_spot_of_cell : List Str := ["floor", "cell"]
theorem sc_spot_of_cell : FnScope N_spot_of_cell ["floor", "cell"] (defScope s_spot_of_cell) := ⟨rfl, rfl, rfl, by decide +kernel, rfl, by decide +kernel, by decide +kernel⟩
def m_spot_of_cell : SS := (sRet (eAdd (eC v_FACES) (eBM isNt (eVar 0) (eCons (eVar 1) eNil) kIxT)))
def f_spot_of_cell : FnD := runFn 2 m_spot_of_cell
theorem p_spot_of_cell {P : Program} {w : World} {K : PySem.W.Frag} {mg : Str → Option Value} {base : Heap} (at_ : At0 K mg "spot_of_cell" s_spot_of_cell ["floor", "cell"]) (c_FACES : KC K mg "FACES" v_FACES) : Has P w K mg base "spot_of_cell" 2 f_spot_of_cell 1 := by
  have nd := sc_spot_of_cell.nd
  refine has_of (b := m_spot_of_cell) (N := N_spot_of_cell) (k := 0) at_ sc_spot_of_cell rfl fun f cdv A outer s H E hr => ?_
  exact (ss_one (s_ret (x_add (e_glob c_FACES) (e_tix (u65 hr) (e_var (pv 0)) (a_cons (e_var (pv 1)) a_nil)))))
abbrev s_is_spot : Stmt := topS 28
abbrev N_is_spot : List Str := ["floor", "thing"]
theorem sc_is_spot : FnScope N_is_spot ["floor", "thing"] (defScope s_is_spot) := ⟨rfl, rfl, rfl, by decide +kernel, rfl, by decide +kernel, by decide +kernel⟩
def m_is_spot : SS := (sRet (eCall f_is_whole (eCons (eVar 1) (eCons (eSub (eAdd (eC v_FACES) (eThen (eCons (eVar 0) eNil) (kE oLen))) (eC (.int 1))) eNil))))
def f_is_spot : FnD := runFn 2 m_is_spot
theorem p_is_spot {P : Program} {w : World} {K : PySem.W.Frag} {mg : Str → Option Value} {base : Heap} (at_ : At0 K mg "is_spot" s_is_spot ["floor", "thing"]) (h_is_whole : Has P w K mg base "is_whole" 2 f_is_whole 1) (z_len : mg "len" = none) (c_FACES : KC K mg "FACES" v_FACES) : Has P w K mg base "is_spot" 2 f_is_spot 2 := by
  have nd := sc_is_spot.nd
  refine has_of (b := m_is_spot) (N := N_is_spot) (k := 1) at_ sc_is_spot rfl fun f cdv A outer s H E hr => ?_
  exact (ss_one (s_ret (e_fn h_is_whole (hr.mono (by decide)) (lenA_cons (lenA_cons lenA_nil)) (a_cons (e_var (pv 1)) (a_cons (x_sub (x_add (e_glob c_FACES) (x_blt (w_len rfl hr) z_len (a_cons (e_var (pv 0)) a_nil))) k_int) a_nil)))))
abbrev s_need_spot : Stmt := topS 29
abbrev N_need_spot : List Str := ["floor", "spot"]
theorem sc_need_spot : FnScope N_need_spot ["floor", "spot"] (defScope s_need_spot) := ⟨rfl, rfl, rfl, by decide +kernel, rfl, by decide +kernel, by decide +kernel⟩
def m_need_spot : SS := (sIf (bNot (bT (eCall f_is_spot (eCons (eVar 0) (eCons (eVar 1) eNil))))) sNever sPass)
def f_need_spot : FnD := runFn 2 m_need_spot
theorem p_need_spot {P : Program} {w : World} {K : PySem.W.Frag} {mg : Str → Option Value} {base : Heap} (at_ : At0 K mg "need_spot" s_need_spot ["floor", "spot"]) (h_is_spot : Has P w K mg base "is_spot" 2 f_is_spot 2) : Has P w K mg base "need_spot" 2 f_need_spot 3 := by
  have nd := sc_need_spot.nd
  refine has_of (b := m_need_spot) (N := N_need_spot) (k := 2) at_ sc_need_spot rfl fun f cdv A outer s H E hr => ?_
  exact (ss_one (s_if (b_not (b_truth (e_fn h_is_spot (hr.mono (by decide)) (lenA_cons (lenA_cons lenA_nil)) (a_cons (e_var (pv 0)) (a_cons (e_var (pv 1)) a_nil))))) (ss_one s_never) ss_nil))
abbrev s_trade_at : Stmt := topS 30
abbrev N_trade_at : List Str := ["floor", "stand", "cell", "lying"]
theorem sc_trade_at : FnScope N_trade_at ["floor", "stand"] (defScope s_trade_at) := ⟨rfl, rfl, rfl, by decide +kernel, rfl, by decide +kernel, by decide +kernel⟩
def m_trade_at : SS := (sSeq (sAsg (eVar 1) (gT 2 (gCn (gN 2) (gCn (gN 3) gNl))))
  (sRet (eThen (eCons (eIx (eVar 3) (eC (.int 0))) (eCons (eCall f_spot_of_cell (eCons (eVar 0) (eCons (eVar 2) eNil))) eNil)) kTup)))
def f_trade_at : FnD := runFn 4 m_trade_at
theorem p_trade_at {P : Program} {w : World} {K : PySem.W.Frag} {mg : Str → Option Value} {base : Heap} (at_ : At0 K mg "trade_at" s_trade_at ["floor", "stand"]) (h_spot_of_cell : Has P w K mg base "spot_of_cell" 2 f_spot_of_cell 1) : Has P w K mg base "trade_at" 2 f_trade_at 2 := by
  have nd := sc_trade_at.nd
  refine has_of (b := m_trade_at) (N := N_trade_at) (k := 1) at_ sc_trade_at rfl fun f cdv A outer s H E hr => ?_
  exact (ss_cons (s_asg (e_var (pv 1)) (g_tup rfl (gs_cons (g_name (i := 2) nd rfl (.inl rfl)) (gs_cons (g_name (i := 3) nd rfl (.inl rfl)) gs_nil))))
    (ss_one (s_ret (e_tup (a_cons (x_ix (e_var (pv 3)) k_int) (a_cons (e_fn h_spot_of_cell (hr.mono (by decide)) (lenA_cons (lenA_cons lenA_nil)) (a_cons (e_var (pv 0)) (a_cons (e_var (pv 2)) a_nil))) a_nil))))))
abbrev s_traded_spot : Stmt := topS 31
abbrev N_traded_spot : List Str := ["trade", "spot", "one", "other"]
theorem sc_traded_spot : FnScope N_traded_spot ["trade", "spot"] (defScope s_traded_spot) := ⟨rfl, rfl, rfl, by decide +kernel, rfl, by decide +kernel, by decide +kernel⟩
def m_traded_spot : SS := (sSeq (sAsg (eVar 0) (gT 2 (gCn (gN 2) (gCn (gN 3) gNl))))
  (sSeq (sIf (bT (eEq (eVar 1) (eVar 2))) (sRet (eVar 3)) sPass)
  (sSeq (sIf (bT (eEq (eVar 1) (eVar 3))) (sRet (eVar 2)) sPass)
  (sRet (eVar 1)))))
def f_traded_spot : FnD := runFn 4 m_traded_spot
theorem p_traded_spot {P : Program} {w : World} {K : PySem.W.Frag} {mg : Str → Option Value} {base : Heap} (at_ : At0 K mg "traded_spot" s_traded_spot ["trade", "spot"])  : Has P w K mg base "traded_spot" 2 f_traded_spot 1 := by
  have nd := sc_traded_spot.nd
  refine has_of (b := m_traded_spot) (N := N_traded_spot) (k := 0) at_ sc_traded_spot rfl fun f cdv A outer s H E hr => ?_
  exact (ss_cons (s_asg (e_var (pv 0)) (g_tup rfl (gs_cons (g_name (i := 2) nd rfl (.inl rfl)) (gs_cons (g_name (i := 3) nd rfl (.inl rfl)) gs_nil))))
    (ss_cons (s_if (y_cmp (q_eq hr) (e_var (pv 1)) (e_var (pv 2))) (ss_one (s_ret (e_var (pv 3)))) ss_nil)
    (ss_cons (s_if (y_cmp (q_eq hr) (e_var (pv 1)) (e_var (pv 3))) (ss_one (s_ret (e_var (pv 2)))) ss_nil)
    (ss_one (s_ret (e_var (pv 1)))))))
abbrev s_rolled_mark : Stmt := topS 35
abbrev N_rolled_mark : List Str := ["floor", "here", "letter", "cell", "lying", "spot", "stand"]
theorem sc_rolled_mark : FnScope N_rolled_mark ["floor", "here", "letter"] (defScope s_rolled_mark) := ⟨rfl, rfl, rfl, by decide +kernel, rfl, by decide +kernel, by decide +kernel⟩
def m_rolled_mark : SS := (sSeq (sAsg (eVar 1) (gT 3 (gCn (gN 3) (gCn (gN 4) (gCn (gN 5) gNl)))))
  (sSeq (sSet 6 (eCall f_rolled_stand (eCons (eThen (eCons (eVar 3) (eCons (eVar 4) eNil)) kTup) (eCons (eVar 2) eNil))))
  (sRet (eThen (eCons (eIx (eVar 6) (eC (.int 0))) (eCons (eIx (eVar 6) (eC (.int 1))) (eCons (eCall f_traded_spot (eCons (eCall f_trade_at (eCons (eVar 0) (eCons (eVar 6) eNil))) (eCons (eVar 5) eNil))) eNil))) kTup))))
def f_rolled_mark : FnD := runFn 7 m_rolled_mark
theorem p_rolled_mark {P : Program} {w : World} {K : PySem.W.Frag} {mg : Str → Option Value} {base : Heap} (at_ : At0 K mg "rolled_mark" s_rolled_mark ["floor", "here", "letter"]) (h_rolled_stand : Has P w K mg base "rolled_stand" 2 f_rolled_stand 2) (h_traded_spot : Has P w K mg base "traded_spot" 2 f_traded_spot 1) (h_trade_at : Has P w K mg base "trade_at" 2 f_trade_at 2) : Has P w K mg base "rolled_mark" 3 f_rolled_mark 3 := by
  have nd := sc_rolled_mark.nd
  refine has_of (b := m_rolled_mark) (N := N_rolled_mark) (k := 2) at_ sc_rolled_mark rfl fun f cdv A outer s H E hr => ?_
  exact (ss_cons (s_asg (e_var (pv 1)) (g_tup rfl (gs_cons (g_name (i := 3) nd rfl (.inl rfl)) (gs_cons (g_name (i := 4) nd rfl (.inl rfl)) (gs_cons (g_name (i := 5) nd rfl (.inl rfl)) gs_nil)))))
    (ss_cons (s_set (i := 6) nd rfl (.inl rfl) (e_fn h_rolled_stand (hr.mono (by decide)) (lenA_cons (lenA_cons lenA_nil)) (a_cons (e_tup (a_cons (e_var (pv 3)) (a_cons (e_var (pv 4)) a_nil))) (a_cons (e_var (pv 2)) a_nil))))
    (ss_one (s_ret (e_tup (a_cons (x_ix (e_var (pv 6)) k_int) (a_cons (x_ix (e_var (pv 6)) k_int) (a_cons (e_fn h_traded_spot (hr.mono (by decide)) (lenA_cons (lenA_cons lenA_nil)) (a_cons (e_fn h_trade_at (hr.mono (by decide)) (lenA_cons (lenA_cons lenA_nil)) (a_cons (e_var (pv 0)) (a_cons (e_var (pv 6)) a_nil))) (a_cons (e_var (pv 5)) a_nil))) a_nil))))))))
abbrev s_reached : Stmt := topS 33
abbrev N_reached : List Str := ["floor", "start", "rolled", "most", "rows", "edge", "found", "here", "letter", "there"]
theorem sc_reached : FnScope N_reached ["floor", "start", "rolled", "most"] (defScope s_reached) := ⟨rfl, rfl, rfl, by decide +kernel, rfl, by decide +kernel, by decide +kernel⟩
abbrev s_marks_reached : Stmt := topS 36
noncomputable def ml_marks_reached (L : PyData) (xs : List PyData) : SS := (sSeq (sSet 4 (eDisp [((eVar 1), (eC (.str "")))]))
  (sSeq (sSet 5 (eThen (eCons (eVar 1) eNil) kLst))
  (sSeq (sWhile (bAnd (bLs (eVar 5)) (bOr (bT (eIs (eVar 3) (eC .none))) (bT (eLt (eThen (eCons (eDg (eVar 4) (eIx (eVar 5) (eC (.int 0)))) eNil) (kE oLen)) (eVar 3))))) (sSeq (sSet 6 (eThen eNil kLst))
  (sSeq (sFor (iSeq (eVar 5)) (gN 7) (sFor (iSeq (eCall f_let_letters (eCons (eVar 0) (eCons (eIx (eVar 7) (eC (.int 0))) eNil)))) (gN 8) (sSeq (sSet 9 (eCallD 2 L xs (runFn 3 (sRet (eCall f_rolled_mark (eCons (eVar 2) (eCons (eVar 0) (eCons (eVar 1) eNil)))))) (eCons (eVar 7) (eCons (eVar 8) eNil))))
  (sIf (bT (eDi true (eVar 9) (eVar 4))) (sSeq (sAsg (eAdd (eDg (eVar 4) (eVar 7)) (eVar 8)) (gDs (eVar 4) (eVar 9)))
  (sExpr (eBM isL (eVar 6) (eCons (eVar 9) eNil) kAppend))) sPass))))
  (sMov 5 6))))
  (sRet (eVar 4)))))
theorem bl_marks_reached {X : Cx} (h_let_letters : Has X.prog X.w X.K X.mg X.base "let_letters" 2 f_let_letters 2) (h_rolled_mark : Has X.prog X.w X.K X.mg X.base "rolled_mark" 3 f_rolled_mark 3) (z_len : X.mg "len" = none) : BodyL X "reached" s_reached N_reached 4 "marks_reached.<locals>.<lambda>" (lamP s_marks_reached) (lamB s_marks_reached) (lamS s_marks_reached) "floor" ml_marks_reached := by
  intro F f a g pm ctv cdv xs A outer s H E hq hs LA hr
  obtain ⟨n1, q1, p1, b1, s1, cl1, c1⟩ := F
  obtain rfl : q1 = _ := hq
  obtain rfl : s1 = _ := hs
  have nd := sc_reached.nd
  exact (ss_cons (s_set (i := 4) nd rfl (.inl rfl) (e_disp (u9 hr) (ds_cons (e_var (pv 1)) k_str ds_nil)))
    (ss_cons (s_set (i := 5) nd rfl (.inl rfl) (e_lst (a_cons (e_var (pv 1)) a_nil)))
    (ss_cons (s_while PassesOwn.never (PW.pt (b_and (b_lst (e_var (pv 5))) (b_and1 (PW.pt (b_or (y_cmp (q_is hr) (e_var (pv 3)) k_non) (b_or1 (y_cmp (q_lt hr) (x_blt (w_len rfl hr) z_len (a_cons (e_dg (u9 hr) (e_var (pv 4)) (x_ix (e_var (pv 5)) k_int)) a_nil)) (e_var (pv 3))))))))) (ss_cons (s_set (i := 6) nd rfl (.inl rfl) (e_lst a_nil))
    (ss_cons (s_for PassesOwn.never rfl (i_seq (e_var (pv 5))) (g_name (i := 7) nd rfl (.inl rfl)) (ss_one (s_for PassesOwn.never rfl (i_seq (e_fn h_let_letters (hr.mono (by decide)) (lenA_cons (lenA_cons lenA_nil)) (a_cons (e_var (pv 0)) (a_cons (x_ix (e_var (pv 7)) k_int) a_nil)))) (g_name (i := 8) nd rfl (.inl rfl)) (ss_cons (s_set (i := 9) nd rfl (.inl rfl) (e_callD (N := ["here", "letter", "floor"]) (ps := ["here", "letter"]) (capt := "floor") (fb := (eCall f_rolled_mark (eCons (eVar 2) (eCons (eVar 0) (eCons (eVar 1) eNil))))) (i := 2) (k := 3) LA (NdefX.nscope_by (sc := lamS s_marks_reached) (by decide +kernel)) rfl (fun us hl => match us, hl with | [_, _], _ => rfl) (hr.mono (by decide)) (fun A outer s H E hr => (e_fn h_rolled_mark (hr.mono (by decide)) (lenA_cons (lenA_cons (lenA_cons lenA_nil))) (a_cons (e_var (pv 2)) (a_cons (e_var (pv 0)) (a_cons (e_var (pv 1)) a_nil))))) rfl (.inl rfl) (lenA_cons (lenA_cons lenA_nil)) (a_cons (e_var (pv 7)) (a_cons (e_var (pv 8)) a_nil))))
    (ss_one (s_if (y_dni (u9 hr) (e_var (pv 9)) (e_var (pv 4))) (ss_cons (s_asg (x_add (e_dg (u9 hr) (e_var (pv 4)) (e_var (pv 7))) (e_var (pv 8))) (g_dsub (u9 hr) (e_var (pv 4)) (e_var (pv 9))))
    (ss_one (s_expr (m_append (e_var (pv 6)) (a_cons (e_var (pv 9)) a_nil))))) ss_nil))))))
    (ss_one (s_mov (i := 5) nd rfl (.inl rfl) (pv 6))))))
    (ss_one (s_ret (e_var (pv 4)))))))
abbrev N_marks_reached : List Str := ["floor", "stand", "spot"]
theorem sc_marks_reached : FnScope N_marks_reached ["floor", "stand", "spot"] (defScope s_marks_reached) := ⟨rfl, rfl, rfl, by decide +kernel, rfl, by decide +kernel, by decide +kernel⟩
noncomputable def m_marks_reached : SS := (sRet (eLamC 0 "marks_reached.<locals>.<lambda>" (fun L xs => runFn N_reached.length (ml_marks_reached L xs)) (eCons (eVar 0) (eCons (eThen (eCons (eIx (eVar 1) (eC (.int 0))) (eCons (eIx (eVar 1) (eC (.int 1))) (eCons (eVar 2) eNil))) kTup) eNil))))
noncomputable def f_marks_reached : FnD := runFn 3 m_marks_reached
theorem p_marks_reached {P : Program} {w : World} {K : PySem.W.Frag} {mg : Str → Option Value} {base : Heap} {c Pt : Addr} (at_ : AtC K mg "marks_reached" s_marks_reached ["floor", "stand", "spot"] c) (aD_reached : AtD K mg "reached" s_reached ["floor", "start", "rolled", "most"]) (h_let_letters : Has P w K mg base "let_letters" 2 f_let_letters 2) (h_rolled_mark : Has P w K mg base "rolled_mark" 3 f_rolled_mark 3) (z_len : mg "len" = none) (hu : TabU) (hm_marks_reached : (Pt, fun _ _ => ("marks_reached.<locals>.<lambda>" : Str)) ∈ TabL.l) (TB_marks_reached : LamX.TabB base mg c Pt) : Has P w K mg base "marks_reached" 3 f_marks_reached 6 := by
  have nd := sc_marks_reached.nd
  refine hasC_of (b := m_marks_reached) (N := N_marks_reached) (k := 5) at_ sc_marks_reached rfl fun f A outer s H E hr => ?_
  exact (ss_one (s_ret (e_lamC (Ng := N_reached) (k := 4) (j := 0) (q := "marks_reached.<locals>.<lambda>") aD_reached rfl sc_reached (bl_marks_reached h_let_letters h_rolled_mark z_len) (hr.mono (by decide)) rfl rfl hu hm_marks_reached TB_marks_reached rfl rfl (NdefX.ndef_free (sc := defScope s_marks_reached) (nsc := lamS s_marks_reached) (fr := ["floor"]) (by decide +kernel)) (NdefX.ndef_fr (sc := defScope s_marks_reached) (nsc := lamS s_marks_reached) (fr := ["floor"]) (by decide +kernel) _ (by simp)) rfl (e_var (pv 0)) (e_tup (a_cons (x_ix (e_var (pv 1)) k_int) (a_cons (x_ix (e_var (pv 1)) k_int) (a_cons (e_var (pv 2)) a_nil)))))))
abbrev s_need_wish : Stmt := topS 37
abbrev N_need_wish : List Str := ["floor", "stand", "spot", "to"]
theorem sc_need_wish : FnScope N_need_wish ["floor", "stand", "spot", "to"] (defScope s_need_wish) := ⟨rfl, rfl, rfl, by decide +kernel, rfl, by decide +kernel, by decide +kernel⟩
def m_need_wish : SS := (sSeq (sExpr (eCall f_need_floor (eCons (eVar 0) eNil)))
  (sSeq (sExpr (eCall f_need_stand (eCons (eVar 0) (eCons (eVar 1) eNil))))
  (sSeq (sExpr (eCall f_need_spot (eCons (eVar 0) (eCons (eVar 2) eNil))))
  (sExpr (eCall f_need_spot (eCons (eVar 0) (eCons (eVar 3) eNil)))))))
def f_need_wish : FnD := runFn 4 m_need_wish
theorem p_need_wish {P : Program} {w : World} {K : PySem.W.Frag} {mg : Str → Option Value} {base : Heap} (at_ : At0 K mg "need_wish" s_need_wish ["floor", "stand", "spot", "to"]) (h_need_floor : Has P w K mg base "need_floor" 1 f_need_floor 4) (h_need_stand : Has P w K mg base "need_stand" 2 f_need_stand 5) (h_need_spot : Has P w K mg base "need_spot" 2 f_need_spot 3) : Has P w K mg base "need_wish" 4 f_need_wish 6 := by
  have nd := sc_need_wish.nd
  refine has_of (b := m_need_wish) (N := N_need_wish) (k := 5) at_ sc_need_wish rfl fun f cdv A outer s H E hr => ?_
  exact (ss_cons (s_expr (e_fn h_need_floor (hr.mono (by decide)) (lenA_cons lenA_nil) (a_cons (e_var (pv 0)) a_nil)))
    (ss_cons (s_expr (e_fn h_need_stand (hr.mono (by decide)) (lenA_cons (lenA_cons lenA_nil)) (a_cons (e_var (pv 0)) (a_cons (e_var (pv 1)) a_nil))))
    (ss_cons (s_expr (e_fn h_need_spot (hr.mono (by decide)) (lenA_cons (lenA_cons lenA_nil)) (a_cons (e_var (pv 0)) (a_cons (e_var (pv 2)) a_nil))))
    (ss_one (s_expr (e_fn h_need_spot (hr.mono (by decide)) (lenA_cons (lenA_cons lenA_nil)) (a_cons (e_var (pv 0)) (a_cons (e_var (pv 3)) a_nil))))))))
abbrev s_bring : Stmt := topS 38
abbrev N_bring : List Str := ["floor", "stand", "spot", "to", "found", "here", "row"]
theorem sc_bring : FnScope N_bring ["floor", "stand", "spot", "to"] (defScope s_bring) := ⟨rfl, rfl, rfl, by decide +kernel, rfl, by decide +kernel, by decide +kernel⟩
noncomputable def m_bring : SS := (sSeq (sExpr (eCall f_need_wish (eCons (eVar 0) (eCons (eVar 1) (eCons (eVar 2) (eCons (eVar 3) eNil))))))
  (sSeq (sSet 4 (eCall f_marks_reached (eCons (eVar 0) (eCons (eVar 1) (eCons (eVar 2) eNil)))))
  (sSeq (sFor (iItemsN (eVar 4)) (gT 2 (gCn (gN 5) (gCn (gN 6) gNl))) (sIf (bT (eEq (eIx (eVar 5) (eC (.int 2))) (eVar 3))) (sRet (eThen (eCons (eC (.str "row")) (eCons (eVar 6) eNil)) kTup)) sPass))
  (sRet (eThen (eCons (eC (.str "never")) (eCons (eThen (eCons (eThen (eCons (eVar 4) eNil) kSrtG) eNil) kTupN) eNil)) kTup)))))
noncomputable def f_bring : FnD := runFn 7 m_bring
theorem p_bring {P : Program} {w : World} {K : PySem.W.Frag} {mg : Str → Option Value} {base : Heap} (at_ : At0 K mg "bring" s_bring ["floor", "stand", "spot", "to"]) (h_need_wish : Has P w K mg base "need_wish" 4 f_need_wish 6) (h_marks_reached : Has P w K mg base "marks_reached" 3 f_marks_reached 6) (z_tuple : mg "tuple" = none) (z_sorted : mg "sorted" = none) : Has P w K mg base "bring" 4 f_bring 7 := by
  have nd := sc_bring.nd
  refine has_of (b := m_bring) (N := N_bring) (k := 6) at_ sc_bring rfl fun f cdv A outer s H E hr => ?_
  exact (ss_cons (s_expr (e_fn h_need_wish (hr.mono (by decide)) (lenA_cons (lenA_cons (lenA_cons (lenA_cons lenA_nil)))) (a_cons (e_var (pv 0)) (a_cons (e_var (pv 1)) (a_cons (e_var (pv 2)) (a_cons (e_var (pv 3)) a_nil))))))
    (ss_cons (s_set (i := 4) nd rfl (.inl rfl) (e_fn h_marks_reached (hr.mono (by decide)) (lenA_cons (lenA_cons (lenA_cons lenA_nil))) (a_cons (e_var (pv 0)) (a_cons (e_var (pv 1)) (a_cons (e_var (pv 2)) a_nil)))))
    (ss_cons (s_for PassesOwn.never rfl (i_itemsN (e_var (pv 4))) (g_tup rfl (gs_cons (g_name (i := 5) nd rfl (.inl rfl)) (gs_cons (g_name (i := 6) nd rfl (.inl rfl)) gs_nil))) (ss_one (s_if (y_cmp (q_eq hr) (x_ix (e_var (pv 5)) k_int) (e_var (pv 3))) (ss_one (s_ret (e_tup (a_cons k_str (a_cons (e_var (pv 6)) a_nil))))) ss_nil)))
    (ss_one (s_ret (e_tup (a_cons k_str (a_cons (x_bty (w_tuple rfl hr) z_tuple (a_cons (x_blt (w_srtG rfl hr) z_sorted (a_cons (e_var (pv 4)) a_nil)) a_nil)) a_nil))))))))
abbrev s__law_cell_at : Stmt := topS 40
abbrev N__law_cell_at : List Str := ["_law_script", "_law_k"]
theorem sc__law_cell_at : FnScope N__law_cell_at ["_law_script", "_law_k"] (defScope s__law_cell_at) := ⟨rfl, rfl, rfl, by decide +kernel, rfl, by decide +kernel, by decide +kernel⟩
def m__law_cell_at : SS := (sSeq (sIf (bT (eLt (eVar 1) (eThen (eCons (eVar 0) eNil) (kE oLen)))) (sRet (eIx (eVar 0) (eVar 1))) sPass)
  (sRet (eC (.int 0))))
def f__law_cell_at : FnD := runFn 2 m__law_cell_at
theorem p__law_cell_at {P : Program} {w : World} {K : PySem.W.Frag} {mg : Str → Option Value} {base : Heap} (at_ : At0 K mg "_law_cell_at" s__law_cell_at ["_law_script", "_law_k"]) (z_len : mg "len" = none) : Has P w K mg base "_law_cell_at" 2 f__law_cell_at 1 := by
  have nd := sc__law_cell_at.nd
  refine has_of (b := m__law_cell_at) (N := N__law_cell_at) (k := 0) at_ sc__law_cell_at rfl fun f cdv A outer s H E hr => ?_
  exact (ss_cons (s_if (y_cmp (q_lt hr) (e_var (pv 1)) (x_blt (w_len rfl hr) z_len (a_cons (e_var (pv 0)) a_nil))) (ss_one (s_ret (x_ix (e_var (pv 0)) (e_var (pv 1))))) ss_nil)
    (ss_one (s_ret k_int)))
abbrev s__law_pen : Stmt := topS 41
abbrev N__law_pen : List Str := ["_law_cell"]
theorem sc__law_pen : FnScope N__law_pen ["_law_cell"] (defScope s__law_pen) := ⟨rfl, rfl, rfl, by decide +kernel, rfl, by decide +kernel, by decide +kernel⟩
def m__law_pen : SS := (sRet (eThen (eCons (eThen (eCons (eC (.int 0)) (eCons (eSub (eVar 0) (ePow (eC (.int 10)) (eC (.int 18)))) eNil)) (kE oMax)) (eCons (eMod (eVar 0) (eC (.int 1000000007))) (eCons (eC (.int 0)) eNil))) kLst))
def f__law_pen : FnD := runFn 1 m__law_pen
theorem p__law_pen {P : Program} {w : World} {K : PySem.W.Frag} {mg : Str → Option Value} {base : Heap} (at_ : At0 K mg "_law_pen" s__law_pen ["_law_cell"]) (z_max : mg "max" = none) : Has P w K mg base "_law_pen" 1 f__law_pen 1 := by
  have nd := sc__law_pen.nd
  refine has_of (b := m__law_pen) (N := N__law_pen) (k := 0) at_ sc__law_pen rfl fun f cdv A outer s H E hr => ?_
  exact (ss_one (s_ret (e_lst (a_cons (x_blt (w_max rfl hr) z_max (a_cons k_int (a_cons (x_sub (e_var (pv 0)) (x_pow k_int k_int)) a_nil))) (a_cons (x_mod (e_var (pv 0)) k_int) (a_cons k_int a_nil))))))
abbrev s__law_draw : Stmt := topS 42
abbrev N__law_draw : List Str := ["_law_pen_here", "_law_many", "_law_digit", "_law_stir"]
theorem sc__law_draw : FnScope N__law_draw ["_law_pen_here", "_law_many"] (defScope s__law_draw) := ⟨rfl, rfl, rfl, by decide +kernel, rfl, by decide +kernel, by decide +kernel⟩
def m__law_draw : SS := (sSeq (sIf (bT (eGt (eIx (eVar 0) (eC (.int 0))) (eC (.int 0)))) (sSeq (sSet 2 (eMod (eIx (eVar 0) (eC (.int 0))) (eVar 1)))
  (sSeq (sAsg (eFdiv (eIx (eVar 0) (eC (.int 0))) (eVar 1)) (gS (eVar 0) (eC (.int 0))))
  (sRet (eVar 2)))) sPass)
  (sSeq (sAsg (eAdd (eIx (eVar 0) (eC (.int 2))) (eC (.int 1))) (gS (eVar 0) (eC (.int 2))))
  (sSeq (sSet 3 (eMod (eMul (eAdd (eIx (eVar 0) (eC (.int 1))) (eMul (eC (.int 17)) (eIx (eVar 0) (eC (.int 2))))) (eAdd (eC (.int 69621)) (eMul (eC (.int 2)) (eIx (eVar 0) (eC (.int 2)))))) (eC (.int 2147483647))))
  (sSeq (sSet 3 (eMod (eAdd (eAdd (eMul (eVar 3) (eVar 3)) (eMul (eC (.int 40503)) (eIx (eVar 0) (eC (.int 2))))) (eC (.int 5))) (eC (.int 2147483629))))
  (sRet (eMod (eFdiv (eMod (eMul (eVar 3) (eC (.int 48271))) (eC (.int 2147483647))) (eC (.int 32))) (eVar 1)))))))
def f__law_draw : FnD := runFn 4 m__law_draw
theorem p__law_draw {P : Program} {w : World} {K : PySem.W.Frag} {mg : Str → Option Value} {base : Heap} (at_ : At0 K mg "_law_draw" s__law_draw ["_law_pen_here", "_law_many"])  : Has P w K mg base "_law_draw" 2 f__law_draw 1 := by
  have nd := sc__law_draw.nd
  refine has_of (b := m__law_draw) (N := N__law_draw) (k := 0) at_ sc__law_draw rfl fun f cdv A outer s H E hr => ?_
  exact (ss_cons (s_if (y_cmp (q_gt hr) (x_ix (e_var (pv 0)) k_int) k_int) (ss_cons (s_set (i := 2) nd rfl (.inl rfl) (x_mod (x_ix (e_var (pv 0)) k_int) (e_var (pv 1))))
    (ss_cons (s_asg (x_fdiv (x_ix (e_var (pv 0)) k_int) (e_var (pv 1))) (g_sub (e_var (pv 0)) k_int))
    (ss_one (s_ret (e_var (pv 2)))))) ss_nil)
    (ss_cons (s_asg (x_add (x_ix (e_var (pv 0)) k_int) k_int) (g_sub (e_var (pv 0)) k_int))
    (ss_cons (s_set (i := 3) nd rfl (.inl rfl) (x_mod (x_mul (x_add (x_ix (e_var (pv 0)) k_int) (x_mul k_int (x_ix (e_var (pv 0)) k_int))) (x_add k_int (x_mul k_int (x_ix (e_var (pv 0)) k_int)))) k_int))
    (ss_cons (s_set (i := 3) nd rfl (.inl rfl) (x_mod (x_add (x_add (x_mul (e_var (pv 3)) (e_var (pv 3))) (x_mul k_int (x_ix (e_var (pv 0)) k_int))) k_int) k_int))
    (ss_one (s_ret (x_mod (x_fdiv (x_mod (x_mul (e_var (pv 3)) k_int) k_int) k_int) (e_var (pv 1)))))))))
abbrev s__law_pick : Stmt := topS 43
abbrev N__law_pick : List Str := ["_law_pen_here", "_law_some"]
theorem sc__law_pick : FnScope N__law_pick ["_law_pen_here", "_law_some"] (defScope s__law_pick) := ⟨rfl, rfl, rfl, by decide +kernel, rfl, by decide +kernel, by decide +kernel⟩
def m__law_pick : SS := (sRet (eIx (eVar 1) (eCall f__law_draw (eCons (eVar 0) (eCons (eThen (eCons (eVar 1) eNil) (kE oLen)) eNil)))))
def f__law_pick : FnD := runFn 2 m__law_pick
theorem p__law_pick {P : Program} {w : World} {K : PySem.W.Frag} {mg : Str → Option Value} {base : Heap} (at_ : At0 K mg "_law_pick" s__law_pick ["_law_pen_here", "_law_some"]) (h__law_draw : Has P w K mg base "_law_draw" 2 f__law_draw 1) (z_len : mg "len" = none) : Has P w K mg base "_law_pick" 2 f__law_pick 2 := by
  have nd := sc__law_pick.nd
  refine has_of (b := m__law_pick) (N := N__law_pick) (k := 1) at_ sc__law_pick rfl fun f cdv A outer s H E hr => ?_
  exact (ss_one (s_ret (x_ix (e_var (pv 1)) (e_fn h__law_draw (hr.mono (by decide)) (lenA_cons (lenA_cons lenA_nil)) (a_cons (e_var (pv 0)) (a_cons (x_blt (w_len rfl hr) z_len (a_cons (e_var (pv 1)) a_nil)) a_nil))))))
abbrev s__law_beside : Stmt := topS 44
abbrev N__law_beside : List Str := ["_law_cell", "_law_letter", "_law_column", "_law_row"]
theorem sc__law_beside : FnScope N__law_beside ["_law_cell", "_law_letter"] (defScope s__law_beside) := ⟨rfl, rfl, rfl, by decide +kernel, rfl, by decide +kernel, by decide +kernel⟩
def m__law_beside : SS := (sSeq (sAsg (eVar 0) (gT 2 (gCn (gN 2) (gCn (gN 3) gNl))))
  (sRet (eDx (eDisp [((eC (.str "n")), (eThen (eCons (eVar 2) (eCons (eAdd (eVar 3) (eC (.int 1))) eNil)) kTup)), ((eC (.str "s")), (eThen (eCons (eVar 2) (eCons (eSub (eVar 3) (eC (.int 1))) eNil)) kTup)), ((eC (.str "e")), (eThen (eCons (eAdd (eVar 2) (eC (.int 1))) (eCons (eVar 3) eNil)) kTup)), ((eC (.str "w")), (eThen (eCons (eSub (eVar 2) (eC (.int 1))) (eCons (eVar 3) eNil)) kTup))]) (eVar 1))))
def f__law_beside : FnD := runFn 4 m__law_beside
theorem p__law_beside {P : Program} {w : World} {K : PySem.W.Frag} {mg : Str → Option Value} {base : Heap} (at_ : At0 K mg "_law_beside" s__law_beside ["_law_cell", "_law_letter"])  : Has P w K mg base "_law_beside" 2 f__law_beside 1 := by
  have nd := sc__law_beside.nd
  refine has_of (b := m__law_beside) (N := N__law_beside) (k := 0) at_ sc__law_beside rfl fun f cdv A outer s H E hr => ?_
  exact (ss_cons (s_asg (e_var (pv 0)) (g_tup rfl (gs_cons (g_name (i := 2) nd rfl (.inl rfl)) (gs_cons (g_name (i := 3) nd rfl (.inl rfl)) gs_nil))))
    (ss_one (s_ret (e_dx (u9 hr) (e_disp (u9 hr) (ds_cons k_str (e_tup (a_cons (e_var (pv 2)) (a_cons (x_add (e_var (pv 3)) k_int) a_nil))) (ds_cons k_str (e_tup (a_cons (e_var (pv 2)) (a_cons (x_sub (e_var (pv 3)) k_int) a_nil))) (ds_cons k_str (e_tup (a_cons (x_add (e_var (pv 2)) k_int) (a_cons (e_var (pv 3)) a_nil))) (ds_cons k_str (e_tup (a_cons (x_sub (e_var (pv 2)) k_int) (a_cons (e_var (pv 3)) a_nil))) ds_nil))))) (e_var (pv 1))))))
abbrev s__law_tip : Stmt := topS 45
abbrev N__law_tip : List Str := ["_law_lying", "_law_letter", "_law_low", "_law_north", "_law_east", "_law_found"]
theorem sc__law_tip : FnScope N__law_tip ["_law_lying", "_law_letter"] (defScope s__law_tip) := ⟨rfl, rfl, rfl, by decide +kernel, rfl, by decide +kernel, by decide +kernel⟩
def m__law_tip : SS := (sSeq (sAsg (eVar 0) (gT 3 (gCn (gN 2) (gCn (gN 3) (gCn (gN 4) gNl)))))
  (sSeq (sSet 5 (eDisp [((eC (.str "n")), (eThen (eCons (eVar 3) (eCons (eSub (eC (.int 5)) (eVar 2)) (eCons (eVar 4) eNil))) kTup)), ((eC (.str "s")), (eThen (eCons (eSub (eC (.int 5)) (eVar 3)) (eCons (eVar 2) (eCons (eVar 4) eNil))) kTup)), ((eC (.str "e")), (eThen (eCons (eVar 4) (eCons (eVar 3) (eCons (eSub (eC (.int 5)) (eVar 2)) eNil))) kTup))]))
  (sSeq (sAsg (eThen (eCons (eSub (eC (.int 5)) (eVar 4)) (eCons (eVar 3) (eCons (eVar 2) eNil))) kTup) (gDs (eVar 5) (eC (.str "w"))))
  (sRet (eDg (eVar 5) (eVar 1))))))
def f__law_tip : FnD := runFn 6 m__law_tip
theorem p__law_tip {P : Program} {w : World} {K : PySem.W.Frag} {mg : Str → Option Value} {base : Heap} (at_ : At0 K mg "_law_tip" s__law_tip ["_law_lying", "_law_letter"])  : Has P w K mg base "_law_tip" 2 f__law_tip 1 := by
  have nd := sc__law_tip.nd
  refine has_of (b := m__law_tip) (N := N__law_tip) (k := 0) at_ sc__law_tip rfl fun f cdv A outer s H E hr => ?_
  exact (ss_cons (s_asg (e_var (pv 0)) (g_tup rfl (gs_cons (g_name (i := 2) nd rfl (.inl rfl)) (gs_cons (g_name (i := 3) nd rfl (.inl rfl)) (gs_cons (g_name (i := 4) nd rfl (.inl rfl)) gs_nil)))))
    (ss_cons (s_set (i := 5) nd rfl (.inl rfl) (e_disp (u9 hr) (ds_cons k_str (e_tup (a_cons (e_var (pv 3)) (a_cons (x_sub k_int (e_var (pv 2))) (a_cons (e_var (pv 4)) a_nil)))) (ds_cons k_str (e_tup (a_cons (x_sub k_int (e_var (pv 3))) (a_cons (e_var (pv 2)) (a_cons (e_var (pv 4)) a_nil)))) (ds_cons k_str (e_tup (a_cons (e_var (pv 4)) (a_cons (e_var (pv 3)) (a_cons (x_sub k_int (e_var (pv 2))) a_nil)))) ds_nil)))))
    (ss_cons (s_asg (e_tup (a_cons (x_sub k_int (e_var (pv 4))) (a_cons (e_var (pv 3)) (a_cons (e_var (pv 2)) a_nil)))) (g_dsub (u9 hr) (e_var (pv 5)) k_str))
    (ss_one (s_ret (e_dg (u9 hr) (e_var (pv 5)) (e_var (pv 1))))))))
abbrev s__law_drawn_floor : Stmt := topS 46
abbrev N__law_drawn_floor : List Str := ["_law_pen_here", "_law_most", "_law_found", "_law_turn", "_law_near", "_law_here", "_law_cell", "_law_letter"]
theorem sc__law_drawn_floor : FnScope N__law_drawn_floor ["_law_pen_here", "_law_most"] (defScope s__law_drawn_floor) := ⟨rfl, rfl, rfl, by decide +kernel, rfl, by decide +kernel, by decide +kernel⟩
def m__law_drawn_floor : SS := (sSeq (sSet 2 (eThen (eCons (eThen (eCons (eCall f__law_draw (eCons (eVar 0) (eCons (eC (.int 4)) eNil))) (eCons (eCall f__law_draw (eCons (eVar 0) (eCons (eC (.int 4)) eNil))) eNil)) kTup) eNil) kLst))
  (sSeq (sFor (iRg1 (eCons (eCall f__law_draw (eCons (eVar 0) (eCons (eVar 1) eNil))) eNil)) (gN 3) (sSeq (sSet 4 (eThen eNil kLst))
  (sSeq (sFor (iSeq (eVar 2)) (gN 5) (sExpr (eBM isL (eVar 4) (eCons (eLc (iSeq (eC (.str "nesw"))) (gN 7) bYes (eCall f__law_beside (eCons (eVar 5) (eCons (eVar 7) eNil))) [7]) eNil) kExtend)))
  (sSeq (sSet 4 (eLc (iSeq (eVar 4)) (gN 6) (bAnd (bT (eNin (eVar 6) (eVar 2))) (bAnd (bT (eLt (eThen (eCons (eVar 6) eNil) (kE oMax)) (eC (.int 4)))) (bT (eGe (eThen (eCons (eVar 6) eNil) (kE oMin)) (eC (.int 0)))))) (eVar 6) [6]))
  (sSeq (sSet 6 (eIf (bT (eEq (eCall f__law_draw (eCons (eVar 0) (eCons (eC (.int 8)) eNil))) (eC (.int 0)))) (eThen (eCons (eCall f__law_draw (eCons (eVar 0) (eCons (eC (.int 4)) eNil))) (eCons (eCall f__law_draw (eCons (eVar 0) (eCons (eC (.int 4)) eNil))) eNil)) kTup) (eCall f__law_pick (eCons (eVar 0) (eCons (eVar 4) eNil)))))
  (sIf (bT (eNin (eVar 6) (eVar 2))) (sExpr (eBM isL (eVar 2) (eCons (eVar 6) eNil) kAppend)) sPass))))))
  (sRet (eThen (eCons (eThen (eCons (eVar 2) eNil) kSorted) eNil) kTupN))))
def f__law_drawn_floor : FnD := runFn 8 m__law_drawn_floor
theorem p__law_drawn_floor {P : Program} {w : World} {K : PySem.W.Frag} {mg : Str → Option Value} {base : Heap} (at_ : At0 K mg "_law_drawn_floor" s__law_drawn_floor ["_law_pen_here", "_law_most"]) (h__law_draw : Has P w K mg base "_law_draw" 2 f__law_draw 1) (h__law_beside : Has P w K mg base "_law_beside" 2 f__law_beside 1) (h__law_pick : Has P w K mg base "_law_pick" 2 f__law_pick 2) (z_range : mg "range" = none) (z_min : mg "min" = none) (z_max : mg "max" = none) (z_tuple : mg "tuple" = none) (z_sorted : mg "sorted" = none) : Has P w K mg base "_law_drawn_floor" 2 f__law_drawn_floor 3 := by
  have nd := sc__law_drawn_floor.nd
  refine has_of (b := m__law_drawn_floor) (N := N__law_drawn_floor) (k := 2) at_ sc__law_drawn_floor rfl fun f cdv A outer s H E hr => ?_
  exact (ss_cons (s_set (i := 2) nd rfl (.inr rfl) (e_lst (a_cons (e_tup (a_cons (e_fn h__law_draw (hr.mono (by decide)) (lenA_cons (lenA_cons lenA_nil)) (a_cons (e_var (pv 0)) (a_cons k_int a_nil))) (a_cons (e_fn h__law_draw (hr.mono (by decide)) (lenA_cons (lenA_cons lenA_nil)) (a_cons (e_var (pv 0)) (a_cons k_int a_nil))) a_nil))) a_nil)))
    (ss_cons (s_for PassesOwn.never rfl (i_rg1 (by rfl) z_range (a_cons (e_fn h__law_draw (hr.mono (by decide)) (lenA_cons (lenA_cons lenA_nil)) (a_cons (e_var (pv 0)) (a_cons (e_var (pv 1)) a_nil))) a_nil)) (g_name (i := 3) nd rfl (.inl rfl)) (ss_cons (s_set (i := 4) nd rfl (.inl rfl) (e_lst a_nil))
    (ss_cons (s_for PassesOwn.never rfl (i_seq (e_var (pv 2))) (g_name (i := 5) nd rfl (.inr rfl)) (ss_one (s_expr (m_extend (e_var (pv 4)) (a_cons (x_lc [("_law_letter", 7)] rfl nd rfl (i_seq k_str) (blkOk_by (N := N__law_drawn_floor) (sc := defScope s__law_drawn_floor) (by decide +kernel)) (only_gN (by decide)) (fun _ _ _ _ _ => (v_name (i := 7) (by decide) nd rfl (.inl rfl))) (fun _ _ _ _ _ => ts_yes) (fun _ _ _ _ _ => (e_fn h__law_beside (hr.mono (by decide)) (lenA_cons (lenA_cons lenA_nil)) (a_cons (e_var (pv 5)) (a_cons (e_var (pv 7)) a_nil))))) a_nil)))))
    (ss_cons (x_setLc (i := 4) [("_law_cell", 6)] rfl nd rfl rfl rfl (sw_true rfl rfl rfl (by decide +kernel)) (i_seq (e_var (pv 4))) (blkOk_by (N := N__law_drawn_floor) (sc := defScope s__law_drawn_floor) (by decide +kernel)) (only_gN (by decide)) (fun _ _ _ _ _ => (v_name (i := 6) (by decide) nd rfl (.inl rfl))) (fun _ _ _ _ _ => (ts_one (PW.pt (b_and (y_cmp (q_nin hr) (e_var (pv 6)) (e_var (pv 2))) (b_and (y_cmp (q_lt hr) (x_blt (w_max rfl hr) z_max (a_cons (e_var (pv 6)) a_nil)) k_int) (b_and1 (y_cmp (q_ge hr) (x_blt (w_min rfl hr) z_min (a_cons (e_var (pv 6)) a_nil)) k_int))))))) (fun _ _ _ _ _ => (e_var (pv 6))))
    (ss_cons (s_set (i := 6) nd rfl (.inl rfl) (e_if (y_cmp (q_eq hr) (e_fn h__law_draw (hr.mono (by decide)) (lenA_cons (lenA_cons lenA_nil)) (a_cons (e_var (pv 0)) (a_cons k_int a_nil))) k_int) (e_tup (a_cons (e_fn h__law_draw (hr.mono (by decide)) (lenA_cons (lenA_cons lenA_nil)) (a_cons (e_var (pv 0)) (a_cons k_int a_nil))) (a_cons (e_fn h__law_draw (hr.mono (by decide)) (lenA_cons (lenA_cons lenA_nil)) (a_cons (e_var (pv 0)) (a_cons k_int a_nil))) a_nil))) (e_fn h__law_pick (hr.mono (by decide)) (lenA_cons (lenA_cons lenA_nil)) (a_cons (e_var (pv 0)) (a_cons (e_var (pv 4)) a_nil)))))
    (ss_one (s_if (y_cmp (q_nin hr) (e_var (pv 6)) (e_var (pv 2))) (ss_one (s_expr (m_append (e_var (pv 2)) (a_cons (e_var (pv 6)) a_nil)))) ss_nil)))))))
    (ss_one (s_ret (x_bty (w_tuple rfl hr) z_tuple (a_cons (x_blt (w_sorted rfl hr) z_sorted (a_cons (e_var (pv 2)) a_nil)) a_nil))))))
abbrev s__law_drawn_stand : Stmt := topS 47
abbrev N__law_drawn_stand : List Str := ["_law_pen_here", "_law_floor", "_law_lying", "_law_turn"]
theorem sc__law_drawn_stand : FnScope N__law_drawn_stand ["_law_pen_here", "_law_floor"] (defScope s__law_drawn_stand) := ⟨rfl, rfl, rfl, by decide +kernel, rfl, by decide +kernel, by decide +kernel⟩
def m__law_drawn_stand : SS := (sSeq (sSet 2 (eThen (eCons (eC (.int 0)) (eCons (eC (.int 1)) (eCons (eC (.int 2)) eNil))) kTup))
  (sSeq (sFor (iRg1 (eCons (eCall f__law_draw (eCons (eVar 0) (eCons (eC (.int 9)) eNil))) eNil)) (gN 3) (sSet 2 (eCall f__law_tip (eCons (eVar 2) (eCons (eCall f__law_pick (eCons (eVar 0) (eCons (eC (.str "nesw")) eNil))) eNil)))))
  (sRet (eThen (eCons (eCall f__law_pick (eCons (eVar 0) (eCons (eVar 1) eNil))) (eCons (eVar 2) eNil)) kTup))))
def f__law_drawn_stand : FnD := runFn 4 m__law_drawn_stand
theorem p__law_drawn_stand {P : Program} {w : World} {K : PySem.W.Frag} {mg : Str → Option Value} {base : Heap} (at_ : At0 K mg "_law_drawn_stand" s__law_drawn_stand ["_law_pen_here", "_law_floor"]) (h__law_draw : Has P w K mg base "_law_draw" 2 f__law_draw 1) (h__law_tip : Has P w K mg base "_law_tip" 2 f__law_tip 1) (h__law_pick : Has P w K mg base "_law_pick" 2 f__law_pick 2) (z_range : mg "range" = none) : Has P w K mg base "_law_drawn_stand" 2 f__law_drawn_stand 3 := by
  have nd := sc__law_drawn_stand.nd
  refine has_of (b := m__law_drawn_stand) (N := N__law_drawn_stand) (k := 2) at_ sc__law_drawn_stand rfl fun f cdv A outer s H E hr => ?_
  exact (ss_cons (s_set (i := 2) nd rfl (.inl rfl) (e_tup (a_cons k_int (a_cons k_int (a_cons k_int a_nil)))))
    (ss_cons (s_for PassesOwn.never rfl (i_rg1 (by rfl) z_range (a_cons (e_fn h__law_draw (hr.mono (by decide)) (lenA_cons (lenA_cons lenA_nil)) (a_cons (e_var (pv 0)) (a_cons k_int a_nil))) a_nil)) (g_name (i := 3) nd rfl (.inl rfl)) (ss_one (s_set (i := 2) nd rfl (.inl rfl) (e_fn h__law_tip (hr.mono (by decide)) (lenA_cons (lenA_cons lenA_nil)) (a_cons (e_var (pv 2)) (a_cons (e_fn h__law_pick (hr.mono (by decide)) (lenA_cons (lenA_cons lenA_nil)) (a_cons (e_var (pv 0)) (a_cons k_str a_nil))) a_nil))))))
    (ss_one (s_ret (e_tup (a_cons (e_fn h__law_pick (hr.mono (by decide)) (lenA_cons (lenA_cons lenA_nil)) (a_cons (e_var (pv 0)) (a_cons (e_var (pv 1)) a_nil))) (a_cons (e_var (pv 2)) a_nil)))))))
abbrev s__law_free : Stmt := topS 48
abbrev N__law_free : List Str := ["_law_floor", "_law_cell", "_law_letter"]
theorem sc__law_free : FnScope N__law_free ["_law_floor", "_law_cell"] (defScope s__law_free) := ⟨rfl, rfl, rfl, by decide +kernel, rfl, by decide +kernel, by decide +kernel⟩
def m__law_free : SS := (sRet (eLc (iSeq (eC (.str "ensw"))) (gN 2) (bT (eIn (eCall f__law_beside (eCons (eVar 1) (eCons (eVar 2) eNil))) (eVar 0))) (eVar 2) [2]))
def f__law_free : FnD := runFn 3 m__law_free
theorem p__law_free {P : Program} {w : World} {K : PySem.W.Frag} {mg : Str → Option Value} {base : Heap} (at_ : At0 K mg "_law_free" s__law_free ["_law_floor", "_law_cell"]) (h__law_beside : Has P w K mg base "_law_beside" 2 f__law_beside 1) : Has P w K mg base "_law_free" 2 f__law_free 2 := by
  have nd := sc__law_free.nd
  refine has_of (b := m__law_free) (N := N__law_free) (k := 1) at_ sc__law_free rfl fun f cdv A outer s H E hr => ?_
  exact (ss_one (s_ret (x_lc [("_law_letter", 2)] rfl nd rfl (i_seq k_str) (blkOk_by (N := N__law_free) (sc := defScope s__law_free) (by decide +kernel)) (only_gN (by decide)) (fun _ _ _ _ _ => (v_name (i := 2) (by decide) nd rfl (.inl rfl))) (fun _ _ _ _ _ => (ts_one (y_cmp (q_in hr) (e_fn h__law_beside (hr.mono (by decide)) (lenA_cons (lenA_cons lenA_nil)) (a_cons (e_var (pv 1)) (a_cons (e_var (pv 2)) a_nil))) (e_var (pv 0))))) (fun _ _ _ _ _ => (e_var (pv 2))))))
abbrev s__law_rolled_on : Stmt := topS 49
abbrev N__law_rolled_on : List Str := ["_law_floor", "_law_place", "_law_letter", "_law_cell", "_law_lying", "_law_here"]
theorem sc__law_rolled_on : FnScope N__law_rolled_on ["_law_floor", "_law_place", "_law_letter"] (defScope s__law_rolled_on) := ⟨rfl, rfl, rfl, by decide +kernel, rfl, by decide +kernel, by decide +kernel⟩
def m__law_rolled_on : SS := (sSeq (sPar 3 4 (eCons (eCall f__law_beside (eCons (eIx (eVar 1) (eC (.int 0))) (eCons (eVar 2) eNil))) (eCons (eCall f__law_tip (eCons (eIx (eVar 1) (eC (.int 1))) (eCons (eVar 2) eNil))) eNil)))
  (sSeq (sSet 5 (eAdd (eC (.int 6)) (eBM isNt (eVar 0) (eCons (eVar 3) eNil) kIxT)))
  (sRet (eThen (eCons (eVar 3) (eCons (eVar 4) (eCons (eGt2 (eDisp [((eVar 5), (eIx (eVar 4) (eC (.int 0)))), ((eIx (eVar 4) (eC (.int 0))), (eVar 5))]) (eIx (eVar 1) (eC (.int 2))) (eIx (eVar 1) (eC (.int 2)))) eNil))) kTup))))
def f__law_rolled_on : FnD := runFn 6 m__law_rolled_on
theorem p__law_rolled_on {P : Program} {w : World} {K : PySem.W.Frag} {mg : Str → Option Value} {base : Heap} (at_ : At0 K mg "_law_rolled_on" s__law_rolled_on ["_law_floor", "_law_place", "_law_letter"]) (h__law_tip : Has P w K mg base "_law_tip" 2 f__law_tip 1) (h__law_beside : Has P w K mg base "_law_beside" 2 f__law_beside 1) : Has P w K mg base "_law_rolled_on" 3 f__law_rolled_on 2 := by
  have nd := sc__law_rolled_on.nd
  refine has_of (b := m__law_rolled_on) (N := N__law_rolled_on) (k := 1) at_ sc__law_rolled_on rfl fun f cdv A outer s H E hr => ?_
  exact (ss_cons (s_par (i := 3) (j := 4) rfl nd rfl rfl (by decide) rfl rfl (a_cons (e_fn h__law_beside (hr.mono (by decide)) (lenA_cons (lenA_cons lenA_nil)) (a_cons (x_ix (e_var (pv 1)) k_int) (a_cons (e_var (pv 2)) a_nil))) (a_cons (e_fn h__law_tip (hr.mono (by decide)) (lenA_cons (lenA_cons lenA_nil)) (a_cons (x_ix (e_var (pv 1)) k_int) (a_cons (e_var (pv 2)) a_nil))) a_nil)) rfl)
    (ss_cons (s_set (i := 5) nd rfl (.inl rfl) (x_add k_int (e_tix (u65 hr) (e_var (pv 0)) (a_cons (e_var (pv 3)) a_nil))))
    (ss_one (s_ret (e_tup (a_cons (e_var (pv 3)) (a_cons (e_var (pv 4)) (a_cons (e_gt2 (u9 hr) (e_disp (u9 hr) (ds_cons (e_var (pv 5)) (x_ix (e_var (pv 4)) k_int) (ds_cons (x_ix (e_var (pv 4)) k_int) (e_var (pv 5)) ds_nil))) (x_ix (e_var (pv 1)) k_int) (x_ix (e_var (pv 1)) k_int)) a_nil))))))))
abbrev s__law_layers : Stmt := topS 50
abbrev N__law_layers : List Str := ["_law_floor", "_law_place", "_law_found", "_law_layer", "_law_later", "_law_one", "_law_letter", "_law_other"]
theorem sc__law_layers : FnScope N__law_layers ["_law_floor", "_law_place"] (defScope s__law_layers) := ⟨rfl, rfl, rfl, by decide +kernel, rfl, by decide +kernel, by decide +kernel⟩
noncomputable def m__law_layers : SS := (sSeq (sPar 2 3 (eCons (eDisp [((eVar 1), (eC (.str "")))]) (eCons (eThen (eCons (eVar 1) eNil) kLst) eNil)))
  (sSeq (sWhile (bT (eNe (eVar 3) (eThen eNil kLst))) (sSeq (sSet 4 eDnew)
  (sSeq (sFor (iSeq (eVar 3)) (gN 5) (sFor (iSeq (eCall f__law_free (eCons (eVar 0) (eCons (eIx (eVar 5) (eC (.int 0))) eNil)))) (gN 6) (sSeq (sSet 7 (eCall f__law_rolled_on (eCons (eVar 0) (eCons (eVar 5) (eCons (eVar 6) eNil)))))
  (sIf (bT (eDi true (eVar 7) (eVar 2))) (sAsg (eThen (eCons (eGt2 (eVar 4) (eVar 7) (eC (.str "z"))) (eCons (eAdd (eDg (eVar 2) (eVar 5)) (eVar 6)) eNil)) (kE oMinS)) (gDs (eVar 4) (eVar 7))) sPass))))
  (sSeq (sExpr (eUpd (eVar 2) (eVar 4)))
  (sSet 3 (eThen (eCons (eVar 4) eNil) kLstD))))))
  (sRet (eVar 2))))
noncomputable def f__law_layers : FnD := runFn 8 m__law_layers
theorem p__law_layers {P : Program} {w : World} {K : PySem.W.Frag} {mg : Str → Option Value} {base : Heap} (at_ : At0 K mg "_law_layers" s__law_layers ["_law_floor", "_law_place"]) (h__law_free : Has P w K mg base "_law_free" 2 f__law_free 2) (h__law_rolled_on : Has P w K mg base "_law_rolled_on" 3 f__law_rolled_on 2) (z_min : mg "min" = none) (z_list : mg "list" = none) : Has P w K mg base "_law_layers" 2 f__law_layers 3 := by
  have nd := sc__law_layers.nd
  refine has_of (b := m__law_layers) (N := N__law_layers) (k := 2) at_ sc__law_layers rfl fun f cdv A outer s H E hr => ?_
  exact (ss_cons (s_par (i := 2) (j := 3) rfl nd rfl rfl (by decide) rfl rfl (a_cons (e_disp (u9 hr) (ds_cons (e_var (pv 1)) k_str ds_nil)) (a_cons (e_lst (a_cons (e_var (pv 1)) a_nil)) a_nil)) rfl)
    (ss_cons (s_while PassesOwn.never (y_cmp (q_ne hr) (e_var (pv 3)) (e_lst a_nil)) (ss_cons (s_set (i := 4) nd rfl (.inl rfl) x_dnew)
    (ss_cons (s_for PassesOwn.never rfl (i_seq (e_var (pv 3))) (g_name (i := 5) nd rfl (.inl rfl)) (ss_one (s_for PassesOwn.never rfl (i_seq (e_fn h__law_free (hr.mono (by decide)) (lenA_cons (lenA_cons lenA_nil)) (a_cons (e_var (pv 0)) (a_cons (x_ix (e_var (pv 5)) k_int) a_nil)))) (g_name (i := 6) nd rfl (.inl rfl)) (ss_cons (s_set (i := 7) nd rfl (.inl rfl) (e_fn h__law_rolled_on (hr.mono (by decide)) (lenA_cons (lenA_cons (lenA_cons lenA_nil))) (a_cons (e_var (pv 0)) (a_cons (e_var (pv 5)) (a_cons (e_var (pv 6)) a_nil)))))
    (ss_one (s_if (y_dni (u9 hr) (e_var (pv 7)) (e_var (pv 2))) (ss_one (s_asg (x_blt (w_minS rfl hr) z_min (a_cons (e_gt2 (u9 hr) (e_var (pv 4)) (e_var (pv 7)) k_str) (a_cons (x_add (e_dg (u9 hr) (e_var (pv 2)) (e_var (pv 5))) (e_var (pv 6))) a_nil))) (g_dsub (u9 hr) (e_var (pv 4)) (e_var (pv 7))))) ss_nil))))))
    (ss_cons (s_expr (e_upd (u9 hr) (e_var (pv 2)) (e_var (pv 4))))
    (ss_one (s_set (i := 3) nd rfl (.inl rfl) (x_bty (w_lstD rfl hr) z_list (a_cons (e_var (pv 4)) a_nil))))))))
    (ss_one (s_ret (e_var (pv 2))))))
abbrev s__law_due : Stmt := topS 51
abbrev N__law_due : List Str := ["_law_floor", "_law_stand", "_law_spot", "_law_to", "_law_found", "_law_rows", "_law_place"]
theorem sc__law_due : FnScope N__law_due ["_law_floor", "_law_stand", "_law_spot", "_law_to"] (defScope s__law_due) := ⟨rfl, rfl, rfl, by decide +kernel, rfl, by decide +kernel, by decide +kernel⟩
noncomputable def m__law_due : SS := (sSeq (sSet 4 (eCall f__law_layers (eCons (eVar 0) (eCons (eAdd (eVar 1) (eThen (eCons (eVar 2) eNil) kTup)) eNil))))
  (sSeq (sSet 5 (eThen (eCons (eLc (iKeysN (eVar 4)) (gN 6) (bT (eEq (eIx (eVar 6) (eC (.int 2))) (eVar 3))) (eThen (eCons (eThen (eCons (eDg (eVar 4) (eVar 6)) eNil) (kE oLen)) (eCons (eDg (eVar 4) (eVar 6)) eNil)) kTup) [6]) eNil) kSrtX))
  (sRet (eIf (bT (eNe (eVar 5) (eThen eNil kLst))) (eThen (eCons (eC (.str "row")) (eCons (eIx (eIx (eVar 5) (eC (.int 0))) (eC (.int 1))) eNil)) kTup) (eThen (eCons (eC (.str "never")) (eCons (eThen (eCons (eThen (eCons (eVar 4) eNil) kSrtG) eNil) kTupN) eNil)) kTup)))))
noncomputable def f__law_due : FnD := runFn 7 m__law_due
theorem p__law_due {P : Program} {w : World} {K : PySem.W.Frag} {mg : Str → Option Value} {base : Heap} (at_ : At0 K mg "_law_due" s__law_due ["_law_floor", "_law_stand", "_law_spot", "_law_to"]) (h__law_layers : Has P w K mg base "_law_layers" 2 f__law_layers 3) (z_sorted : mg "sorted" = none) (z_len : mg "len" = none) (z_tuple : mg "tuple" = none) : Has P w K mg base "_law_due" 4 f__law_due 4 := by
  have nd := sc__law_due.nd
  refine has_of (b := m__law_due) (N := N__law_due) (k := 3) at_ sc__law_due rfl fun f cdv A outer s H E hr => ?_
  exact (ss_cons (s_set (i := 4) nd rfl (.inr rfl) (e_fn h__law_layers (hr.mono (by decide)) (lenA_cons (lenA_cons lenA_nil)) (a_cons (e_var (pv 0)) (a_cons (x_add (e_var (pv 1)) (e_tup (a_cons (e_var (pv 2)) a_nil))) a_nil))))
    (ss_cons (s_set (i := 5) nd rfl (.inl rfl) (x_blt (w_srtX hr) z_sorted (a_cons (x_lc [("_law_place", 6)] rfl nd rfl (i_keysN (e_var (pv 4))) (blkOk_by (N := N__law_due) (sc := defScope s__law_due) (by decide +kernel)) (only_gN (by decide)) (fun _ _ _ _ _ => (v_name (i := 6) (by decide) nd rfl (.inl rfl))) (fun _ _ _ _ _ => (ts_one (y_cmp (q_eq hr) (x_ix (e_var (pv 6)) k_int) (e_var (pv 3))))) (fun _ _ _ _ _ => (e_tup (a_cons (x_blt (w_len rfl hr) z_len (a_cons (e_dg (u9 hr) (e_var (pv 4)) (e_var (pv 6))) a_nil)) (a_cons (e_dg (u9 hr) (e_var (pv 4)) (e_var (pv 6))) a_nil))))) a_nil)))
    (ss_one (s_ret (e_if (y_cmp (q_ne hr) (e_var (pv 5)) (e_lst a_nil)) (e_tup (a_cons k_str (a_cons (x_ix (x_ix (e_var (pv 5)) k_int) k_int) a_nil))) (e_tup (a_cons k_str (a_cons (x_bty (w_tuple rfl hr) z_tuple (a_cons (x_blt (w_srtG rfl hr) z_sorted (a_cons (e_var (pv 4)) a_nil)) a_nil)) a_nil))))))))
abbrev s__law_all_spots : Stmt := topS 52
abbrev N__law_all_spots : List Str := ["_law_floor"]
theorem sc__law_all_spots : FnScope N__law_all_spots ["_law_floor"] (defScope s__law_all_spots) := ⟨rfl, rfl, rfl, by decide +kernel, rfl, by decide +kernel, by decide +kernel⟩
def m__law_all_spots : SS := (sRet (eLrg (eCons (eAdd (eC (.int 6)) (eThen (eCons (eVar 0) eNil) (kE oLen))) eNil)))
def f__law_all_spots : FnD := runFn 1 m__law_all_spots
theorem p__law_all_spots {P : Program} {w : World} {K : PySem.W.Frag} {mg : Str → Option Value} {base : Heap} (at_ : At0 K mg "_law_all_spots" s__law_all_spots ["_law_floor"]) (z_list : mg "list" = none) (z_range : mg "range" = none) (z_len : mg "len" = none) : Has P w K mg base "_law_all_spots" 1 f__law_all_spots 1 := by
  have nd := sc__law_all_spots.nd
  refine has_of (b := m__law_all_spots) (N := N__law_all_spots) (k := 0) at_ sc__law_all_spots rfl fun f cdv A outer s H E hr => ?_
  exact (ss_one (s_ret (x_lrg1 z_list z_range (x_add k_int (x_blt (w_len rfl hr) z_len (a_cons (e_var (pv 0)) a_nil))))))
abbrev s_law : Stmt := topS 53
abbrev N_law : List Str := ["_law_script", "_law_k", "_law_pen_here", "_law_turn", "_law_floor", "_law_stand", "_law_spots", "_law_spot", "_law_to", "_law_kept", "_law_due_here", "_law_lap"]
theorem sc_law : FnScope N_law ["_law_script"] (defScope s_law) := ⟨rfl, rfl, rfl, by decide +kernel, rfl, by decide +kernel, by decide +kernel⟩
noncomputable def m_law : SS := (sSeq (sFor (iRg1 (eCons (eThen (eCons (eC (.int 1)) (eCons (eThen (eCons (eThen (eCons (eVar 0) eNil) (kE oLen)) (eCons (eC (.int 3)) eNil)) (kE oMin)) eNil)) (kE oMax)) eNil)) (gN 1) (sSeq (sSet 2 (eCall f__law_pen (eCons (eCall f__law_cell_at (eCons (eVar 0) (eCons (eVar 1) eNil))) eNil)))
  (sFor (iRg1 (eCons (eC (.int 3)) eNil)) (gN 3) (sSeq (sSet 4 (eCall f__law_drawn_floor (eCons (eVar 2) (eCons (eIx (eThen (eCons (eIx (eThen (eCons (eC (.int 6)) (eCons (eC (.int 9)) eNil)) kLst) (eThen (eCons (eEqx (eCall f__law_draw (eCons (eVar 2) (eCons (eC (.int 4)) eNil))) (eC (.int 0))) eNil) (kE oInt1))) (eCons (eC (.int 4)) (eCons (eC (.int 2)) eNil))) kLst) (eVar 3)) eNil))))
  (sSeq (sParN [5, 6] (eCons (eCall f__law_drawn_stand (eCons (eVar 2) (eCons (eVar 4) eNil))) (eCons (eCall f__law_all_spots (eCons (eVar 4) eNil)) eNil)))
  (sSeq (sSet 7 (eCall f__law_pick (eCons (eVar 2) (eCons (eVar 6) eNil))))
  (sFor (iSeq (eThen (eCons (eVar 7) (eCons (eCall f__law_pick (eCons (eVar 2) (eCons (eVar 6) eNil))) (eCons (eCall f__law_pick (eCons (eVar 2) (eCons (eVar 6) eNil))) eNil))) kLst)) (gN 8) (sSeq (sPar 9 10 (eCons (eThen (eCons (eThen (eCons (eVar 4) (eCons (eVar 5) eNil)) kTup) eNil) (kE oReprZ)) (eCons (eThen (eCons (eCall f__law_due (eCons (eVar 4) (eCons (eVar 5) (eCons (eVar 7) (eCons (eVar 8) eNil))))) eNil) (kE oReprZ)) eNil)))
  (sSeq (sIf (bT (eNex (eLc (iRg1 (eCons (eC (.int 2)) eNil)) (gN 11) bYes (eThen (eCons (eCall f_bring (eCons (eVar 4) (eCons (eVar 5) (eCons (eVar 7) (eCons (eVar 8) eNil))))) eNil) (kE oReprZ)) [11]) (eMul2 (eThen (eCons (eVar 10) eNil) kLst) (eC (.int 2))))) (sRet (eC (.bool false))) sPass)
  (sIf (bT (eNex (eThen (eCons (eThen (eCons (eVar 4) (eCons (eVar 5) eNil)) kTup) eNil) (kE oReprZ)) (eVar 9))) (sRet (eC (.bool false))) sPass))))))))))
  (sRet (eC (.bool true))))
noncomputable def f_law : FnD := runFn 12 m_law
theorem q_law {P : Program} {w : World} {K : PySem.W.Frag} {mg : Str → Option Value} {base : Heap} {f : Addr} {fd : FuncData} (Fn : Fun K "law" "law" s_law f fd) (h__law_pen : Has P w K mg base "_law_pen" 1 f__law_pen 1) (h__law_cell_at : Has P w K mg base "_law_cell_at" 2 f__law_cell_at 1) (h__law_drawn_floor : Has P w K mg base "_law_drawn_floor" 2 f__law_drawn_floor 3) (h__law_draw : Has P w K mg base "_law_draw" 2 f__law_draw 1) (h__law_all_spots : Has P w K mg base "_law_all_spots" 1 f__law_all_spots 1) (h__law_drawn_stand : Has P w K mg base "_law_drawn_stand" 2 f__law_drawn_stand 3) (h__law_pick : Has P w K mg base "_law_pick" 2 f__law_pick 2) (h__law_due : Has P w K mg base "_law_due" 4 f__law_due 4) (h_bring : Has P w K mg base "bring" 4 f_bring 7) (z_range : mg "range" = none) (z_max : mg "max" = none) (z_min : mg "min" = none) (z_len : mg "len" = none) (z_int : mg "int" = none) (z_repr : mg "repr" = none) : FnG P w K mg base 8 f fd ["_law_script"] (spF K f_law 1) := by
  have nd := sc_law.nd
  refine fn_okG (b := m_law) (N := N_law) (k := 7) Fn sc_law rfl fun cdv A outer s H E hr gd => ?_
  exact (ss_cons (s_for PassesOwn.never rfl (i_rg1 (by rfl) z_range (a_cons (x_blt (w_max rfl hr) z_max (a_cons k_int (a_cons (x_blt (w_min rfl hr) z_min (a_cons (x_blt (w_len rfl hr) z_len (a_cons (e_var (pv 0)) a_nil)) (a_cons k_int a_nil))) a_nil))) a_nil)) (g_name (i := 1) nd rfl (.inl rfl)) (ss_cons (s_set (i := 2) nd rfl (.inl rfl) (e_fn h__law_pen (hr.mono (by decide)) (lenA_cons lenA_nil) (a_cons (e_fn h__law_cell_at (hr.mono (by decide)) (lenA_cons (lenA_cons lenA_nil)) (a_cons (e_var (pv 0)) (a_cons (e_var (pv 1)) a_nil))) a_nil)))
    (ss_one (s_for PassesOwn.never rfl (i_rg1 (by rfl) z_range (a_cons k_int a_nil)) (g_name (i := 3) nd rfl (.inl rfl)) (ss_cons (s_set (i := 4) nd rfl (.inr rfl) (e_fn h__law_drawn_floor (hr.mono (by decide)) (lenA_cons (lenA_cons lenA_nil)) (a_cons (e_var (pv 2)) (a_cons (x_ix (e_lst (a_cons (x_ix (e_lst (a_cons k_int (a_cons k_int a_nil))) (x_bty (w_int rfl hr) z_int (a_cons (x_cmp (q_eqx hr) (e_fn h__law_draw (hr.mono (by decide)) (lenA_cons (lenA_cons lenA_nil)) (a_cons (e_var (pv 2)) (a_cons k_int a_nil))) k_int) a_nil))) (a_cons k_int (a_cons k_int a_nil)))) (e_var (pv 3))) a_nil))))
    (ss_cons (s_parN rfl (a_cons (e_fn h__law_drawn_stand (hr.mono (by decide)) (lenA_cons (lenA_cons lenA_nil)) (a_cons (e_var (pv 2)) (a_cons (e_var (pv 4)) a_nil))) (a_cons (e_fn h__law_all_spots (hr.mono (by decide)) (lenA_cons lenA_nil) (a_cons (e_var (pv 4)) a_nil)) a_nil)) (ns_cons (pg_name (i := 5) nd rfl (.inr rfl)) (ns_cons (pg_name (i := 6) nd rfl (.inl rfl)) ns_nil)))
    (ss_cons (s_set (i := 7) nd rfl (.inr rfl) (e_fn h__law_pick (hr.mono (by decide)) (lenA_cons (lenA_cons lenA_nil)) (a_cons (e_var (pv 2)) (a_cons (e_var (pv 6)) a_nil))))
    (ss_one (s_for PassesOwn.never rfl (i_seq (e_lst (a_cons (e_var (pv 7)) (a_cons (e_fn h__law_pick (hr.mono (by decide)) (lenA_cons (lenA_cons lenA_nil)) (a_cons (e_var (pv 2)) (a_cons (e_var (pv 6)) a_nil))) (a_cons (e_fn h__law_pick (hr.mono (by decide)) (lenA_cons (lenA_cons lenA_nil)) (a_cons (e_var (pv 2)) (a_cons (e_var (pv 6)) a_nil))) a_nil))))) (g_name (i := 8) nd rfl (.inr rfl)) (ss_cons (s_par (i := 9) (j := 10) rfl nd rfl rfl (by decide) rfl rfl (a_cons (x_blt (w_reprZ gd hr) z_repr (a_cons (e_tup (a_cons (e_var (pv 4)) (a_cons (e_var (pv 5)) a_nil))) a_nil)) (a_cons (x_blt (w_reprZ gd hr) z_repr (a_cons (e_fn h__law_due (hr.mono (by decide)) (lenA_cons (lenA_cons (lenA_cons (lenA_cons lenA_nil)))) (a_cons (e_var (pv 4)) (a_cons (e_var (pv 5)) (a_cons (e_var (pv 7)) (a_cons (e_var (pv 8)) a_nil))))) a_nil)) a_nil)) rfl)
    (ss_cons (s_if (y_cmp (q_nex hr) (x_lc [("_law_lap", 11)] rfl nd rfl (i_rg1 (by rfl) z_range (a_cons k_int a_nil)) (blkOk_by (N := N_law) (sc := defScope s_law) (by decide +kernel)) (only_gN (by decide)) (fun _ _ _ _ _ => (v_name (i := 11) (by decide) nd rfl (.inl rfl))) (fun _ _ _ _ _ => ts_yes) (fun _ _ _ _ _ => (x_blt (w_reprZ gd hr) z_repr (a_cons (e_fn h_bring (hr.mono (by decide)) (lenA_cons (lenA_cons (lenA_cons (lenA_cons lenA_nil)))) (a_cons (e_var (pv 4)) (a_cons (e_var (pv 5)) (a_cons (e_var (pv 7)) (a_cons (e_var (pv 8)) a_nil))))) a_nil)))) (x_mul2 (e_lst (a_cons (e_var (pv 10)) a_nil)) k_int)) (ss_one (s_ret k_bl)) ss_nil)
    (ss_one (s_if (y_cmp (q_nex hr) (x_blt (w_reprZ gd hr) z_repr (a_cons (e_tup (a_cons (e_var (pv 4)) (a_cons (e_var (pv 5)) a_nil))) a_nil)) (e_var (pv 9))) (ss_one (s_ret k_bl)) ss_nil)))))))))))))
    (ss_one (s_ret k_bl)))
-- LEFT OUT reached: call of rolled
end
end L19

end
section
set_option linter.all false
set_option autoImplicit false
set_option Elab.async false
namespace MM
open PySem L2 T3
end MM

end
section
set_option linter.all false
set_option autoImplicit false
set_option Elab.async false
namespace MM
open PySem L2 T3
theorem wS_gen {f : SS} {env : Sl} {P : Fl → Sl → Prop} (h : ∀ E, E = env → wS f E P) : wS f env P := h env rfl
theorem al_start {k n : Nat} {as : List S} (h : as.length = k) (l : k ≤ n) : Al k n (startE n as) := by
  subst h
  exact Al.start as l
end MM

end
section
set_option linter.all false
set_option autoImplicit false
set_option Elab.async false
set_option maxRecDepth 100000
set_option maxHeartbeats 4000000
namespace MM
open PySem L2 T3
noncomputable section
theorem forL_go {g : GG} {body : SS} {x : PyData} {xs : List PyData} {env e1 e2 : Sl} (h1 : g x env = some e1) (h2 : body e1 = some (.nx, e2)) : forL g body (x :: xs) env = forL g body xs e2 := by
  rw [forL]
  simp only [h1, h2]
def mOne (cal : EE) : SS := sSeq (sSet 9 cal)
  (sIf (bT (eDi true (eVar 9) (eVar 4))) (sSeq (sAsg (eAdd (eDg (eVar 4) (eVar 7)) (eVar 8)) (gDs (eVar 4) (eVar 9)))
  (sExpr (eBM isL (eVar 6) (eCons (eVar 9) eNil) kAppend))) sPass)
def mScan (cal : EE) (FL : FnD) : SS := sFor (iSeq (eCall FL (eCons (eVar 0) (eCons (eIx (eVar 7) (eC (.int 0))) eNil)))) (gN 8) (mOne cal)
def mCond : EB := bAnd (bLs (eVar 5)) (bOr (bT (eIs (eVar 3) (eC .none))) (bT (eLt (eThen (eCons (eDg (eVar 4) (eIx (eVar 5) (eC (.int 0)))) eNil) (kE oLen)) (eVar 3))))
def mLap (cal : EE) (FL : FnD) : SS := sSeq (sSet 6 (eThen eNil kLst))
  (sSeq (sFor (iSeq (eVar 5)) (gN 7) (mScan cal FL))
  (sMov 5 6))
def mRch (cal : EE) (FL : FnD) : SS := sSeq (sSet 4 (eDisp [((eVar 1), (eC (.str "")))]))
  (sSeq (sSet 5 (eThen (eCons (eVar 1) eNil) kLst))
  (sSeq (sWhile mCond (mLap cal FL))
  (sRet (eVar 4))))
structure Sk (α : Type) where
  dat : α → PyData
  key : α → NestedKey
  cel : α → PyData
  lets : α → List Dir
  go : α → Dir → α
  tk : ∀ a, tk? (dat a) = some (key a)
  inj : ∀ a b, key a = key b → a = b
  cl : ∀ a, oIx [dat a, .int 0] = some (cel a)
section
variable {α : Type} [DecidableEq α] (M : Sk α)
abbrev Rws (α : Type) := List (α × List Dir)
def look (rows : Rws α) (a : α) : Option (List Dir) := (rows.find? fun q => decide (q.1 = a)).map (·.2)
def rkv (rows : Rws α) : List (NestedKey × PyData) := rows.map fun q => (M.key q.1, .str (rowS q.2))
theorem rkv_val (rows : Rws α) (a : α) : valN (rkv M rows) (M.key a) = (look rows a).map fun ds => .str (rowS ds) := by
  unfold valN rkv look
  rw [List.find?_map, Option.map_map, Option.map_map]
  have : (fun q : NestedKey × PyData => decide (q.1 = M.key a)) ∘ (fun q : α × List Dir => (M.key q.1, PyData.str (rowS q.2))) = fun q => decide (q.1 = a) := by
    funext q
    simp only [Function.comp]
    by_cases h : q.1 = a
    · simp [h]
    · have : M.key q.1 ≠ M.key a := fun z => h (M.inj _ _ z)
      simp [h, this]
  rw [this]
  rfl
theorem rkv_put {rows : Rws α} {a : α} {ds : List Dir} (h : look rows a = none) : putN (rkv M rows) (M.key a) (.str (rowS ds)) = rkv M (rows ++ [(a, ds)]) := by
  unfold putN
  rw [rkv_val, h]
  simp [rkv]
def one (a : α) (st : Rws α × List α) (d : Dir) : Rws α × List α := if (look st.1 (M.go a d)).isSome then st else (st.1 ++ [(M.go a d, (look st.1 a).getD [] ++ [d])], st.2 ++ [M.go a d])
def scan (st : Rws α × List α) (a : α) : Rws α × List α := (M.lets a).foldl (one M a) st
def lap (rows : Rws α) (edge : List α) : Rws α × List α := edge.foldl (scan M) (rows, [])
theorem look_old {rows : Rws α} {a : α} {ds : List Dir} (r : Rws α) (h : look rows a = some ds) : look (rows ++ r) a = some ds := by
  unfold look at h ⊢
  rw [List.find?_append]
  cases e : rows.find? fun q => decide (q.1 = a) with
  | none => rw [e] at h; cases h
  | some q => rw [e] at h; exact h
theorem one_grow (a : α) (st : Rws α × List α) (d : Dir) : ∃ r, (one M a st d).1 = st.1 ++ r := by
  unfold one
  split
  · exact ⟨[], by simp⟩
  · exact ⟨_, rfl⟩
theorem rowS_snoc (ds : List Dir) (d : Dir) : rowS ds ++ chS d = rowS (ds ++ [d]) := by
  show Str.mk (_ ++ _) = _
  simp [rowS, chS]
variable (fl : List PyData) (st : PyData) (lv : PyData)
def EV (m : Md) (rows : Rws α) (edge : List α) (s6 s7 s8 s9 : Option S) : Sl :=
  [some (.nt fl), some (.pd st), some (.pd lv), some (.pd .none), some (.mu .own (.dn (rkv M rows))), some (.mu m (.ls (edge.map M.dat))), s6, s7, s8, s9]
abbrev fnd (found : List α) : Option S := some (.mu .own (.ls (found.map M.dat)))
def Frz (s : Option S) : Prop := s = none ∨ ∃ x, s = some (.pd x)
variable {cal : EE} {FL : FnD}
def CalOk (cal : EE) (a : α) (d : Dir) : Prop := ∀ env : Sl, env[2]? = some (some (.pd lv)) → env[7]? = some (some (.pd (M.dat a))) → env[8]? = some (some (.pd (.str (chS d)))) → cal env = some (.pd (M.dat (M.go a d)), env)
theorem mOne_sp {m : Md} {edge : List α} {s9 : Option S} (h9 : Frz s9) (S0 : Rws α × List α) (a : α) (d : Dir) {ds : List Dir} (hl : look S0.1 a = some ds) (l1 : S0.1.length ≤ 1000000) (l2 : S0.2.length ≤ 1000000) (l3 : ds.length < 1000000)
    (hR : CalOk M lv cal a d) :
    mOne cal (EV M fl st lv m S0.1 edge (fnd M S0.2) (some (.pd (M.dat a))) (some (.pd (.str (chS d)))) s9) = some (.nx, EV M fl st lv m (one M a S0 d).1 edge (fnd M (one M a S0 d).2) (some (.pd (M.dat a))) (some (.pd (.str (chS d)))) (some (.pd (M.dat (M.go a d))))) := by
  have lr : (rkv M S0.1).length ≤ 1000000 := by unfold rkv; rw [List.length_map]; exact l1
  have lt : (rowS ds).length + (chS d).length ≤ 1000000 := by
    have : (rowS ds).length = ds.length := by simp [rowS, Str.length]
    have : (chS d).length = 1 := rfl
    omega
  have lf : (S0.2.map M.dat).length ≤ 1000000 := by rw [List.length_map]; exact l2
  have v1 := rkv_val M S0.1 (M.go a d)
  have v2 := rkv_val M S0.1 a
  rw [hl] at v2
  have fr : free (EV M fl st lv m S0.1 edge (fnd M S0.2) (some (.pd (M.dat a))) (some (.pd (.str (chS d)))) s9) 9 = true := by
    rcases h9 with rfl | ⟨x, rfl⟩ <;> rfl
  have hc := hR (EV M fl st lv m S0.1 edge (fnd M S0.2) (some (.pd (M.dat a))) (some (.pd (.str (chS d)))) s9) rfl rfl rfl
  unfold mOne
  cases hk : look S0.1 (M.go a d) with
  | some ds2 =>
    rw [hk] at v1
    have o : one M a S0 d = S0 := by unfold one; simp [hk]
    rw [o]
    unfold EV at fr hc ⊢
    simp [hc, fr, -z_free, cGet, M.tk, v1]
  | none =>
    rw [hk] at v1
    have p := rkv_put M (ds := ds ++ [d]) hk
    have o : one M a S0 d = (S0.1 ++ [(M.go a d, ds ++ [d])], S0.2 ++ [M.go a d]) := by unfold one; simp [hk, hl]
    rw [o]
    unfold EV at fr hc ⊢
    simp [hc, fr, -z_free, cGet, M.tk, v1, v2, kAdd, oI, oCatS, lt, rowS_snoc, cPut, lr, p, eBM, isL, kAppend, l2, fnd]
theorem one_len (a : α) (S0 : Rws α × List α) (d : Dir) : (one M a S0 d).1.length ≤ S0.1.length + 1 ∧ (one M a S0 d).2.length ≤ S0.2.length + 1 := by
  unfold one
  split
  · omega
  · simp
def RSp (cal : EE) (a : α) : Prop := ∀ d ∈ M.lets a, CalOk M lv cal a d
def LSp (FL : FnD) (a : α) : Prop := FL [.nt fl, .pd (M.cel a)] = some (.tmp (.ls ((M.lets a).map fun d => .str (chS d))), [.nt fl, .pd (M.cel a)])
theorem inner {m : Md} {edge : List α} (a : α) {ds : List Dir} (l3 : ds.length < 1000000) : ∀ (es : List Dir) (S0 : Rws α × List α) (s8 s9 : Option S), Frz s8 → Frz s9 → look S0.1 a = some ds → S0.1.length + es.length ≤ 1000000 → S0.2.length + es.length ≤ 1000000 →
    (∀ d ∈ es, CalOk M lv cal a d) →
    ∃ s8' s9', Frz s8' ∧ Frz s9' ∧ forL (gN 8) (mOne cal) (es.map fun d => .str (chS d)) (EV M fl st lv m S0.1 edge (fnd M S0.2) (some (.pd (M.dat a))) s8 s9) = some (.nx, EV M fl st lv m (es.foldl (one M a) S0).1 edge (fnd M (es.foldl (one M a) S0).2) (some (.pd (M.dat a))) s8' s9')
  | [], S0, s8, s9, h8, h9, _, _, _, _ => ⟨s8, s9, h8, h9, by simp [forL]⟩
  | d :: es, S0, s8, s9, h8, h9, hl, l1, l2, hR => by
    have hd := mOne_sp M fl st lv (m := m) (edge := edge) h9 S0 a d hl (by simp at l1; omega) (by simp at l2; omega) l3 (hR d (List.mem_cons_self ..))
    obtain ⟨r, hr⟩ := one_grow M a S0 d
    obtain ⟨n1, n2⟩ := one_len M a S0 d
    obtain ⟨s8', s9', g1, g2, e⟩ := inner (m := m) (edge := edge) a l3 es (one M a S0 d) (some (.pd (.str (chS d)))) (some (.pd (M.dat (M.go a d)))) (.inr ⟨_, rfl⟩) (.inr ⟨_, rfl⟩) (by rw [hr]; exact look_old r hl) (by simp at l1; omega) (by simp at l2; omega) fun x hx => hR x (List.mem_cons_of_mem _ hx)
    refine ⟨s8', s9', g1, g2, ?_⟩
    rw [List.map_cons, forL_go (e1 := EV M fl st lv m S0.1 edge (fnd M S0.2) (some (.pd (M.dat a))) (some (.pd (.str (chS d)))) s9) ?_ hd, e]
    · rfl
    · rcases h8 with rfl | ⟨x, rfl⟩ <;> simp [EV]
theorem mScan_sp {m : Md} {edge : List α} (a : α) {ds : List Dir} (l3 : ds.length < 1000000) (S0 : Rws α × List α) {s8 s9 : Option S} (h8 : Frz s8) (h9 : Frz s9) (hl : look S0.1 a = some ds) (l1 : S0.1.length + (M.lets a).length ≤ 1000000) (l2 : S0.2.length + (M.lets a).length ≤ 1000000) (hR : RSp M lv cal a) (hL : LSp M fl FL a) :
    ∃ s8' s9', Frz s8' ∧ Frz s9' ∧ mScan cal FL (EV M fl st lv m S0.1 edge (fnd M S0.2) (some (.pd (M.dat a))) s8 s9) = some (.nx, EV M fl st lv m (scan M S0 a).1 edge (fnd M (scan M S0 a).2) (some (.pd (M.dat a))) s8' s9') := by
  obtain ⟨s8', s9', g1, g2, e⟩ := inner M fl st lv (cal := cal) (m := m) (edge := edge) a l3 (M.lets a) S0 s8 s9 h8 h9 hl l1 l2 hR
  refine ⟨s8', s9', g1, g2, ?_⟩
  have hc := M.cl a
  unfold LSp at hL
  have hi : (iSeq (eCall FL (eCons (eVar 0) (eCons (eIx (eVar 7) (eC (.int 0))) eNil)))) (EV M fl st lv m S0.1 edge (fnd M S0.2) (some (.pd (M.dat a))) s8 s9) = some ((M.lets a).map fun d => .str (chS d), none, EV M fl st lv m S0.1 edge (fnd M S0.2) (some (.pd (M.dat a))) s8 s9) := by
    unfold EV
    simp [iSeq, eIx, hc, hL]
  unfold mScan
  simp only [z_for, hi, e]
  rfl
theorem scan_len (S0 : Rws α × List α) (a : α) : (scan M S0 a).1.length ≤ S0.1.length + (M.lets a).length ∧ (scan M S0 a).2.length ≤ S0.2.length + (M.lets a).length := by
  unfold scan
  induction M.lets a generalizing S0 with
  | nil => simp
  | cons d es ih =>
    have h := ih (one M a S0 d)
    have n := one_len M a S0 d
    simp only [List.foldl_cons, List.length_cons]
    omega
theorem scan_grow (S0 : Rws α × List α) (a : α) : ∃ r, (scan M S0 a).1 = S0.1 ++ r := by
  unfold scan
  induction M.lets a generalizing S0 with
  | nil => exact ⟨[], by simp⟩
  | cons d es ih =>
    obtain ⟨r, h⟩ := ih (one M a S0 d)
    obtain ⟨r2, h2⟩ := one_grow M a S0 d
    exact ⟨r2 ++ r, by rw [List.foldl_cons, h, h2, List.append_assoc]⟩
theorem outerE {m : Md} {edge : List α} : ∀ (as : List α) (S0 : Rws α × List α) (s7 s8 s9 : Option S), Frz s7 → Frz s8 → Frz s9 → (∀ a ∈ as, (∃ ds, look S0.1 a = some ds ∧ ds.length < 1000000) ∧ (M.lets a).length ≤ 4 ∧ RSp M lv cal a ∧ LSp M fl FL a) → S0.1.length + 4 * as.length ≤ 1000000 → S0.2.length + 4 * as.length ≤ 1000000 →
    ∃ s7' s8' s9', Frz s7' ∧ Frz s8' ∧ Frz s9' ∧ forL (gN 7) (mScan cal FL) (as.map M.dat) (EV M fl st lv m S0.1 edge (fnd M S0.2) s7 s8 s9) = some (.nx, EV M fl st lv m (as.foldl (scan M) S0).1 edge (fnd M (as.foldl (scan M) S0).2) s7' s8' s9')
  | [], S0, s7, s8, s9, h7, h8, h9, _, _, _ => ⟨s7, s8, s9, h7, h8, h9, by simp [forL]⟩
  | a :: as, S0, s7, s8, s9, h7, h8, h9, hA, l1, l2 => by
    obtain ⟨⟨ds, hl, l3⟩, l4, hR, hL⟩ := hA a (List.mem_cons_self ..)
    obtain ⟨t8, t9, g8, g9, e1⟩ := mScan_sp M fl st lv (m := m) (edge := edge) a l3 S0 h8 h9 hl (by simp at l1; omega) (by simp at l2; omega) hR hL
    obtain ⟨r, hr⟩ := scan_grow M S0 a
    obtain ⟨n1, n2⟩ := scan_len M S0 a
    obtain ⟨s7', s8', s9', g1, g2, g3, e⟩ := outerE (m := m) (edge := edge) as (scan M S0 a) (some (.pd (M.dat a))) t8 t9 (.inr ⟨_, rfl⟩) g8 g9 (fun b hb => by
      obtain ⟨⟨ds, hl, l3⟩, q⟩ := hA b (List.mem_cons_of_mem _ hb)
      exact ⟨⟨ds, by rw [hr]; exact look_old r hl, l3⟩, q⟩) (by simp at l1; omega) (by simp at l2; omega)
    refine ⟨s7', s8', s9', g1, g2, g3, ?_⟩
    rw [List.map_cons, forL_go (e1 := EV M fl st lv m S0.1 edge (fnd M S0.2) (some (.pd (M.dat a))) s8 s9) ?_ e1, e]
    · rfl
    · rcases h7 with rfl | ⟨x, rfl⟩ <;> simp [EV]
structure Lp (cal : EE) (FL : FnD) (J : Rws α → List α → Prop) (μ : Rws α → List α → Nat) : Prop where
  ok : ∀ rows edge, J rows edge → (∀ a ∈ edge, (∃ ds, look rows a = some ds ∧ ds.length < 1000000) ∧ (M.lets a).length ≤ 4 ∧ RSp M lv cal a ∧ LSp M fl FL a) ∧ rows.length + 4 * edge.length ≤ 1000000
  go : ∀ rows edge, J rows edge → edge ≠ [] → J (lap M rows edge).1 (lap M rows edge).2 ∧ μ (lap M rows edge).1 (lap M rows edge).2 < μ rows edge
def IW (J : Rws α → List α → Prop) (μ : Rws α → List α → Nat) (n : Nat) (e : Sl) : Prop := ∃ rows edge s7 s8 s9, J rows edge ∧ n = μ rows edge ∧ Frz s7 ∧ Frz s8 ∧ Frz s9 ∧ e = EV M fl st lv .own rows edge none s7 s8 s9
theorem mLap_sp {rows : Rws α} {edge : List α} {s7 s8 s9 : Option S} (h7 : Frz s7) (h8 : Frz s8) (h9 : Frz s9) (hA : ∀ a ∈ edge, (∃ ds, look rows a = some ds ∧ ds.length < 1000000) ∧ (M.lets a).length ≤ 4 ∧ RSp M lv cal a ∧ LSp M fl FL a) (l1 : rows.length + 4 * edge.length ≤ 1000000) :
    ∃ s7' s8' s9', Frz s7' ∧ Frz s8' ∧ Frz s9' ∧ mLap cal FL (EV M fl st lv .own rows edge none s7 s8 s9) = some (.nx, EV M fl st lv .own (lap M rows edge).1 (lap M rows edge).2 none s7' s8' s9') := by
  obtain ⟨s7', s8', s9', g1, g2, g3, e⟩ := outerE M fl st lv (cal := cal) (FL := FL) (m := .fro) (edge := edge) edge (rows, []) s7 s8 s9 h7 h8 h9 hA l1 (by simp; omega)
  refine ⟨s7', s8', s9', g1, g2, g3, ?_⟩
  have e' : forL (gN 7) (mScan cal FL) (edge.map M.dat) [some (.nt fl), some (.pd st), some (.pd lv), some (.pd .none), some (.mu .own (.dn (rkv M rows))), some (.mu .fro (.ls (edge.map M.dat))), some (.mu .own (.ls [])), s7, s8, s9] = some (.nx, EV M fl st lv .fro (lap M rows edge).1 edge (fnd M (lap M rows edge).2) s7' s8' s9') := e
  unfold mLap
  unfold EV at e' ⊢
  simp [iSeq, e', fnd]
theorem mRch_sp {J : Rws α → List α → Prop} {μ : Rws α → List α → Nat} (L : Lp M fl lv cal FL J μ) (a0 : α) (h0 : J [(a0, [])] [a0]) :
    ∃ rows, J rows [] ∧ runFn 10 (mRch cal FL) [.nt fl, .pd (M.dat a0), .pd lv, .pd .none] = some (.tmp (.dn (rkv M rows)), [.nt fl, .pd (M.dat a0), .pd lv, .pd .none]) := by
  have key : ∀ Q : R → List S → Prop, (∀ rows, J rows [] → Q (.tmp (.dn (rkv M rows))) [.nt fl, .pd (M.dat a0), .pd lv, .pd .none]) → wF (runFn 10 (mRch cal FL)) [.nt fl, .pd (M.dat a0), .pd lv, .pd .none] Q := by
    intro Q q
    refine wF_run (e := [some (.nt fl), some (.pd (M.dat a0)), some (.pd lv), some (.pd .none), none, none, none, none, none, none]) rfl ?_
    unfold mRch
    refine wS_seq ?_
    have hk : key? (M.dat a0) = none := by
      have h := M.tk a0
      cases hd : M.dat a0 with
      | int i => rw [hd] at h; simp [tk?, nk?] at h
      | str i => rw [hd] at h; simp [tk?, nk?] at h
      | _ => rfl
    have hK : keysK [(M.dat a0, PyData.str "")] = none := by simp [keysK, hk]
    have hN : keysN [(M.dat a0, PyData.str "")] = some [(M.key a0, .str "")] := by simp [keysN, M.tk]
    have hA : allN [(M.key a0, PyData.str "")] = rkv M [(a0, [])] := by
      simp [allN, putN, valN, rkv]
      rfl
    simp [wS, ePairs, hK, hN, hA]
    rw [go]
    refine wS_seq ?_
    simp [wS]
    rw [go]
    refine wS_seq ?_
    refine wS_while (IW M fl (M.dat a0) lv J μ) (μ [(a0, [])] [a0]) ⟨_, _, none, none, none, h0, rfl, .inl rfl, .inl rfl, .inl rfl, rfl⟩ ?_
    rintro n e ⟨rows, edge, s7, s8, s9, hJ, rfl, h7, h8, h9, rfl⟩
    obtain ⟨hA, hl⟩ := L.ok rows edge hJ
    cases edge with
    | nil =>
      have hc : mCond (EV M fl (M.dat a0) lv .own rows [] none s7 s8 s9) = some (false, EV M fl (M.dat a0) lv .own rows [] none s7 s8 s9) := by
        unfold EV mCond
        simp
      unfold bW
      rw [hc]
      simp only [if_false, Bool.false_eq_true]
      rw [nxt_nx, go]
      unfold EV
      simp [wS, retP, outR]
      exact q rows hJ
    | cons a edge =>
      obtain ⟨t7, t8, t9, g7, g8, g9, e1⟩ := mLap_sp M fl (M.dat a0) lv h7 h8 h9 hA hl
      obtain ⟨k1, k2⟩ := L.go rows (a :: edge) hJ (by simp)
      have hz : oIsN false [PyData.none, PyData.none] = some (.bool true) := rfl
      have hc : mCond (EV M fl (M.dat a0) lv .own rows (a :: edge) none s7 s8 s9) = some (true, EV M fl (M.dat a0) lv .own rows (a :: edge) none s7 s8 s9) := by
        unfold EV mCond
        simp [hz]
      unfold bW
      rw [hc]
      simp only [if_true]
      exact wS_of e1 ⟨_, k2, _, _, t7, t8, t9, k1, rfl, g7, g8, g9, rfl⟩
  obtain ⟨r, as, e, rows, h1, rfl, rfl⟩ := key (fun r as => ∃ rows, J rows [] ∧ r = .tmp (.dn (rkv M rows)) ∧ as = [.nt fl, .pd (M.dat a0), .pd lv, .pd .none]) fun rows h => ⟨rows, h, rfl, rfl⟩
  exact ⟨rows, h1, e⟩
end
end
end MM

end
section
set_option linter.all false
set_option autoImplicit false
set_option Elab.async false
set_option maxRecDepth 100000
set_option maxHeartbeats 4000000
namespace MM
open PySem L2 T3
def rk : Dir → Nat
  | .e => 0
  | .n => 1
  | .s => 2
  | .w => 3
def lx : List Dir → List Dir → Prop
  | d :: ds, e :: es => rk d < rk e ∨ (d = e ∧ lx ds es)
  | _, _ => False
theorem lx_trans : ∀ {a b c : List Dir}, lx a b → lx b c → lx a c
  | [], _, _, h, _ => h.elim
  | _ :: _, [], _, h, _ => h.elim
  | _ :: _, _ :: _, [], _, h => h.elim
  | x :: a, y :: b, z :: c, h, k => by
    rcases h with h | ⟨rfl, h⟩
    · rcases k with k | ⟨rfl, k⟩
      · exact .inl (Nat.lt_trans h k)
      · exact .inl h
    · rcases k with k | ⟨rfl, k⟩
      · exact .inl k
      · exact .inr ⟨rfl, lx_trans h k⟩
theorem lx_app : ∀ {a b : List Dir} (x y : List Dir), lx a b → lx (a ++ x) (b ++ y)
  | [], _, _, _, h => h.elim
  | _ :: _, [], _, _, h => h.elim
  | p :: a, q :: b, x, y, h => by
    rcases h with h | ⟨rfl, h⟩
    · exact .inl h
    · exact .inr ⟨rfl, lx_app x y h⟩
theorem lx_snoc {d e : Dir} (h : rk d < rk e) : ∀ (a : List Dir), lx (a ++ [d]) (a ++ [e])
  | [] => .inl h
  | _ :: a => .inr ⟨rfl, lx_snoc h a⟩
def sle (es ds : List Dir) : Prop := es.length < ds.length ∨ (es.length = ds.length ∧ (es = ds ∨ lx es ds))
section
variable {α : Type} [DecidableEq α] (M : Sk α)
def Ld (a : α) : List Dir → α → Prop
  | [], b => a = b
  | d :: ds, b => d ∈ M.lets a ∧ Ld (M.go a d) ds b
theorem ld_app : ∀ {ds es : List Dir} {a b : α}, Ld M a (ds ++ es) b ↔ ∃ c, Ld M a ds c ∧ Ld M c es b
  | [], es, a, b => by simp [Ld]
  | d :: ds, es, a, b => by
    simp only [List.cons_append, Ld]
    constructor
    · rintro ⟨h1, h2⟩
      obtain ⟨c, h3, h4⟩ := ld_app.mp h2
      exact ⟨c, ⟨h1, h3⟩, h4⟩
    · rintro ⟨c, ⟨h1, h2⟩, h3⟩
      exact ⟨h1, ld_app.mpr ⟨c, h2, h3⟩⟩
def stF (rows : Rws α) (q : α × List Dir) : Rws α := if (look rows q.1).isSome then rows else rows ++ [q]
theorem look_key {rows : Rws α} {a : α} : (look rows a).isSome = true ↔ a ∈ rows.map (·.1) := by
  unfold look
  rw [Option.isSome_map, List.find?_isSome]
  simp
theorem look_mem {rows : Rws α} (nd : (rows.map (·.1)).Nodup) {q : α × List Dir} (h : q ∈ rows) : look rows q.1 = some q.2 := by
  induction rows with
  | nil => cases h
  | cons p rows ih =>
    unfold look
    rw [List.map_cons, List.nodup_cons] at nd
    rcases List.mem_cons.mp h with e | h
    · subst e; simp
    · have : p.1 ≠ q.1 := fun z => nd.1 (z ▸ List.mem_map.mpr ⟨q, h, rfl⟩)
      rw [List.find?_cons_of_neg (by simpa using this)]
      exact ih nd.2 h
theorem mem_look {rows : Rws α} {a : α} {ds : List Dir} (h : look rows a = some ds) : (a, ds) ∈ rows := by
  unfold look at h
  cases e : rows.find? fun q => decide (q.1 = a) with
  | none => rw [e] at h; cases h
  | some q =>
    rw [e] at h
    cases h
    have h1 := List.find?_some e
    have h2 := List.mem_of_find?_eq_some e
    simp at h1
    rw [← h1]
    exact h2
theorem stF_all : ∀ (W : Rws α) (rows : Rws α), (rows.map (·.1)).Nodup → W.Pairwise (fun p q => lx p.2 q.2) →
    ∃ new : Rws α, W.foldl stF rows = rows ++ new ∧ new.Sublist W ∧ ((rows ++ new).map (·.1)).Nodup ∧ (∀ q ∈ W, q.1 ∉ rows.map (·.1) → ∃ p ∈ new, p.1 = q.1 ∧ (p.2 = q.2 ∨ lx p.2 q.2))
  | [], rows, nd, _ => ⟨[], by simp, .slnil, by simpa using nd, by simp⟩
  | q :: W, rows, nd, pw => by
    rw [List.pairwise_cons] at pw
    by_cases h : q.1 ∈ rows.map (·.1)
    · have e : stF rows q = rows := by unfold stF; rw [if_pos (look_key.mpr h)]
      obtain ⟨new, h1, h2, h3, h4⟩ := stF_all W rows nd pw.2
      refine ⟨new, by rw [List.foldl_cons, e, h1], h2.cons _, h3, fun p hp hn => ?_⟩
      rcases List.mem_cons.mp hp with z | hp
      · subst z; exact absurd h hn
      · exact h4 p hp hn
    · have e : stF rows q = rows ++ [q] := by unfold stF; rw [if_neg (fun z => h (look_key.mp z))]
      have nd' : ((rows ++ [q]).map (·.1)).Nodup := by
        rw [List.map_append, List.nodup_append]
        refine ⟨nd, by simp, fun a ha b hb z => ?_⟩
        subst z
        simp at hb
        subst hb
        exact h ha
      obtain ⟨new, h1, h2, h3, h4⟩ := stF_all W (rows ++ [q]) nd' pw.2
      refine ⟨q :: new, by rw [List.foldl_cons, e, h1, List.append_assoc]; rfl, h2.cons_cons _, by rw [List.append_assoc] at h3; exact h3, fun p hp hn => ?_⟩
      rcases List.mem_cons.mp hp with z | hp
      · subst z; exact ⟨p, List.mem_cons_self .., rfl, .inl rfl⟩
      · by_cases z : p.1 = q.1
        · exact ⟨q, List.mem_cons_self .., z.symm, .inr (pw.1 p hp)⟩
        · obtain ⟨r, hr, k⟩ := h4 p hp (by
            rw [List.map_append, List.mem_append]
            rintro (y | y)
            · exact hn y
            · simp at y
              exact z y)
          exact ⟨r, List.mem_cons_of_mem _ hr, k⟩
def wds (el : Rws α) : Rws α := el.flatMap fun q => (M.lets q.1).map fun d => (M.go q.1 d, q.2 ++ [d])
theorem one_stF (a : α) (ds : List Dir) (st : Rws α × List α) (r0 : Rws α) (d : Dir) (h : look st.1 a = some ds) (hs : ∃ new, st.1 = r0 ++ new ∧ st.2 = new.map (·.1)) :
    (one M a st d).1 = stF st.1 (M.go a d, ds ++ [d]) ∧ ∃ new, (one M a st d).1 = r0 ++ new ∧ (one M a st d).2 = new.map (·.1) := by
  obtain ⟨new, h1, h2⟩ := hs
  unfold one stF
  split
  · exact ⟨rfl, new, h1, h2⟩
  · refine ⟨by rw [h]; rfl, new ++ [(M.go a d, ds ++ [d])], ?_, ?_⟩
    · rw [h, ← List.append_assoc, h1]; rfl
    · rw [h2]; simp
theorem scan_stF (a : α) (ds : List Dir) (r0 : Rws α) : ∀ (es : List Dir) (st : Rws α × List α), look st.1 a = some ds → (∃ new, st.1 = r0 ++ new ∧ st.2 = new.map (·.1)) →
    (es.foldl (one M a) st).1 = (es.map fun d => (M.go a d, ds ++ [d])).foldl stF st.1 ∧ ∃ new, (es.foldl (one M a) st).1 = r0 ++ new ∧ (es.foldl (one M a) st).2 = new.map (·.1)
  | [], st, _, hs => ⟨rfl, hs⟩
  | d :: es, st, h, hs => by
    obtain ⟨k1, k2⟩ := one_stF M a ds st r0 d h hs
    obtain ⟨r, hr⟩ := one_grow M a st d
    have := scan_stF a ds r0 es (one M a st d) (by rw [hr]; exact look_old r h) k2
    rw [List.foldl_cons, List.map_cons, List.foldl_cons, ← k1]
    exact this
theorem lap_stF (r0 : Rws α) : ∀ (el : Rws α) (st : Rws α × List α), (∀ q ∈ el, look st.1 q.1 = some q.2) → (∃ new, st.1 = r0 ++ new ∧ st.2 = new.map (·.1)) →
    ((el.map (·.1)).foldl (scan M) st).1 = (wds M el).foldl stF st.1 ∧ ∃ new, ((el.map (·.1)).foldl (scan M) st).1 = r0 ++ new ∧ ((el.map (·.1)).foldl (scan M) st).2 = new.map (·.1)
  | [], st, _, hs => ⟨rfl, hs⟩
  | q :: el, st, h, hs => by
    obtain ⟨k1, k2⟩ := scan_stF M q.1 q.2 r0 (M.lets q.1) st (h q (List.mem_cons_self ..)) hs
    obtain ⟨r, hr⟩ := scan_grow M st q.1
    have := lap_stF r0 el (scan M st q.1) (fun p hp => by rw [hr]; exact look_old r (h p (List.mem_cons_of_mem _ hp))) k2
    rw [List.map_cons, List.foldl_cons]
    refine ⟨?_, this.2⟩
    rw [this.1]
    unfold wds
    rw [List.flatMap_cons, List.foldl_append]
    rw [show (scan M st q.1).1 = _ from k1]
end
end MM

end
section
set_option linter.all false
set_option autoImplicit false
set_option Elab.async false
set_option maxRecDepth 100000
set_option maxHeartbeats 4000000
namespace MM
open PySem L2 T3
section
variable {α : Type} [DecidableEq α] (M : Sk α) (U : List α) (a0 : α)
structure Wd : Prop where
  len : U.length ≤ 10000
  go : ∀ a ∈ U, ∀ d ∈ M.lets a, M.go a d ∈ U
  four : ∀ a ∈ U, (M.lets a).length ≤ 4
  up : ∀ a ∈ U, (M.lets a).Pairwise fun d e => rk d < rk e
structure Lv (n : Nat) (rows : Rws α) (edge : List α) : Prop where
  nd : (rows.map (·.1)).Nodup
  inU : ∀ q ∈ rows, q.1 ∈ U
  snd : ∀ q ∈ rows, Ld M a0 q.2 q.1 ∧ q.2.length ≤ n
  edg : ∃ el : Rws α, edge = el.map (·.1) ∧ el.Sublist rows ∧ el.Pairwise (fun p q => lx p.2 q.2) ∧ ∀ q ∈ rows, q.2.length = n ↔ q ∈ el
  cmp : ∀ ds b, Ld M a0 ds b → ds.length ≤ n → ∃ es, (b, es) ∈ rows ∧ sle es ds
  lev : n + (if edge = [] then 0 else 1) ≤ rows.length
variable {M U a0}
theorem Lv.start (h : a0 ∈ U) : Lv M U a0 0 [(a0, [])] [a0] where
  nd := by simp
  inU q hq := by simp at hq; subst hq; exact h
  snd q hq := by simp at hq; subst hq; exact ⟨rfl, Nat.le_refl _⟩
  edg := ⟨[(a0, [])], rfl, List.Sublist.refl _, by simp, fun q hq => by simp at hq; subst hq; simp⟩
  cmp ds b h hl := by
    have : ds = [] := List.length_eq_zero_iff.mp (Nat.le_zero.mp hl)
    subst this
    cases h
    exact ⟨[], by simp, .inr ⟨rfl, .inl rfl⟩⟩
  lev := by simp
theorem sle_trans {a b c : List Dir} (h : sle a b) (k : sle b c) : sle a c := by
  unfold sle at *
  rcases h with h | ⟨h, h'⟩
  · rcases k with k | ⟨k, _⟩
    · exact .inl (by omega)
    · exact .inl (by omega)
  · rcases k with k | ⟨k, k'⟩
    · exact .inl (by omega)
    · refine .inr ⟨by omega, ?_⟩
      rcases h' with rfl | h'
      · exact k'
      · rcases k' with rfl | k'
        · exact .inr h'
        · exact .inr (lx_trans h' k')
theorem wds_up (w : Wd M U) {n : Nat} : ∀ {el : Rws α}, (∀ q ∈ el, q.1 ∈ U ∧ q.2.length = n) → el.Pairwise (fun p q => lx p.2 q.2) → (wds M el).Pairwise (fun p q => lx p.2 q.2)
  | [], _, _ => .nil
  | q :: el, h, pw => by
    rw [List.pairwise_cons] at pw
    unfold wds
    rw [List.flatMap_cons, List.pairwise_append]
    refine ⟨?_, wds_up w (fun p hp => h p (List.mem_cons_of_mem _ hp)) pw.2, fun x hx y hy => ?_⟩
    · rw [List.pairwise_map]
      exact (w.up q.1 (h q (List.mem_cons_self ..)).1).imp fun {d e} hde => lx_snoc hde q.2
    · obtain ⟨d, _, rfl⟩ := List.mem_map.mp hx
      obtain ⟨p, hp, hy⟩ := List.mem_flatMap.mp hy
      obtain ⟨e, _, rfl⟩ := List.mem_map.mp hy
      exact lx_app _ _ (pw.1 p hp)
theorem Lv.next (w : Wd M U) {n : Nat} {rows : Rws α} {edge : List α} (h : Lv M U a0 n rows edge) (ne : edge ≠ []) : ∃ new, (lap M rows edge).1 = rows ++ new ∧ (lap M rows edge).2 = new.map (·.1) ∧ Lv M U a0 (n + 1) (rows ++ new) (new.map (·.1)) := by
  obtain ⟨el, rfl, sub, pw, iff⟩ := h.edg
  have hel : ∀ q ∈ el, q ∈ rows ∧ q.2.length = n := fun q hq => ⟨sub.subset hq, (iff q (sub.subset hq)).mpr hq⟩
  obtain ⟨k1, new, k2, k3⟩ := lap_stF M rows el (rows, []) (fun q hq => look_mem h.nd (hel q hq).1) ⟨[], by simp, rfl⟩
  obtain ⟨new', e1, e2, e3, e4⟩ := stF_all (wds M el) rows h.nd (wds_up w (fun q hq => ⟨h.inU q (hel q hq).1, (hel q hq).2⟩) pw)
  have en : new' = new := by
    have : rows ++ new' = rows ++ new := by rw [← e1, ← k2]; exact k1.symm
    exact List.append_cancel_left this
  subst en
  have wd : ∀ q ∈ wds M el, ∃ p ∈ el, ∃ d ∈ M.lets p.1, q = (M.go p.1 d, p.2 ++ [d]) := fun q hq => by
    obtain ⟨p, hp, hq⟩ := List.mem_flatMap.mp hq
    obtain ⟨d, hd, e⟩ := List.mem_map.mp hq
    exact ⟨p, hp, d, hd, e.symm⟩
  have ln : ∀ q ∈ new', q.2.length = n + 1 ∧ q.1 ∈ U ∧ Ld M a0 q.2 q.1 := fun q hq => by
    obtain ⟨p, hp, d, hd, rfl⟩ := wd q (e2.subset hq)
    obtain ⟨r1, r2⟩ := hel p hp
    refine ⟨by simp [r2], w.go _ (h.inU p r1) d hd, (ld_app M).mpr ⟨p.1, (h.snd p r1).1, hd, rfl⟩⟩
  refine ⟨new', k2, k3, ?_⟩
  refine ⟨e3, fun q hq => ?_, fun q hq => ?_, ⟨new', rfl, List.sublist_append_right _ _, List.Pairwise.sublist e2 (wds_up w (fun q hq => ⟨h.inU q (hel q hq).1, (hel q hq).2⟩) pw), fun q hq => ?_⟩, fun ds b hL hl => ?_, ?_⟩
  · rcases List.mem_append.mp hq with hq | hq
    · exact h.inU q hq
    · exact (ln q hq).2.1
  · rcases List.mem_append.mp hq with hq | hq
    · exact ⟨(h.snd q hq).1, by have := (h.snd q hq).2; omega⟩
    · exact ⟨(ln q hq).2.2, by rw [(ln q hq).1]; exact Nat.le_refl _⟩
  · rcases List.mem_append.mp hq with hq' | hq'
    · have l1 := (h.snd q hq').2
      refine ⟨fun z => by omega, fun z => ?_⟩
      have := (ln q z).1
      omega
    · exact ⟨fun _ => hq', fun _ => (ln q hq').1⟩
  · by_cases hs : ds.length ≤ n
    · obtain ⟨es, m1, m2⟩ := h.cmp ds b hL hs
      exact ⟨es, List.mem_append.mpr (.inl m1), m2⟩
    · have hne : ds ≠ [] := fun z => by subst z; simp at hs
      obtain ⟨ds', d, rfl⟩ : ∃ ds' d, ds = ds' ++ [d] := ⟨ds.dropLast, ds.getLast hne, (List.dropLast_concat_getLast hne).symm⟩
      obtain ⟨c, g1, g2, g3⟩ := (ld_app M).mp hL
      have g3' : M.go c d = b := g3
      subst g3'
      have l' : ds'.length = n := by simp at hl hs; omega
      obtain ⟨es, m1, m2⟩ := h.cmp ds' c g1 (by omega)
      have hes := (h.snd _ m1)
      have leads : Ld M a0 (es ++ [d]) (M.go c d) := (ld_app M).mpr ⟨c, hes.1, g2, rfl⟩
      have snoc : sle (es ++ [d]) (ds' ++ [d]) := by
        unfold sle at m2 ⊢
        simp only [List.length_append, List.length_singleton]
        rcases m2 with m2 | ⟨m2, m3⟩
        · exact .inl (by omega)
        · refine .inr ⟨by omega, ?_⟩
          rcases m3 with rfl | m3
          · exact .inl rfl
          · exact .inr (lx_app _ _ m3)
      by_cases hn : es.length < n
      · obtain ⟨fs, p1, p2⟩ := h.cmp (es ++ [d]) _ leads (by simp; omega)
        exact ⟨fs, List.mem_append.mpr (.inl p1), sle_trans p2 snoc⟩
      · have hn' : es.length = n := by have := hes.2; simp at this; omega
        have hin : (c, es) ∈ el := (iff _ m1).mp hn'
        have hw : (M.go c d, es ++ [d]) ∈ wds M el := List.mem_flatMap.mpr ⟨(c, es), hin, List.mem_map.mpr ⟨d, g2, rfl⟩⟩
        by_cases hk : M.go c d ∈ rows.map (·.1)
        · obtain ⟨q, hq, e⟩ := List.mem_map.mp hk
          refine ⟨q.2, List.mem_append.mpr (.inl (by rw [← e]; exact hq)), .inl ?_⟩
          have := (h.snd q hq).2
          simp
          omega
        · obtain ⟨p, p1, p2, p3⟩ := e4 _ hw hk
          have p2' : p.1 = M.go c d := p2
          refine ⟨p.2, List.mem_append.mpr (.inr (by rw [← p2']; exact p1)), sle_trans (.inr ⟨?_, p3⟩) snoc⟩
          rw [(ln p p1).1]
          simp [hn']
  · have l1 := h.lev
    rw [if_neg ne] at l1
    cases new' with
    | nil => simp; omega
    | cons q new' => simp; omega
theorem Lv.best {n : Nat} {rows : Rws α} (h : Lv M U a0 n rows []) : ∀ k ds b, ds.length = k → Ld M a0 ds b → ∃ es, (b, es) ∈ rows ∧ sle es ds := by
  intro k
  induction k using Nat.strongRecOn with
  | _ k ih =>
    intro ds b hk hL
    by_cases hn : ds.length ≤ n
    · exact h.cmp ds b hL hn
    · have e : ds = ds.take n ++ ds.drop n := (List.take_append_drop n ds).symm
      rw [e] at hL
      obtain ⟨c, g1, g2⟩ := (ld_app M).mp hL
      have l1 : (ds.take n).length = n := by rw [List.length_take]; omega
      obtain ⟨es, m1, m2⟩ := h.cmp _ c g1 (by omega)
      obtain ⟨el, e1, _, _, iff⟩ := h.edg
      have e0 : el = [] := List.map_eq_nil_iff.mp e1.symm
      have l2 : es.length < n := by
        have := (h.snd _ m1).2
        have ne : es.length ≠ n := fun z => by have := (iff _ m1).mp z; rw [e0] at this; cases this
        simp at this
        omega
      have l3 : (es ++ ds.drop n).length < ds.length := by
        rw [List.length_append, List.length_drop]
        omega
      obtain ⟨fs, p1, p2⟩ := ih _ (by omega) (es ++ ds.drop n) b rfl ((ld_app M).mpr ⟨c, (h.snd _ m1).1, g2⟩)
      exact ⟨fs, p1, sle_trans p2 (.inl l3)⟩
theorem Lv.len {n : Nat} {rows : Rws α} {edge : List α} (h : Lv M U a0 n rows edge) : rows.length ≤ U.length := by
  have := List.Nodup.length_le_of_subset h.nd (l₂ := U) fun a ha => by
    obtain ⟨q, hq, rfl⟩ := List.mem_map.mp ha
    exact h.inU q hq
  simpa using this
def JJ (M : Sk α) (U : List α) (a0 : α) (rows : Rws α) (edge : List α) : Prop := ∃ n, Lv M U a0 n rows edge
open Classical in
noncomputable def mu (U : List α) (rows : Rws α) (edge : List α) : Nat := 2 * (U.length - rows.length) + if edge = [] then 0 else 1
theorem lp_of (fl : List PyData) (lv : PyData) {cal : EE} {FL : FnD} (w : Wd M U) (hF : ∀ a ∈ U, RSp M lv cal a ∧ LSp M fl FL a) : Lp M fl lv cal FL (JJ M U a0) (mu U) where
  ok rows edge h := by
    obtain ⟨n, h⟩ := h
    have l1 := h.len
    have l2 := w.len
    have l3 := h.lev
    obtain ⟨el, rfl, sub, pw, iff⟩ := h.edg
    have l4 := sub.length_le
    refine ⟨fun a ha => ?_, by rw [List.length_map]; omega⟩
    obtain ⟨q, hq, rfl⟩ := List.mem_map.mp ha
    have hr := sub.subset hq
    have hu := h.inU q hr
    have l5 := (h.snd q hr).2
    have l6 : n ≤ rows.length := by split at l3 <;> omega
    exact ⟨⟨q.2, look_mem h.nd hr, by omega⟩, w.four _ hu, (hF _ hu).1, (hF _ hu).2⟩
  go rows edge h ne := by
    obtain ⟨n, h⟩ := h
    obtain ⟨new, e1, e2, h2⟩ := h.next w ne
    rw [e1, e2]
    refine ⟨⟨_, h2⟩, ?_⟩
    have l1 := h2.len
    unfold mu
    rw [if_neg ne]
    rw [List.length_append] at l1 ⊢
    cases new with
    | nil => simp
    | cons q new => simp at l1 ⊢; omega
end
end MM

end
section
set_option linter.all false
set_option autoImplicit false
set_option Elab.async false
set_option maxRecDepth 100000
namespace MM
open PySem L2 T3
noncomputable section
variable {α : Type} [DecidableEq α] {M : Sk α} {U : List α} {a0 : α}
def laps (M : Sk α) (a0 : α) : Nat → Rws α × List α
  | 0 => ([(a0, [])], [a0])
  | n + 1 => lap M (laps M a0 n).1 (laps M a0 n).2
theorem laps_stay {n : Nat} {rows : Rws α} (h : laps M a0 n = (rows, [])) : ∀ k, laps M a0 (n + k) = (rows, [])
  | 0 => h
  | k + 1 => by
    show lap M (laps M a0 (n + k)).1 (laps M a0 (n + k)).2 = _
    rw [laps_stay h k]
    rfl
theorem laps_same {n m : Nat} {rows rows' : Rws α} (h : laps M a0 n = (rows, [])) (h' : laps M a0 m = (rows', [])) : rows = rows' := by
  rcases Nat.le_total n m with l | l
  · obtain ⟨k, rfl⟩ := Nat.exists_eq_add_of_le l
    rw [laps_stay h k] at h'
    cases h'
    rfl
  · obtain ⟨k, rfl⟩ := Nat.exists_eq_add_of_le l
    rw [laps_stay h' k] at h
    cases h
    rfl
end
end MM

end
section
set_option linter.all false
set_option autoImplicit false
set_option Elab.async false
set_option maxRecDepth 100000
namespace MM
open PySem L2 T3
noncomputable section
variable {α : Type} [DecidableEq α] {M : Sk α} {U : List α} {a0 : α}
theorem eq_of_keys {R : Rws α} : ∀ {xs ys : Rws α}, xs.map (·.1) = ys.map (·.1) → (∀ q ∈ xs, look R q.1 = some q.2) → (∀ q ∈ ys, look R q.1 = some q.2) → xs = ys
  | [], [], _, _, _ => rfl
  | [], _ :: _, h, _, _ => by simp at h
  | _ :: _, [], h, _, _ => by simp at h
  | x :: xs, y :: ys, h, hx, hy => by
    simp only [List.map_cons, List.cons.injEq] at h
    have h1 := hx x (List.mem_cons_self ..)
    have h2 := hy y (List.mem_cons_self ..)
    rw [h.1, h2] at h1
    have : x = y := Prod.ext h.1 (Option.some.inj h1).symm
    rw [this, eq_of_keys h.2 (fun q hq => hx q (List.mem_cons_of_mem _ hq)) (fun q hq => hy q (List.mem_cons_of_mem _ hq))]
def Ord (rows : Rws α) : Prop := rows.Pairwise fun p q => sle p.2 q.2
theorem laps_lv (w : Wd M U) (h0 : a0 ∈ U) : ∀ n, ∃ k, Lv M U a0 k (laps M a0 n).1 (laps M a0 n).2 ∧ Ord (laps M a0 n).1
  | 0 => ⟨0, Lv.start h0, by simp [Ord, laps]⟩
  | n + 1 => by
    obtain ⟨k, h, o⟩ := laps_lv w h0 n
    have e0 : laps M a0 (n + 1) = lap M (laps M a0 n).1 (laps M a0 n).2 := rfl
    by_cases ne : (laps M a0 n).2 = []
    · refine ⟨k, ?_⟩
      have : laps M a0 (n + 1) = laps M a0 n := by
        rw [e0, ne]
        exact Prod.ext rfl ne.symm
      rw [this]
      exact ⟨h, o⟩
    · obtain ⟨new, e1, e2, h2⟩ := h.next w ne
      refine ⟨k + 1, ?_⟩
      rw [e0, e1, e2]
      refine ⟨h2, ?_⟩
      obtain ⟨el, f1, f2, f3, f4⟩ := h2.edg
      have en : new = el := eq_of_keys (R := (laps M a0 n).1 ++ new) f1 (fun q hq => look_mem h2.nd (List.mem_append.mpr (.inr hq))) (fun q hq => look_mem h2.nd (f2.subset hq))
      unfold Ord
      rw [List.pairwise_append]
      refine ⟨o, ?_, fun p hp q hq => ?_⟩
      · rw [en]
        refine List.Pairwise.imp_of_mem (R := fun p q : α × List Dir => lx p.2 q.2) (fun {p q} hp hq l => ?_) f3
        have l1 := (f4 p (f2.subset hp)).mpr hp
        have l2 := (f4 q (f2.subset hq)).mpr hq
        exact .inr ⟨by omega, .inr l⟩
      · have l1 := (h.snd p hp).2
        have l2 := (f4 q (List.mem_append.mpr (.inr hq))).mpr (en ▸ hq)
        exact .inl (by omega)
theorem rch_spO (fl : List PyData) {cal : PyData → EE} {FL : FnD} (w : Wd M U) (hF : ∀ lv, ∀ a ∈ U, RSp M lv (cal lv) a ∧ LSp M fl FL a) (h0 : a0 ∈ U) :
    ∃ rows : Rws α, (rows.map (·.1)).Nodup ∧ (∀ q ∈ rows, Ld M a0 q.2 q.1 ∧ q.1 ∈ U ∧ q.2.length ≤ U.length) ∧ (∀ ds b, Ld M a0 ds b → ∃ es, (b, es) ∈ rows ∧ sle es ds) ∧ rows.length ≤ U.length ∧ Ord rows ∧
      ∀ lv, runFn 10 (mRch (cal lv) FL) [.nt fl, .pd (M.dat a0), .pd lv, .pd .none] = some (.tmp (.dn (rkv M rows)), [.nt fl, .pd (M.dat a0), .pd lv, .pd .none]) := by
  have all : ∀ lv, ∃ rows, (JJ M U a0 rows [] ∧ ∃ n, laps M a0 n = (rows, [])) ∧ runFn 10 (mRch (cal lv) FL) [.nt fl, .pd (M.dat a0), .pd lv, .pd .none] = some (.tmp (.dn (rkv M rows)), [.nt fl, .pd (M.dat a0), .pd lv, .pd .none]) := fun lv => by
    have L := lp_of (a0 := a0) fl lv w (hF lv)
    exact mRch_sp (J := fun rows edge => JJ M U a0 rows edge ∧ ∃ n, laps M a0 n = (rows, edge)) (μ := mu U) M fl lv ⟨fun rows edge h => L.ok rows edge h.1, fun rows edge h ne => ⟨⟨(L.go rows edge h.1 ne).1, by
      obtain ⟨n, hn⟩ := h.2
      refine ⟨n + 1, ?_⟩
      show lap M (laps M a0 n).1 (laps M a0 n).2 = _
      rw [hn]⟩, (L.go rows edge h.1 ne).2⟩⟩ a0 ⟨⟨0, Lv.start h0⟩, 0, rfl⟩
  obtain ⟨rows, ⟨_, m, hm⟩, e⟩ := all .none
  obtain ⟨n, h, o⟩ := laps_lv (a0 := a0) w h0 m
  rw [hm] at h o
  have l3 : n + 0 ≤ rows.length := h.lev
  have l4 : rows.length ≤ U.length := h.len
  refine ⟨rows, h.nd, fun q hq => ⟨(h.snd q hq).1, h.inU q hq, ?_⟩, fun ds b hL => h.best _ ds b rfl hL, h.len, o, fun lv => ?_⟩
  · have := (h.snd q hq).2
    omega
  obtain ⟨rows', ⟨_, m', hm'⟩, e'⟩ := all lv
  rw [laps_same hm hm']
  exact e'
end
end MM

end
section
set_option linter.all false
set_option autoImplicit false
set_option Elab.async false
set_option maxRecDepth 100000
set_option maxHeartbeats 4000000
namespace L19
open PySem L2 T3 MM
theorem is_whole_int (i m : Int) : f_is_whole [.pd (.int i), .pd (.int m)] = some (.pd (.bool (decide (0 ≤ i) && decide (i ≤ m))), [.pd (.int i), .pd (.int m)]) := by
  unfold f_is_whole
  rw [run_of (e := [some (.pd (.int i)), some (.pd (.int m))]) rfl]
  simp [m_is_whole, oIsi, isi5, eCh, Cm.f]
  by_cases h : 0 ≤ i <;> simp [h]
def inB (c : Cell) : Bool := (decide (0 ≤ c.1) && decide (c.1 ≤ 3)) && (decide (0 ≤ c.2) && decide (c.2 ≤ 3))
theorem is_cell_sp (c : Cell) : f_is_cell [.pd (clD c)] = some (.pd (.bool (inB c)), [.pd (clD c)]) := by
  unfold f_is_cell
  rw [run_of (e := [some (.pd (clD c)), none, none]) rfl]
  simp [m_is_cell, clD, oIsi, isi5, oLen, eNe, oNe, sh_int, eqv_int, is_whole_int, v_LAST_LINE, inB]
  by_cases h1 : 0 ≤ c.1 <;> by_cases h2 : c.1 ≤ 3 <;> simp [h1, h2]
def ltC (c d : Cell) : Bool := HT.lexLt [c.1, c.2] [d.1, d.2]
def chain : List Cell → Bool
  | c :: d :: r => ltC c d && chain (d :: r)
  | _ => true
theorem zip_cells : ∀ cs : List Cell, zipD (cs.map clD) (cs.tail.map clD) = (cs.zip cs.tail).map fun p => .tuple [clD p.1, clD p.2] := by
  intro cs
  have : ∀ (as bs : List Cell), zipD (as.map clD) (bs.map clD) = (as.zip bs).map fun p => .tuple [clD p.1, clD p.2] := by
    intro as
    induction as with
    | nil => intro bs; simp [zipD]
    | cons a as ih =>
      intro bs
      cases bs with
      | nil => simp [zipD]
      | cons b bs =>
        have := ih bs
        simp only [zipD] at this ⊢
        simp [this]
  exact this cs cs.tail
theorem chain_all : ∀ cs : List Cell, ((cs.zip cs.tail).map fun p => ltC p.1 p.2).all id = chain cs
  | [] => rfl
  | [_] => rfl
  | c :: d :: r => by
    have := chain_all (d :: r)
    simp only [List.tail_cons] at this ⊢
    simp [chain, this]
theorem cut1_d (xs : List PyData) : cutD xs (some 1) none = xs.tail := by
  unfold cutD
  rw [show HT.sIx xs.length 0 (some 1) = min 1 xs.length from HT.sIx_nat xs.length 0 1, HT.sIx_none]
  cases xs with
  | nil => rfl
  | cons x r => simp
theorem is_rising_sp (cs : List Cell) (h9 : cs.length ≤ 1000) : f_is_rising [.nt (cs.map clD)] = some (.pd (.bool (chain cs)), [.nt (cs.map clD)]) := by
  unfold f_is_rising
  rw [run_of (e := [some (.nt (cs.map clD)), none, none]) rfl]
  have e : lcL (gT 2 (gCn (gN 1) (gCn (gN 2) gNl))) bYes (eLt (eVar 1) (eVar 2)) [1, 2] ((cs.zip cs.tail).map fun p => .tuple [clD p.1, clD p.2]) [some (.nt (cs.map clD)), none, none] [] = some ((cs.zip cs.tail).map (fun p => .bool (ltC p.1 p.2)), [some (.nt (cs.map clD)), none, none]) :=
    lcL_all (cs.zip cs.tail) fun p _ => ⟨[some (.nt (cs.map clD)), some (.pd (clD p.1)), some (.pd (clD p.2))], .pd (.bool (ltC p.1 p.2)), [some (.nt (cs.map clD)), some (.pd (clD p.1)), some (.pd (clD p.2))], by simp [wipeE], by simp [eLt, kLt, kLt0, oI, oLtT, clD, ints?, ltC], rfl, by simp [unwipe]⟩
  have ht : (cs.map clD).tail = cs.tail.map clD := by simp
  have hl : cs.length ≤ 1000001 := by omega
  have hc := chain_all cs
  simp [m_is_rising, eLc, iZt, eSl, oSome, oNo, kSl, cut1_d, tupOf, ht, zip_cells, e, oAll, bools_of, hl, -List.map_tail, -List.all_map, hc]
def okFl (cs : List Cell) : Prop := 1 ≤ cs.length ∧ cs.length ≤ 9 ∧ (∀ c ∈ cs, inB c = true) ∧ chain cs = true
theorem is_floor_sp (cs : List Cell) (h : okFl cs) : f_is_floor [.nt (cs.map clD)] = some (.pd (.bool true), [.nt (cs.map clD)]) := by
  unfold f_is_floor
  rw [run_of (e := [some (.nt (cs.map clD)), none]) rfl]
  have e : lcL (gN 1) bYes (eCall f_is_cell (eCons (eVar 1) eNil)) [1] (cs.map clD) [some (.nt (cs.map clD)), none] [] = some (cs.map (fun c => .bool (inB c)), [some (.nt (cs.map clD)), none]) :=
    lcL_all cs fun c _ => ⟨[some (.nt (cs.map clD)), some (.pd (clD c))], .pd (.bool (inB c)), [some (.nt (cs.map clD)), some (.pd (clD c))], by simp [wipeE], by simp [is_cell_sp], rfl, by simp [unwipe]⟩
  obtain ⟨h1, h2, h3, h4⟩ := h
  have ha : (cs.map inB).all id = true := by simpa using h3
  have l1 : (1 : Int) ≤ cs.length := by omega
  have l2 : (cs.length : Int) ≤ 9 := by omega
  have l3 : cs.length ≤ 1000000 := by omega
  simp [m_is_floor, oIsi, isi5, eCh, Cm.f, oLen, v_MOST_CELLS, eLc, iSeq, e, oAll, bools_of, is_rising_sp cs (by omega), l1, l2, l3, h4, ha, -List.all_map, -List.length_map]
  simp [l1, l2, l3, e, oAll, bools_of, is_rising_sp cs (by omega), ha, h4, List.length_map, -List.all_map]
theorem need_floor_sp (cs : List Cell) (h : okFl cs) : f_need_floor [.nt (cs.map clD)] = some (.pd .none, [.nt (cs.map clD)]) := by
  unfold f_need_floor
  rw [run_of (e := [some (.nt (cs.map clD))]) rfl]
  simp [m_need_floor, is_floor_sp cs h]
theorem is_cell_of_sp (cs : List Cell) (c : Cell) (hc : c ∈ cs) (hb : inB c = true) : f_is_cell_of [.nt (cs.map clD), .pd (clD c)] = some (.pd (.bool true), [.nt (cs.map clD), .pd (clD c)]) := by
  unfold f_is_cell_of
  rw [run_of (e := [some (.nt (cs.map clD)), some (.pd (clD c))]) rfl]
  simp [m_is_cell_of, is_cell_sp, hb, eIn, oIn, sh_cell, sh_cells, any_cell, hc, -List.any_map, -List.any_eq_true]
theorem ly_all : ∀ l ∈ lyings, 0 ≤ l.1 ∧ l.1 ≤ 5 ∧ 0 ≤ l.2.1 ∧ l.2.1 ≤ 5 ∧ 0 ≤ l.2.2 ∧ l.2.2 ≤ 5 := by decide
theorem is_lying_sp (l : Ly) (hl : l ∈ lyings) : f_is_lying [.pd (lyD l)] = some (.pd (.bool true), [.pd (lyD l)]) := by
  have e : lcL (gN 1) bYes (eCall f_is_whole (eCons (eVar 1) (eCons (eC v_OPPOSITE_SUM) eNil))) [1] ([l.1, l.2.1, l.2.2].map .int) [some (.pd (lyD l)), none] [] = some ([l.1, l.2.1, l.2.2].map (fun i => .bool (decide (0 ≤ i) && decide (i ≤ 5))), [some (.pd (lyD l)), none]) :=
    lcL_all [l.1, l.2.1, l.2.2] fun i _ => ⟨[some (.pd (lyD l)), some (.pd (.int i))], .pd (.bool (decide (0 ≤ i) && decide (i ≤ 5))), [some (.pd (lyD l)), some (.pd (.int i))], by simp [wipeE], by simp [is_whole_int, v_OPPOSITE_SUM], rfl, by simp [unwipe]⟩
  obtain ⟨b1, b2, b3, b4, b5, b6⟩ := ly_all l hl
  have hv : v_LYINGS = .tuple (lyings.map lyD) := by rfl
  have hs : SeqAt.shaped (.tuple (lyings.map lyD)) = true := sh_tup lyD (fun c => by simp [lyD, PyData.canLay0, PyData.canLayAll0]) (fun c => by simp [lyD, PyData.depth, PyData.depthAll]) lyings
  have hi : ((lyings.map lyD).any fun z => PyData.eqv z (lyD l)) = true := by
    rw [List.any_eq_true]
    exact ⟨lyD l, List.mem_map.mpr ⟨l, hl, rfl⟩, by rw [eqv_ly]; simp⟩
  unfold f_is_lying
  rw [run_of (e := [some (.pd (lyD l)), none]) rfl]
  have es : iSeq (eVar 0) [some (.pd (lyD l)), none] = some ([l.1, l.2.1, l.2.2].map .int, none, [some (.pd (lyD l)), none]) := by simp [iSeq, lyD]
  have eo : oIsiZ .tuple [lyD l] = some (.bool true) := rfl
  simp only [m_is_lying, z_seq, z_if, z_bNot, z_bT, z_then, z_one, z_cons, z_var, z_nil, List.getElem?_cons_zero, z_kE, z_ctns1, z_ctns0, z_ctn1, eo, Bool.not_true, Bool.false_eq_true, if_false, z_pass, z_ret, z_eB, z_bAnd, eLc, es, e, List.length_map, z_unl, z_ctn3, oAll]
  simp [bools?, b1, b2, b3, b4, b5, b6, eIn, oIn, hv, sh_ly, hs, hi, -List.any_map, -List.any_eq_true]
theorem is_stand_sp (cs : List Cell) (c : Cell) (l : Ly) (hc : c ∈ cs) (hb : inB c = true) (hl : l ∈ lyings) : f_is_stand [.nt (cs.map clD), .pd (stD c l)] = some (.pd (.bool true), [.nt (cs.map clD), .pd (stD c l)]) := by
  unfold f_is_stand
  rw [run_of (e := [some (.nt (cs.map clD)), some (.pd (stD c l)), none, none]) rfl]
  simp [m_is_stand, stD, oIsi, isi5, oLen, eNe, oNe, sh_int, eqv_int, is_cell_of_sp cs c hc hb, is_lying_sp l hl]
theorem need_stand_sp (cs : List Cell) (c : Cell) (l : Ly) (hc : c ∈ cs) (hb : inB c = true) (hl : l ∈ lyings) : f_need_stand [.nt (cs.map clD), .pd (stD c l)] = some (.pd .none, [.nt (cs.map clD), .pd (stD c l)]) := by
  unfold f_need_stand
  rw [run_of (e := [some (.nt (cs.map clD)), some (.pd (stD c l))]) rfl]
  simp [m_need_stand, is_stand_sp cs c l hc hb hl]
theorem steps_look (d : Dir) : v_STEPS.lookup (chS d) = some (.tuple [.int (stepC (0, 0) d).1, .int (stepC (0, 0) d).2]) := by
  cases d <;> rfl
theorem rolled_cell_sp (c : Cell) (d : Dir) : f_rolled_cell [.pd (clD c), .pd (.str (chS d))] = some (.pd (clD (stepC c d)), [.pd (clD c), .pd (.str (chS d))]) := by
  unfold f_rolled_cell
  rw [run_of (e := [some (.pd (clD c)), some (.pd (.str (chS d))), none, none, none, none]) rfl]
  simp [m_rolled_cell, clD, eKd, steps_look, eAdd, kAdd, oI]
  cases d <;> simp [stepC] <;> omega
theorem rolled_lying_sp (l : Ly) (d : Dir) : f_rolled_lying [.pd (lyD l), .pd (.str (chS d))] = some (.pd (lyD (roll l d)), [.pd (lyD l), .pd (.str (chS d))]) := by
  unfold f_rolled_lying
  rw [run_of (e := [some (.pd (lyD l)), some (.pd (.str (chS d))), none, none, none]) rfl]
  cases d <;> simp [m_rolled_lying, lyD, eEq, oEq, ← chS_n, ← chS_s, ← chS_e, sh_ch, eqv_ch, eSub, kSub, oI, v_OPPOSITE_SUM, roll]
theorem rolled_stand_sp (c : Cell) (l : Ly) (d : Dir) : f_rolled_stand [.pd (stD c l), .pd (.str (chS d))] = some (.pd (stD (stepC c d) (roll l d)), [.pd (stD c l), .pd (.str (chS d))]) := by
  unfold f_rolled_stand
  rw [run_of (e := [some (.pd (stD c l)), some (.pd (.str (chS d))), none, none]) rfl]
  simp [m_rolled_stand, stD, rolled_cell_sp, rolled_lying_sp]
def letR (cs : List Cell) : Cell → List Dir → Prop
  | _, [] => True
  | c, d :: ds => stepC c d ∈ cs ∧ letR cs (stepC c d) ds
theorem atI_at {α : Type} {xs : List α} {i : Int} {x : α} (h0 : 0 ≤ i) (h : xs[i.toNat]? = some x) : atI xs i = some x := by
  obtain ⟨hl, e⟩ := List.getElem?_eq_some_iff.mp h
  unfold atI ixN
  have : i < xs.length := by omega
  simp [h0, this, e]
def ups (n : Nat) : List Int := (List.range n).map fun k => ((k : Nat) : Int)
theorem ups_len (n : Nat) : (ups n).length = n := by simp [ups]
theorem rgT_ups (n : Nat) : rgT 0 (n : Int) = (ups n).map .int := by
  simp [rgT, ups]
theorem rgD_ups (n : Nat) : rgD 0 n 1 = (ups n).map .int := by
  simp [rgD, ups]
theorem rgOk_of (n : Nat) (h : n ≤ 1000) : RgOk 0 (n : Int) := by
  refine ⟨by decide, by decide, ?_, ?_, ?_⟩
  · have : (-2 ^ 62 : Int) ≤ 0 := by decide
    omega
  · have : (1000 : Int) < 2 ^ 62 := by decide
    omega
  · have : 1000 ≤ 2 ^ 24 := by decide
    omega
theorem firstIx_cell (c : Cell) : ∀ cs : List Cell, c ∈ cs → firstIx (clD c) (cs.map clD) = some (cs.idxOf c)
  | [], h => by simp at h
  | a :: cs, h => by
    rw [List.map_cons, firstIx, eqv_cell]
    by_cases e : a = c
    · simp [e]
    · have : c ∈ cs := by
        rcases List.mem_cons.mp h with h | h
        · exact absurd h.symm e
        · exact h
      simp [e, firstIx_cell c cs this, List.idxOf_cons, beq_eq_false_iff_ne.mpr e]
theorem spot_of_cell_sp (cs : List Cell) (c : Cell) (h : c ∈ cs) : f_spot_of_cell [.nt (cs.map clD), .pd (clD c)] = some (.pd (.int (6 + (cs.idxOf c : Int))), [.nt (cs.map clD), .pd (clD c)]) := by
  have hf := firstIx_cell c cs h
  unfold f_spot_of_cell
  rw [run_of (e := [some (.nt (cs.map clD)), some (.pd (clD c))]) rfl]
  simp [m_spot_of_cell, eBM, eAdd, kAdd, oI, v_FACES, isNt, kIxT, oIxT, sh_cells, sh_cell, hf]
theorem trade_at_sp (cs : List Cell) (c : Cell) (l : Ly) (h : c ∈ cs) : f_trade_at [.nt (cs.map clD), .pd (stD c l)] = some (.pd (clD (l.1, 6 + (cs.idxOf c : Int))), [.nt (cs.map clD), .pd (stD c l)]) := by
  have hz : atI [PyData.int l.1, .int l.2.1, .int l.2.2] 0 = some (.int l.1) := rfl
  have sl : stD c l = .tuple [clD c, lyD l] := rfl
  have ll : lyD l = .tuple [.int l.1, .int l.2.1, .int l.2.2] := rfl
  have hd : clD (l.1, 6 + (cs.idxOf c : Int)) = .tuple [.int l.1, .int (6 + (cs.idxOf c : Int))] := rfl
  unfold f_trade_at
  rw [run_of (e := [some (.nt (cs.map clD)), some (.pd (stD c l)), none, none]) rfl]
  simp [m_trade_at, sl, spot_of_cell_sp cs c h, eIx, oIx, ll, hz, hd]
structure Sit (cs : List Cell) (c : Cell) (l : Ly) (ds : List Dir) : Prop where
  fl : okFl cs
  mem : c ∈ cs
  ly : l ∈ lyings
  lt : letR cs c ds
  ln : ds.length ≤ 20000
theorem Sit.b {cs : List Cell} {c : Cell} {l : Ly} {ds : List Dir} (h : Sit cs c l ds) : inB c = true := h.fl.2.2.1 c h.mem
theorem ups_map (n : Nat) : (ups n).map PyData.int = (List.range n).map fun k => .int ((k : Nat) : Int) := by simp [ups]
def nD (xs : List Nat) : List PyData := xs.map fun k => .int ((k : Nat) : Int)
theorem iRg1_of {f : EA} {env e : Sl} {n : Nat} (h : f env = some ([.pd (.int (n : Nat))], e)) (hn : n ≤ 1000) : iRg1 f env = some ((ups n).map .int, none, e) := by
  have b : RgI1 (n : Int) := by
    unfold RgI1
    have h1 : (-(2 ^ 62) : Int) ≤ 0 := by decide
    have h2 : (1000 : Int) < 2 ^ 62 := by decide
    omega
  unfold iRg1
  rw [h]
  show (if RgI1 (n : Int) then some (rgD 0 (n : Int).toNat 1, none, e) else none) = _
  rw [if_pos b, Int.toNat_natCast, rgD_ups]
theorem cmul_r (i j : Int) (h : 0 ≤ j ∧ j < 2147483648) : CMul i j := .inr (by
  have h1 : (2147483648 : Int) < 2 ^ 64 := by decide
  have h2 : (-2 ^ 64 : Int) < 0 := by decide
  omega)
theorem cmul_l (i j : Int) (h : 0 ≤ i ∧ i < 2147483648) : CMul i j := .inl (by
  have h1 : (2147483648 : Int) < 2 ^ 64 := by decide
  have h2 : (-2 ^ 64 : Int) < 0 := by decide
  omega)
def good (cs : List Cell) : Prop := 0 < cs.length ∧ cs.Nodup ∧ ∀ c ∈ cs, inB c = true
theorem oMin_cell (c : Cell) : oMin [clD c] = some (.int (min c.1 c.2)) := rfl
theorem oMax_cell (c : Cell) : oMax [clD c] = some (.int (max c.1 c.2)) := rfl
theorem inB_mm (c : Cell) : (decide (0 ≤ min c.1 c.2) && decide (max c.1 c.2 < 4)) = inB c := by
  unfold inB
  rw [Bool.eq_iff_iff]
  simp
  omega
theorem inB_b {c : Cell} (h : inB c = true) : 0 ≤ c.1 ∧ c.1 ≤ 3 ∧ 0 ≤ c.2 ∧ c.2 ≤ 3 := by
  unfold inB at h
  simp at h
  omega
theorem pairs_of : ∀ cs : List Cell, (∀ c ∈ cs, inB c = true) → pairs? (cs.map clD) = some cs
  | [], _ => rfl
  | c :: cs, h => by
    have b := inB_b (h c (by simp))
    have e : pair? (clD c) = some c := by
      show (if 0 ≤ c.1 ∧ c.1 < 64 ∧ 0 ≤ c.2 ∧ c.2 < 64 then some (c.1, c.2) else none) = _
      rw [if_pos (by omega)]
    rw [List.map_cons, pairs?, e, pairs_of cs (fun d hd => h d (by simp [hd]))]
theorem ltC_of {c d : Cell} (hc : inB c = true) (hd : inB d = true) (h : prLe c d = true) (hne : c ≠ d) : ltC c d = true := by
  have b1 := inB_b hc
  have b2 := inB_b hd
  unfold prLe at h
  have h' : c.1 * 64 + c.2 ≤ d.1 * 64 + d.2 := by simpa using h
  have hne' : ¬ (c.1 = d.1 ∧ c.2 = d.2) := fun ⟨x, y⟩ => hne (Prod.ext x y)
  unfold ltC
  simp only [HT.lexLt]
  by_cases e : c.1 = d.1
  · simp [e]; omega
  · simp [e]; omega
theorem chain_of : ∀ cs : List Cell, (∀ c ∈ cs, inB c = true) → cs.Pairwise (fun a b => prLe a b = true) → cs.Nodup → chain cs = true
  | [], _, _, _ => rfl
  | [c], _, _, _ => rfl
  | c :: d :: r, h, hp, hn => by
    have ih := chain_of (d :: r) (fun x hx => h x (by simp [hx])) (List.pairwise_cons.mp hp).2 (List.nodup_cons.mp hn).2
    have l := ltC_of (h c (by simp)) (h d (by simp)) ((List.pairwise_cons.mp hp).1 d (by simp)) (fun e => (List.nodup_cons.mp hn).1 (by simp [e]))
    simp [chain, ih, l]
def all4 : List Dir := [.e, .n, .s, .w]
def chD (d : Dir) : PyData := .str (chS d)
def ops (cs : List Cell) (c : Cell) : List Dir := all4.filter fun d => decide (stepC c d ∈ cs)
theorem int_at {xs : List Int} {i : Nat} (h : i < xs.length) : atI (xs.map PyData.int) (i : Int) = some (.int (xs.getD i 0)) := by
  apply atI_at (by omega)
  simp [h]
def fre : Option S → Bool
  | none => true
  | some (.pd _) => true
  | some (.nt _) => true
  | some (.mu .own _) => true
  | _ => false
def freO : Option (Option S) → Bool
  | some s => fre s
  | none => false
theorem z_free2 (env : Sl) (i : Nat) : free env i = freO env[i]? := by
  rw [z_free]
  cases env[i]? with
  | none => rfl
  | some s =>
    cases s with
    | none => rfl
    | some s =>
      cases s with
      | pd x => rfl
      | nt x => rfl
      | mu m c => cases m <;> rfl
theorem freO_some (s : Option S) : freO (some s) = fre s := rfl
theorem cell_at_sp (ns : List Int) (k : Nat) : ∃ i, f__law_cell_at [.pd (.list (ns.map .int)), .pd (.int (k : Nat))] = some (.pd (.int i), [.pd (.list (ns.map .int)), .pd (.int (k : Nat))]) := by
  by_cases h : k < ns.length
  · refine ⟨ns.getD k 0, ?_⟩
    have g := int_at h
    have h' : (k : Int) < ns.length := by omega
    unfold f__law_cell_at
    rw [run_of (e := [some (.pd (.list (ns.map .int))), some (.pd (.int (k : Nat)))]) rfl]
    simp only [m__law_cell_at]
    simp [kLt, kLt0, oI, oLen, h', oIx, g, h, -List.getD_eq_getElem?_getD]
  · refine ⟨0, ?_⟩
    have h' : ¬ (k : Int) < ns.length := by omega
    unfold f__law_cell_at
    rw [run_of (e := [some (.pd (.list (ns.map .int))), some (.pd (.int (k : Nat)))]) rfl]
    simp only [m__law_cell_at]
    simp [kLt, kLt0, oI, oLen, h', h]
def off (cs : List Cell) : Cell → List Dir → Option Nat
  | _, [] => none
  | c, d :: ds => if stepC c d ∈ cs then (off cs (stepC c d) ds).map (· + 1) else some 0
def opp : Dir → Dir
  | .e => .w
  | .n => .s
  | .s => .n
  | .w => .e
def bk (ds : List Dir) : List Dir := ds.reverse.map opp
abbrev exD (n : Nat) (m : Nat → Nat) : List PyData := nD ((List.range n).map m)
def stirB (b : Int) (t : Nat) : Int := (b + 17 * ((t + 1 : Nat) : Int)) * (69621 + 2 * ((t + 1 : Nat) : Int)) % 2147483647
def stirS (s : Int) (t : Nat) : Int := (s * s + 40503 * ((t + 1 : Nat) : Int) + 5) % 2147483629
theorem draw2_sp (p : Pk) (n : Int) (h0 : 0 < n) (h1 : n < 1000000000000000) (ht : p.t ≤ 1000000000000) : ∃ (r : Int) (q : Pk), 0 ≤ r ∧ r < n ∧ q.t ≤ p.t + 1 ∧ f__law_draw [.mu .bor (penK p), .pd (.int n)] = some (.pd (.int r), [.mu .bor (penK q), .pd (.int n)]) := by
  obtain ⟨a, b, t⟩ := p
  have x0 : ∀ x y z : PyData, atI [x, y, z] 0 = some x := fun _ _ _ => rfl
  have x1 : ∀ x y z : PyData, atI [x, y, z] 1 = some y := fun _ _ _ => rfl
  have x2 : ∀ x y z : PyData, atI [x, y, z] 2 = some z := fun _ _ _ => rfl
  have i0 : ixN 3 0 = some 0 := rfl
  have i1 : ixN 3 1 = some 1 := rfl
  have i2 : ixN 3 2 = some 2 := rfl
  by_cases ha : 0 < a
  · refine ⟨a % n, ⟨a / n, b, t⟩, Int.emod_nonneg _ (by omega), Int.emod_lt_of_pos _ h0, by simp, ?_⟩
    have cd : CDivW a n := cdv _ _ h0 h1
    unfold f__law_draw
    rw [run_of (e := [some (.mu .bor (penK ⟨a, b, t⟩)), some (.pd (.int n)), none, none]) rfl]
    simp [m__law_draw, penK, oIx, x0, kGt, oI, ha, kMod, h0, kFdiv, cd, putL, i0]
  · have tt : (t : Int) + 1 = ((t + 1 : Nat) : Int) := by omega
    have ht' : t ≤ 1000000000000 := ht
    have e64 : (2 : Int) ^ 64 = 18446744073709551616 := by decide
    have c1 := cmul_l 17 ((t + 1 : Nat) : Int) (by omega)
    have c2 := cmul_l 2 ((t + 1 : Nat) : Int) (by omega)
    have c3 : CMul (b + 17 * ((t + 1 : Nat) : Int)) (69621 + 2 * ((t + 1 : Nat) : Int)) := .inr (by rw [e64]; omega)
    have s1 : 0 ≤ stirB b t ∧ stirB b t < 2147483647 := ⟨Int.emod_nonneg _ (by decide), Int.emod_lt_of_pos _ (by decide)⟩
    have c4 := cmul_l (stirB b t) (stirB b t) (by omega)
    have c5 := cmul_l 40503 ((t + 1 : Nat) : Int) (by omega)
    have c6 : ∀ i, CMul i 48271 := fun i => cmul_r i 48271 (by omega)
    have cd2 : ∀ i, CDivW i 32 := fun i => cdv _ _ (by decide) (by decide)
    have e1 : (b + 17 * ((t + 1 : Nat) : Int)) * (69621 + 2 * ((t + 1 : Nat) : Int)) % 2147483647 = stirB b t := rfl
    have e2 : (stirB b t * stirB b t + 40503 * ((t + 1 : Nat) : Int) + 5) % 2147483629 = stirS (stirB b t) t := rfl
    refine ⟨stirS (stirB b t) t * 48271 % 2147483647 / 32 % n, ⟨a, b, t + 1⟩, Int.emod_nonneg _ (by omega), Int.emod_lt_of_pos _ h0, by simp, ?_⟩
    unfold f__law_draw
    rw [run_of (e := [some (.mu .bor (penK ⟨a, b, t⟩)), some (.pd (.int n)), none, none]) rfl]
    simp [m__law_draw, penK, oIx, x0, x1, x2, kGt, oI, ha, kMod, kMul, kAdd, h0, kFdiv, cd2, putL, i2, tt, c1, c2, c3, c4, c5, c6, e1, e2, -Int.natCast_add]
theorem pen2_sp (i : Int) : ∃ p : Pk, p.t = 0 ∧ f__law_pen [.pd (.int i)] = some (.tmp (penK p), [.pd (.int i)]) := by
  have cp : CPow 10 18 := ⟨by decide, by decide, by decide⟩
  refine ⟨⟨if i - 10 ^ 18 > 0 then i - 10 ^ 18 else 0, i % 1000000007, 0⟩, rfl, ?_⟩
  unfold f__law_pen
  rw [run_of (e := [some (.pd (.int i))]) rfl]
  simp [m__law_pen, kPow, oI, cp, kSub, oMax, kMod, penK]
theorem at_mem {xs : List PyData} {r : Int} (h0 : 0 ≤ r) (h1 : r < xs.length) : ∃ x ∈ xs, atI xs r = some x := by
  obtain ⟨k, rfl⟩ : ∃ k : Nat, r = k := ⟨r.toNat, by omega⟩
  have hk : k < xs.length := by omega
  exact ⟨xs[k], List.getElem_mem _, atI_at (by omega) (by simp [hk])⟩
theorem pick2_l (p : Pk) (xs : List PyData) (h0 : 0 < xs.length) (h1 : xs.length < 1073741824) (ht : p.t ≤ 1000000000000) : ∃ x ∈ xs, ∃ q : Pk, q.t ≤ p.t + 1 ∧ f__law_pick [.mu .bor (penK p), .mu .bor (.ls xs)] = some (.pd x, [.mu .bor (penK q), .mu .bor (.ls xs)]) := by
  obtain ⟨r, q, b0, b1, hq, d⟩ := draw2_sp p (xs.length : Int) (by omega) (by omega) ht
  obtain ⟨x, hx, e⟩ := at_mem b0 b1
  refine ⟨x, hx, q, hq, ?_⟩
  unfold f__law_pick
  rw [run_of (e := [some (.mu .bor (penK p)), some (.mu .bor (.ls xs))]) rfl]
  simp [m__law_pick, oLen, d, oIx, e]
theorem pick2_t (p : Pk) (xs : List PyData) (h0 : 0 < xs.length) (h1 : xs.length < 1073741824) (ht : p.t ≤ 1000000000000) : ∃ x ∈ xs, ∃ q : Pk, q.t ≤ p.t + 1 ∧ f__law_pick [.mu .bor (penK p), .nt xs] = some (.pd x, [.mu .bor (penK q), .nt xs]) := by
  obtain ⟨r, q, b0, b1, hq, d⟩ := draw2_sp p (xs.length : Int) (by omega) (by omega) ht
  obtain ⟨x, hx, e⟩ := at_mem b0 b1
  refine ⟨x, hx, q, hq, ?_⟩
  unfold f__law_pick
  rw [run_of (e := [some (.mu .bor (penK p)), some (.nt xs)]) rfl]
  simp [m__law_pick, oLen, d, oIx, e]
def dirB (r : Int) : Dir := if r = 0 then .n else if r = 1 then .e else if r = 2 then .s else .w
theorem nesw_eq : ("nesw" : Str) = ⟨#[110, 101, 115, 119]⟩ := by decide
theorem nesw_ix (r : Int) (h0 : 0 ≤ r) (h1 : r < 4) : oIx [.str "nesw", .int r] = some (.str (chS (dirB r))) := by
  obtain rfl | rfl | rfl | rfl : r = 0 ∨ r = 1 ∨ r = 2 ∨ r = 3 := by omega
  all_goals rw [nesw_eq]; rfl
theorem pick2_s (p : Pk) (ht : p.t ≤ 1000000000000) : ∃ (d : Dir) (q : Pk), q.t ≤ p.t + 1 ∧ f__law_pick [.mu .bor (penK p), .pd (.str "nesw")] = some (.pd (.str (chS d)), [.mu .bor (penK q), .pd (.str "nesw")]) := by
  obtain ⟨r, q, b0, b1, hq, d⟩ := draw2_sp p 4 (by omega) (by omega) ht
  refine ⟨dirB r, q, hq, ?_⟩
  have ln : oLen [.str "nesw"] = some (.int 4) := by rw [nesw_eq]; rfl
  unfold f__law_pick
  rw [run_of (e := [some (.mu .bor (penK p)), some (.pd (.str "nesw"))]) rfl]
  simp [m__law_pick, ln, d, nesw_ix r b0 b1]
theorem keys4 (a b c d : PyData) : keysK [(.str "n", a), (.str "s", b), (.str "e", c), (.str "w", d)] = some [(.inr "n", a), (.inr "s", b), (.inr "e", c), (.inr "w", d)] := rfl
theorem all4K (a b c d : PyData) : allK [(.inr "n", a), (.inr "s", b), (.inr "e", c), (.inr "w", d)] = [(.inr "n", a), (.inr "s", b), (.inr "e", c), (.inr "w", d)] := by rfl
def byDir (a b c d : PyData) : Dir → PyData
  | .n => a
  | .s => b
  | .e => c
  | .w => d
theorem get4 (a b c d : PyData) (x : Dir) : cGet (.dk [(.inr "n", a), (.inr "s", b), (.inr "e", c), (.inr "w", d)]) (.str (chS x)) = some (some (byDir a b c d x)) := by
  cases x <;> rfl
theorem beside_sp (c : Cell) (d : Dir) : f__law_beside [.pd (clD c), .pd (.str (chS d))] = some (.pd (clD (stepC c d)), [.pd (clD c), .pd (.str (chS d))]) := by
  have e : byDir (.tuple [.int c.1, .int (c.2 + 1)]) (.tuple [.int c.1, .int (c.2 - 1)]) (.tuple [.int (c.1 + 1), .int c.2]) (.tuple [.int (c.1 - 1), .int c.2]) d = clD (stepC c d) := by cases d <;> rfl
  have cl : clD c = .tuple [.int c.1, .int c.2] := rfl
  unfold f__law_beside
  rw [run_of (e := [some (.pd (clD c)), some (.pd (.str (chS d))), none, none]) rfl]
  simp [m__law_beside, cl, kAdd, kSub, oI, keys4, all4K, get4, e]
theorem keys3 (a b c : PyData) : keysK [(.str "n", a), (.str "s", b), (.str "e", c)] = some [(.inr "n", a), (.inr "s", b), (.inr "e", c)] := rfl
theorem all3K (a b c : PyData) : allK [(.inr "n", a), (.inr "s", b), (.inr "e", c)] = [(.inr "n", a), (.inr "s", b), (.inr "e", c)] := by rfl
theorem put3 (a b c d : PyData) : cPut (.dk [(.inr "n", a), (.inr "s", b), (.inr "e", c)]) (.str "w") d = some (.dk [(.inr "n", a), (.inr "s", b), (.inr "e", c), (.inr "w", d)]) := by rfl
theorem tip_sp (l : Ly) (d : Dir) : f__law_tip [.pd (lyD l), .pd (.str (chS d))] = some (.pd (lyD (roll l d)), [.pd (lyD l), .pd (.str (chS d))]) := by
  have e : byDir (.tuple [.int l.2.1, .int (5 - l.1), .int l.2.2]) (.tuple [.int (5 - l.2.1), .int l.1, .int l.2.2]) (.tuple [.int l.2.2, .int l.2.1, .int (5 - l.1)]) (.tuple [.int (5 - l.2.2), .int l.2.1, .int l.1]) d = lyD (roll l d) := by cases d <;> rfl
  have cl : lyD l = .tuple [.int l.1, .int l.2.1, .int l.2.2] := rfl
  unfold f__law_tip
  rw [run_of (e := [some (.pd (lyD l)), some (.pd (.str (chS d))), none, none, none, none]) rfl]
  simp [m__law_tip, cl, kAdd, kSub, oI, keys3, all3K, put3, get4, e]
def StI (cs : List Cell) (a1 : Option S) (N : Nat) (rest : List PyData) (e : Sl) : Prop := ∃ (p : Pk) (l : Ly) (s3 : Option S), p.t + rest.length ≤ N ∧ l ∈ lyings ∧ fre s3 = true ∧ e = [some (.mu .bor (penK p)), a1, some (.pd (lyD l)), s3]
theorem drawn_stand_sp (p : Pk) (cs : List Cell) (h0 : 0 < cs.length) (h1 : cs.length < 1000) (ht : p.t ≤ 1000000000) : ∃ (q : Pk) (c : Cell) (l : Ly), q.t ≤ p.t + 12 ∧ c ∈ cs ∧ l ∈ lyings ∧ f__law_drawn_stand [.mu .bor (penK p), .nt (cs.map clD)] = some (.pd (stD c l), [.mu .bor (penK q), .nt (cs.map clD)]) := by
  have key : wF f__law_drawn_stand [.mu .bor (penK p), .nt (cs.map clD)] (fun r as => ∃ (q : Pk) (c : Cell) (l : Ly), q.t ≤ p.t + 12 ∧ c ∈ cs ∧ l ∈ lyings ∧ r = .pd (stD c l) ∧ as = [.mu .bor (penK q), .nt (cs.map clD)]) := by
    refine wF_run (e := [some (.mu .bor (penK p)), some (.nt (cs.map clD)), none, none]) rfl ?_
    refine wS_seq (wS_of (fl := .nx) (e := [some (.mu .bor (penK p)), some (.nt (cs.map clD)), some (.pd (lyD (0, 1, 2))), none]) (by simp [lyD]) ?_)
    rw [nxt_nx, go]
    refine wS_seq ?_
    obtain ⟨r, q, b0, b1, hq, d⟩ := draw2_sp p 9 (by omega) (by omega) (by omega)
    obtain ⟨k, rfl⟩ : ∃ k : Nat, r = k := ⟨r.toNat, by omega⟩
    refine wS_for (xs := nD (List.range k)) (lk := none) (e := [some (.mu .bor (penK q)), some (.nt (cs.map clD)), some (.pd (lyD (0, 1, 2))), none]) ?_ (StI cs (some (.nt (cs.map clD))) (p.t + 10)) ⟨q, (0, 1, 2), none, by simp [nD]; omega, by decide, rfl, rfl⟩ ?_ ?_
    · unfold nD
      rw [← ups_map]
      exact iRg1_of (n := k) (by simp [d]) (by omega)
    · rintro x rest e ⟨p1, l, s3, hb, hl, f3, rfl⟩
      obtain ⟨dd, q1, hq1, pk⟩ := pick2_s p1 (by simp at hb; omega)
      simp only [gW, z_gN, z_setR, z_free2, List.getElem?_cons_succ, List.getElem?_cons_zero, freO_some, f3, if_true, List.set_cons_succ, List.set_cons_zero]
      rw [go]
      simp [wS, pk, tip_sp]
      exact ⟨q1, _, _, by simp at hb; omega, roll_mem l hl dd, rfl, rfl⟩
    · rintro e ⟨p1, l, s3, hb, hl, f3, rfl⟩
      obtain ⟨x, hx, q1, hq1, pk⟩ := pick2_t p1 (cs.map clD) (by simpa using h0) (by simp; omega) (by simp at hb; omega)
      obtain ⟨c, hc, rfl⟩ := List.mem_map.mp hx
      simp only [z_unl, nxt_nx]
      rw [go]
      have st : PyData.tuple [clD c, lyD l] = stD c l := rfl
      refine wS_of (fl := .rt (.pd (stD c l))) (e := [some (.mu .bor (penK q1)), some (.nt (cs.map clD)), some (.pd (lyD l)), s3]) (by simp [pk, st]) ?_
      exact ⟨.pd (stD c l), [.mu .bor (penK q1), .nt (cs.map clD)], rfl, rfl, q1, c, l, by simp at hb; omega, hc, hl, rfl, rfl⟩
  obtain ⟨r, as, e, q, c, l, h1, h2, h3, rfl, rfl⟩ := key
  exact ⟨q, c, l, h1, h2, h3, e⟩
theorem free_sp (cs : List Cell) (c : Cell) : f__law_free [.nt (cs.map clD), .pd (clD c)] = some (.tmp (.ls ((ops cs c).map chD)), [.nt (cs.map clD), .pd (clD c)]) := by
  have lc := lc_if (it := iSeq (eC (.str "ensw"))) (g := gN 2) (t := bT (eIn (eCall f__law_beside (eCons (eVar 1) (eCons (eVar 2) eNil))) (eVar 0))) (f := eVar 2) (vs := [2]) (q := fun d => .str (chS d)) (y := chD) (p := fun d => decide (stepC c d ∈ cs)) (lk := none)
    (e := [some (.nt (cs.map clD)), some (.pd (clD c)), none]) (env := [some (.nt (cs.map clD)), some (.pd (clD c)), none]) [.e, .n, .s, .w] (by rfl) (by simp) (fun d hd => by
      simp [lcIf, wipeE, unwipe, beside_sp, oIn, sh_cell, sh_cells, any_cell, chD, -List.any_map, -List.any_eq_true])
  unfold f__law_free
  rw [run_of (e := [some (.nt (cs.map clD)), some (.pd (clD c)), none]) rfl]
  simp only [m__law_free, z_ret, lc, z_unl]
  simp [ops, all4]
section
variable {cs : List Cell} (cl : ∀ c ∈ cs, ∀ d, inB (stepC c d) = true → stepC c d ∈ cs)
include cl
theorem goE : ∀ (k : Nat) (x y : Int), (x, y) ∈ cs → 0 ≤ x → x + k ≤ 3 → 0 ≤ y → y ≤ 3 → (x + k, y) ∈ cs
  | 0, x, y, h, _, _, _, _ => by simpa using h
  | k + 1, x, y, h, h0, h1, h2, h3 => by
    have := goE k (x + 1) y (cl (x, y) h .e (by show inB (x + 1, y) = true; unfold inB; simp only [Bool.and_eq_true, decide_eq_true_eq]; omega)) (by omega) (by omega) h2 h3
    rw [show x + ((k + 1 : Nat) : Int) = x + 1 + k by omega]
    exact this
theorem goW : ∀ (k : Nat) (x y : Int), (x, y) ∈ cs → 0 ≤ x - k → x ≤ 3 → 0 ≤ y → y ≤ 3 → (x - k, y) ∈ cs
  | 0, x, y, h, _, _, _, _ => by simpa using h
  | k + 1, x, y, h, h0, h1, h2, h3 => by
    have := goW k (x - 1) y (cl (x, y) h .w (by show inB (x - 1, y) = true; unfold inB; simp only [Bool.and_eq_true, decide_eq_true_eq]; omega)) (by omega) (by omega) h2 h3
    rw [show x - ((k + 1 : Nat) : Int) = x - 1 - k by omega]
    exact this
theorem goN : ∀ (k : Nat) (x y : Int), (x, y) ∈ cs → 0 ≤ y → y + k ≤ 3 → 0 ≤ x → x ≤ 3 → (x, y + k) ∈ cs
  | 0, x, y, h, _, _, _, _ => by simpa using h
  | k + 1, x, y, h, h0, h1, h2, h3 => by
    have := goN k x (y + 1) (cl (x, y) h .n (by show inB (x, y + 1) = true; unfold inB; simp only [Bool.and_eq_true, decide_eq_true_eq]; omega)) (by omega) (by omega) h2 h3
    rw [show y + ((k + 1 : Nat) : Int) = y + 1 + k by omega]
    exact this
theorem goS : ∀ (k : Nat) (x y : Int), (x, y) ∈ cs → 0 ≤ y - k → y ≤ 3 → 0 ≤ x → x ≤ 3 → (x, y - k) ∈ cs
  | 0, x, y, h, _, _, _, _ => by simpa using h
  | k + 1, x, y, h, h0, h1, h2, h3 => by
    have := goS k x (y - 1) (cl (x, y) h .s (by show inB (x, y - 1) = true; unfold inB; simp only [Bool.and_eq_true, decide_eq_true_eq]; omega)) (by omega) (by omega) h2 h3
    rw [show y - ((k + 1 : Nat) : Int) = y - 1 - k by omega]
    exact this
theorem goAny {c g : Cell} (h : c ∈ cs) (hc : inB c = true) (hg : inB g = true) : g ∈ cs := by
  obtain ⟨x, y⟩ := c
  obtain ⟨a, b⟩ := g
  simp [inB] at hc hg
  have h1 : (a, y) ∈ cs := by
    rcases Int.le_total x a with z | z
    · have := goE cl (a - x).toNat x y h (by omega) (by omega) (by omega) (by omega)
      rw [show x + ((a - x).toNat : Int) = a by omega] at this
      exact this
    · have := goW cl (x - a).toNat x y h (by omega) (by omega) (by omega) (by omega)
      rw [show x - ((x - a).toNat : Int) = a by omega] at this
      exact this
  rcases Int.le_total y b with z | z
  · have := goN cl (b - y).toNat a y h1 (by omega) (by omega) (by omega) (by omega)
    rw [show y + ((b - y).toNat : Int) = b by omega] at this
    exact this
  · have := goS cl (y - b).toNat a y h1 (by omega) (by omega) (by omega) (by omega)
    rw [show y - ((y - b).toNat : Int) = b by omega] at this
    exact this
end
def grid : List Cell := [(0, 0), (0, 1), (0, 2), (0, 3), (1, 0), (1, 1), (1, 2), (1, 3), (2, 0), (2, 1), (2, 2), (2, 3), (3, 0), (3, 1), (3, 2), (3, 3)]
theorem grid_in : ∀ c ∈ grid, inB c = true := by decide
theorem some_near {cs : List Cell} (hg : good cs) (hl : cs.length < 16) : ∃ c ∈ cs, ∃ d, inB (stepC c d) = true ∧ stepC c d ∉ cs := by
  refine Classical.byContradiction fun no => ?_
  have cl : ∀ c ∈ cs, ∀ d, inB (stepC c d) = true → stepC c d ∈ cs := fun c hc d hi => Classical.byContradiction fun z => no ⟨c, hc, d, hi, z⟩
  obtain ⟨c, hc⟩ := List.exists_mem_of_length_pos hg.1
  have sub : ∀ g ∈ grid, g ∈ cs := fun g h => goAny cl hc (hg.2.2 c hc) (grid_in g h)
  have nd : grid.Nodup := by decide
  have := nd.length_le_of_subset sub
  simp [grid] at this
  omega
noncomputable section
theorem ops_mem {cs : List Cell} {c : Cell} {d : Dir} : d ∈ ops cs c ↔ stepC c d ∈ cs := by
  unfold ops all4
  cases d <;> simp
theorem ops_lc2 (cs : List Cell) (c : Cell) : lcL (gN 2) (bT (eIn (eCall f_rolled_cell (eCons (eVar 1) (eCons (eVar 2) eNil))) (eVar 0))) (eVar 2) [2] (all4.map chD) [some (.nt (cs.map clD)), some (.pd (clD c)), none] [] = some ((ops cs c).map chD, [some (.nt (cs.map clD)), some (.pd (clD c)), none]) := by
  have := lcL_pure (g := gN 2) (t := bT (eIn (eCall f_rolled_cell (eCons (eVar 1) (eCons (eVar 2) eNil))) (eVar 0))) (f := eVar 2) (vs := [2]) (env := [some (.nt (cs.map clD)), some (.pd (clD c)), none]) (p := fun d => decide (stepC c d ∈ cs)) (y := chD) (q := chD) all4 [] (fun d _ => by
    refine ⟨[some (.nt (cs.map clD)), some (.pd (clD c)), some (.pd (chD d))], [some (.nt (cs.map clD)), some (.pd (clD c)), some (.pd (chD d))], by simp [wipeE], ?_, fun _ => ⟨.pd (chD d), [some (.nt (cs.map clD)), some (.pd (clD c)), some (.pd (chD d))], by simp, rfl, by simp [unwipe]⟩, fun _ => by simp [unwipe]⟩
    have t := rolled_cell_sp c d
    rw [show PyData.str (chS d) = chD d from rfl] at t
    simp [t, oIn, sh_cell, sh_cells, any_cell, -List.any_map, -List.any_eq_true])
  rw [this]
  rfl
theorem let_letters_sp (cs : List Cell) (c : Cell) : f_let_letters [.nt (cs.map clD), .pd (clD c)] = some (.tmp (.ls ((ops cs c).map fun d => .str (chS d))), [.nt (cs.map clD), .pd (clD c)]) := by
  unfold f_let_letters
  rw [run_of (e := [some (.nt (cs.map clD)), some (.pd (clD c)), none]) rfl]
  have hs : kSrtL [R.pd v_LETTERS] [some (.nt (cs.map clD)), some (.pd (clD c)), none] = some (.tmp (.ls (all4.map chD)), [some (.nt (cs.map clD)), some (.pd (clD c)), none]) := rfl
  have e := ops_lc2 cs c
  have l : (all4.map chD).length ≤ 1000000 := by decide
  simp only [m_let_letters, z_ret, z_lc, iSeq, z_then, z_cons, z_c, z_nil, hs, e, l, if_true, z_unl]
  rfl
end
noncomputable section
variable [TabL]
def nesw4 : List Dir := [.n, .e, .s, .w]
def nbs (cs : List Cell) : List Cell := cs.flatMap fun c => nesw4.map (stepC c)
theorem nbs_snoc (cs : List Cell) (c : Cell) : nbs (cs ++ [c]) = nbs cs ++ nesw4.map (stepC c) := by simp [nbs]
theorem nbs_len (cs : List Cell) : (nbs cs).length = 4 * cs.length := by
  induction cs with
  | nil => rfl
  | cons c cs ih => simp [nbs, nesw4] at ih ⊢; omega
def nearB (cs : List Cell) (c : Cell) : Bool := !decide (c ∈ cs) && (decide (max c.1 c.2 < 4) && decide (0 ≤ min c.1 c.2))
theorem nearB_iff {cs : List Cell} {c : Cell} : nearB cs c = true ↔ c ∉ cs ∧ inB c = true := by
  unfold nearB
  rw [← inB_mm c]
  simp [and_comm]
def NrI (cs : List Cell) (a0 a1 s3 s6 : Option S) (rest : List PyData) (e : Sl) : Prop := ∃ (dn td : List Cell) (s5 : Option S), cs = dn ++ td ∧ rest = td.map clD ∧ fre s5 = true ∧ e = [a0, a1, some (.mu .fro (.ls (cs.map clD))), s3, some (.mu .own (.ls ((nbs dn).map clD))), s5, s6, none]
def FlI (a1 : Option S) (N : Nat) (rest : List PyData) (e : Sl) : Prop := ∃ (p : Pk) (cs : List Cell) (s3 s4 s5 s6 : Option S), p.t + 4 * rest.length ≤ N ∧ good cs ∧ cs.length + rest.length ≤ 9 ∧ (fre s3 = true ∧ fre s4 = true ∧ fre s5 = true ∧ fre s6 = true) ∧ e = [some (.mu .bor (penK p)), a1, some (.mu .own (.ls (cs.map clD))), s3, s4, s5, s6, none]
theorem drawn_floor_sp (M : Int) (m1 : 1 ≤ M) (m9 : M ≤ 9) (p : Pk) (ht : p.t ≤ 1000000000) : ∃ (q : Pk) (cs : List Cell), q.t ≤ p.t + 40 ∧ okFl cs ∧ f__law_drawn_floor [.mu .bor (penK p), .pd (.int M)] = some (.nt (cs.map clD), [.mu .bor (penK q), .pd (.int M)]) := by
  have key : wF f__law_drawn_floor [.mu .bor (penK p), .pd (.int M)] (fun r as => ∃ (q : Pk) (cs : List Cell), q.t ≤ p.t + 40 ∧ okFl cs ∧ r = .nt (cs.map clD) ∧ as = [.mu .bor (penK q), .pd (.int M)]) := by
    refine wF_run (e := [some (.mu .bor (penK p)), some (.pd (.int M)), none, none, none, none, none, none]) rfl ?_
    obtain ⟨x1, p1, a0, a1, ha, d1⟩ := draw2_sp p 4 (by omega) (by omega) (by omega)
    obtain ⟨x2, p2, b0, b1, hb, d2⟩ := draw2_sp p1 4 (by omega) (by omega) (by omega)
    obtain ⟨r, p3, c0, c1, hc, d3⟩ := draw2_sp p2 M (by omega) (by omega) (by omega)
    obtain ⟨k, rfl⟩ : ∃ k : Nat, r = k := ⟨r.toNat, by omega⟩
    have g0 : good [(x1, x2)] := ⟨by simp, by simp, fun c hc => by
      simp at hc
      subst hc
      unfold inB
      simp only [Bool.and_eq_true, decide_eq_true_eq]
      omega⟩
    refine wS_seq (wS_of (fl := .nx) (e := [some (.mu .bor (penK p2)), some (.pd (.int M)), some (.mu .own (.ls ([(x1, x2)].map clD))), none, none, none, none, none]) (by simp [d1, d2, clD]) ?_)
    rw [nxt_nx, go]
    refine wS_seq ?_
    refine wS_for (xs := nD (List.range k)) (lk := none) (e := [some (.mu .bor (penK p3)), some (.pd (.int M)), some (.mu .own (.ls ([(x1, x2)].map clD))), none, none, none, none, none]) ?_ (FlI (some (.pd (.int M))) (p.t + 40)) ⟨p3, [(x1, x2)], none, none, none, none, by simp [nD]; omega, g0, by simp [nD]; omega, ⟨rfl, rfl, rfl, rfl⟩, rfl⟩ ?_ ?_
    · unfold nD
      rw [← ups_map]
      exact iRg1_of (n := k) (by simp [d3]) (by omega)
    · rintro x rest e ⟨p4, cs, s3, s4, s5, s6, hN, hg, hl, ⟨f3, f4, f5, f6⟩, rfl⟩
      simp only [List.length_cons] at hN hl
      simp only [gW, z_gN, z_setR, z_free2, List.getElem?_cons_succ, List.getElem?_cons_zero, freO_some, f3, if_true, List.set_cons_succ, List.set_cons_zero]
      rw [go]
      refine wS_seq ?_
      simp [wS, z_free2, freO_some, f4, -z_free]
      rw [go]
      refine wS_seq ?_
      refine wS_for (xs := cs.map clD) (lk := some (2, .own)) (e := [some (.mu .bor (penK p4)), some (.pd (.int M)), some (.mu .fro (.ls (cs.map clD))), some (.pd x), some (.mu .own (.ls [])), s5, s6, none]) (by simp)
        (NrI cs (some (.mu .bor (penK p4))) (some (.pd (.int M))) (some (.pd x)) s6) ⟨[], cs, s5, rfl, rfl, f5, rfl⟩ ?_ ?_
      · rintro y rest2 e ⟨dn, td, s5, hcs, er, f5, rfl⟩
        cases td with
        | nil => simp at er
        | cons c td =>
          obtain ⟨rfl, rfl⟩ : y = clD c ∧ rest2 = td.map clD := by simpa using er
          have lc := lc_all (it := iSeq (eC (.str "nesw"))) (g := gN 7) (f := eCall f__law_beside (eCons (eVar 5) (eCons (eVar 7) eNil))) (vs := [7]) (q := fun d => .str (chS d)) (y := fun d => clD (stepC c d)) (lk := none)
            (e := [some (.mu .bor (penK p4)), some (.pd (.int M)), some (.mu .fro (.ls (cs.map clD))), some (.pd x), some (.mu .own (.ls ((nbs dn).map clD))), some (.pd (clD c)), s6, none]) (env := [some (.mu .bor (penK p4)), some (.pd (.int M)), some (.mu .fro (.ls (cs.map clD))), some (.pd x), some (.mu .own (.ls ((nbs dn).map clD))), some (.pd (clD c)), s6, none]) nesw4 (by rfl) (by simp [nesw4]) (fun d hd => by
              simp [lcOk, wipeE, unwipe, beside_sp])
          have ln : (nbs dn).length ≤ 100 := by
            rw [nbs_len]
            have := congrArg List.length hcs
            simp at this
            omega
          simp only [gW, z_gN, z_setR, z_free2, List.getElem?_cons_succ, List.getElem?_cons_zero, freO_some, f5, if_true, List.set_cons_succ, List.set_cons_zero]
          rw [go]
          refine wS_of (fl := .nx) (e := [some (.mu .bor (penK p4)), some (.pd (.int M)), some (.mu .fro (.ls (cs.map clD))), some (.pd x), some (.mu .own (.ls ((nbs (dn ++ [c])).map clD))), some (.pd (clD c)), s6, none]) ?_ ⟨dn ++ [c], td, _, by simp [hcs], rfl, rfl, rfl⟩
          have e4 : ((nbs dn).map clD ++ nesw4.map fun d => clD (stepC c d)) = (nbs (dn ++ [c])).map clD := by rw [nbs_snoc]; simp
          rw [← e4]
          simp only [z_expr, z_bm, z_var, List.getElem?_cons_succ, List.getElem?_cons_zero, isL, z_cons, lc, z_unl, z_nil]
          have lz : ((nbs dn).map clD).length + (nesw4.map fun d => clD (stepC c d)).length ≤ 1000000 := by simp [nesw4]; omega
          generalize ((nbs dn).map clD) = L1 at *
          generalize (nesw4.map fun d => clD (stepC c d)) = L2 at *
          simp [kExtend, lsOf, lz]
      · rintro e ⟨dn, td, s5, hcs, er, f5, rfl⟩
        cases td with
        | cons c td => simp at er
        | nil =>
          rw [List.append_nil] at hcs
          subst hcs
          simp only [z_unl1, List.getElem?_cons_succ, List.getElem?_cons_zero, List.set_cons_succ, List.set_cons_zero, nxt_nx]
          rw [go]
          refine wS_seq ?_
          have lc := lc_if (it := iSeq (eVar 4)) (g := gN 6) (t := bAnd (bT (eNin (eVar 6) (eVar 2))) (bAnd (bT (eLt (eThen (eCons (eVar 6) eNil) (kE oMax)) (eC (.int 4)))) (bT (eGe (eThen (eCons (eVar 6) eNil) (kE oMin)) (eC (.int 0)))))) (f := eVar 6) (vs := [6]) (q := clD) (y := clD) (p := nearB cs) (lk := some (4, .own))
            (e := [some (.mu .bor (penK p4)), some (.pd (.int M)), some (.mu .own (.ls (cs.map clD))), some (.pd x), some (.mu .fro (.ls ((nbs cs).map clD))), s5, s6, none]) (env := [some (.mu .bor (penK p4)), some (.pd (.int M)), some (.mu .own (.ls (cs.map clD))), some (.pd x), some (.mu .own (.ls ((nbs cs).map clD))), s5, s6, none]) (nbs cs) (by simp) (by rw [nbs_len]; omega) (fun c hc => by
              have k1 : kLt [.pd (.int (max c.1 c.2)), .pd (.int 4)] = fun env => some (.pd (.bool (decide (max c.1 c.2 < 4))), env) := by funext env; simp [kLt, kLt0, oI]
              by_cases z : c ∈ cs
              · simp [lcIf, wipeE, unwipe, oIn, sh_cell, sh_cellsL, any_cell, z, nearB, -List.any_map, -List.any_eq_true]
              · by_cases y : max c.1 c.2 < 4
                · simp [lcIf, wipeE, unwipe, oIn, sh_cell, sh_cellsL, any_cell, z, nearB, oMax_cell, oMin_cell, k1, y, kGe, oI, -List.any_map, -List.any_eq_true]
                · simp [lcIf, wipeE, unwipe, oIn, sh_cell, sh_cellsL, any_cell, z, nearB, oMax_cell, oMin_cell, k1, y, kGe, oI, -List.any_map, -List.any_eq_true])
          have lc' : (eLc (iSeq (eVar 4)) (gN 6) (bAnd (bT (eNin (eVar 6) (eVar 2))) (bAnd (bT (eLt (eThen (eCons (eVar 6) eNil) (kE oMax)) (eC (.int 4)))) (bT (eGe (eThen (eCons (eVar 6) eNil) (kE oMin)) (eC (.int 0)))))) (eVar 6) [6]) [some (.mu .bor (penK p4)), some (.pd (.int M)), some (.mu .own (.ls (cs.map clD))), some (.pd x), some (.mu .own (.ls ((nbs cs).map clD))), s5, s6, none] = some (.tmp (.ls (((nbs cs).filter (nearB cs)).map clD)), [some (.mu .bor (penK p4)), some (.pd (.int M)), some (.mu .own (.ls (cs.map clD))), some (.pd x), some (.mu .own (.ls ((nbs cs).map clD))), s5, s6, none]) := by
            rw [lc]
            simp
          refine wS_of (fl := .nx) (e := [some (.mu .bor (penK p4)), some (.pd (.int M)), some (.mu .own (.ls (cs.map clD))), some (.pd x), some (.mu .own (.ls (((nbs cs).filter (nearB cs)).map clD))), s5, s6, none]) (by simp only [z_set, lc']; simp) ?_
          rw [nxt_nx, go]
          refine wS_seq ?_
          obtain ⟨c0, hc0, d0, hi0, hn0⟩ := some_near hg (by omega)
          have npos : 0 < (((nbs cs).filter (nearB cs)).map clD).length := by
            rw [List.length_map]
            refine List.length_pos_of_mem (a := stepC c0 d0) (List.mem_filter.mpr ⟨?_, nearB_iff.mpr ⟨hn0, hi0⟩⟩)
            unfold nbs
            refine List.mem_flatMap.mpr ⟨c0, hc0, List.mem_map.mpr ⟨d0, ?_, rfl⟩⟩
            cases d0 <;> simp [nesw4]
          have nlt : (((nbs cs).filter (nearB cs)).map clD).length < 1000 := by
            rw [List.length_map]
            have := List.length_filter_le (nearB cs) (nbs cs)
            rw [nbs_len] at this
            omega
          obtain ⟨r8, p5, e0, e1, he, d8⟩ := draw2_sp p4 8 (by omega) (by omega) (by omega)
          have six : ∃ (g : Cell) (p7 : Pk), p7.t ≤ p4.t + 3 ∧ inB g = true ∧ (sSet 6 (eIf (bT (eEq (eCall f__law_draw (eCons (eVar 0) (eCons (eC (.int 8)) eNil))) (eC (.int 0)))) (eThen (eCons (eCall f__law_draw (eCons (eVar 0) (eCons (eC (.int 4)) eNil))) (eCons (eCall f__law_draw (eCons (eVar 0) (eCons (eC (.int 4)) eNil))) eNil)) kTup) (eCall f__law_pick (eCons (eVar 0) (eCons (eVar 4) eNil))))) [some (.mu .bor (penK p4)), some (.pd (.int M)), some (.mu .own (.ls (cs.map clD))), some (.pd x), some (.mu .own (.ls (((nbs cs).filter (nearB cs)).map clD))), s5, s6, none] = some (.nx, [some (.mu .bor (penK p7)), some (.pd (.int M)), some (.mu .own (.ls (cs.map clD))), some (.pd x), some (.mu .own (.ls (((nbs cs).filter (nearB cs)).map clD))), s5, some (.pd (clD g)), none]) := by
            by_cases z : r8 = 0
            · obtain ⟨y1, p6, g0, g1, hg6, d6⟩ := draw2_sp p5 4 (by omega) (by omega) (by omega)
              obtain ⟨y2, p7, h0, h1, hg7, d7⟩ := draw2_sp p6 4 (by omega) (by omega) (by omega)
              refine ⟨(y1, y2), p7, by omega, ?_, ?_⟩
              · unfold inB
                simp only [Bool.and_eq_true, decide_eq_true_eq]
                omega
              · generalize (((nbs cs).filter (nearB cs)).map clD) = L at *
                simp [d8, oEq, sh_int, eqv_int, z, d6, d7, clD, z_free2, freO_some, f6, -z_free]
            · obtain ⟨y, hy, p6, hg6, pk⟩ := pick2_l p5 _ npos (by omega) (by omega)
              obtain ⟨g, hgm, rfl⟩ := List.mem_map.mp hy
              refine ⟨g, p6, by omega, (nearB_iff.mp (List.mem_filter.mp hgm).2).2, ?_⟩
              generalize (((nbs cs).filter (nearB cs)).map clD) = L at *
              simp [d8, oEq, sh_int, eqv_int, z, pk, z_free2, freO_some, f6, -z_free]
          obtain ⟨g, p7, hp7, hig, e6⟩ := six
          refine wS_of e6 ?_
          rw [nxt_nx, go]
          generalize (((nbs cs).filter (nearB cs)).map clD) = L at *
          by_cases hgc : g ∈ cs
          · refine wS_of (fl := .nx) (e := [some (.mu .bor (penK p7)), some (.pd (.int M)), some (.mu .own (.ls (cs.map clD))), some (.pd x), some (.mu .own (.ls L)), s5, some (.pd (clD g)), none]) ?_ ⟨p7, cs, _, _, _, _, by omega, hg, by omega, ⟨rfl, rfl, f5, rfl⟩, rfl⟩
            simp [oIn, sh_cell, sh_cellsL, any_cell, hgc, -List.any_map, -List.any_eq_true]
          · have lz : cs.length ≤ 1000000 := by omega
            refine wS_of (fl := .nx) (e := [some (.mu .bor (penK p7)), some (.pd (.int M)), some (.mu .own (.ls ((cs ++ [g]).map clD))), some (.pd x), some (.mu .own (.ls L)), s5, some (.pd (clD g)), none]) ?_ ⟨p7, cs ++ [g], _, _, _, _, by omega, ⟨by simp, ?_, fun c hc => ?_⟩, by simp; omega, ⟨rfl, rfl, f5, rfl⟩, rfl⟩
            · rw [List.map_append]
              simp [oIn, sh_cell, sh_cellsL, any_cell, hgc, kAppend, lz, isL, -List.any_map, -List.any_eq_true, -List.map_append]
            · rw [List.nodup_append]
              exact ⟨hg.2.1, by simp, fun a ha b hb => by simp at hb; subst hb; exact fun z => hgc (z ▸ ha)⟩
            · rcases List.mem_append.mp hc with z | z
              · exact hg.2.2 c z
              · simp at z; subst z; exact hig
    · rintro e ⟨p4, cs, s3, s4, s5, s6, hN, hg, hl, ⟨f3, f4, f5, f6⟩, rfl⟩
      simp only [z_unl, nxt_nx]
      rw [go]
      have tr : ∀ a b c : Cell, prLe a b = true → prLe b c = true → prLe a c = true := by
        intro a b c h1 h2; simp [prLe] at *; omega
      have to : ∀ a b : Cell, (prLe a b || prLe b a) = true := by
        intro a b; simp [prLe]; omega
      have pm := List.mergeSort_perm cs prLe
      have pw := List.pairwise_mergeSort tr to cs
      have ok : okFl (cs.mergeSort prLe) := ⟨by rw [List.length_mergeSort]; exact hg.1, by rw [List.length_mergeSort]; omega, fun c hc => hg.2.2 c (pm.mem_iff.mp hc), chain_of _ (fun c hc => hg.2.2 c (pm.mem_iff.mp hc)) pw (pm.nodup_iff.mpr hg.2.1)⟩
      have hn : ints? (cs.map clD) = none := by
        obtain ⟨c, r, rfl⟩ : ∃ c r, cs = c :: r := by
          cases cs with
          | nil => exact absurd hg.1 (by simp)
          | cons c r => exact ⟨c, r, rfl⟩
        rfl
      have hp := pairs_of cs hg.2.2
      have hlt : cs.length < 64 := by omega
      refine wS_of (fl := .rt (.nt ((cs.mergeSort prLe).map clD))) (e := [some (.mu .bor (penK p4)), some (.pd (.int M)), some (.mu .own (.ls (cs.map clD))), s3, s4, s5, s6, none]) (by simp [kSorted, hn, hp, hlt, kTupN]) ?_
      exact ⟨_, [.mu .bor (penK p4), .pd (.int M)], rfl, rfl, p4, cs.mergeSort prLe, by simp at hN; omega, ok, rfl, rfl⟩
  obtain ⟨r, as, e, q, cs, h1, h2, rfl, rfl⟩ := key
  exact ⟨q, cs, h1, h2, e⟩
end
noncomputable section
variable [TabL]
abbrev Mk := Cell × Ly × Int
def mkD (a : Mk) : PyData := .tuple [clD a.1, lyD a.2.1, .int a.2.2]
def mkK (a : Mk) : NestedKey := .tup [ck a.1, .tup [.num a.2.1.1, .num a.2.1.2.1, .num a.2.1.2.2], .num a.2.2]
theorem mk_tk (a : Mk) : tk? (mkD a) = some (mkK a) := by
  obtain ⟨⟨c1, c2⟩, ⟨l1, l2, l3⟩, p⟩ := a
  simp [mkD, mkK, lyD, clD, tk?, nk?, nks?, ck, NestedKey.depth, NestedKey.depthAll]
theorem mk_inj (a b : Mk) (h : mkK a = mkK b) : a = b := by
  obtain ⟨⟨c1, c2⟩, ⟨l1, l2, l3⟩, p⟩ := a
  obtain ⟨⟨d1, d2⟩, ⟨m1, m2, m3⟩, q⟩ := b
  simp [mkK, ck] at h
  simp [h]
def trS (t : Int × Int) (s : Int) : Int := if s = t.1 then t.2 else if s = t.2 then t.1 else s
def goM (cs : List Cell) (a : Mk) (d : Dir) : Mk := (stepC a.1 d, roll a.2.1 d, trS ((roll a.2.1 d).1, 6 + (cs.idxOf (stepC a.1 d) : Int)) a.2.2)
def skM (cs : List Cell) : Sk Mk where
  dat := mkD
  key := mkK
  cel a := clD a.1
  lets a := ops cs a.1
  go := goM cs
  tk := mk_tk
  inj := mk_inj
  cl a := rfl
theorem traded_spot_sp (t : Int × Int) (s : Int) : f_traded_spot [.pd (clD t), .pd (.int s)] = some (.pd (.int (trS t s)), [.pd (clD t), .pd (.int s)]) := by
  have ht : clD t = .tuple [.int t.1, .int t.2] := rfl
  unfold f_traded_spot
  rw [run_of (e := [some (.pd (clD t)), some (.pd (.int s)), none, none]) rfl]
  by_cases h1 : s = t.1
  · simp [m_traded_spot, ht, trS, eEq, oEq, sh_int, eqv_int, h1]
  · by_cases h2 : s = t.2
    · have h3 : ¬ t.2 = t.1 := fun e => h1 (h2.trans e)
      simp [m_traded_spot, ht, trS, eEq, oEq, sh_int, eqv_int, h2, h3]
    · simp [m_traded_spot, ht, trS, eEq, oEq, sh_int, eqv_int, h1, h2]
theorem rolled_mark_sp (cs : List Cell) (a : Mk) (d : Dir) (h : stepC a.1 d ∈ cs) : f_rolled_mark [.nt (cs.map clD), .pd (mkD a), .pd (.str (chS d))] = some (.pd (mkD (goM cs a d)), [.nt (cs.map clD), .pd (mkD a), .pd (.str (chS d))]) := by
  have r := rolled_stand_sp a.1 a.2.1 d
  have t := trade_at_sp cs (stepC a.1 d) (roll a.2.1 d) h
  have q := traded_spot_sp ((roll a.2.1 d).1, 6 + (cs.idxOf (stepC a.1 d) : Int)) a.2.2
  have m : mkD a = .tuple [clD a.1, lyD a.2.1, .int a.2.2] := rfl
  have s0 : PyData.tuple [clD a.1, lyD a.2.1] = stD a.1 a.2.1 := rfl
  have i0 : oIx [stD (stepC a.1 d) (roll a.2.1 d), .int 0] = some (clD (stepC a.1 d)) := rfl
  have i1 : oIx [stD (stepC a.1 d) (roll a.2.1 d), .int 1] = some (lyD (roll a.2.1 d)) := rfl
  have g : mkD (goM cs a d) = .tuple [clD (stepC a.1 d), lyD (roll a.2.1 d), .int (trS ((roll a.2.1 d).1, 6 + (cs.idxOf (stepC a.1 d) : Int)) a.2.2)] := rfl
  unfold f_rolled_mark
  rw [run_of (e := [some (.nt (cs.map clD)), some (.pd (mkD a)), some (.pd (.str (chS d))), none, none, none, none]) rfl, g]
  simp [m_rolled_mark, m, s0, r, t, q, eIx, i0, i1]
def univM (cs : List Cell) : List Mk := cs.flatMap fun c => lyings.flatMap fun l => (List.range (6 + cs.length)).map fun (i : Nat) => ((c, l, (i : Int)) : Mk)
theorem univM_mem {cs : List Cell} {a : Mk} : a ∈ univM cs ↔ a.1 ∈ cs ∧ a.2.1 ∈ lyings ∧ 0 ≤ a.2.2 ∧ a.2.2 < 6 + (cs.length : Int) := by
  obtain ⟨c, l, p⟩ := a
  unfold univM
  simp only [List.mem_flatMap, List.mem_map, Prod.mk.injEq, List.mem_range]
  constructor
  · rintro ⟨c', h1, l', h2, i, h3, rfl, rfl, rfl⟩
    exact ⟨h1, h2, by omega, by omega⟩
  · rintro ⟨h1, h2, h3, h4⟩
    exact ⟨c, h1, l, h2, p.toNat, by omega, rfl, rfl, by omega⟩
theorem univM_len (cs : List Cell) : (univM cs).length = cs.length * (24 * (6 + cs.length)) := by
  unfold univM
  have e : ∀ c : Cell, (lyings.flatMap fun l => (List.range (6 + cs.length)).map fun (i : Nat) => ((c, l, (i : Int)) : Mk)).length = 24 * (6 + cs.length) := fun c => by
    have : ∀ ls : List Ly, (ls.flatMap fun l => (List.range (6 + cs.length)).map fun (i : Nat) => ((c, l, (i : Int)) : Mk)).length = ls.length * (6 + cs.length) := fun ls => by
      induction ls with
      | nil => simp
      | cons x ls ih => rw [List.flatMap_cons, List.length_append, ih, List.length_map, List.length_range, List.length_cons, Nat.add_mul, Nat.one_mul, Nat.add_comm]
    rw [this]
    rfl
  have : ∀ ds : List Cell, (ds.flatMap fun c => lyings.flatMap fun l => (List.range (6 + cs.length)).map fun (i : Nat) => ((c, l, (i : Int)) : Mk)).length = ds.length * (24 * (6 + cs.length)) := fun ds => by
    induction ds with
    | nil => simp
    | cons x ds ih => rw [List.flatMap_cons, List.length_append, ih, e, List.length_cons, Nat.add_mul ds.length 1, Nat.one_mul, Nat.add_comm]
  exact this cs
theorem trS_in {n : Int} {t : Int × Int} {s : Int} (h1 : 0 ≤ t.1 ∧ t.1 < n) (h2 : 0 ≤ t.2 ∧ t.2 < n) (h : 0 ≤ s ∧ s < n) : 0 ≤ trS t s ∧ trS t s < n := by
  unfold trS
  split
  · exact h2
  · split
    · exact h1
    · exact h
theorem wd_m {cs : List Cell} (h : okFl cs) : Wd (skM cs) (univM cs) where
  len := by
    rw [univM_len]
    have h1 := h.2.1
    have : cs.length * (24 * (6 + cs.length)) ≤ 9 * (24 * (6 + 9)) := Nat.mul_le_mul h1 (by omega)
    omega
  go a ha d hd := by
    rw [univM_mem] at ha ⊢
    obtain ⟨_, h2, h3, h4⟩ := ha
    have hc : stepC a.1 d ∈ cs := ops_mem.mp hd
    have hl := roll_mem _ h2 d
    have b := ly_all _ hl
    have ix : cs.idxOf (stepC a.1 d) < cs.length := List.idxOf_lt_length_of_mem hc
    exact ⟨hc, hl, trS_in (n := 6 + (cs.length : Int)) (t := ((roll a.2.1 d).1, 6 + (cs.idxOf (stepC a.1 d) : Int))) ⟨b.1, by show (roll a.2.1 d).1 < _; omega⟩ ⟨by show 0 ≤ 6 + (cs.idxOf (stepC a.1 d) : Int); omega, by show 6 + (cs.idxOf (stepC a.1 d) : Int) < _; omega⟩ ⟨h3, h4⟩⟩
  four a _ := by
    show (ops cs a.1).length ≤ 4
    exact List.length_filter_le _ all4
  up a _ := by
    show (ops cs a.1).Pairwise _
    exact List.Pairwise.sublist List.filter_sublist (by decide)
theorem marks_reached_sp {cs : List Cell} (h : okFl cs) (a : Mk) (ha : a ∈ univM cs) : ∃ rows : Rws Mk, (rows.map (·.1)).Nodup ∧ (∀ q ∈ rows, Ld (skM cs) a q.2 q.1 ∧ q.1 ∈ univM cs ∧ q.2.length ≤ (univM cs).length) ∧ (∀ ds b, Ld (skM cs) a ds b → ∃ es, (b, es) ∈ rows ∧ sle es ds) ∧ rows.length ≤ (univM cs).length ∧ Ord rows ∧
    f_marks_reached [.nt (cs.map clD), .pd (stD a.1 a.2.1), .pd (.int a.2.2)] = some (.tmp (.dn (rkv (skM cs) rows)), [.nt (cs.map clD), .pd (stD a.1 a.2.1), .pd (.int a.2.2)]) := by
  obtain ⟨rows, h1, h2, h3, h4, h5, e⟩ := rch_spO (M := skM cs) (U := univM cs) (a0 := a) (cs.map clD) (cal := fun L => eCallD 2 L (cs.map clD) (runFn 3 (sRet (eCall f_rolled_mark (eCons (eVar 2) (eCons (eVar 0) (eCons (eVar 1) eNil)))))) (eCons (eVar 7) (eCons (eVar 8) eNil))) (FL := f_let_letters) (wd_m h) (fun lv b hb => ⟨fun d hd env g2 g7 g8 => by
    have g7 : env[7]? = some (some (.pd (mkD b))) := g7
    have rs := rolled_mark_sp cs b d (ops_mem.mp hd)
    have rn : runFn 3 (sRet (eCall f_rolled_mark (eCons (eVar 2) (eCons (eVar 0) (eCons (eVar 1) eNil))))) [.pd (mkD b), .pd (.str (chS d)), .nt (cs.map clD)] = some (.pd (mkD (goM cs b d)), [.pd (mkD b), .pd (.str (chS d)), .nt (cs.map clD)]) := by
      rw [run_of (e := [some (.pd (mkD b)), some (.pd (.str (chS d))), some (.nt (cs.map clD))]) rfl]
      simp [rs]
    show eCallD 2 lv _ _ _ env = some (.pd (mkD (goM cs b d)), env)
    rw [z_callD g2]
    simp [fApp, g7, g8, rn, -getElem?_pos], let_letters_sp cs b.1⟩) ha
  refine ⟨rows, h1, h2, h3, h4, h5, ?_⟩
  have i0 : oIx [stD a.1 a.2.1, .int 0] = some (clD a.1) := rfl
  have i1 : oIx [stD a.1 a.2.1, .int 1] = some (lyD a.2.1) := rfl
  have mm : mkD a = .tuple [clD a.1, lyD a.2.1, .int a.2.2] := rfl
  unfold f_marks_reached
  rw [run_of (e := [some (.nt (cs.map clD)), some (.pd (stD a.1 a.2.1)), some (.pd (.int a.2.2))]) rfl]
  have key : eLamC 0 "marks_reached.<locals>.<lambda>" (fun L xs => runFn 10 (ml_marks_reached L xs)) (eCons (eVar 0) (eCons (eThen (eCons (eIx (eVar 1) (eC (.int 0))) (eCons (eIx (eVar 1) (eC (.int 1))) (eCons (eVar 2) eNil))) kTup) eNil)) [some (.nt (cs.map clD)), some (.pd (stD a.1 a.2.1)), some (.pd (.int a.2.2))] = some (.tmp (.dn (rkv (skM cs) rows)), [some (.nt (cs.map clD)), some (.pd (stD a.1 a.2.1)), some (.pd (.int a.2.2))]) := by
    refine eLamC_of (xs := cs.map clD) rfl fun f c a' => ?_
    generalize lamD f c a' "marks_reached.<locals>.<lambda>" (cs.map clD) = L
    have e := e L
    have e : runFn 10 (ml_marks_reached L (cs.map clD)) [.nt (cs.map clD), .pd (.tuple [clD a.1, lyD a.2.1, .int a.2.2]), .pd L, .pd .none] = some (.tmp (.dn (rkv (skM cs) rows)), [.nt (cs.map clD), .pd (.tuple [clD a.1, lyD a.2.1, .int a.2.2]), .pd L, .pd .none]) := e
    simp [fApp2, eIx, i0, i1, e]
  unfold m_marks_reached
  simp [key]
end
noncomputable section
variable [TabL]
theorem need_spot_sp (cs : List Cell) (s : Int) (h : 0 ≤ s ∧ s < 6 + (cs.length : Int)) : f_need_spot [.nt (cs.map clD), .pd (.int s)] = some (.pd .none, [.nt (cs.map clD), .pd (.int s)]) := by
  have e : f_is_spot [.nt (cs.map clD), .pd (.int s)] = some (.pd (.bool true), [.nt (cs.map clD), .pd (.int s)]) := by
    have w := is_whole_int s (6 + (cs.length : Int) - 1)
    have h1 : decide (s ≤ 6 + (cs.length : Int) - 1) = true := by simp; omega
    have h2 : decide (0 ≤ s) = true := by simp; omega
    rw [h1, h2] at w
    unfold f_is_spot
    rw [run_of (e := [some (.nt (cs.map clD)), some (.pd (.int s))]) rfl]
    simp [m_is_spot, v_FACES, oLen, kAdd, kSub, oI, w]
  unfold f_need_spot
  rw [run_of (e := [some (.nt (cs.map clD)), some (.pd (.int s))]) rfl]
  simp [m_need_spot, e]
theorem mk_data (a : Mk) : (mkK a).data = mkD a := by
  obtain ⟨⟨c1, c2⟩, ⟨l1, l2, l3⟩, p⟩ := a
  simp [mkD, mkK, ck, clD, lyD, NestedKey.data, NestedKey.datas]
theorem keysD_m (cs : List Cell) (rows : Rws Mk) : keysD (rkv (skM cs) rows) = rows.map fun q => mkD q.1 := by
  unfold keysD rkv
  rw [List.map_map]
  exact List.map_congr_left fun q _ => mk_data q.1
theorem itemsD_m (cs : List Cell) (rows : Rws Mk) : itemsD (rkv (skM cs) rows) = rows.map fun q => .tuple [mkD q.1, .str (rowS q.2)] := by
  unfold itemsD rkv
  rw [List.map_map]
  exact List.map_congr_left fun q _ => by
    show PyData.tuple [(mkK q.1).data, _] = _
    rw [mk_data]
theorem mkD_two (a : Mk) : oIx [mkD a, .int 2] = some (.int a.2.2) := rfl
theorem plain_mk (xs : List Mk) : PlainS (xs.map mkD) := by
  refine ⟨?_, PySem.W.AllAlike.of (enc := mkD) fun b b' => ?_, PySem.W.Sortable.tuples (enc := mkD) fun b => ⟨_, _, rfl⟩, fun d hd => ?_⟩
  · induction xs with
    | nil => rfl
    | cons x xs ih => simp only [List.map_cons, PyData.canLayAll0, ih]; rfl
  · obtain ⟨⟨c1, c2⟩, ⟨l1, l2, l3⟩, p⟩ := b
    obtain ⟨⟨d1, d2⟩, ⟨k1, k2, k3⟩, q⟩ := b'
    simp [mkD, clD, lyD, PySem.W.alike, PySem.W.alikeAll]
  · obtain ⟨⟨⟨c1, c2⟩, ⟨l1, l2, l3⟩, p⟩, _, rfl⟩ := List.mem_map.mp hd
    simp [mkD, clD, lyD, PyData.depth, PyData.depthAll]
def BrI (to : Int) (rows : Rws Mk) (F : Sl → Prop) (rest : List PyData) (e : Sl) : Prop := ∃ (dn td : Rws Mk), rows = dn ++ td ∧ (∀ q ∈ dn, q.1.2.2 ≠ to) ∧ rest = (td.map fun q => PyData.tuple [mkD q.1, .str (rowS q.2)]) ∧ F e
def BrF (a0 a1 a2 a3 a4 : Option S) (e : Sl) : Prop := ∃ s5 s6, Frz s5 ∧ Frz s6 ∧ e = [a0, a1, a2, a3, a4, s5, s6]
theorem frzFr {s : Option S} (h : Frz s) : fre s = true := by rcases h with rfl | ⟨x, rfl⟩ <;> rfl
def Brs (cs : List Cell) (a : Mk) (to : Int) (r : PyData) : Prop :=
  (∃ ds b, Ld (skM cs) a ds b ∧ b.2.2 = to ∧ ds.length ≤ 4000 ∧ (∀ es b', Ld (skM cs) a es b' → b'.2.2 = to → sle ds es) ∧ r = .tuple [.str "row", .str (rowS ds)]) ∨
  (∃ ks : List Mk, ks.Nodup ∧ (∀ b, b ∈ ks ↔ ∃ ds, Ld (skM cs) a ds b) ∧ (∀ b ∈ ks, b ∈ univM cs) ∧ (∀ es b, Ld (skM cs) a es b → b.2.2 ≠ to) ∧ r = .tuple [.str "never", .tuple (srtD (ks.map mkD))])
theorem bring_sp {cs : List Cell} (h : okFl cs) (a : Mk) (ha : a ∈ univM cs) (to : Int) (ht : 0 ≤ to ∧ to < 6 + (cs.length : Int)) : ∃ r, Brs cs a to r ∧ f_bring [.nt (cs.map clD), .pd (stD a.1 a.2.1), .pd (.int a.2.2), .pd (.int to)] = some (.pd r, [.nt (cs.map clD), .pd (stD a.1 a.2.1), .pd (.int a.2.2), .pd (.int to)]) := by
  have key : wF f_bring [.nt (cs.map clD), .pd (stD a.1 a.2.1), .pd (.int a.2.2), .pd (.int to)] (fun r as => ∃ r', Brs cs a to r' ∧ r = .pd r' ∧ as = [.nt (cs.map clD), .pd (stD a.1 a.2.1), .pd (.int a.2.2), .pd (.int to)]) := by
    obtain ⟨rows, h1, h2, h3, h4, h5, e⟩ := marks_reached_sp h a ha
    obtain ⟨u1, u2, u3, u4⟩ := univM_mem.mp ha
    have n1 := need_floor_sp cs h
    have n2 := need_stand_sp cs a.1 a.2.1 u1 (h.2.2.1 _ u1) u2
    have n3 := need_spot_sp cs a.2.2 ⟨u3, u4⟩
    have n4 := need_spot_sp cs to ht
    have nw : f_need_wish [.nt (cs.map clD), .pd (stD a.1 a.2.1), .pd (.int a.2.2), .pd (.int to)] = some (.pd .none, [.nt (cs.map clD), .pd (stD a.1 a.2.1), .pd (.int a.2.2), .pd (.int to)]) := by
      unfold f_need_wish
      rw [run_of (e := [some (.nt (cs.map clD)), some (.pd (stD a.1 a.2.1)), some (.pd (.int a.2.2)), some (.pd (.int to))]) rfl]
      simp [m_need_wish, n1, n2, n3, n4]
    have ul : (univM cs).length ≤ 4000 := by
      rw [univM_len]
      have h1 := h.2.1
      have : cs.length * (24 * (6 + cs.length)) ≤ 9 * (24 * (6 + 9)) := Nat.mul_le_mul h1 (by omega)
      omega
    refine wF_run (e := [some (.nt (cs.map clD)), some (.pd (stD a.1 a.2.1)), some (.pd (.int a.2.2)), some (.pd (.int to)), none, none, none]) rfl ?_
    unfold m_bring
    refine wS_seq ?_
    simp [wS, nw]
    rw [go]
    refine wS_seq ?_
    simp [wS, e]
    rw [go]
    refine wS_seq ?_
    refine wS_for (xs := rows.map fun q => PyData.tuple [mkD q.1, .str (rowS q.2)]) (lk := some (4, .own)) (e := [some (.nt (cs.map clD)), some (.pd (stD a.1 a.2.1)), some (.pd (.int a.2.2)), some (.pd (.int to)), some (.mu .fro (.dn (rkv (skM cs) rows))), none, none]) (by simp [itemsD_m])
      (BrI to rows (BrF (some (.nt (cs.map clD))) (some (.pd (stD a.1 a.2.1))) (some (.pd (.int a.2.2))) (some (.pd (.int to))) (some (.mu .fro (.dn (rkv (skM cs) rows)))))) ⟨[], rows, rfl, by simp, rfl, none, none, .inl rfl, .inl rfl, rfl⟩ ?_ ?_
    · rintro x rest e0 ⟨dn, td, er, hd, ex, s5, s6, f5, f6, rfl⟩
      cases td with
      | nil => simp at ex
      | cons q td =>
        obtain ⟨rfl, rfl⟩ : x = PyData.tuple [mkD q.1, .str (rowS q.2)] ∧ rest = td.map fun q => PyData.tuple [mkD q.1, .str (rowS q.2)] := by simpa using ex
        have g5 := frzFr f5
        have g6 := frzFr f6
        have hq : q ∈ rows := by rw [er]; simp
        have gt : gT 2 (gCn (gN 5) (gCn (gN 6) gNl)) (PyData.tuple [mkD q.1, .str (rowS q.2)]) [some (.nt (cs.map clD)), some (.pd (stD a.1 a.2.1)), some (.pd (.int a.2.2)), some (.pd (.int to)), some (.mu .fro (.dn (rkv (skM cs) rows))), s5, s6] = some [some (.nt (cs.map clD)), some (.pd (stD a.1 a.2.1)), some (.pd (.int a.2.2)), some (.pd (.int to)), some (.mu .fro (.dn (rkv (skM cs) rows))), some (.pd (mkD q.1)), some (.pd (.str (rowS q.2)))] := by
          simp [gT, gCn, gNl, z_free2, freO_some, g5, g6, -z_free]
        simp only [gW, gt]
        rw [go]
        have ht1 : ∀ e : Sl, (eEq (fun e => some (.pd (.int q.1.2.2), e)) (fun e => some (.pd (.int to), e))) e = some (.pd (.bool (decide (q.1.2.2 = to))), e) := fun e => by
          simp [eEq, oEq, sh_int, eqv_int]
        by_cases z : q.1.2.2 = to
        · refine wS_of (fl := .rt (.pd (.tuple [.str "row", .str (rowS q.2)]))) (e := [some (.nt (cs.map clD)), some (.pd (stD a.1 a.2.1)), some (.pd (.int a.2.2)), some (.pd (.int to)), some (.mu .fro (.dn (rkv (skM cs) rows))), some (.pd (mkD q.1)), some (.pd (.str (rowS q.2)))]) ?_ ?_
          · simp [eIx, mkD_two, eEq, oEq, sh_int, eqv_int, z, T3.kTup, T3.datas, T3.data1]
          · refine ⟨_, _, rfl, rfl, _, .inl ⟨q.2, q.1, (h2 q hq).1, z, Nat.le_trans (h2 q hq).2.2 ul, fun es b' hL hb => ?_, rfl⟩, rfl, rfl⟩
            obtain ⟨es', hm, hs⟩ := h3 es b' hL
            refine sle_trans ?_ hs
            rw [er] at hm
            rcases List.mem_append.mp hm with hm | hm
            · exact absurd hb (hd _ hm)
            · rcases List.mem_cons.mp hm with hm | hm
              · rw [← hm]
                exact .inr ⟨rfl, .inl rfl⟩
              · unfold MM.Ord at h5
                rw [er, List.pairwise_append, List.pairwise_cons] at h5
                exact h5.2.1.1 _ hm
        · refine wS_of (fl := .nx) (e := [some (.nt (cs.map clD)), some (.pd (stD a.1 a.2.1)), some (.pd (.int a.2.2)), some (.pd (.int to)), some (.mu .fro (.dn (rkv (skM cs) rows))), some (.pd (mkD q.1)), some (.pd (.str (rowS q.2)))]) ?_ ⟨dn ++ [q], td, by simp [er], fun p hp => ?_, rfl, _, _, .inr ⟨_, rfl⟩, .inr ⟨_, rfl⟩, rfl⟩
          · simp [eIx, mkD_two, eEq, oEq, sh_int, eqv_int, z]
          · rcases List.mem_append.mp hp with hp | hp
            · exact hd p hp
            · simp at hp
              subst hp
              exact z
    · rintro e0 ⟨dn, td, er, hd, ex, s5, s6, f5, f6, rfl⟩
      have : td = [] := by
        cases td with
        | nil => rfl
        | cons _ _ => simp at ex
      subst this
      rw [List.append_nil] at er
      simp only [z_unl1, List.getElem?_cons_succ, List.getElem?_cons_zero, List.set_cons_succ, List.set_cons_zero, nxt_nx]
      rw [go]
      have pm := plain_mk (rows.map (·.1))
      have p1 : (rows.map fun q => mkD q.1) = (rows.map (·.1)).map mkD := by rw [List.map_map]; rfl
      refine wS_of (fl := .rt (.pd (.tuple [.str "never", .tuple (srtD ((rows.map (·.1)).map mkD))]))) (e := [some (.nt (cs.map clD)), some (.pd (stD a.1 a.2.1)), some (.pd (.int a.2.2)), some (.pd (.int to)), some (.mu .own (.dn (rkv (skM cs) rows))), s5, s6]) ?_ ?_
      · simp [kSrtG, keysOfCt, keysD_m, p1, pm, kTupN, T3.kTup, T3.datas, T3.data1, -List.map_map]
      · refine ⟨_, _, rfl, rfl, _, .inr ⟨rows.map (·.1), h1, fun b => ⟨fun hb => ?_, fun ⟨ds, hL⟩ => ?_⟩, fun b hb => ?_, fun es b hL hb => ?_, rfl⟩, rfl, rfl⟩
        · obtain ⟨q, hq, rfl⟩ := List.mem_map.mp hb
          exact ⟨q.2, (h2 q hq).1⟩
        · obtain ⟨es, hm, _⟩ := h3 ds b hL
          exact List.mem_map.mpr ⟨_, hm, rfl⟩
        · obtain ⟨q, hq, rfl⟩ := List.mem_map.mp hb
          exact (h2 q hq).2.1
        · obtain ⟨es', hm, _⟩ := h3 es b hL
          rw [er] at hm
          exact hd _ hm hb
  obtain ⟨r, as, e, r', h1, rfl, rfl⟩ := key
  exact ⟨r', h1, e⟩
end
noncomputable section
variable [TabL]
end
noncomputable section
variable [TabL]
theorem all_spots_sp (cs : List Cell) (h9 : cs.length ≤ 16) : f__law_all_spots [.nt (cs.map clD)] = some (.tmp (.ls ((ups (6 + cs.length)).map .int)), [.nt (cs.map clD)]) := by
  have ok : RgOk 0 ((6 + cs.length : Nat) : Int) := rgOk_of _ (by omega)
  have e : kLrg [.pd (.int (6 + (cs.length : Int)))] = fun env : Sl => some (.tmp (.ls ((ups (6 + cs.length)).map .int)), env) := by
    funext env
    rw [show (6 : Int) + (cs.length : Int) = ((6 + cs.length : Nat) : Int) by omega]
    show (if RgOk 0 _ then some (R.tmp (.ls (rgT 0 _)), env) else none) = _
    rw [if_pos ok, rgT_ups]
  unfold f__law_all_spots
  rw [run_of (e := [some (.nt (cs.map clD))]) rfl]
  simp [m__law_all_spots, oLen, kAdd, oI, e]
theorem pick_spot {cs : List Cell} (h9 : cs.length ≤ 9) (p : Pk) (ht : p.t ≤ 1000000000) : ∃ (s : Int) (q : Pk), q.t ≤ p.t + 1 ∧ (0 ≤ s ∧ s < 6 + (cs.length : Int)) ∧ f__law_pick [.mu .bor (penK p), .mu .bor (.ls ((ups (6 + cs.length)).map .int))] = some (.pd (.int s), [.mu .bor (penK q), .mu .bor (.ls ((ups (6 + cs.length)).map .int))]) := by
  obtain ⟨x, hx, q, hq, e⟩ := pick2_l p ((ups (6 + cs.length)).map .int) (by rw [List.length_map, ups_len]; omega) (by rw [List.length_map, ups_len]; omega) (by omega)
  obtain ⟨s, hs, rfl⟩ := List.mem_map.mp hx
  unfold ups at hs
  obtain ⟨k, hk, rfl⟩ := List.mem_map.mp hs
  have hk := List.mem_range.mp hk
  exact ⟨_, q, hq, ⟨by omega, by omega⟩, e⟩
end
noncomputable section
variable [TabL]
def mkI (a : Mk) : List Int := [a.1.1, a.1.2, a.2.1.1, a.2.1.2.1, a.2.1.2.2, a.2.2]
theorem mk_lt (a b : Mk) : PySem.W.dataLt (mkD a) (mkD b) = decide (mkI a < mkI b) := by
  obtain ⟨⟨c1, c2⟩, ⟨l1, l2, l3⟩, p⟩ := a
  obtain ⟨⟨d1, d2⟩, ⟨k1, k2, k3⟩, q⟩ := b
  have e0 := PySem.W.dataLt_ints [] []
  have e1 := PySem.W.dataLt_ints [p] [q]
  have e2 := PySem.W.dataLt_ints [l1, l2, l3] [k1, k2, k3]
  have e3 := PySem.W.dataLt_ints [c1, c2] [d1, d2]
  unfold PySem.W.rowLt at e0 e1 e2 e3
  simp only [List.map_cons, List.map_nil] at e0 e1 e2 e3
  simp only [mkD, mkI, clD, lyD]
  rw [PySem.W.dataLt_tuple, PySem.W.dataLt_cons (by simp [PySem.W.alike, PySem.W.alikeAll]), PySem.W.dataLt_cons (by simp [PySem.W.alike, PySem.W.alikeAll]), e1, PySem.W.dataLt_tuple, PySem.W.dataLt_tuple, e2, e3]
  simp only [PyData.eqv, PyData.eqvAll, Bool.and_eq_true, beq_iff_eq, and_true]
  by_cases h1 : c1 = d1
  · by_cases h2 : c2 = d2
    · by_cases h3 : l1 = k1
      · by_cases h4 : l2 = k2
        · by_cases h5 : l3 = k3
          · simp [h1, h2, h3, h4, h5, List.cons_lt_cons_iff]
          · simp [h1, h2, h3, h4, h5, List.cons_lt_cons_iff]
        · simp [h1, h2, h3, h4, List.cons_lt_cons_iff]
      · simp [h1, h2, h3, List.cons_lt_cons_iff]
    · simp [h1, h2, List.cons_lt_cons_iff]
  · simp [h1, List.cons_lt_cons_iff]
theorem srt_mk (xs : List Mk) : srtD (xs.map mkD) = (xs.mergeSort fun a b => decide (mkI a ≤ mkI b)).map mkD := by
  unfold srtD
  refine (List.map_mergeSort (fun a _ b _ => ?_)).symm
  show _ = !PySem.W.dataLt (mkD b) (mkD a)
  rw [mk_lt]
  by_cases z : mkI b < mkI a
  · simp [z]
  · simp [z]
    exact List.not_lt.mp z
theorem mkI_inj {a b : Mk} (h : mkI a = mkI b) : a = b := by
  obtain ⟨⟨c1, c2⟩, ⟨l1, l2, l3⟩, p⟩ := a
  obtain ⟨⟨d1, d2⟩, ⟨k1, k2, k3⟩, q⟩ := b
  simp [mkI] at h
  simp [h]
theorem srt_same {xs ys : List Mk} (hx : xs.Nodup) (hy : ys.Nodup) (e : ∀ a, a ∈ xs ↔ a ∈ ys) : srtD (xs.map mkD) = srtD (ys.map mkD) := by
  rw [srt_mk, srt_mk]
  congr 1
  have tr : ∀ a b c : Mk, decide (mkI a ≤ mkI b) = true → decide (mkI b ≤ mkI c) = true → decide (mkI a ≤ mkI c) = true := fun a b c h1 h2 => by
    simp only [decide_eq_true_eq] at *
    exact List.le_trans h1 h2
  have to : ∀ a b : Mk, (decide (mkI a ≤ mkI b) || decide (mkI b ≤ mkI a)) = true := fun a b => by
    have := List.le_total (mkI a) (mkI b)
    simpa using this
  have pm : xs.Perm ys := (List.perm_ext_iff_of_nodup hx hy).mpr e
  refine List.Perm.eq_of_pairwise (le := fun a b => decide (mkI a ≤ mkI b) = true) (fun a b _ _ h1 h2 => ?_) (List.pairwise_mergeSort tr to xs) (List.pairwise_mergeSort tr to ys) ((List.mergeSort_perm xs _).trans (pm.trans (List.mergeSort_perm ys _).symm))
  simp only [decide_eq_true_eq] at h1 h2
  exact mkI_inj (List.le_antisymm h1 h2)
end
end L19

end
section
set_option linter.all false
set_option autoImplicit false
set_option Elab.async false
set_option maxRecDepth 100000
set_option maxHeartbeats 4000000
namespace MM
open PySem L2 T3
theorem lx_tri : ∀ {a b : List Dir}, a.length = b.length → lx a b ∨ a = b ∨ lx b a
  | [], [], _ => .inr (.inl rfl)
  | [], _ :: _, h => by simp at h
  | _ :: _, [], h => by simp at h
  | x :: a, y :: b, h => by
    have hl : a.length = b.length := by simpa using h
    rcases Nat.lt_trichotomy (rk x) (rk y) with r | r | r
    · exact .inl (.inl r)
    · have e : x = y := by cases x <;> cases y <;> first | rfl | (simp [rk] at r)
      subst e
      rcases lx_tri hl with h | h | h
      · exact .inl (.inr ⟨rfl, h⟩)
      · exact .inr (.inl (by rw [h]))
      · exact .inr (.inr (.inr ⟨rfl, h⟩))
    · exact .inr (.inr (.inl r))
theorem lx_irr : ∀ (a : List Dir), ¬ lx a a
  | [], h => h
  | x :: a, h => by
    rcases h with h | ⟨_, h⟩
    · exact Nat.lt_irrefl _ h
    · exact lx_irr a h
noncomputable instance (a b : List Dir) : Decidable (lx a b) := Classical.propDecidable _
theorem code_rk (x y : Dir) : x.code < y.code ↔ rk x < rk y := by cases x <;> cases y <;> simp [Dir.code, rk]
theorem code_inj {x y : Dir} (h : x.code = y.code) : x = y := by cases x <;> cases y <;> first | rfl | (simp [Dir.code] at h)
theorem txt_lx : ∀ {a b : List Dir}, a.length = b.length → ((rowS a).cps.toList < (rowS b).cps.toList ↔ lx a b)
  | [], [], _ => by simp [rowS, lx]
  | [], _ :: _, h => by simp at h
  | _ :: _, [], h => by simp at h
  | x :: a, y :: b, h => by
    have ih := txt_lx (a := a) (b := b) (by simpa using h)
    simp only [rowS, List.map_cons, List.toList_toArray] at ih ⊢
    rw [List.cons_lt_cons_iff, ih, code_rk]
    show _ ↔ (rk x < rk y ∨ (x = y ∧ lx a b))
    constructor
    · rintro (h | ⟨h, k⟩)
      · exact .inl h
      · exact .inr ⟨code_inj h, k⟩
    · rintro (h | ⟨h, k⟩)
      · exact .inl h
      · exact .inr ⟨by rw [h], k⟩
theorem min_z {ds : List Dir} (h : ds ≠ []) : minT "z" (rowS ds) = rowS ds := by
  have z : ("z" : Str).cps.toList = [122] := by kernel_rfl
  cases ds with
  | nil => exact absurd rfl h
  | cons x a =>
    unfold minT
    rw [if_pos]
    rw [z]
    simp only [rowS, List.map_cons, List.toList_toArray]
    rw [List.cons_lt_cons_iff]
    left
    cases x <;> simp [Dir.code]
noncomputable def lesR (a b : List Dir) : List Dir := if lx b a then b else a
theorem min_rows {a b : List Dir} (h : a.length = b.length) : minT (rowS a) (rowS b) = rowS (lesR a b) := by
  unfold minT lesR
  by_cases k : lx b a
  · rw [if_pos k, if_pos ((txt_lx h.symm).mpr k)]
  · rw [if_neg k, if_neg fun z => k ((txt_lx h.symm).mp z)]
theorem les_or (a b : List Dir) : lesR a b = a ∨ lesR a b = b := by unfold lesR; split <;> simp
theorem les_le {a b : List Dir} (h : a.length = b.length) : (lesR a b = a ∨ lx (lesR a b) a) ∧ (lesR a b = b ∨ lx (lesR a b) b) := by
  unfold lesR
  split
  · rename_i k; exact ⟨.inr k, .inl rfl⟩
  · rename_i k
    refine ⟨.inl rfl, ?_⟩
    rcases lx_tri h with z | z | z
    · exact .inr z
    · exact .inl z
    · exact absurd z k
section
variable {α : Type} [DecidableEq α]
def putR (lt : Rws α) (b : α) (es : List Dir) : Rws α := if (look lt b).isSome = true then lt.map (fun q => if q.1 = b then (b, es) else q) else lt ++ [(b, es)]
theorem putR_mem {lt : Rws α} {b : α} {es : List Dir} {q : α × List Dir} : q ∈ putR lt b es ↔ (q.1 = b ∧ q.2 = es) ∨ (q.1 ≠ b ∧ q ∈ lt) := by
  obtain ⟨x, y⟩ := q
  unfold putR
  split
  · rename_i h
    obtain ⟨p, hp, e⟩ := List.mem_map.mp (look_key.mp h)
    simp only [List.mem_map]
    constructor
    · rintro ⟨r, hr, e2⟩
      split at e2
      · cases e2; exact .inl ⟨rfl, rfl⟩
      · rename_i ne
        subst e2
        exact .inr ⟨ne, hr⟩
    · rintro (⟨h1, h2⟩ | ⟨h1, h2⟩)
      · have h1 : x = b := h1
        have h2 : y = es := h2
        exact ⟨p, hp, by rw [if_pos e, h1, h2]⟩
      · exact ⟨(x, y), h2, by rw [if_neg h1]⟩
  · rename_i h
    have nb : b ∉ lt.map (·.1) := fun z => h (look_key.mpr z)
    simp only [List.mem_append, List.mem_singleton, Prod.mk.injEq]
    constructor
    · rintro (h1 | ⟨h1, h2⟩)
      · exact .inr ⟨fun z => nb (by rw [← z]; exact List.mem_map_of_mem (f := (·.1)) h1), h1⟩
      · exact .inl ⟨h1, h2⟩
    · rintro (⟨h1, h2⟩ | ⟨_, h2⟩)
      · exact .inr ⟨h1, h2⟩
      · exact .inl h2
theorem putR_nd {lt : Rws α} {b : α} {es : List Dir} (nd : (lt.map (·.1)).Nodup) : ((putR lt b es).map (·.1)).Nodup := by
  unfold putR
  split
  · have : (lt.map fun q => if q.1 = b then (b, es) else q).map (·.1) = lt.map (·.1) := by
      rw [List.map_map]
      apply List.map_congr_left
      intro q _
      simp only [Function.comp]
      split
      · rename_i h; exact h.symm
      · rfl
    rw [this]; exact nd
  · rename_i h
    rw [List.map_append, List.nodup_append]
    refine ⟨nd, by simp, fun x hx y hy => ?_⟩
    simp at hy
    subst hy
    intro e
    subst e
    exact h (look_key.mpr hx)
theorem putR_len (lt : Rws α) (b : α) (es : List Dir) : (putR lt b es).length ≤ lt.length + 1 := by
  unfold putR
  split <;> simp
theorem one_row {rows : Rws α} (nd : (rows.map (·.1)).Nodup) {b : α} {x y : List Dir} (h1 : (b, x) ∈ rows) (h2 : (b, y) ∈ rows) : x = y := by
  have := look_mem nd h1
  rw [look_mem nd h2] at this
  injection this with e
  exact e.symm
variable (M : Sk α) (U : List α) (a0 : α)
structure Lay (n : Nat) (rows : Rws α) (edge : List α) : Prop where
  nd : (rows.map (·.1)).Nodup
  inU : ∀ q ∈ rows, q.1 ∈ U
  snd : ∀ q ∈ rows, Ld M a0 q.2 q.1 ∧ q.2.length ≤ n
  lst : ∀ q ∈ rows, ∀ es, Ld M a0 es q.1 → sle q.2 es
  cmp : ∀ ds b, Ld M a0 ds b → ds.length ≤ n → b ∈ rows.map (·.1)
  edg : ∀ b, b ∈ edge ↔ ∃ ds, (b, ds) ∈ rows ∧ ds.length = n
structure Lt (n : Nat) (rows : Rws α) (edge : List α) (D : α → Dir → Prop) (lt : Rws α) : Prop where
  nd : (lt.map (·.1)).Nodup
  new : ∀ q ∈ lt, q.1 ∉ rows.map (·.1)
  frm : ∀ q ∈ lt, ∃ a d ds, a ∈ edge ∧ d ∈ M.lets a ∧ (a, ds) ∈ rows ∧ q.1 = M.go a d ∧ q.2 = ds ++ [d]
  all : ∀ a d ds, D a d → a ∈ edge → d ∈ M.lets a → (a, ds) ∈ rows → M.go a d ∉ rows.map (·.1) → ∃ es, (M.go a d, es) ∈ lt ∧ (es = ds ++ [d] ∨ lx es (ds ++ [d]))
variable {M U a0}
theorem Lay.start (h : a0 ∈ U) : Lay M U a0 0 [(a0, [])] [a0] where
  nd := by simp
  inU q hq := by simp at hq; subst hq; exact h
  snd q hq := by simp at hq; subst hq; exact ⟨rfl, Nat.le_refl _⟩
  lst q hq es h := by
    simp at hq; subst hq
    cases es with
    | nil => exact .inr ⟨rfl, .inl rfl⟩
    | cons a b => exact .inl (by simp)
  cmp ds b h hl := by
    have : ds = [] := List.length_eq_zero_iff.mp (Nat.le_zero.mp hl)
    subst this
    cases h
    simp
  edg b := by
    constructor
    · intro h; simp at h; subst h; exact ⟨[], by simp, rfl⟩
    · rintro ⟨ds, h, _⟩; simp at h; rw [h.1]; simp
theorem Lt.zero {n : Nat} {rows : Rws α} {edge : List α} : Lt M n rows edge (fun _ _ => False) [] where
  nd := by simp
  new q h := by cases h
  frm q h := by cases h
  all a d ds h := h.elim
theorem Lt.len {n : Nat} {rows : Rws α} {edge : List α} {D : α → Dir → Prop} {lt : Rws α} (h : Lt M n rows edge D lt) (y : Lay M U a0 n rows edge) : ∀ q ∈ lt, q.2.length = n + 1 := by
  intro q hq
  obtain ⟨a, d, ds, h1, h2, h3, h4, h5⟩ := h.frm q hq
  obtain ⟨es, h6, h7⟩ := (y.edg a).mp h1
  have := one_row y.nd h3 h6
  rw [h5, this]
  simp [h7]
theorem Lt.step {n : Nat} {rows : Rws α} {edge : List α} {D : α → Dir → Prop} {lt : Rws α} (h : Lt M n rows edge D lt) (y : Lay M U a0 n rows edge) {a : α} {d : Dir} {ds : List Dir} (ha : a ∈ edge) (hd : d ∈ M.lets a) (hr : (a, ds) ∈ rows) :
    (M.go a d ∈ rows.map (·.1) → Lt M n rows edge (fun x e => D x e ∨ (x = a ∧ e = d)) lt) ∧
    (M.go a d ∉ rows.map (·.1) → Lt M n rows edge (fun x e => D x e ∨ (x = a ∧ e = d)) (putR lt (M.go a d) (match look lt (M.go a d) with
      | none => ds ++ [d]
      | some e0 => lesR e0 (ds ++ [d])))) := by
  have dl : (ds ++ [d]).length = n + 1 := by
    obtain ⟨es, h6, h7⟩ := (y.edg a).mp ha
    rw [one_row y.nd hr h6]
    simp [h7]
  constructor
  · intro hin
    refine ⟨h.nd, h.new, h.frm, fun x e fs hD hx he hf hn => ?_⟩
    rcases hD with hD | ⟨rfl, rfl⟩
    · exact h.all x e fs hD hx he hf hn
    · exact absurd hin hn
  · intro hout
    obtain ⟨v, hv⟩ : ∃ v, v = (match look lt (M.go a d) with
      | none => ds ++ [d]
      | some e0 => lesR e0 (ds ++ [d])) := ⟨_, rfl⟩
    rw [← hv]
    have vor : v = ds ++ [d] ∨ (M.go a d, v) ∈ lt := by
      cases hl : look lt (M.go a d) with
      | none => rw [hl] at hv; exact .inl hv
      | some e0 =>
        rw [hl] at hv
        rcases les_or e0 (ds ++ [d]) with z | z
        · right; rw [hv]; simp only [z]; exact mem_look hl
        · left; rw [hv]; simp only [z]
    have vle : v = ds ++ [d] ∨ lx v (ds ++ [d]) := by
      cases hl : look lt (M.go a d) with
      | none => rw [hl] at hv; exact .inl hv
      | some e0 =>
        rw [hl] at hv
        have l0 := h.len y _ (mem_look hl)
        rw [hv]
        exact (les_le (by rw [dl]; exact l0)).2
    have vold : ∀ e0, (M.go a d, e0) ∈ lt → v = e0 ∨ lx v e0 := fun e0 he => by
      have hl := look_mem h.nd he
      simp only at hl
      rw [hl] at hv
      have l0 := h.len y _ he
      rw [hv]
      exact (les_le (by rw [dl]; exact l0)).1
    refine ⟨putR_nd h.nd, fun q hq => ?_, fun q hq => ?_, fun x e fs hD hx he hf hn => ?_⟩
    · rcases putR_mem.mp hq with ⟨e, _⟩ | ⟨_, hq⟩
      · rw [e]; exact hout
      · exact h.new q hq
    · rcases putR_mem.mp hq with ⟨e1, e2⟩ | ⟨_, hq⟩
      · rcases vor with z | z
        · exact ⟨a, d, ds, ha, hd, hr, e1, e2.trans z⟩
        · obtain ⟨x, e, fs, k1, k2, k3, k4, k5⟩ := h.frm _ z
          exact ⟨x, e, fs, k1, k2, k3, e1.trans k4, e2.trans k5⟩
      · exact h.frm q hq
    · rcases hD with hD | ⟨rfl, rfl⟩
      · obtain ⟨es, h1, h2⟩ := h.all x e fs hD hx he hf hn
        by_cases hb : M.go x e = M.go a d
        · refine ⟨v, putR_mem.mpr (.inl ⟨hb, rfl⟩), ?_⟩
          rw [hb] at h1
          rcases vold es h1 with z | z
          · rw [z]; exact h2
          · rcases h2 with h2 | h2
            · rw [← h2]; exact .inr z
            · exact .inr (lx_trans z h2)
        · exact ⟨es, putR_mem.mpr (.inr ⟨hb, h1⟩), h2⟩
      · have := one_row y.nd hf hr
        subst this
        exact ⟨v, putR_mem.mpr (.inl ⟨rfl, rfl⟩), vle⟩
theorem ld_snoc {ds : List Dir} {a b : α} (h : ds ≠ []) (k : Ld M a ds b) : ∃ es d c, ds = es ++ [d] ∧ Ld M a es c ∧ d ∈ M.lets c ∧ M.go c d = b := by
  obtain ⟨es, d, rfl⟩ : ∃ es d, ds = es ++ [d] := ⟨ds.dropLast, ds.getLast h, (List.dropLast_concat_getLast h).symm⟩
  obtain ⟨c, h1, h2⟩ := (ld_app M).mp k
  exact ⟨es, d, c, rfl, h1, h2.1, h2.2⟩
theorem Lt.done {n : Nat} {rows : Rws α} {edge : List α} {D : α → Dir → Prop} {lt : Rws α} (w : Wd M U) (h : Lt M n rows edge D lt) (y : Lay M U a0 n rows edge) (hD : ∀ a ∈ edge, ∀ d ∈ M.lets a, D a d) : Lay M U a0 (n + 1) (rows ++ lt) (lt.map (·.1)) := by
  have ll := h.len y
  have key : ∀ ds b, Ld M a0 ds b → ds.length = n + 1 → b ∉ rows.map (·.1) → ∃ es, (b, es) ∈ lt ∧ (es = ds ∨ lx es ds) := by
    intro ds b hb hl hn
    obtain ⟨gs, d, c, rfl, h1, h2, h3⟩ := ld_snoc (fun z => by rw [z] at hl; simp at hl) hb
    have gl : gs.length = n := by simpa using hl
    obtain ⟨⟨c', hs⟩, hm, e⟩ := List.mem_map.mp (y.cmp gs c h1 (Nat.le_of_eq gl))
    have e : c' = c := e
    subst e
    have hh := y.lst _ hm gs h1
    have hsn := y.snd _ hm
    have hsl : hs.length = n := by
      rcases hh with z | ⟨z, _⟩
      · exfalso
        have : b ∈ rows.map (·.1) := y.cmp (hs ++ [d]) b ((ld_app M).mpr ⟨c', hsn.1, h2, h3⟩) (by simp; have : hs.length < gs.length := z; omega)
        exact hn this
      · have z : hs.length = gs.length := z
        omega
    have ce : c' ∈ edge := (y.edg c').mpr ⟨hs, hm, hsl⟩
    obtain ⟨es, k1, k2⟩ := h.all c' d hs (hD c' ce d h2) ce h2 hm (by rw [h3]; exact hn)
    rw [h3] at k1
    refine ⟨es, k1, ?_⟩
    have le : hs = gs ∨ lx hs gs := by
      rcases hh with z | ⟨_, z⟩
      · have z : hs.length < gs.length := z
        omega
      · exact z
    rcases le with rfl | le
    · exact k2
    · have := lx_app [d] [d] le
      rcases k2 with rfl | k2
      · exact .inr this
      · exact .inr (lx_trans k2 this)
  refine ⟨?_, fun q hq => ?_, fun q hq => ?_, fun q hq es he => ?_, fun ds b hb hl => ?_, fun b => ?_⟩
  · rw [List.map_append, List.nodup_append]
    refine ⟨y.nd, h.nd, fun x hx z hz e => ?_⟩
    subst e
    obtain ⟨q, hq, e⟩ := List.mem_map.mp hz
    exact h.new q hq (by rw [e]; exact hx)
  · rcases List.mem_append.mp hq with hq | hq
    · exact y.inU q hq
    · obtain ⟨a, d, ds, h1, h2, h3, h4, _⟩ := h.frm q hq
      rw [h4]
      exact w.go a (y.inU _ h3) d h2
  · rcases List.mem_append.mp hq with hq | hq
    · have := y.snd q hq
      exact ⟨this.1, by omega⟩
    · obtain ⟨a, d, ds, h1, h2, h3, h4, h5⟩ := h.frm q hq
      refine ⟨?_, by rw [ll q hq]; exact Nat.le_refl _⟩
      rw [h4, h5]
      exact (ld_app M).mpr ⟨a, (y.snd _ h3).1, h2, rfl⟩
  · rcases List.mem_append.mp hq with hq | hq
    · exact y.lst q hq es he
    · have hn := h.new q hq
      have hl := ll q hq
      by_cases c : es.length ≤ n
      · exact absurd (y.cmp es q.1 he c) hn
      · by_cases c2 : es.length = n + 1
        · obtain ⟨fs, k1, k2⟩ := key es q.1 he c2 hn
          have : fs = q.2 := one_row h.nd k1 hq
          subst this
          exact .inr ⟨by rw [hl, c2], k2⟩
        · exact .inl (by rw [hl]; omega)
  · rw [List.map_append, List.mem_append]
    by_cases c : b ∈ rows.map (·.1)
    · exact .inl c
    · right
      have : ds.length = n + 1 := by
        rcases Nat.lt_or_ge n ds.length with z | z
        · omega
        · exact absurd (y.cmp ds b hb z) c
      obtain ⟨es, k, _⟩ := key ds b hb this c
      exact List.mem_map_of_mem (f := (·.1)) k
  · constructor
    · intro hb
      obtain ⟨q, hq, e⟩ := List.mem_map.mp hb
      refine ⟨q.2, List.mem_append.mpr (.inr ?_), ll q hq⟩
      rw [← e]; exact hq
    · rintro ⟨ds, hm, hl⟩
      rcases List.mem_append.mp hm with z | z
      · have := (y.snd _ z).2
        have this : ds.length ≤ n := this
        omega
      · exact List.mem_map_of_mem (f := (·.1)) z
theorem Lay.all {n : Nat} {rows : Rws α} (y : Lay M U a0 n rows []) : ∀ ds b, Ld M a0 ds b → ∃ es, (b, es) ∈ rows ∧ sle es ds := by
  have short : ∀ q ∈ rows, q.2.length < n := fun q hq => by
    have h1 := (y.snd q hq).2
    rcases Nat.lt_or_ge q.2.length n with h | h
    · exact h
    · have : q.1 ∈ ([] : List α) := (y.edg q.1).mpr ⟨q.2, hq, by omega⟩
      cases this
  have go : ∀ (ds : List Dir) (c : α) (hs : List Dir) (b : α), (c, hs) ∈ rows → Ld M c ds b → b ∈ rows.map (·.1) := by
    intro ds
    induction ds with
    | nil =>
      intro c hs b h k
      have k : c = b := k
      subst k
      exact List.mem_map_of_mem (f := (·.1)) h
    | cons d ds ih =>
      intro c hs b h k
      have s := short _ h
      have s : hs.length < n := s
      have m := y.cmp (hs ++ [d]) (M.go c d) ((ld_app M).mpr ⟨c, (y.snd _ h).1, k.1, rfl⟩) (by simp; omega)
      obtain ⟨⟨c', hs'⟩, hm, e⟩ := List.mem_map.mp m
      have e : c' = M.go c d := e
      subst e
      exact ih _ hs' b hm k.2
  intro ds b h
  have h0 : a0 ∈ rows.map (·.1) := y.cmp [] a0 rfl (Nat.zero_le _)
  obtain ⟨⟨c, hs⟩, hm, e⟩ := List.mem_map.mp h0
  have e : c = a0 := e
  subst e
  obtain ⟨⟨b', es⟩, hm2, e2⟩ := List.mem_map.mp (go ds c hs b hm h)
  have e2 : b' = b := e2
  subst e2
  exact ⟨es, hm2, y.lst _ hm2 ds h⟩
theorem nd_len {rows : Rws α} (nd : (rows.map (·.1)).Nodup) (inU : ∀ q ∈ rows, q.1 ∈ U) : rows.length ≤ U.length := by
  have := List.Nodup.length_le_of_subset nd (l₂ := U) fun x hx => by
    obtain ⟨q, hq, rfl⟩ := List.mem_map.mp hx
    exact inU q hq
  simpa using this
end
end MM

end
section
set_option linter.all false
set_option autoImplicit false
set_option Elab.async false
set_option maxRecDepth 100000
set_option maxHeartbeats 4000000
namespace L19
open PySem L2 T3 MM
noncomputable section
variable [TabL]
theorem two_K (h l : Int) : keysK [(.int h, PyData.int l), (.int l, .int h)] = some [(.inl h, .int l), (.inl l, .int h)] := rfl
theorem two_get {h l : Int} (ne : h ≠ l) (s : Int) : cGet (.dk (allK [(.inl h, PyData.int l), (.inl l, .int h)])) (.int s) = some (if s = l then some (.int h) else if s = h then some (.int l) else none) := by
  have e : allK [(.inl h, PyData.int l), (.inl l, .int h)] = [(.inl h, .int l), (.inl l, .int h)] := by
    simp [allK, putD, valD, ne]
  rw [e]
  have k : key? (.int s) = some (.inl s) := rfl
  simp only [cGet, k]
  unfold valD
  by_cases h1 : s = l
  · subst h1
    simp [ne]
  · by_cases h2 : s = h
    · subst h2
      simp [h1]
    · have h1' : ¬ l = s := fun z => h1 z.symm
      have h2' : ¬ h = s := fun z => h2 z.symm
      simp [h1, h2, h1', h2']
theorem rolled_on_sp {F : List Cell} (hF : okFl F) {a : Mk} (ha : a ∈ univM F) {d : Dir} (hd : stepC a.1 d ∈ F) : f__law_rolled_on [.nt (F.map clD), .pd (mkD a), .pd (.str (chS d))] = some (.pd (mkD (goM F a d)), [.nt (F.map clD), .pd (mkD a), .pd (.str (chS d))]) := by
  obtain ⟨u1, u2, u3, u4⟩ := univM_mem.mp ha
  have b := beside_sp a.1 d
  have t := tip_sp a.2.1 d
  have m : mkD a = .tuple [clD a.1, lyD a.2.1, .int a.2.2] := rfl
  have i0 : oIx [.tuple [clD a.1, lyD a.2.1, .int a.2.2], .int 0] = some (clD a.1) := rfl
  have i1 : oIx [.tuple [clD a.1, lyD a.2.1, .int a.2.2], .int 1] = some (lyD a.2.1) := rfl
  have i2 : oIx [.tuple [clD a.1, lyD a.2.1, .int a.2.2], .int 2] = some (.int a.2.2) := rfl
  have l0 : oIx [lyD (roll a.2.1 d), .int 0] = some (.int (roll a.2.1 d).1) := rfl
  have hf := firstIx_cell (stepC a.1 d) F hd
  have ll := (ly_all _ (roll_mem _ u2 d)).2.1
  have ne : (6 + (F.idxOf (stepC a.1 d) : Int)) ≠ (roll a.2.1 d).1 := by omega
  have tg := two_get ne a.2.2
  have tk := two_K (6 + (F.idxOf (stepC a.1 d) : Int)) (roll a.2.1 d).1
  have g : mkD (goM F a d) = .tuple [clD (stepC a.1 d), lyD (roll a.2.1 d), .int (trS ((roll a.2.1 d).1, 6 + (F.idxOf (stepC a.1 d) : Int)) a.2.2)] := rfl
  have tr : (if a.2.2 = (roll a.2.1 d).1 then some (PyData.int (6 + (F.idxOf (stepC a.1 d) : Int))) else if a.2.2 = 6 + (F.idxOf (stepC a.1 d) : Int) then some (.int (roll a.2.1 d).1) else none).getD (.int a.2.2) = .int (trS ((roll a.2.1 d).1, 6 + (F.idxOf (stepC a.1 d) : Int)) a.2.2) := by
    unfold trS
    split
    · rfl
    · split <;> rfl
  unfold f__law_rolled_on
  rw [run_of (e := [some (.nt (F.map clD)), some (.pd (mkD a)), some (.pd (.str (chS d))), none, none, none]) rfl, g, ← tr, m]
  generalize (if a.2.2 = (roll a.2.1 d).1 then some (PyData.int (6 + (F.idxOf (stepC a.1 d) : Int))) else if a.2.2 = 6 + (F.idxOf (stepC a.1 d) : Int) then some (.int (roll a.2.1 d).1) else none) = G at *
  simp [m__law_rolled_on, i0, i1, i2, l0, b, t, kAdd, oI, isNt, kIxT, oIxT, sh_cells, sh_cell, hf, ePairs, tk, tg, rGet, isDc, T3.kTup, datas, T3.data1, ctns, ctn, kOr]
end
end L19

end
section
set_option linter.all false
set_option autoImplicit false
set_option Elab.async false
set_option maxRecDepth 100000
set_option maxHeartbeats 4000000
namespace L19
open PySem L2 T3 MM
noncomputable section
variable [TabL]
abbrev kv (F : List Cell) (rows : Rws Mk) : List (NestedKey × PyData) := rkv (skM F) rows
def ctR (F : List Cell) (lt : Rws Mk) : Ct := match lt with
  | [] => .dk []
  | q :: r => .dn (kv F (q :: r))
theorem key_mk (a : Mk) : key? (mkD a) = none := rfl
theorem get_dn (F : List Cell) (rows : Rws Mk) (b : Mk) : cGet (.dn (kv F rows)) (mkD b) = some ((look rows b).map fun ds => .str (rowS ds)) := by
  simp only [cGet, mk_tk]
  exact congrArg some (rkv_val (skM F) rows b)
theorem get_ct (F : List Cell) (lt : Rws Mk) (b : Mk) : cGet (ctR F lt) (mkD b) = some ((look lt b).map fun ds => .str (rowS ds)) := by
  cases lt with
  | nil => simp [ctR, cGet, key_mk, mk_tk, look]
  | cons q r => exact get_dn F (q :: r) b
theorem kv_put (F : List Cell) (lt : Rws Mk) (b : Mk) (es : List Dir) : putN (kv F lt) (mkK b) (.str (rowS es)) = kv F (putR lt b es) := by
  have v := rkv_val (skM F) lt b
  have v : valN (kv F lt) (mkK b) = (look lt b).map fun ds => .str (rowS ds) := v
  unfold putN putR
  rw [v]
  cases h : look lt b with
  | none => simp [kv, rkv]; rfl
  | some e0 =>
    simp only [Option.map_some, Option.isSome_some, if_true]
    unfold kv rkv
    rw [List.map_map, List.map_map]
    apply List.map_congr_left
    intro q _
    simp only [Function.comp]
    by_cases z : q.1 = b
    · have z2 : (skM F).key q.1 = mkK b := by rw [z]; rfl
      rw [if_pos z, if_pos z2]
      show ((skM F).key q.1, _) = ((skM F).key b, _)
      rw [z]
    · have z2 : ¬ (skM F).key q.1 = mkK b := fun y => z (mk_inj _ _ y)
      rw [if_neg z, if_neg z2]
theorem putR_ne (lt : Rws Mk) (b : Mk) (es : List Dir) : putR lt b es ≠ [] := fun z => by
  have := (putR_mem (lt := lt) (b := b) (es := es) (q := (b, es))).mpr (.inl ⟨rfl, rfl⟩)
  rw [z] at this
  cases this
theorem put_ct (F : List Cell) (lt : Rws Mk) (b : Mk) (es : List Dir) (h : lt.length ≤ 1000000) : cPut (ctR F lt) (mkD b) (.str (rowS es)) = some (ctR F (putR lt b es)) := by
  have dn : ∀ l : Rws Mk, l ≠ [] → ctR F l = .dn (kv F l) := fun l hl => by
    cases l with
    | nil => exact absurd rfl hl
    | cons q r => rfl
  rw [dn _ (putR_ne lt b es)]
  cases lt with
  | nil =>
    have e : putR ([] : Rws Mk) b es = [(b, es)] := rfl
    rw [e]
    simp [ctR, cPut, key_mk, mk_tk, kv, rkv]
    rfl
  | cons q r =>
    have l : (kv F (q :: r)).length ≤ 1000000 := by simpa [kv, rkv] using h
    show cPut (.dn (kv F (q :: r))) _ _ = _
    simp only [cPut, mk_tk, if_pos l]
    rw [kv_put]
theorem dnC_ct (F : List Cell) (lt : Rws Mk) : dnC (ctR F lt) = some (kv F lt) := by cases lt <;> rfl
theorem up_kv (F : List Cell) : ∀ (lt rows : Rws Mk), (lt.map (·.1)).Nodup → (∀ q ∈ lt, q.1 ∉ rows.map (·.1)) → upN (kv F rows) (kv F lt) = kv F (rows ++ lt)
  | [], rows, _, _ => by simp [upN, kv, rkv]
  | q :: lt, rows, nd, nw => by
    have e : upN (kv F rows) (kv F (q :: lt)) = upN (putN (kv F rows) (mkK q.1) (.str (rowS q.2))) (kv F lt) := rfl
    have nq := nw q (by simp)
    have hl : look rows q.1 = none := by
      cases h : look rows q.1 with
      | none => rfl
      | some ds => exact absurd (look_key.mp (by rw [h]; rfl)) nq
    have pt : putR rows q.1 q.2 = rows ++ [q] := by
      unfold putR
      rw [hl]
      rfl
    rw [e, kv_put, pt, up_kv F lt (rows ++ [q]) (by simpa using (List.nodup_cons.mp nd).2) (fun p hp hm => by
      rw [List.map_append, List.mem_append] at hm
      rcases hm with h | h
      · exact nw p (List.mem_cons_of_mem _ hp) h
      · simp at h
        exact (List.nodup_cons.mp nd).1 (by
          show q.1 ∈ _
          rw [← h]
          exact List.mem_map_of_mem (f := (·.1)) hp))]
    simp
theorem keys_ct (F : List Cell) (lt : Rws Mk) : keysOfCt (ctR F lt) = some ((lt.map (·.1)).map mkD) := by
  have e : ∀ l : Rws Mk, keysD (kv F l) = (l.map (·.1)).map mkD := fun l => by
    unfold keysD kv rkv
    rw [List.map_map, List.map_map]
    apply List.map_congr_left
    intro q _
    exact mk_data q.1
  cases lt with
  | nil => rfl
  | cons q r => exact congrArg some (e (q :: r))
structure Sl8 (F : List Cell) (a0 : Mk) (m : Md) (rows : Rws Mk) (edge : List Mk) (E : Sl) : Prop where
  len : E.length = 8
  s0 : E[0]? = some (some (.nt (F.map clD)))
  s1 : E[1]? = some (some (.pd (mkD a0)))
  s2 : E[2]? = some (some (.mu .own (.dn (kv F rows))))
  s3 : E[3]? = some (some (.mu m (.ls (edge.map mkD))))
  fr : ∀ i, 4 ≤ i → i ≤ 7 → free E i = true
theorem Sl8.set {F : List Cell} {a0 : Mk} {m : Md} {rows : Rws Mk} {edge : List Mk} {E : Sl} (h : Sl8 F a0 m rows edge E) {i : Nat} (hi : 4 ≤ i) {x : Option S} (hx : frS x = true) : Sl8 F a0 m rows edge (E.set i x) where
  len := by rw [List.length_set]; exact h.len
  s0 := by rw [List.getElem?_set_ne (by omega)]; exact h.s0
  s1 := by rw [List.getElem?_set_ne (by omega)]; exact h.s1
  s2 := by rw [List.getElem?_set_ne (by omega)]; exact h.s2
  s3 := by rw [List.getElem?_set_ne (by omega)]; exact h.s3
  fr j h1 h2 := by
    by_cases z : i = j
    · subst z
      rw [free_eq_set (by rw [h.len]; omega)]
      exact hx
    · rw [free_ne_set z]
      exact h.fr j h1 h2
theorem frS_ct (F : List Cell) (lt : Rws Mk) : frS (some (.mu .own (ctR F lt))) = true := rfl
theorem row_le (ds : List Dir) : (rowS ds).length = ds.length := by simp [rowS, Str.length]
theorem cat_row (ds : List Dir) (d : Dir) (h : ds.length ≤ 100000) (env : Sl) : kAdd [.pd (.str (rowS ds)), .pd (.str (chS d))] env = some (.pd (.str (rowS (ds ++ [d]))), env) := by
  have l : (rowS ds).length + (chS d).length ≤ 1000000 := by
    rw [row_le]
    have : (chS d).length = 1 := rfl
    omega
  have e := rowS_snoc ds d
  simp [kAdd, kOr, oI, oCatS, l, e, ctns, ctn]
abbrev INNER : SS := (sSeq (sSet 7 (eCall f__law_rolled_on (eCons (eVar 0) (eCons (eVar 5) (eCons (eVar 6) eNil)))))
  (sIf (bT (eDi true (eVar 7) (eVar 2))) (sAsg (eThen (eCons (eGt2 (eVar 4) (eVar 7) (eC (.str "z"))) (eCons (eAdd (eDg (eVar 2) (eVar 5)) (eVar 6)) eNil)) (kE oMinS)) (gDs (eVar 4) (eVar 7))) sPass))
theorem inner_sp {F : List Cell} (hF : okFl F) {a0 : Mk} {rows : Rws Mk} {edge : List Mk} {n : Nat} {D : Mk → Dir → Prop} {lt : Rws Mk} (y : Lay (skM F) (univM F) a0 n rows edge) (hn : n ≤ 100000) (lr : lt.length ≤ 1000000) (h : MM.Lt (skM F) n rows edge D lt) {a : Mk} {d : Dir} (ha : a ∈ edge) (hd : d ∈ ops F a.1)
    {E : Sl} (e : Sl8 F a0 .fro rows edge E) (s4 : E[4]? = some (some (.mu .own (ctR F lt)))) (s5 : E[5]? = some (some (.pd (mkD a)))) (s6 : E[6]? = some (some (.pd (.str (chS d))))) :
    wS INNER E fun fl E' => fl = .nx ∧ ∃ lt', MM.Lt (skM F) n rows edge (fun x e => D x e ∨ (x = a ∧ e = d)) lt' ∧ lt'.length ≤ lt.length + 1 ∧ Sl8 F a0 .fro rows edge E' ∧ E'[4]? = some (some (.mu .own (ctR F lt'))) ∧ E'[5]? = some (some (.pd (mkD a))) := by
  obtain ⟨ds, hr, hdl⟩ := (y.edg a).mp ha
  have hu := y.inU _ hr
  have st := ops_mem.mp hd
  have ro := rolled_on_sp hF hu st
  obtain ⟨k1, k2⟩ := h.step y ha hd hr
  have go : (skM F).go a d = goM F a d := rfl
  rw [go] at k1 k2
  have lE := e.len
  refine wS_seq ?_
  refine wS_of (fl := .nx) (e := E.set 7 (some (.pd (mkD (goM F a d))))) (by
    simp [e.s0, s5, s6, ro, e.fr 7 (by decide) (by decide), -z_free, -getElem?_pos]) ?_
  rw [nxt_nx, T3.go]
  refine wS_gen fun G hG => ?_
  have eG : Sl8 F a0 .fro rows edge G := by rw [hG]; exact e.set (by decide) rfl
  have g4 : G[4]? = some (some (.mu .own (ctR F lt))) := by rw [hG]; simpa using s4
  have g5 : G[5]? = some (some (.pd (mkD a))) := by rw [hG]; simpa using s5
  have g6 : G[6]? = some (some (.pd (.str (chS d)))) := by rw [hG]; simpa using s6
  have g7 : G[7]? = some (some (.pd (mkD (goM F a d)))) := by rw [hG]; simp [lE]
  clear hG
  have lG := eG.len
  have gr := get_dn F rows (goM F a d)
  have ga : cGet (.dn (kv F rows)) (mkD a) = some (some (.str (rowS ds))) := by
    rw [get_dn F rows a, look_mem y.nd hr]
    rfl
  have gl := get_ct F lt (goM F a d)
  cases hb : look rows (goM F a d) with
  | some es =>
    rw [hb] at gr
    refine wS_of (fl := .nx) (e := G) (by
      simp [eDi, eG.s2, g7, gr, pdOf, -getElem?_pos]) ?_
    exact ⟨rfl, lt, k1 (look_key.mp (by rw [hb]; rfl)), by omega, eG, g4, g5⟩
  | none =>
    rw [hb] at gr
    have hout : goM F a d ∉ rows.map (·.1) := fun z => by
      have := look_key.mpr z
      rw [hb] at this
      cases this
    have k2 := k2 hout
    obtain ⟨v, hv⟩ : ∃ v, v = (match look lt (goM F a d) with
      | none => ds ++ [d]
      | some e0 => lesR e0 (ds ++ [d])) := ⟨_, rfl⟩
    have k2 : MM.Lt (skM F) n rows edge (fun x e => D x e ∨ (x = a ∧ e = d)) (putR lt (goM F a d) v) := by rw [hv]; exact k2
    have cr := cat_row ds d (by rw [hdl]; exact hn)
    have mn : oMinS [((look lt (goM F a d)).map fun ds => PyData.str (rowS ds)).getD (.str "z"), .str (rowS (ds ++ [d]))] = some (.str (rowS v)) := by
      cases hl : look lt (goM F a d) with
      | none =>
        rw [hl] at hv
        rw [hv]
        show some (PyData.str (minT "z" (rowS (ds ++ [d])))) = _
        rw [min_z (by simp)]
      | some e0 =>
        rw [hl] at hv
        rw [hv]
        have l0 := h.len y _ (mem_look hl)
        have l0 : e0.length = n + 1 := l0
        show some (PyData.str (minT (rowS e0) (rowS (ds ++ [d])))) = _
        rw [min_rows (by rw [l0]; simp [hdl])]
    have pc := put_ct F lt (goM F a d) v lr
    have dc : isDc G (.var 4) = true := by
      unfold isDc
      simp only [g4]
      cases lt <;> rfl
    generalize hX : ((look lt (goM F a d)).map fun ds => PyData.str (rowS ds)) = X at *
    refine wS_of (fl := .nx) (e := G.set 4 (some (.mu .own (ctR F (putR lt (goM F a d) v))))) (by
      simp [eDi, eDg, eG.s2, g4, g5, g6, g7, gr, ga, gl, dc, rGet, cr, mn, pc, pdOf, dPut, gDs, ctns, ctn, -z_free, -getElem?_pos]) ?_
    exact ⟨rfl, _, k2, putR_len _ _ _, eG.set (by decide) (frS_ct F _), by simp [lG], by simpa using g5⟩
end
end L19

end
section
set_option linter.all false
set_option autoImplicit false
set_option Elab.async false
set_option maxRecDepth 100000
set_option maxHeartbeats 4000000
namespace L19
open PySem L2 T3 MM
noncomputable section
variable [TabL]
theorem Sl8.lock {F : List Cell} {a0 : Mk} {m m' : Md} {rows : Rws Mk} {edge : List Mk} {E : Sl} (h : Sl8 F a0 m rows edge E) : Sl8 F a0 m' rows edge (E.set 3 (some (.mu m' (.ls (edge.map mkD))))) where
  len := by rw [List.length_set]; exact h.len
  s0 := by rw [List.getElem?_set_ne (by omega)]; exact h.s0
  s1 := by rw [List.getElem?_set_ne (by omega)]; exact h.s1
  s2 := by rw [List.getElem?_set_ne (by omega)]; exact h.s2
  s3 := by rw [List.getElem?_set_self (by rw [h.len]; omega)]
  fr j h1 h2 := by rw [free_ne_set (by omega)]; exact h.fr j h1 h2
theorem Lt_mono {F : List Cell} {n : Nat} {rows : Rws Mk} {edge : List Mk} {D D' : Mk → Dir → Prop} {lt : Rws Mk} (h : MM.Lt (skM F) n rows edge D lt) (k : ∀ x e, x ∈ edge → D' x e → D x e) : MM.Lt (skM F) n rows edge D' lt :=
  ⟨h.nd, h.new, h.frm, fun a d ds hD ha => h.all a d ds (k a d ha hD) ha⟩
theorem Lt_len {F : List Cell} (hF : okFl F) {a0 : Mk} {n : Nat} {rows : Rws Mk} {edge : List Mk} {D : Mk → Dir → Prop} {lt : Rws Mk} (h : MM.Lt (skM F) n rows edge D lt) (y : Lay (skM F) (univM F) a0 n rows edge) : lt.length ≤ 10000 :=
  Nat.le_trans (nd_len (U := univM F) h.nd fun q hq => by
    obtain ⟨a, d, ds, h1, h2, h3, h4, _⟩ := h.frm q hq
    rw [h4]
    exact (wd_m hF).go a (y.inU _ h3) d h2) (wd_m hF).len
abbrev LAYER : SS := (sSeq (sSet 4 eDnew)
  (sSeq (sFor (iSeq (eVar 3)) (gN 5) (sFor (iSeq (eCall f__law_free (eCons (eVar 0) (eCons (eIx (eVar 5) (eC (.int 0))) eNil)))) (gN 6) INNER))
  (sSeq (sExpr (eUpd (eVar 2) (eVar 4)))
  (sSet 3 (eThen (eCons (eVar 4) eNil) kLstD)))))
theorem layer_sp {F : List Cell} (hF : okFl F) {a0 : Mk} {rows : Rws Mk} {edge : List Mk} {n : Nat} (y : Lay (skM F) (univM F) a0 n rows edge) (hn : n ≤ 100000) (re : rows ≠ []) (le : edge.length ≤ 10000) {E : Sl} (e : Sl8 F a0 .own rows edge E) :
    wS LAYER E fun fl E' => fl = .nx ∧ ∃ lt, Lay (skM F) (univM F) a0 (n + 1) (rows ++ lt) (lt.map (·.1)) ∧ lt.length ≤ 10000 ∧ Sl8 F a0 .own (rows ++ lt) (lt.map (·.1)) E' := by
  have lE := e.len
  have wd := wd_m hF
  have lr := nd_len (U := univM F) y.nd y.inU
  have lU := wd.len
  have le : edge.length ≤ 1000000 := by omega
  refine wS_seq ?_
  refine wS_of (fl := .nx) (e := E.set 4 (some (.mu .own (ctR F [])))) (by
    simp [eDnew, ctR, e.fr 4 (by decide) (by decide), -z_free, -getElem?_pos]) ?_
  rw [nxt_nx, T3.go]
  refine wS_gen fun G hG => ?_
  have eG : Sl8 F a0 .own rows edge G := by rw [hG]; exact e.set (by decide) (frS_ct F [])
  have g4 : G[4]? = some (some (.mu .own (ctR F []))) := by rw [hG]; simp [lE]
  clear hG
  refine wS_seq ?_
  refine wS_for (xs := edge.map mkD) (lk := some (3, .own)) (e := G.set 3 (some (.mu .fro (.ls (edge.map mkD))))) (by
    simp [iSeq, eG.s3, le]) (fun rest H => ∃ (es : List Mk) (lt : Rws Mk), rest = es.map mkD ∧ (∀ a ∈ es, a ∈ edge) ∧ MM.Lt (skM F) n rows edge (fun a _ => a ∉ es) lt ∧ Sl8 F a0 .fro rows edge H ∧ H[4]? = some (some (.mu .own (ctR F lt)))) ⟨edge, [], rfl, fun _ h => h, Lt_mono MM.Lt.zero (fun x _ h1 h2 => absurd h1 h2), eG.lock, by rw [List.getElem?_set_ne (by omega)]; exact g4⟩ ?_ ?_
  · rintro x rest H ⟨es, lt, hes, hin, hL, eH, h4⟩
    obtain ⟨a, es, rfl⟩ : ∃ a r, es = a :: r := by
      cases es with
      | nil => cases hes
      | cons a r => exact ⟨a, r, rfl⟩
    rw [List.map_cons] at hes
    injection hes with hx hr
    subst hx hr
    have lH := eH.len
    simp only [gW, z_gN, z_setR, eH.fr 5 (by decide) (by decide), if_true]
    rw [T3.go]
    refine wS_gen fun K hK => ?_
    have eK : Sl8 F a0 .fro rows edge K := by rw [hK]; exact eH.set (by decide) rfl
    have k4 : K[4]? = some (some (.mu .own (ctR F lt))) := by rw [hK]; simpa using h4
    have k5 : K[5]? = some (some (.pd (mkD a))) := by rw [hK]; simp [lH]
    clear hK
    have fs := free_sp F a.1
    have i0 : oIx [mkD a, .int 0] = some (clD a.1) := rfl
    have lo : (ops F a.1).length ≤ 1000000 := by
      have : (ops F a.1).length ≤ 4 := by unfold ops; exact Nat.le_trans (List.length_filter_le _ _) (by decide)
      omega
    refine wS_for (xs := (ops F a.1).map chD) (lk := none) (e := K) (by
      simp [iSeq, eK.s0, k5, i0, fs, ctns, ctn, -getElem?_pos]) (fun rest H => ∃ (ls : List Dir) (lt : Rws Mk), rest = ls.map chD ∧ (∀ d ∈ ls, d ∈ ops F a.1) ∧ MM.Lt (skM F) n rows edge (fun x d => x ∉ a :: es ∨ (x = a ∧ d ∉ ls ∧ d ∈ ops F a.1)) lt ∧ Sl8 F a0 .fro rows edge H ∧ H[4]? = some (some (.mu .own (ctR F lt))) ∧ H[5]? = some (some (.pd (mkD a)))) ⟨ops F a.1, lt, rfl, fun _ h => h, Lt_mono hL (fun x d _ h => by
        rcases h with h | ⟨_, h, k⟩
        · exact h
        · exact absurd k h), eK, k4, k5⟩ ?_ ?_
    · rintro x rest H ⟨ls, lt, hls, hlo, hL, eH, h4, h5⟩
      obtain ⟨d, ls, rfl⟩ : ∃ d r, ls = d :: r := by
        cases ls with
        | nil => cases hls
        | cons d r => exact ⟨d, r, rfl⟩
      rw [List.map_cons] at hls
      injection hls with hx hr
      subst hx hr
      have lH := eH.len
      simp only [gW, z_gN, z_setR, eH.fr 6 (by decide) (by decide), if_true]
      rw [T3.go]
      have eK : Sl8 F a0 .fro rows edge (H.set 6 (some (.pd (chD d)))) := eH.set (by decide) rfl
      have k4 : (H.set 6 (some (.pd (chD d))))[4]? = some (some (.mu .own (ctR F lt))) := by simpa using h4
      have k5 : (H.set 6 (some (.pd (chD d))))[5]? = some (some (.pd (mkD a))) := by simpa using h5
      have k6 : (H.set 6 (some (.pd (chD d))))[6]? = some (some (.pd (.str (chS d)))) := by simp [lH, chD]
      have ll := Lt_len hF hL y
      refine (inner_sp hF y hn (by omega) hL (hin a (by simp)) (hlo d (by simp)) eK k4 k5 k6).imp ?_
      rintro fl E' ⟨rfl, lt', h1, h2, h3, h4', h5'⟩
      refine ⟨ls, lt', rfl, fun x hx => hlo x (List.mem_cons_of_mem _ hx), Lt_mono h1 (fun x e _ h => ?_), h3, h4', h5'⟩
      rcases h with h | ⟨rfl, h, k⟩
      · exact .inl (.inl h)
      · by_cases z : e = d
        · exact .inr ⟨rfl, z⟩
        · exact .inl (.inr ⟨rfl, by simp [z, h], k⟩)
    · rintro H ⟨ls, lt, hls, _, hL, eH, h4, h5⟩
      have : ls = [] := by
        cases ls with
        | nil => rfl
        | cons d r => cases hls
      subst this
      simp only [z_unl]
      refine ⟨es, lt, rfl, fun x hx => hin x (List.mem_cons_of_mem _ hx), ⟨hL.nd, hL.new, hL.frm, fun x d ds hD hx hd => hL.all x d ds ?_ hx hd⟩, eH, h4⟩
      by_cases z : x = a
      · exact .inr ⟨z, by simp, by rw [← z]; exact hd⟩
      · exact .inl (by simp [z, hD])
  · rintro H ⟨es, lt, hes, _, hL, eH, h4⟩
    have : es = [] := by
      cases es with
      | nil => rfl
      | cons d r => cases hes
    subst this
    have lH := eH.len
    have ul : unlock (some (3, .own)) H = H.set 3 (some (.mu .own (.ls (edge.map mkD)))) := by
      simp [unlock, eH.s3]
    rw [nxt_nx, T3.go, ul]
    refine wS_gen fun K hK => ?_
    have eK : Sl8 F a0 .own rows edge K := by rw [hK]; exact eH.lock
    have k4 : K[4]? = some (some (.mu .own (ctR F lt))) := by rw [hK]; simpa using h4
    clear hK
    have lK := eK.len
    have ly := hL.done wd y (fun a ha d _ => by simp)
    have ll := Lt_len hF hL y
    have uk := up_kv F lt rows hL.nd hL.new
    have up : updP K 2 4 = some (.pd .none, K.set 2 (some (.mu .own (.dn (kv F (rows ++ lt)))))) := by
      have nk : kv F rows ≠ [] := by
        cases rows with
        | nil => exact absurd rfl re
        | cons q r => simp [kv, rkv]
      have lk : (kv F rows).length + (kv F lt).length ≤ 1000000 := by
        have : ∀ l : Rws Mk, (kv F l).length = l.length := fun l => by simp [kv, rkv]
        rw [this, this]
        omega
      have dc : dnC (.dn (kv F rows)) = some (kv F rows) := rfl
      unfold updP
      simp only [eK.s2, k4, dc, dnC_ct]
      rw [if_pos ⟨by decide, by decide, nk, lk⟩, uk]
    have dc2 : isDc K (.var 2) = true := by
      unfold isDc
      simp only [eK.s2]
    refine wS_seq ?_
    refine wS_of (fl := .nx) (e := K.set 2 (some (.mu .own (.dn (kv F (rows ++ lt)))))) (by
      simp [eK.s2, k4, dc2, up, -getElem?_pos]) ?_
    rw [nxt_nx, T3.go]
    refine wS_gen fun M hM => ?_
    have m4 : M[4]? = some (some (.mu .own (ctR F lt))) := by rw [hM]; simpa using k4
    have m3 : free M 3 = true := by
      rw [hM, free_ne_set (by decide), free_frS eK.s3]
      rfl
    have kl : kLstD [.var 4] M = some (.tmp (.ls ((lt.map (·.1)).map mkD)), M) := by
      unfold kLstD
      simp only [m4, keys_ct]
    refine wS_of (fl := .nx) (e := M.set 3 (some (.mu .own (.ls ((lt.map (·.1)).map mkD))))) (by
      generalize ((lt.map (·.1)).map mkD) = Z at *
      simp [m4, kl, m3, -z_free, -getElem?_pos]) ?_
    refine ⟨rfl, lt, ly, ll, ?_⟩
    have lM : M.length = 8 := by rw [hM, List.length_set]; exact lK
    exact {
      len := by rw [List.length_set]; exact lM
      s0 := by rw [List.getElem?_set_ne (by decide), hM, List.getElem?_set_ne (by decide)]; exact eK.s0
      s1 := by rw [List.getElem?_set_ne (by decide), hM, List.getElem?_set_ne (by decide)]; exact eK.s1
      s2 := by rw [List.getElem?_set_ne (by decide), hM, List.getElem?_set_self (by omega)]
      s3 := by rw [List.getElem?_set_self (by omega)]
      fr := fun i h1 h2 => by rw [free_ne_set (by omega), hM, free_ne_set (by omega)]; exact eK.fr i h1 h2 }
def mu8 (U : Nat) (rows : Rws Mk) (edge : List Mk) : Nat := 2 * (U - rows.length) + if edge = [] then 0 else 1
theorem edge_ne (edge : List Mk) : oNe [.list (edge.map mkD), .list []] = some (.bool (decide (edge ≠ []))) := by
  have p0 : pl 1 (.list []) = true := rfl
  have pm : ∀ a : Mk, pl 2 (mkD a) = true := fun a => rfl
  have p : pl 3 (.list (edge.map mkD)) = true := by
    simp [pl, pm]
  cases edge with
  | nil => exact pl_ne p p0 (by decide) (by decide) rfl
  | cons a r => exact pl_ne' p p0 (by decide) (by decide) (by simp)
theorem layers_sp {F : List Cell} (hF : okFl F) {a0 : Mk} (h0 : a0 ∈ univM F) : ∃ rows : Rws Mk, (rows.map (·.1)).Nodup ∧ (∀ q ∈ rows, Ld (skM F) a0 q.2 q.1 ∧ q.1 ∈ univM F ∧ (∀ es, Ld (skM F) a0 es q.1 → sle q.2 es) ∧ q.2.length ≤ 20000) ∧ (∀ ds b, Ld (skM F) a0 ds b → ∃ es, (b, es) ∈ rows ∧ sle es ds) ∧ rows.length ≤ (univM F).length ∧
    f__law_layers [.nt (F.map clD), .pd (mkD a0)] = some (.tmp (.dn (kv F rows)), [.nt (F.map clD), .pd (mkD a0)]) := by
  have wd := wd_m hF
  have lU := wd.len
  obtain ⟨U, hU⟩ : ∃ U, U = (univM F).length := ⟨_, rfl⟩
  have key : ∀ Q : R → List S → Prop, (∀ rows : Rws Mk, (rows.map (·.1)).Nodup → (∀ q ∈ rows, Ld (skM F) a0 q.2 q.1 ∧ q.1 ∈ univM F ∧ (∀ es, Ld (skM F) a0 es q.1 → sle q.2 es) ∧ q.2.length ≤ 20000) → (∀ ds b, Ld (skM F) a0 ds b → ∃ es, (b, es) ∈ rows ∧ sle es ds) → rows.length ≤ (univM F).length → Q (.tmp (.dn (kv F rows))) [.nt (F.map clD), .pd (mkD a0)]) → wF f__law_layers [.nt (F.map clD), .pd (mkD a0)] Q := by
    intro Q hQ
    refine wF_run (e := startE 8 [.nt (F.map clD), .pd (mkD a0)]) rfl ?_
    have A : Al 2 8 (startE 8 [.nt (F.map clD), .pd (mkD a0)]) := al_start rfl (by decide)
    have g0 : (startE 8 [.nt (F.map clD), .pd (mkD a0)])[0]? = some (some (.nt (F.map clD))) := rfl
    have g1 : (startE 8 [.nt (F.map clD), .pd (mkD a0)])[1]? = some (some (.pd (mkD a0))) := rfl
    generalize startE 8 [.nt (F.map clD), .pd (mkD a0)] = e at *
    have ln := A.len
    have hK : keysK [(mkD a0, PyData.str "")] = none := by simp [keysK, key_mk]
    have hN : keysN [(mkD a0, PyData.str "")] = some [(mkK a0, .str "")] := by simp [keysN, mk_tk]
    have hA : allN [(mkK a0, PyData.str "")] = kv F [(a0, [])] := by
      have r0 : ("" : Str) = rowS [] := by kernel_rfl
      simp [allN, putN, valN, kv, rkv]
      exact ⟨rfl, r0⟩
    refine wS_seq ?_
    refine wS_of (fl := .nx) (e := (e.set 2 (some (.mu .own (.dn (kv F [(a0, [])]))))).set 3 (some (.mu .own (.ls [mkD a0])))) (by
      simp [g0, g1, ePairs, hK, hN, hA, T3.kLst, datas, T3.data1, free_ne_set, A.fre, ln, -z_free, -getElem?_pos]) ?_
    rw [nxt_nx, T3.go]
    refine wS_gen fun E hE => ?_
    have eE : Sl8 F a0 .own [(a0, [])] [a0] E := by
      rw [hE]
      exact {
        len := by rw [List.length_set, List.length_set]; exact ln
        s0 := by rw [List.getElem?_set_ne (by decide), List.getElem?_set_ne (by decide)]; exact g0
        s1 := by rw [List.getElem?_set_ne (by decide), List.getElem?_set_ne (by decide)]; exact g1
        s2 := by rw [List.getElem?_set_ne (by decide), List.getElem?_set_self (by omega)]
        s3 := by rw [List.getElem?_set_self (by rw [List.length_set]; omega)]; rfl
        fr := fun i h1 h2 => by rw [free_ne_set (by omega), free_ne_set (by omega)]; exact A.fre i (by omega) (by omega) }
    clear hE
    refine wS_seq ?_
    refine wS_while (fun m E => ∃ (k : Nat) (rows : Rws Mk) (edge : List Mk), Lay (skM F) (univM F) a0 k rows edge ∧ k ≤ rows.length + (if edge = [] then 1 else 0) ∧ rows ≠ [] ∧ edge.length ≤ 10000 ∧ m = mu8 U rows edge ∧ Sl8 F a0 .own rows edge E) (mu8 U [(a0, [])] [a0]) ⟨0, _, _, Lay.start h0, by simp, by simp, by simp, rfl, eE⟩ ?_
    rintro m H ⟨k, rows, edge, y, hk, re, le, hm, eH⟩
    have lr := nd_len (U := univM F) y.nd y.inU
    have en := edge_ne edge
    cases edge with
    | nil =>
      have hc : bT (eNe (eVar 3) (eThen eNil kLst)) H = some (false, H) := by
        have en : oNe [.list [], .list []] = some (.bool false) := by simpa using en
        have s3 := eH.s3
        rw [List.map_nil] at s3
        simp [s3, en, T3.kLst, datas, ctns, ctn, -getElem?_pos]
      unfold bW
      rw [hc]
      simp only [if_false, Bool.false_eq_true]
      rw [nxt_nx, T3.go]
      have q := hQ rows y.nd (fun q hq => ⟨(y.snd q hq).1, y.inU q hq, y.lst q hq, by
        have := (y.snd q hq).2
        simp at hk
        omega⟩) y.all lr
      have sv : sRet (eVar 2) H = some (.rt (.var 2), H) := by simp [eH.s2, -getElem?_pos]
      have ou : outR H (.var 2) = some (.tmp (.dn (kv F rows))) := by
        unfold outR
        simp only [eH.s2]
      refine wS_of sv ?_
      refine ⟨_, _, ou, ?_, q⟩
      exact fin_pd rfl (by simp [eH.len])
    | cons a r =>
      have hc : bT (eNe (eVar 3) (eThen eNil kLst)) H = some (true, H) := by
        have en : oNe [.list ((a :: r).map mkD), .list []] = some (.bool true) := by simpa using en
        have s3 := eH.s3
        generalize ((a :: r).map mkD) = Z at *
        simp [s3, en, T3.kLst, datas, ctns, ctn, -getElem?_pos]
      unfold bW
      rw [hc]
      simp only [if_true]
      simp only [List.cons_ne_nil, if_false, reduceCtorEq] at hk
      refine (layer_sp hF y (by omega) re le eH).imp ?_
      rintro fl E' ⟨rfl, lt, y', ll, e'⟩
      have lr' := nd_len (U := univM F) y'.nd y'.inU
      refine ⟨mu8 U (rows ++ lt) (lt.map (·.1)), ?_, k + 1, _, _, y', ?_, by simp [re], by simpa using ll, rfl, e'⟩
      · rw [hm]
        unfold mu8
        rw [hU]
        rw [List.length_append] at lr' ⊢
        cases lt with
        | nil => simp
        | cons q t => simp at lr' ⊢; omega
      · rw [List.length_append]
        cases lt with
        | nil => simp; omega
        | cons q t => simp; omega
  obtain ⟨r, as, e, rows, h1, h2, h3, h4, rfl, rfl⟩ := key (fun r as => ∃ rows : Rws Mk, (rows.map (·.1)).Nodup ∧ (∀ q ∈ rows, Ld (skM F) a0 q.2 q.1 ∧ q.1 ∈ univM F ∧ (∀ es, Ld (skM F) a0 es q.1 → sle q.2 es) ∧ q.2.length ≤ 20000) ∧ (∀ ds b, Ld (skM F) a0 ds b → ∃ es, (b, es) ∈ rows ∧ sle es ds) ∧ rows.length ≤ (univM F).length ∧ r = .tmp (.dn (kv F rows)) ∧ as = [.nt (F.map clD), .pd (mkD a0)]) fun rows h1 h2 h3 h4 => ⟨rows, h1, h2, h3, h4, rfl, rfl⟩
  exact ⟨rows, h1, h2, h3, h4, e⟩
end
end L19

end
section
set_option linter.all false
set_option autoImplicit false
set_option Elab.async false
set_option maxRecDepth 100000
set_option maxHeartbeats 4000000
namespace L19
open PySem L2 T3 MM
noncomputable section
def OkS (s : Str) : Prop := ∀ c ∈ s.cps.toList, c < 0x110000
theorem oks_of (s : String) : OkS (Str.ofString s) := fun c hc => by
  rw [Str.ofString_eq_toList] at hc
  simp only [List.mem_map] at hc
  obtain ⟨x, _, rfl⟩ := hc
  have := x.valid
  rcases this with h | h
  · exact Nat.lt_trans h (by decide)
  · exact h.2
theorem oks_app {a b : Str} (h : OkS a) (k : OkS b) : OkS (a ++ b) := fun c hc => by
  have : (a ++ b).cps = a.cps ++ b.cps := rfl
  rw [this, Array.toList_append] at hc
  rcases List.mem_append.mp hc with z | z
  · exact h c z
  · exact k c z
theorem oks_join {s : Str} (h : OkS s) : ∀ ts : List Str, (∀ t ∈ ts, OkS t) → OkS (s.join ts)
  | [], _ => by
    unfold Str.join
    intro c hc
    simp [Str.empty] at hc
  | [t], k => by
    unfold Str.join
    exact k t (by simp)
  | t :: u :: ts, k => by
    have ih := oks_join h (u :: ts) fun x hx => k x (List.mem_cons_of_mem _ hx)
    unfold Str.join
    first | exact oks_app (oks_app (k t (by simp)) h) ih | exact oks_app (k t (by simp)) (oks_app h ih)
mutual
def itd : PyData → Bool
  | .int _ => true
  | .tuple xs => itds xs
  | _ => false
def itds : List PyData → Bool
  | [] => true
  | x :: xs => itd x && itds xs
end
mutual
theorem oks_itd : ∀ x : PyData, itd x = true → OkS x.shown
  | .int i, _ => by rw [PyData.shown_int]; exact oks_of _
  | .tuple xs, h => by
    unfold itd at h
    unfold PyData.shown
    unfold tupleText
    exact oks_app (oks_app (oks_of _) (oks_join (oks_of _) _ (oks_itds xs h))) (by first | exact oks_of _ | (split <;> exact oks_of _))
  | .none, h => by simp [itd] at h
  | .bool _, h => by simp [itd] at h
  | .str _, h => by simp [itd] at h
  | .list _, h => by simp [itd] at h
  | .dict _, h => by simp [itd] at h
theorem oks_itds : ∀ xs : List PyData, itds xs = true → ∀ t ∈ PyData.shownAll xs, OkS t
  | [], _ => by unfold PyData.shownAll; simp
  | x :: xs, h => by
    unfold itds at h
    simp only [Bool.and_eq_true] at h
    unfold PyData.shownAll
    intro t ht
    rcases List.mem_cons.mp ht with rfl | ht
    · exact oks_itd x h.1
    · exact oks_itds xs h.2 t ht
end
theorem itd_cs (cs : List Cell) : itd (.tuple (cs.map clD)) = true := by
  unfold itd
  induction cs with
  | nil => rfl
  | cons c cs ih => simp only [List.map_cons]; unfold itds; rw [ih]; rfl
theorem strOk_of {s : Str} (h : OkS s) : PyData.strOk s = true := by
  unfold PyData.strOk
  rw [Array.all_eq_true']
  intro x hx
  have := h x (by simpa using hx)
  simpa using this
mutual
theorem real_itd : ∀ x : PyData, itd x = true → realZ x = x
  | .int i, _ => by unfold realZ; rfl
  | .tuple xs, h => by
    unfold itd at h
    unfold realZ
    rw [real_itds xs h]
  | .none, h => by simp [itd] at h
  | .bool _, h => by simp [itd] at h
  | .str _, h => by simp [itd] at h
  | .list _, h => by simp [itd] at h
  | .dict _, h => by simp [itd] at h
theorem real_itds : ∀ xs : List PyData, itds xs = true → realZs xs = xs
  | [], _ => by unfold realZs; rfl
  | x :: xs, h => by
    unfold itds at h
    simp only [Bool.and_eq_true] at h
    unfold realZs
    rw [real_itd x h.1, real_itds xs h.2]
end
end
end L19

end
section
set_option linter.all false
set_option autoImplicit false
set_option Elab.async false
set_option maxRecDepth 100000
set_option maxHeartbeats 4000000
namespace L19
open PySem L2 T3 MM
noncomputable section
variable [TabL]
theorem oks_ch (x : Char) : x.toNat < 0x110000 := by
  rcases x.valid with h | h
  · exact Nat.lt_trans h (by decide)
  · exact h.2
theorem oks_rc (q c : Nat) (hc : c < 0x110000) : ∀ d ∈ Builtin.Str.reprChar q c, d < 0x110000 := by
  have hex : ∀ (w d : Nat), d ∈ List.replicate (w - ((Nat.toDigits 16 c).map Char.toNat).length) 48 ++ (Nat.toDigits 16 c).map Char.toNat → d < 0x110000 := fun w d hd => by
    rcases List.mem_append.mp hd with h | h
    · rw [(List.mem_replicate.mp h).2]; decide
    · obtain ⟨x, _, rfl⟩ := List.mem_map.mp h
      exact oks_ch x
  intro d hd
  unfold Builtin.Str.reprChar at hd
  dsimp only at hd
  have sm : ∀ (a b : Nat) (l : List Nat), a < 0x110000 → b < 0x110000 → (∀ x ∈ l, x < 0x110000) → d ∈ [a, b] ++ l → d < 0x110000 := fun a b l ha hb hl h => by
    rcases List.mem_append.mp h with h | h
    · simp only [List.mem_cons, List.not_mem_nil, or_false] at h
      rcases h with rfl | rfl
      · exact ha
      · exact hb
    · exact hl d h
  have s2 : ∀ (a b : Nat), a < 0x110000 → b < 0x110000 → d ∈ [a, b] → d < 0x110000 := fun a b ha hb h => by
    simp only [List.mem_cons, List.not_mem_nil, or_false] at h
    rcases h with rfl | rfl
    · exact ha
    · exact hb
  split at hd
  · exact s2 _ _ (by decide) hc hd
  · split at hd
    · exact s2 _ _ (by decide) (by decide) hd
    · split at hd
      · exact s2 _ _ (by decide) (by decide) hd
      · split at hd
        · exact s2 _ _ (by decide) (by decide) hd
        · split at hd
          · rw [List.mem_singleton.mp hd]; exact hc
          · split at hd
            · exact sm _ _ _ (by decide) (by decide) (hex 2) hd
            · split at hd
              · exact sm _ _ _ (by decide) (by decide) (hex 4) hd
              · exact sm _ _ _ (by decide) (by decide) (hex 8) hd
theorem oks_fold (q : Nat) : ∀ (l : List Nat) (acc : Array Nat), (∀ c ∈ l, c < 0x110000) → (∀ c ∈ acc.toList, c < 0x110000) → ∀ c ∈ (l.foldl (fun out c => out ++ (Builtin.Str.reprChar q c).toArray) acc).toList, c < 0x110000
  | [], acc, _, h => h
  | x :: l, acc, hl, h => by
    rw [List.foldl_cons]
    refine oks_fold q l _ (fun c hc => hl c (List.mem_cons_of_mem _ hc)) fun c hc => ?_
    rw [Array.toList_append] at hc
    rcases List.mem_append.mp hc with z | z
    · exact h c z
    · exact oks_rc q x (hl x (by simp)) c (by simpa using z)
theorem oks_repr {x : Str} (h : OkS x) : OkS (reprText x) := by
  have hq : reprQuote x < 0x110000 := by
    unfold reprQuote
    split <;> decide
  intro c hc
  unfold reprText at hc
  have hc : c ∈ ((x.cps.foldl (fun out c => out ++ (Builtin.Str.reprChar (reprQuote x) c).toArray) #[reprQuote x]).push (reprQuote x)).toList := hc
  rw [Array.toList_push, ← Array.foldl_toList] at hc
  rcases List.mem_append.mp hc with z | z
  · exact oks_fold (reprQuote x) x.cps.toList #[reprQuote x] h (fun d hd => by
      simp at hd
      rw [hd]; exact hq) c z
  · rw [List.mem_singleton.mp z]; exact hq
theorem oks_row (ds : List Dir) : OkS (rowS ds) := fun c hc => by
  simp only [rowS, List.toList_toArray] at hc
  obtain ⟨d, _, rfl⟩ := List.mem_map.mp hc
  cases d <;> decide
theorem oks_tup {ys : List PyData} (h : ∀ t ∈ PyData.shownAll ys, OkS t) : OkS (PyData.tuple ys).shown := by
  unfold PyData.shown
  unfold tupleText
  exact oks_app (oks_app (oks_of _) (oks_join (oks_of _) _ h)) (by first | exact oks_of _ | (split <;> exact oks_of _))
theorem rz_ok {ys : List PyData} (hr : realZs ys = ys) (ok : ShOk (.tuple ys)) (h : ∀ t ∈ PyData.shownAll ys, OkS t) : ∃ t : Str, oReprZ [.tuple ys] = some (.str t) ∧ PyData.strOk t = true := by
  refine ⟨(PyData.tuple ys).shown, ?_, strOk_of (oks_tup h)⟩
  unfold oReprZ
  by_cases z : ShZ (.tuple ys)
  · simp only [z, if_true]
    have : realZ (.tuple ys) = .tuple ys := by
      unfold realZ
      rw [hr]
    rw [this]
  · simp only [z, if_false]
    rw [oReprY_t]
    exact repr_t ok
theorem rd_text {s : Str} {k : Nat} (h : OkS s) (hl : s.cps.size ≤ k) : RD 0 k (.str s) := by
  refine ⟨?_, by simp [PyData.depth], by simp [PyData.showable], ?_, by simpa [PyData.weight] using hl⟩
  · have := strOk_of h
    simpa [PyData.canLay0] using this
  · simp only [PyData.leavesShort]
    rw [List.all_eq_true]
    intro c hc
    have := h c hc
    exact decide_eq_true (by omega)
theorem rz_row {ds : List Dir} (h : ds.length ≤ 4000) : ∃ t : Str, oReprZ [.tuple [.str "row", .str (rowS ds)]] = some (.str t) ∧ PyData.strOk t = true := by
  have sz : (rowS ds).cps.size ≤ 4000 := by simpa [rowS] using h
  have s3 : ("row" : Str).cps.size ≤ 4000 := by decide +kernel
  refine rz_ok rfl ((RD.tup (p := 0) (k := 4000) (n := 2) (by
    intro y hy
    simp only [List.mem_cons, List.not_mem_nil, or_false] at hy
    rcases hy with rfl | rfl
    · exact rd_text (oks_of _) s3
    · exact rd_text (oks_row ds) sz) (by simp)).ok (by decide) (by decide)) ?_
  intro t ht
  unfold PyData.shownAll at ht
  rcases List.mem_cons.mp ht with rfl | ht
  · rw [PyData.shown_str]; exact oks_repr (oks_of _)
  · unfold PyData.shownAll at ht
    rcases List.mem_cons.mp ht with rfl | ht
    · rw [PyData.shown_str]; exact oks_repr (oks_row ds)
    · unfold PyData.shownAll at ht
      cases ht
theorem rd_mk {F : List Cell} (hF : okFl F) {b : Mk} (hb : b ∈ univM F) : RD 2 400 (mkD b) := by
  obtain ⟨u1, u2, u3, u4⟩ := univM_mem.mp hb
  have h9 := hF.2.1
  have ib := hF.2.2.1 _ u1
  simp only [inB, Bool.and_eq_true, decide_eq_true_eq] at ib
  exact (RD.tup (p := 1) (k := 123) (n := 3) (by
    intro y hy
    simp only [List.mem_cons, List.not_mem_nil, or_false] at hy
    rcases hy with rfl | rfl | rfl
    · exact (RD.cell (c := b.1) (by omega)).mono (by omega) (by omega)
    · exact (RD.ly u2)
    · exact (RD.int (by omega) (by omega)).mono (by omega) (by omega)) (by simp)).mono (by omega) (by omega)
theorem bulk_mk (b : Mk) : (mkD b).bulk = 8 := by
  simp [mkD, clD, lyD, PyData.bulk, PyData.bulkAll]
theorem bulk_all : ∀ bs : List Mk, PyData.bulkAll (bs.map mkD) = 9 * bs.length
  | [] => rfl
  | b :: bs => by
    simp only [List.map_cons, PyData.bulkAll, bulk_mk, bulk_all bs, List.length_cons]
    omega
theorem itds_mk : ∀ bs : List Mk, itds (bs.map mkD) = true
  | [] => rfl
  | b :: bs => by
    simp only [List.map_cons]
    unfold itds
    rw [itds_mk bs]
    rfl
theorem rz_never {F : List Cell} (hF : okFl F) {bs : List Mk} (hb : ∀ b ∈ bs, b ∈ univM F) (hl : bs.length ≤ 4000) : ∃ t : Str, oReprZ [.tuple [.str "never", .tuple (bs.map mkD)]] = some (.str t) ∧ PyData.strOk t = true := by
  have s5 : ("never" : Str).cps.size ≤ 2000000 := by decide +kernel
  have s5' : ("never" : Str).cps.size = 5 := by decide +kernel
  have it := itds_mk bs
  have rd : RD 4 ((2000000 + 1) * 2) (.tuple [.str "never", .tuple (bs.map mkD)]) := RD.tup (p := 3) (k := 2000000) (n := 2) (by
    intro y hy
    simp only [List.mem_cons, List.not_mem_nil, or_false] at hy
    rcases hy with rfl | rfl
    · exact (rd_text (oks_of _) s5).mono (by omega) (by omega)
    · exact (RD.tup (p := 2) (k := 400) (n := 4000) (by
        intro y hy
        obtain ⟨b, hb', rfl⟩ := List.mem_map.mp hy
        exact rd_mk hF (hb b hb')) (by simpa using hl)).mono (by omega) (by omega)) (by simp)
  have bk : (PyData.tuple [.str "never", .tuple (bs.map mkD)]).bulk ≤ 36010 := by
    simp only [PyData.bulk, PyData.bulkAll, bulk_all, s5']
    omega
  have ok : ShOk (.tuple [.str "never", .tuple (bs.map mkD)]) := by
    refine ⟨?_, rd.shw, ?_⟩
    · unfold SeqAt.shaped
      rw [rd.lay, Bool.true_and]
      exact decide_eq_true (by have := rd.dep; omega)
    · have := PyData.shown_le_bulk 13 (by omega) _ rd.lvs
      omega
  have r1 : realZs [.str "never", .tuple (bs.map mkD)] = [.str "never", .tuple (bs.map mkD)] := by
    have e : realZ (.tuple (bs.map mkD)) = .tuple (bs.map mkD) := by
      unfold realZ
      rw [real_itds _ it]
    have e0 : realZ (.str "never") = .str "never" := rfl
    simp only [realZs]
    rw [e, e0]
  refine rz_ok r1 ok ?_
  intro t ht
  unfold PyData.shownAll at ht
  rcases List.mem_cons.mp ht with rfl | ht
  · rw [PyData.shown_str]; exact oks_repr (oks_of _)
  · unfold PyData.shownAll at ht
    rcases List.mem_cons.mp ht with rfl | ht
    · exact oks_tup (oks_itds _ it)
    · unfold PyData.shownAll at ht
      cases ht
end
end L19

end
section
set_option linter.all false
set_option autoImplicit false
set_option Elab.async false
set_option maxRecDepth 100000
set_option maxHeartbeats 4000000
namespace L19
open PySem L2 T3 MM
noncomputable section
variable [TabL]
def pD (ds : List Dir) : PyData := .tuple [.int (ds.length : Int), .str (rowS ds)]
theorem row_inj {a b : List Dir} (h : (rowS a).cps.toList = (rowS b).cps.toList) : a = b := by
  simp only [rowS, List.toList_toArray] at h
  exact (List.map_inj_right (fun _ _ e => code_inj e)).mp h
theorem pD_lt (a b : List Dir) : PySem.W.dataLt (pD a) (pD b) = decide (a.length < b.length ∨ (a.length = b.length ∧ lx a b)) := by
  unfold pD
  rw [PySem.W.dataLt_tuple, PySem.W.dataLt_cons (by rfl), PySem.W.dataLt_int]
  simp only [PyData.eqv, beq_iff_eq]
  by_cases h : (a.length : Int) = (b.length : Int)
  · have h' : a.length = b.length := by omega
    rw [if_pos h, PySem.W.dataLt_cons (by rfl), PySem.W.dataLt_str]
    have tl := txt_lx h'
    by_cases e : a = b
    · subst e
      have ev : PyData.eqv (.str (rowS a)) (.str (rowS a)) = true := by simp [PyData.eqv]
      rw [if_pos ev]
      have n1 : ¬ lx a a := lx_irr a
      have e0 := PySem.W.dataLt_ints [] []
      unfold PySem.W.rowLt at e0
      simp only [List.map_nil] at e0
      rw [e0]
      simp [n1]
    · have ev : ¬ PyData.eqv (.str (rowS a)) (.str (rowS b)) = true := by
        simp only [PyData.eqv, beq_iff_eq]
        intro z
        apply e
        apply row_inj
        first | exact z | (rw [z])
      rw [if_neg ev]
      have : ((rowS a).cps.toList < (rowS b).cps.toList) = lx a b := propext tl
      simp only [h', this, Nat.lt_irrefl, false_or, true_and]
  · have h' : ¬ a.length = b.length := by omega
    rw [if_neg h]
    simp only [h', false_and, or_false]
    by_cases k : a.length < b.length
    · rw [decide_eq_true (by omega), decide_eq_true k]
    · rw [decide_eq_false (by omega), decide_eq_false k]
noncomputable instance sleDec (a b : List Dir) : Decidable (sle a b) := Classical.propDecidable _
theorem sle_or (a b : List Dir) : sle a b ∨ sle b a := by
  unfold sle
  rcases Nat.lt_trichotomy a.length b.length with h | h | h
  · exact .inl (.inl h)
  · rcases lx_tri h with k | k | k
    · exact .inl (.inr ⟨h, .inr k⟩)
    · exact .inl (.inr ⟨h, .inl k⟩)
    · exact .inr (.inr ⟨h.symm, .inr k⟩)
  · exact .inr (.inl h)
theorem lx_asym : ∀ {a b : List Dir}, lx a b → ¬ lx b a := fun {a b} h k => lx_irr a (lx_trans h k)
theorem sle_anti {a b : List Dir} (h : sle a b) (k : sle b a) : a = b := by
  unfold sle at h k
  rcases h with h | ⟨h1, h2⟩
  · rcases k with k | ⟨k, _⟩ <;> omega
  · rcases h2 with h2 | h2
    · exact h2
    · rcases k with k | ⟨_, k⟩
      · omega
      · rcases k with k | k
        · exact k.symm
        · exact absurd k (lx_asym h2)
theorem not_slt (a b : List Dir) : (!decide (b.length < a.length ∨ (b.length = a.length ∧ lx b a))) = decide (sle a b) := by
  by_cases h : sle a b
  · rw [decide_eq_true h, Bool.not_eq_true', decide_eq_false_iff_not]
    rintro (k | ⟨k, k2⟩)
    · unfold sle at h
      rcases h with h | ⟨h, _⟩ <;> omega
    · unfold sle at h
      rcases h with h | ⟨_, h⟩
      · omega
      · rcases h with h | h
        · subst h; exact lx_irr a k2
        · exact lx_asym h k2
  · rw [decide_eq_false h, Bool.not_eq_false', decide_eq_true_eq]
    rcases sle_or a b with k | k
    · exact absurd k h
    · unfold sle at k h
      rcases k with k | ⟨k1, k2⟩
      · exact .inl k
      · rcases k2 with k2 | k2
        · exact absurd (.inr ⟨k1.symm, .inl k2.symm⟩) h
        · exact .inr ⟨k1, k2⟩
theorem srt_pD (ps : List (List Dir)) : srtD (ps.map pD) = (ps.mergeSort fun a b => decide (sle a b)).map pD := by
  unfold srtD
  refine (List.map_mergeSort (fun a _ b _ => ?_)).symm
  show _ = !PySem.W.dataLt (pD b) (pD a)
  rw [pD_lt, not_slt]
theorem srt_head {ps : List (List Dir)} {ds : List Dir} (hm : ds ∈ ps) (hl : ∀ es ∈ ps, sle ds es) : ∃ T : List (List Dir), srtD (ps.map pD) = pD ds :: T.map pD := by
  rw [srt_pD]
  have pm := List.mergeSort_perm ps fun a b => decide (sle a b)
  have pw := List.pairwise_mergeSort (le := fun a b => decide (sle a b)) (fun a b c h1 h2 => by
    simp only [decide_eq_true_eq] at *
    exact sle_trans h1 h2) (fun a b => by
    have := sle_or a b
    simpa using this) ps
  cases h : ps.mergeSort fun a b => decide (sle a b) with
  | nil =>
    rw [h] at pm
    have := pm.mem_iff.mpr hm
    cases this
  | cons x T =>
    rw [h] at pm pw
    have hx : x ∈ ps := pm.mem_iff.mp (by simp)
    have hd : ds ∈ x :: T := pm.mem_iff.mpr hm
    have e : x = ds := by
      rcases List.mem_cons.mp hd with rfl | hd
      · rfl
      · have := (List.pairwise_cons.mp pw).1 ds hd
        exact sle_anti (of_decide_eq_true this) (hl x hx)
    subst e
    exact ⟨T, rfl⟩
theorem plain_pD (ps : List (List Dir)) : PlainS (ps.map pD) := by
  refine ⟨?_, PySem.W.AllAlike.of (enc := pD) fun b b' => rfl, PySem.W.Sortable.tuples (enc := pD) fun b => ⟨_, _, rfl⟩, fun d hd => ?_⟩
  · induction ps with
    | nil => rfl
    | cons x xs ih =>
      have s := strOk_of (oks_row x)
      have c : (pD x).canLay0 = true := by simp [pD, PyData.canLay0, PyData.canLayAll0, s]
      simp only [List.map_cons, PyData.canLayAll0, ih, c]
      rfl
  · obtain ⟨b, _, rfl⟩ := List.mem_map.mp hd
    simp [pD, PyData.depth, PyData.depthAll]
theorem eqI (a b : Int) : oEq [.int a, .int b] = some (.bool (decide (a = b))) := by
  by_cases z : a = b
  · subst z; rw [pl_eq (n := 0) (m := 0) rfl rfl (by decide) (by decide) rfl]; simp
  · rw [pl_eq' (n := 0) (m := 0) rfl rfl (by decide) (by decide) (fun q => z (by injection q))]; simp [z]
theorem ne_pD (ps : List (List Dir)) : oNe [.list (ps.map pD), .list []] = some (.bool (decide (ps ≠ []))) := by
  have p0 : pl 1 (.list []) = true := rfl
  have pm : ∀ a, pl 2 (pD a) = true := fun a => by
    have := strOk_of (oks_row a)
    simp [pl, pD, this]
  have p : pl 3 (.list (ps.map pD)) = true := by
    simp [pl, pm]
  cases ps with
  | nil => exact pl_ne p p0 (by decide) (by decide) rfl
  | cons a r => exact pl_ne' p p0 (by decide) (by decide) (by simp)
theorem due_sp {F : List Cell} (hF : okFl F) {c : Cell} (hc : c ∈ F) {l : Ly} (hl : l ∈ lyings) {s to : Int} (s0 : 0 ≤ s) (s1 : s < 6 + (F.length : Int)) {r : PyData} (hr : Brs F (c, l, s) to r) : f__law_due [.nt (F.map clD), .pd (stD c l), .pd (.int s), .pd (.int to)] = some (.pd r, [.nt (F.map clD), .pd (stD c l), .pd (.int s), .pd (.int to)]) := by
  have ha : ((c, l, s) : Mk) ∈ univM F := univM_mem.mpr ⟨hc, hl, s0, s1⟩
  obtain ⟨rows, nd, snd, cmp, le, ls⟩ := layers_sp hF ha
  have lU := (wd_m hF).len
  have sp : PyData.tuple ([clD c, lyD l] ++ [.int s]) = mkD (c, l, s) := rfl
  have st : stD c l = .tuple [clD c, lyD l] := rfl
  have ad : ∀ env : Sl, kAdd [.pd (stD c l), .pd (.tuple [.int s])] env = some (.pd (mkD (c, l, s)), env) := fun env => by
    rw [st, ← sp]
    simp [kAdd, kOr, oI, oCatS, oCatT]
  have kd : keysD (kv F rows) = rows.map fun q => mkD q.1 := by
    unfold keysD kv rkv
    rw [List.map_map]
    apply List.map_congr_left
    intro q _
    exact mk_data q.1
  obtain ⟨ps, hps⟩ : ∃ ps : List (List Dir), ps = (rows.filter fun q => decide (q.1.2.2 = to)).map (·.2) := ⟨_, rfl⟩
  have key : ∀ Q : R → List S → Prop, Q (.pd r) [.nt (F.map clD), .pd (stD c l), .pd (.int s), .pd (.int to)] → wF f__law_due [.nt (F.map clD), .pd (stD c l), .pd (.int s), .pd (.int to)] Q := by
    intro Q hQ
    refine wF_run (e := startE 7 [.nt (F.map clD), .pd (stD c l), .pd (.int s), .pd (.int to)]) rfl ?_
    have A : Al 4 7 (startE 7 [.nt (F.map clD), .pd (stD c l), .pd (.int s), .pd (.int to)]) := al_start rfl (by decide)
    have g0 : (startE 7 [.nt (F.map clD), .pd (stD c l), .pd (.int s), .pd (.int to)])[0]? = some (some (.nt (F.map clD))) := rfl
    have g1 : (startE 7 [.nt (F.map clD), .pd (stD c l), .pd (.int s), .pd (.int to)])[1]? = some (some (.pd (stD c l))) := rfl
    have g2 : (startE 7 [.nt (F.map clD), .pd (stD c l), .pd (.int s), .pd (.int to)])[2]? = some (some (.pd (.int s))) := rfl
    have g3 : (startE 7 [.nt (F.map clD), .pd (stD c l), .pd (.int s), .pd (.int to)])[3]? = some (some (.pd (.int to))) := rfl
    generalize startE 7 [.nt (F.map clD), .pd (stD c l), .pd (.int s), .pd (.int to)] = e at *
    have ln := A.len
    refine wS_seq ?_
    refine wS_of (fl := .nx) (e := e.set 4 (some (.mu .own (.dn (kv F rows))))) (by
      simp [g0, g1, g2, ad, ls, T3.kTup, T3.datas, T3.data1, A.fre 4 (by decide) (by decide), -z_free, -getElem?_pos]) ?_
    rw [nxt_nx, go]
    refine wS_gen fun E hE => ?_
    have AE : Al 4 7 E := by rw [hE]; exact A.set rfl
    have k3 : E[3]? = some (some (.pd (.int to))) := by rw [hE]; simpa using g3
    have k4 : E[4]? = some (some (.mu .own (.dn (kv F rows)))) := by rw [hE]; simp [ln]
    clear hE
    have lE := AE.len
    have lc := lcF (it := iKeysN (eVar 4)) (g := gN 6) (t := bT (eEq (eIx (eVar 6) (eC (.int 2))) (eVar 3))) (f := eThen (eCons (eThen (eCons (eDg (eVar 4) (eVar 6)) eNil) (kE oLen)) (eCons (eDg (eVar 4) (eVar 6)) eNil)) kTup) (vs := [6]) (lk := some (4, .own)) (env := E) (e := E.set 4 (some (.mu .fro (.dn (kv F rows))))) (q := fun q : Mk × List Dir => mkD q.1) (as := rows) (fun q => decide (q.1.2.2 = to)) (fun q => pD q.2) (by simp [k4, kd]) (by omega) (fun q hq => by
      have i2 : oIx [mkD q.1, .int 2] = some (.int q.1.2.2) := rfl
      have gq : cGet (.dn (kv F rows)) (mkD q.1) = some (some (.str (rowS q.2))) := by
        rw [get_dn F rows q.1, look_mem nd hq]
        rfl
      have ql := (snd q hq).2.2.2
      have ol : oLen [.str (rowS q.2)] = some (.int (q.2.length : Int)) := by
        simp [oLen, row_le]
        try omega
      have eq := eqI q.1.2.2 to
      by_cases z : q.1.2.2 = to
      · have eq := eqI to to
        rw [decide_eq_true rfl] at eq
        simp [lcI, wipe_at, wipe_free, wipeE_len, lE, k3, i2, eq, eDg, gq, ol, z, pD, T3.kTup, T3.datas, T3.data1, ctns, ctn, Kp.set, -z_free, -getElem?_pos]
      · rw [decide_eq_false z] at eq
        simp [lcI, wipe_at, wipe_free, wipeE_len, lE, k3, i2, eq, eDg, gq, ol, z, T3.kTup, T3.datas, T3.data1, ctns, ctn, Kp.set, -z_free, -getElem?_pos])
    have ul : unlock (some (4, .own)) (E.set 4 (some (.mu .fro (.dn (kv F rows))))) = E := by
      obtain ⟨l4, hg⟩ := List.getElem?_eq_some_iff.mp k4
      simp only [unlock]
      simp [l4]
      rw [← hg]
      exact List.set_getElem_self l4
    rw [ul] at lc
    have em : ((rows.filter fun q => decide (q.1.2.2 = to)).map fun q => pD q.2) = ps.map pD := by
      rw [hps, List.map_map]
      rfl
    rw [em] at lc
    have lp : ps.length ≤ 10000 := by
      rw [hps, List.length_map]
      exact Nat.le_trans (List.length_filter_le _ _) (by omega)
    have ks : kSrtX [.tmp (.ls (ps.map pD))] E = some (.tmp (.ls (srtD (ps.map pD))), E) := by
      unfold kSrtX
      have lo : lsOf E (.tmp (.ls (ps.map pD))) = some (ps.map pD) := rfl
      simp only [lo]
      rw [if_pos ⟨plain_pD ps, by rw [List.length_map]; omega⟩]
    refine wS_seq ?_
    refine wS_of (fl := .nx) (e := E.set 5 (some (.mu .own (.ls (srtD (ps.map pD)))))) (by
      rw [srt_pD] at ks ⊢
      simp [lc, ks, AE.fre 5 (by decide) (by decide), -z_lc, -z_free, -getElem?_pos]) ?_
    rw [nxt_nx, go]
    refine wS_gen fun G hG => ?_
    have lG : G.length = 7 := by rw [hG, List.length_set]; exact lE
    have m4 : G[4]? = some (some (.mu .own (.dn (kv F rows)))) := by rw [hG]; simpa using k4
    have m5 : G[5]? = some (some (.mu .own (.ls (srtD (ps.map pD))))) := by rw [hG]; simp [lE]
    clear hG
    rcases hr with ⟨ds, b, hL, hb, hlen, hmin, rfl⟩ | ⟨ks', knd, kmem, kU, kno, rfl⟩
    · obtain ⟨es, he, hle⟩ := cmp ds b hL
      have he2 := hmin es b (snd _ he).1 hb
      have ee := sle_anti hle he2
      subst ee
      have hin : es ∈ ps := by
        rw [hps]
        exact List.mem_map.mpr ⟨(b, es), List.mem_filter.mpr ⟨he, by simpa using hb⟩, rfl⟩
      obtain ⟨T, hT⟩ := srt_head hin fun fs hfs => by
        rw [hps] at hfs
        obtain ⟨q, hq, rfl⟩ := List.mem_map.mp hfs
        have hq := List.mem_filter.mp hq
        exact hmin q.2 q.1 (snd q hq.1).1 (by simpa using hq.2)
      rw [hT] at m5
      have nn := ne_pD (es :: T)
      rw [decide_eq_true (by simp)] at nn
      simp only [List.map_cons] at nn
      have i0 : oIx [.list (pD es :: T.map pD), .int 0] = some (pD es) := by
        have : atI (pD es :: T.map pD) ((0 : Nat) : Int) = some (pD es) := atI_at (by simp) (by simp)
        simpa [oIx] using this
      have i1 : oIx [pD es, .int 1] = some (.str (rowS es)) := rfl
      refine wS_of (fl := .rt (.pd (.tuple [.str "row", .str (rowS es)]))) (e := G) (by
        simp [eIf, m5, nn, i0, i1, T3.kLst, T3.kTup, T3.datas, T3.data1, ctns, ctn, -getElem?_pos]) ?_
      exact ⟨_, _, rfl, fin_pd rfl (by simp [lG]), hQ⟩
    · have e0 : ps = [] := by
        cases h : ps with
        | nil => rfl
        | cons x t =>
          have : x ∈ ps := by rw [h]; simp
          rw [hps] at this
          obtain ⟨q, hq, rfl⟩ := List.mem_map.mp this
          have hq := List.mem_filter.mp hq
          exact absurd (by simpa using hq.2) (kno q.2 q.1 (snd q hq.1).1)
      rw [e0] at m5
      have s0' : srtD (([] : List (List Dir)).map pD) = [] := by rw [srt_pD]; simp
      rw [s0'] at m5
      have nn := ne_pD []
      simp only [List.map_nil, ne_eq, not_true_eq_false, decide_false] at nn
      have sm : srtD ((rows.map (·.1)).map mkD) = srtD (ks'.map mkD) := srt_same nd knd fun b => by
        rw [kmem]
        constructor
        · intro h
          obtain ⟨q, hq, rfl⟩ := List.mem_map.mp h
          exact ⟨q.2, (snd q hq).1⟩
        · rintro ⟨es, he⟩
          obtain ⟨fs, hf, _⟩ := cmp es b he
          exact List.mem_map.mpr ⟨(b, fs), hf, rfl⟩
      have kd2 : keysD (kv F rows) = (rows.map (·.1)).map mkD := by rw [kd, List.map_map]; rfl
      have sg : kSrtG [.var 4] G = some (.tmp (.ls (srtD (ks'.map mkD))), G) := by
        unfold kSrtG
        have kc : keysOfCt (.dn (kv F rows)) = some ((rows.map (·.1)).map mkD) := congrArg some kd2
        simp only [m4, kc]
        rw [if_pos (plain_mk _), sm]
      have lk : (srtD (ks'.map mkD)).length ≤ 1000000 := by
        rw [← sm]
        unfold srtD
        rw [List.length_mergeSort, List.length_map, List.length_map]
        omega
      generalize srtD (ks'.map mkD) = Z at *
      refine wS_of (fl := .rt (.pd (.tuple [.str "never", .tuple Z]))) (e := G) (by
        simp [eIf, m4, m5, nn, sg, kTupN, lsOf, lk, T3.kLst, T3.kTup, T3.datas, T3.data1, ctns, ctn, -getElem?_pos]) ?_
      exact ⟨_, _, rfl, fin_pd rfl (by simp [lG]), hQ⟩
  obtain ⟨r', as, e, h1, h2⟩ := key (fun r' as => r' = .pd r ∧ as = [.nt (F.map clD), .pd (stD c l), .pd (.int s), .pd (.int to)]) ⟨rfl, rfl⟩
  rw [e, h1, h2]
end
end L19

end
section
set_option linter.all false
set_option autoImplicit false
set_option Elab.async false
set_option maxRecDepth 100000
set_option maxHeartbeats 4000000
namespace L19
open PySem L2 T3 MM
noncomputable section
variable [TabL]
theorem nnS (t : Str) : oNeS [.str t, .str t] = some (.bool false) := by simp [oNeS]
theorem rz_both {F : List Cell} (hF : okFl F) {c : Cell} (hc : c ∈ F) {l : Ly} (hl : l ∈ lyings) : ∃ t : Str, oReprZ [.tuple [.tuple (F.map clD), stD c l]] = some (.str t) := by
  have it : itds [.tuple (F.map clD), stD c l] = true := by
    have h1 := itd_cs F
    have h2 : itd (stD c l) = true := rfl
    unfold itds
    rw [h1]
    unfold itds
    rw [h2]
    rfl
  have h9 := hF.2.1
  have rc : ∀ d ∈ F, RD 1 82 (clD d) := fun d hd => by
    have ib := hF.2.2.1 d hd
    simp only [inB, Bool.and_eq_true, decide_eq_true_eq] at ib
    exact RD.cell (by omega)
  have r1 : RD 2 2000 (.tuple (F.map clD)) := (RD.tup (p := 1) (k := 82) (n := 9) (by
    intro y hy
    obtain ⟨d, hd, rfl⟩ := List.mem_map.mp hy
    exact rc d hd) (by simpa using h9)).mono (by omega) (by omega)
  have r2 : RD 2 2000 (stD c l) := (RD.tup (p := 1) (k := 123) (n := 2) (by
    intro y hy
    simp only [List.mem_cons, List.not_mem_nil, or_false] at hy
    rcases hy with rfl | rfl
    · exact (rc c hc).mono (by omega) (by omega)
    · exact RD.ly hl) (by simp)).mono (by omega) (by omega)
  obtain ⟨t, h, _⟩ := rz_ok (real_itds _ it) ((RD.tup (p := 2) (k := 2000) (n := 2) (by
    intro y hy
    simp only [List.mem_cons, List.not_mem_nil, or_false] at hy
    rcases hy with rfl | rfl
    · exact r1
    · exact r2) (by simp)).ok (by decide) (by decide)) (oks_itds _ it)
  exact ⟨t, h⟩
theorem rz_brs {F : List Cell} (hF : okFl F) {a : Mk} {to : Int} {r : PyData} (h : Brs F a to r) : ∃ t : Str, oReprZ [r] = some (.str t) ∧ PyData.strOk t = true := by
  rcases h with ⟨ds, b, hL, hb, hlen, hmin, rfl⟩ | ⟨ks, knd, kmem, kU, kno, rfl⟩
  · exact rz_row hlen
  · rw [srt_mk]
    have pm := List.mergeSort_perm ks fun a b => decide (mkI a ≤ mkI b)
    refine rz_never hF (fun b hb => kU b (pm.mem_iff.mp hb)) ?_
    rw [pm.length_eq]
    have h1 := List.Nodup.length_le_of_subset knd (l₂ := univM F) fun b hb => kU b hb
    have uL : (univM F).length ≤ 3240 := by
      have h1 := hF.1
      have h9 := hF.2.1
      rw [univM_len]
      have : F.length = 1 ∨ F.length = 2 ∨ F.length = 3 ∨ F.length = 4 ∨ F.length = 5 ∨ F.length = 6 ∨ F.length = 7 ∨ F.length = 8 ∨ F.length = 9 := by omega
      rcases this with h | h | h | h | h | h | h | h | h <;> rw [h] <;> decide
    omega
def ToJ (s : PyData) (F : List Cell) (c : Cell) (l : Ly) (q : Pk) (sp : Int) (rest : List PyData) (e : Sl) : Prop := (∀ x ∈ rest, ∃ t : Int, (0 ≤ t ∧ t < 6 + (F.length : Int)) ∧ x = .int t) ∧ Al 0 12 e ∧ e[0]? = some (some (.pd s)) ∧ e[2]? = some (some (.mu .own (penK q))) ∧ e[4]? = some (some (.nt (F.map clD))) ∧ e[5]? = some (some (.pd (stD c l))) ∧ e[7]? = some (some (.pd (.int sp)))
theorem hmath (ns : List Int) (hn : ns.length ≤ 63) : ∃ as, f_law [.pd (.list (ns.map .int))] = some (.pd (.bool true), as) := by
  refine outerJ (n := 12) (N := 3) (M := 3) (C := 150) ns (by decide) (by decide) (by decide) (by decide) (cell_at_sp ns) pen2_sp ?_
  intro e p j hj A h0 h2 h3 hp
  generalize hTP : TurnP 12 150 (.list (ns.map .int)) p = TP
  generalize hs : PyData.list (ns.map .int) = s at *
  have fr := A.fre
  have ln := A.len
  obtain ⟨x, p0, x0, x1, hx, dx⟩ := draw2_sp p 4 (by omega) (by omega) (by omega)
  have ex := eqI x 0
  obtain ⟨i, iI, iL⟩ : ∃ i : Int, oInt1 [.bool (decide (x = 0))] = some (.int i) ∧ ∃ m : Int, 1 ≤ m ∧ m ≤ 9 ∧ oIx [.list [.int 6, .int 9], .int i] = some (.int m) := by
    by_cases z : x = 0
    · rw [decide_eq_true z]
      exact ⟨1, rfl, 9, by decide, by decide, rfl⟩
    · rw [decide_eq_false z]
      exact ⟨0, rfl, 6, by decide, by decide, rfl⟩
  obtain ⟨m, m1, m9, im⟩ := iL
  obtain ⟨M, M1, M9, iM⟩ : ∃ M : Int, 1 ≤ M ∧ M ≤ 9 ∧ oIx [.list [.int m, .int 4, .int 2], .int ((j : Nat) : Int)] = some (.int M) := by
    match j, hj with
    | 0, _ => exact ⟨m, m1, m9, rfl⟩
    | 1, _ => exact ⟨4, by decide, by decide, rfl⟩
    | 2, _ => exact ⟨2, by decide, by decide, rfl⟩
  obtain ⟨p1, F, hp1, ok, ef⟩ := drawn_floor_sp M M1 M9 p0 (by omega)
  have l0 := ok.1
  have l9 := ok.2.1
  obtain ⟨p2, c, l, hp2, hc, hl, es⟩ := drawn_stand_sp p1 F (by omega) (by omega) (by omega)
  have al := all_spots_sp F (by omega)
  obtain ⟨sp, p3, hp3, ⟨s0, s1⟩, e3⟩ := pick_spot l9 p2 (by omega)
  obtain ⟨t1, p4, hp4, b1, e4⟩ := pick_spot l9 p3 (by omega)
  obtain ⟨t2, p5, hp5, b2, e5⟩ := pick_spot l9 p4 (by omega)
  obtain ⟨tf, rf⟩ := rz_both ok hc hl
  have nf := nnS tf
  generalize hSP : (ups (6 + F.length)).map PyData.int = SP at *
  refine wS_seq ?_
  refine wS_of (fl := .nx) (e := ((e.set 2 (some (.mu .own (penK p0)))).set 2 (some (.mu .own (penK p1)))).set 4 (some (.nt (F.map clD)))) (by
    simp [free_ne_set, fr, ln, h2, h3, dx, ex, iI, im, iM, ef, kEqx, kOr, oEqS, T3.kLst, T3.datas, T3.data1, ctns, ctn, -z_free, -getElem?_pos]) ?_
  rw [nxt_nx, go]
  refine wS_gen fun E hE => ?_
  have AE : Al 0 12 E := by rw [hE]; exact ((A.set rfl).set rfl).set rfl
  have g0 : E[0]? = some (some (.pd s)) := by rw [hE]; simpa using h0
  have g2 : E[2]? = some (some (.mu .own (penK p1))) := by rw [hE]; simp [ln]
  have g4 : E[4]? = some (some (.nt (F.map clD))) := by rw [hE]; simp [ln]
  clear hE
  have lE := AE.len
  refine wS_seq ?_
  refine wS_of (fl := .nx) (e := ((E.set 2 (some (.mu .own (penK p2)))).set 5 (some (.pd (stD c l)))).set 6 (some (.mu .own (.ls SP)))) (by
    simp [sParN, setAll, g2, g4, es, al, free_ne_set, AE.fre, lE, -z_free, -getElem?_pos]) ?_
  rw [nxt_nx, go]
  refine wS_gen fun G hG => ?_
  have AG : Al 0 12 G := by rw [hG]; exact ((AE.set rfl).set rfl).set rfl
  have k0 : G[0]? = some (some (.pd s)) := by rw [hG]; simpa using g0
  have k2 : G[2]? = some (some (.mu .own (penK p2))) := by rw [hG]; simp [lE]
  have k4 : G[4]? = some (some (.nt (F.map clD))) := by rw [hG]; simpa using g4
  have k5 : G[5]? = some (some (.pd (stD c l))) := by rw [hG]; simp [lE]
  have k6 : G[6]? = some (some (.mu .own (.ls SP))) := by rw [hG]; simp [lE]
  clear hG
  have lG := AG.len
  refine wS_seq ?_
  refine wS_of (fl := .nx) (e := ((G.set 2 (some (.mu .own (penK p3)))).set 6 (some (.mu .own (.ls SP)))).set 7 (some (.pd (.int sp)))) (by
    simp [k2, k6, e3, free_ne_set, AG.fre, lG, -z_free, -getElem?_pos]) ?_
  rw [nxt_nx, go]
  refine wS_gen fun H hH => ?_
  have AH : Al 0 12 H := by rw [hH]; exact ((AG.set rfl).set rfl).set rfl
  have m0 : H[0]? = some (some (.pd s)) := by rw [hH]; simpa using k0
  have m2 : H[2]? = some (some (.mu .own (penK p3))) := by rw [hH]; simp [lG]
  have m4 : H[4]? = some (some (.nt (F.map clD))) := by rw [hH]; simpa using k4
  have m5 : H[5]? = some (some (.pd (stD c l))) := by rw [hH]; simpa using k5
  have m6 : H[6]? = some (some (.mu .own (.ls SP))) := by rw [hH]; simp [lG]
  have m7 : H[7]? = some (some (.pd (.int sp))) := by rw [hH]; simp [lG]
  clear hH
  have lH := AH.len
  refine wS_for (xs := [.int sp, .int t1, .int t2]) (lk := none) (e := (((H.set 2 (some (.mu .own (penK p4)))).set 6 (some (.mu .own (.ls SP)))).set 2 (some (.mu .own (penK p5)))).set 6 (some (.mu .own (.ls SP)))) (by
    simp [iSeq, m2, m6, m7, e4, e5, lH, T3.kLst, T3.datas, T3.data1, -getElem?_pos]) (ToJ s F c l p5 sp) ⟨by
    intro x hx
    simp only [List.mem_cons, List.not_mem_nil, or_false] at hx
    rcases hx with rfl | rfl | rfl
    · exact ⟨sp, ⟨s0, s1⟩, rfl⟩
    · exact ⟨t1, b1, rfl⟩
    · exact ⟨t2, b2, rfl⟩, (((AH.set rfl).set rfl).set rfl).set rfl, by simpa using m0, by simp [lH], by simpa using m4, by simpa using m5, by simpa using m7⟩ ?_ ?_
  · rintro x rest K ⟨hx, AK, n0, n2, n4, n5, n7⟩
    obtain ⟨t, ⟨tb0, tb1⟩, rfl⟩ := hx x (by simp)
    have ha : ((c, l, sp) : Mk) ∈ univM F := univM_mem.mpr ⟨hc, hl, s0, s1⟩
    obtain ⟨r, hr, br⟩ := bring_sp ok ((c, l, sp) : Mk) ha t ⟨tb0, tb1⟩
    have br : f_bring [.nt (F.map clD), .pd (stD c l), .pd (.int sp), .pd (.int t)] = some (.pd r, [.nt (F.map clD), .pd (stD c l), .pd (.int sp), .pd (.int t)]) := br
    have du := due_sp ok hc hl s0 s1 hr
    obtain ⟨tr, rr, so⟩ := rz_brs ok hr
    have lK := AK.len
    simp only [gW, z_gN, z_setR, AK.fre 8 (by decide) (by decide), if_true]
    rw [go]
    refine wS_gen fun N hN => ?_
    have AN : Al 0 12 N := by rw [hN]; exact AK.set rfl
    have q0 : N[0]? = some (some (.pd s)) := by rw [hN]; simpa using n0
    have q2 : N[2]? = some (some (.mu .own (penK p5))) := by rw [hN]; simpa using n2
    have q4 : N[4]? = some (some (.nt (F.map clD))) := by rw [hN]; simpa using n4
    have q5 : N[5]? = some (some (.pd (stD c l))) := by rw [hN]; simpa using n5
    have q7 : N[7]? = some (some (.pd (.int sp))) := by rw [hN]; simpa using n7
    have q8 : N[8]? = some (some (.pd (.int t))) := by rw [hN]; simp [lK]
    clear hN
    have lN := AN.len
    refine wS_seq ?_
    refine wS_of (fl := .nx) (e := (N.set 9 (some (.pd (.str tf)))).set 10 (some (.pd (.str tr)))) (by
      simp [q4, q5, q7, q8, rf, du, rr, T3.kTup, T3.datas, T3.data1, ctns, ctn, free_ne_set, AN.fre, lN, -z_free, -getElem?_pos]) ?_
    rw [nxt_nx, go]
    refine wS_gen fun O hO => ?_
    have AO : Al 0 12 O := by rw [hO]; exact (AN.set rfl).set rfl
    have r0 : O[0]? = some (some (.pd s)) := by rw [hO]; simpa using q0
    have r2 : O[2]? = some (some (.mu .own (penK p5))) := by rw [hO]; simpa using q2
    have r4 : O[4]? = some (some (.nt (F.map clD))) := by rw [hO]; simpa using q4
    have r5 : O[5]? = some (some (.pd (stD c l))) := by rw [hO]; simpa using q5
    have r7 : O[7]? = some (some (.pd (.int sp))) := by rw [hO]; simpa using q7
    have r8 : O[8]? = some (some (.pd (.int t))) := by rw [hO]; simpa using q8
    have r9 : O[9]? = some (some (.pd (.str tf))) := by rw [hO]; simp [lN]
    have r10 : O[10]? = some (some (.pd (.str tr))) := by rw [hO]; simp [lN]
    clear hO
    have lO := AO.len
    have lc := lcA (it := iRg1 (eCons (eC (.int 2)) eNil)) (g := gN 11) (f := eThen (eCons (eCall f_bring (eCons (eVar 4) (eCons (eVar 5) (eCons (eVar 7) (eCons (eVar 8) eNil))))) eNil) (kE oReprZ)) (vs := [11]) (lk := none) (env := O) (e := O) (q := fun k : Nat => .int ((k : Nat) : Int)) (as := List.range 2) (fun _ => .str tr) (rg1_up (n := 2) (by simp) (by decide)) (by decide) (fun k _ => by
      simp [lcO, wipe_at, wipe_free, wipeE_len, lO, r4, r5, r7, r8, br, rr, ctns, ctn, Kp.set, -z_free, -getElem?_pos])
    rw [z_unl] at lc
    have rg2 : ((List.range 2).map fun _ => PyData.str tr) = [.str tr, .str tr] := rfl
    rw [rg2] at lc
    have two : oNe [.list [.str tr, .str tr], .list [.str tr, .str tr]] = some (.bool false) := by
      have p : pl 1 (.list [.str tr, .str tr]) = true := by simp [pl, so]
      exact pl_ne p p (by decide) (by decide) rfl
    have rp2 : ∀ (x : PyData) (env : Sl), kMul2 [.tmp (.ls [x]), .pd (.int 2)] env = some (.tmp (.ls [x, x]), env) := fun x env => by
      simp [kMul2, kOr, kRepL, lsOf]
    have cLs : ∀ xs : List PyData, ctD (.ls xs) = .list xs := fun _ => rfl
    refine wS_seq ?_
    refine wS_of (fl := .nx) (e := O) (by
      simp [r10, lc, two, rp2, cLs, kNex, kOr, oNeS, T3.kLst, T3.datas, T3.data1, ctns, ctn, -z_lc, -getElem?_pos]) ?_
    rw [nxt_nx, go]
    refine wS_of (fl := .nx) (e := O) (by
      simp [r4, r5, r9, rf, nf, kNex, kOr, T3.kTup, T3.datas, T3.data1, ctns, ctn, -getElem?_pos]) ?_
    exact ⟨fun y hy => hx y (List.mem_cons_of_mem _ hy), AO, r0, r2, r4, r5, r7⟩
  · rintro K ⟨_, AK, n0, n2, n4, n5, n7⟩
    rw [z_unl, ← hTP]
    exact ⟨.inl rfl, AK, n0, p5, n2, by omega⟩
end
end L19

end
section
set_option Elab.async false
set_option linter.all false
set_option maxRecDepth 100000
open PySem PySem.W PyProof.Rows
set_option maxHeartbeats 0 in
open_top hd19 for PySem.Challenge.rw_tumblemarks_k19_marks_brought

end
section
set_option linter.all false
set_option autoImplicit false
set_option Elab.async false
set_option maxRecDepth 100000
set_option maxHeartbeats 4000000
namespace L19
open PySem L2 T3
noncomputable section
def notTabO (o : Obj) : Bool := match o.data with
  | .fields vs => !vs.isEmpty
  | _ => true
theorem lookup_memA {α β : Type} [BEq α] [LawfulBEq α] : ∀ {l : List (α × β)} {z : α} {x : β}, l.lookup z = some x → (z, x) ∈ l
  | [], _, _, h => by simp at h
  | (k, v) :: r, z, x, h => by
    rw [List.lookup_cons] at h
    by_cases e : z == k
    · simp [e] at h
      have := eq_of_beq e
      subst this; subst h
      exact List.mem_cons_self
    · simp [e] at h
      exact List.mem_cons_of_mem _ (lookup_memA h)
theorem no_tab {K : PySem.W.Frag} {h : Heap} {P : Addr} (X : K.In h) (kT : (K.all fun e => notTabO e.2) = true) (hP : h.get? P = some { cls := .none, data := .fields #[] }) : K.lookup P = none := by
  cases e : K.lookup P with
  | none => rfl
  | some o =>
    have h1 := X _ _ e
    rw [hP] at h1
    cases h1
    have h2 := List.all_eq_true.mp kT _ (lookup_memA e)
    cases h2
theorem fin {P : Program} {w : World} {K : PySem.W.Frag} {h : Heap} {mg : Str → Option Value} {fa : Addr} (X : K.In h) (G : h.Ns mainGlobals mg) (hfa : mg "law" = some (.ref fa)) (TA : TabAt mg "marks_reached" h)
    (hF : ∀ ns : List Int, ns.length ≤ 63 → ∃ as, f_law [.pd (.list (ns.map .int))] = some (.pd (.bool true), as))
    
    {f0 : Addr} {oc0 kV0 dc0 pm0 cd0 ct0 : Value} {od0 an0 : Option Addr} {sl0 : Array (Option Value)}
    (a0 : PySem.W.nsIn K mainGlobals "is_whole" = some (some (.ref f0))) (l0 : K.lookup f0 = some ⟨oc0, od0, .func (PySem.W.fnOf "is_whole" "is_whole" (defArgs s_is_whole) (defBody s_is_whole) (defScope s_is_whole) .none kV0 dc0 pm0 an0 cd0 ct0), sl0⟩) (c0 : PySem.W.codeIn K cd0 "is_whole" = true) (k0 : PySem.W.keepIn K (.ref f0) = true)
    {f1 : Addr} {oc1 kV1 dc1 pm1 cd1 ct1 : Value} {od1 an1 : Option Addr} {sl1 : Array (Option Value)}
    (a1 : PySem.W.nsIn K mainGlobals "is_cell" = some (some (.ref f1))) (l1 : K.lookup f1 = some ⟨oc1, od1, .func (PySem.W.fnOf "is_cell" "is_cell" (defArgs s_is_cell) (defBody s_is_cell) (defScope s_is_cell) .none kV1 dc1 pm1 an1 cd1 ct1), sl1⟩) (c1 : PySem.W.codeIn K cd1 "is_cell" = true) (k1 : PySem.W.keepIn K (.ref f1) = true)
    {f2 : Addr} {oc2 kV2 dc2 pm2 cd2 ct2 : Value} {od2 an2 : Option Addr} {sl2 : Array (Option Value)}
    (a2 : PySem.W.nsIn K mainGlobals "is_rising" = some (some (.ref f2))) (l2 : K.lookup f2 = some ⟨oc2, od2, .func (PySem.W.fnOf "is_rising" "is_rising" (defArgs s_is_rising) (defBody s_is_rising) (defScope s_is_rising) .none kV2 dc2 pm2 an2 cd2 ct2), sl2⟩) (c2 : PySem.W.codeIn K cd2 "is_rising" = true) (k2 : PySem.W.keepIn K (.ref f2) = true)
    {f3 : Addr} {oc3 kV3 dc3 pm3 cd3 ct3 : Value} {od3 an3 : Option Addr} {sl3 : Array (Option Value)}
    (a3 : PySem.W.nsIn K mainGlobals "is_floor" = some (some (.ref f3))) (l3 : K.lookup f3 = some ⟨oc3, od3, .func (PySem.W.fnOf "is_floor" "is_floor" (defArgs s_is_floor) (defBody s_is_floor) (defScope s_is_floor) .none kV3 dc3 pm3 an3 cd3 ct3), sl3⟩) (c3 : PySem.W.codeIn K cd3 "is_floor" = true) (k3 : PySem.W.keepIn K (.ref f3) = true)
    {f4 : Addr} {oc4 kV4 dc4 pm4 cd4 ct4 : Value} {od4 an4 : Option Addr} {sl4 : Array (Option Value)}
    (a4 : PySem.W.nsIn K mainGlobals "is_cell_of" = some (some (.ref f4))) (l4 : K.lookup f4 = some ⟨oc4, od4, .func (PySem.W.fnOf "is_cell_of" "is_cell_of" (defArgs s_is_cell_of) (defBody s_is_cell_of) (defScope s_is_cell_of) .none kV4 dc4 pm4 an4 cd4 ct4), sl4⟩) (c4 : PySem.W.codeIn K cd4 "is_cell_of" = true) (k4 : PySem.W.keepIn K (.ref f4) = true)
    {f5 : Addr} {oc5 kV5 dc5 pm5 cd5 ct5 : Value} {od5 an5 : Option Addr} {sl5 : Array (Option Value)}
    (a5 : PySem.W.nsIn K mainGlobals "is_lying" = some (some (.ref f5))) (l5 : K.lookup f5 = some ⟨oc5, od5, .func (PySem.W.fnOf "is_lying" "is_lying" (defArgs s_is_lying) (defBody s_is_lying) (defScope s_is_lying) .none kV5 dc5 pm5 an5 cd5 ct5), sl5⟩) (c5 : PySem.W.codeIn K cd5 "is_lying" = true) (k5 : PySem.W.keepIn K (.ref f5) = true)
    {f6 : Addr} {oc6 kV6 dc6 pm6 cd6 ct6 : Value} {od6 an6 : Option Addr} {sl6 : Array (Option Value)}
    (a6 : PySem.W.nsIn K mainGlobals "is_stand" = some (some (.ref f6))) (l6 : K.lookup f6 = some ⟨oc6, od6, .func (PySem.W.fnOf "is_stand" "is_stand" (defArgs s_is_stand) (defBody s_is_stand) (defScope s_is_stand) .none kV6 dc6 pm6 an6 cd6 ct6), sl6⟩) (c6 : PySem.W.codeIn K cd6 "is_stand" = true) (k6 : PySem.W.keepIn K (.ref f6) = true)
    {f7 : Addr} {oc7 kV7 dc7 pm7 cd7 ct7 : Value} {od7 an7 : Option Addr} {sl7 : Array (Option Value)}
    (a7 : PySem.W.nsIn K mainGlobals "need_floor" = some (some (.ref f7))) (l7 : K.lookup f7 = some ⟨oc7, od7, .func (PySem.W.fnOf "need_floor" "need_floor" (defArgs s_need_floor) (defBody s_need_floor) (defScope s_need_floor) .none kV7 dc7 pm7 an7 cd7 ct7), sl7⟩) (c7 : PySem.W.codeIn K cd7 "need_floor" = true) (k7 : PySem.W.keepIn K (.ref f7) = true)
    {f8 : Addr} {oc8 kV8 dc8 pm8 cd8 ct8 : Value} {od8 an8 : Option Addr} {sl8 : Array (Option Value)}
    (a8 : PySem.W.nsIn K mainGlobals "need_stand" = some (some (.ref f8))) (l8 : K.lookup f8 = some ⟨oc8, od8, .func (PySem.W.fnOf "need_stand" "need_stand" (defArgs s_need_stand) (defBody s_need_stand) (defScope s_need_stand) .none kV8 dc8 pm8 an8 cd8 ct8), sl8⟩) (c8 : PySem.W.codeIn K cd8 "need_stand" = true) (k8 : PySem.W.keepIn K (.ref f8) = true)
    {f9 : Addr} {oc9 kV9 dc9 pm9 cd9 ct9 : Value} {od9 an9 : Option Addr} {sl9 : Array (Option Value)}
    (a9 : PySem.W.nsIn K mainGlobals "rolled_cell" = some (some (.ref f9))) (l9 : K.lookup f9 = some ⟨oc9, od9, .func (PySem.W.fnOf "rolled_cell" "rolled_cell" (defArgs s_rolled_cell) (defBody s_rolled_cell) (defScope s_rolled_cell) .none kV9 dc9 pm9 an9 cd9 ct9), sl9⟩) (c9 : PySem.W.codeIn K cd9 "rolled_cell" = true) (k9 : PySem.W.keepIn K (.ref f9) = true)
    {f10 : Addr} {oc10 kV10 dc10 pm10 cd10 ct10 : Value} {od10 an10 : Option Addr} {sl10 : Array (Option Value)}
    (a10 : PySem.W.nsIn K mainGlobals "rolled_lying" = some (some (.ref f10))) (l10 : K.lookup f10 = some ⟨oc10, od10, .func (PySem.W.fnOf "rolled_lying" "rolled_lying" (defArgs s_rolled_lying) (defBody s_rolled_lying) (defScope s_rolled_lying) .none kV10 dc10 pm10 an10 cd10 ct10), sl10⟩) (c10 : PySem.W.codeIn K cd10 "rolled_lying" = true) (k10 : PySem.W.keepIn K (.ref f10) = true)
    {f11 : Addr} {oc11 kV11 dc11 pm11 cd11 ct11 : Value} {od11 an11 : Option Addr} {sl11 : Array (Option Value)}
    (a11 : PySem.W.nsIn K mainGlobals "rolled_stand" = some (some (.ref f11))) (l11 : K.lookup f11 = some ⟨oc11, od11, .func (PySem.W.fnOf "rolled_stand" "rolled_stand" (defArgs s_rolled_stand) (defBody s_rolled_stand) (defScope s_rolled_stand) .none kV11 dc11 pm11 an11 cd11 ct11), sl11⟩) (c11 : PySem.W.codeIn K cd11 "rolled_stand" = true) (k11 : PySem.W.keepIn K (.ref f11) = true)
    {f12 : Addr} {oc12 kV12 dc12 pm12 cd12 ct12 : Value} {od12 an12 : Option Addr} {sl12 : Array (Option Value)}
    (a12 : PySem.W.nsIn K mainGlobals "let_letters" = some (some (.ref f12))) (l12 : K.lookup f12 = some ⟨oc12, od12, .func (PySem.W.fnOf "let_letters" "let_letters" (defArgs s_let_letters) (defBody s_let_letters) (defScope s_let_letters) .none kV12 dc12 pm12 an12 cd12 ct12), sl12⟩) (c12 : PySem.W.codeIn K cd12 "let_letters" = true) (k12 : PySem.W.keepIn K (.ref f12) = true)
    {f13 : Addr} {oc13 kV13 dc13 pm13 cd13 ct13 : Value} {od13 an13 : Option Addr} {sl13 : Array (Option Value)}
    (a13 : PySem.W.nsIn K mainGlobals "spot_of_cell" = some (some (.ref f13))) (l13 : K.lookup f13 = some ⟨oc13, od13, .func (PySem.W.fnOf "spot_of_cell" "spot_of_cell" (defArgs s_spot_of_cell) (defBody s_spot_of_cell) (defScope s_spot_of_cell) .none kV13 dc13 pm13 an13 cd13 ct13), sl13⟩) (c13 : PySem.W.codeIn K cd13 "spot_of_cell" = true) (k13 : PySem.W.keepIn K (.ref f13) = true)
    {f14 : Addr} {oc14 kV14 dc14 pm14 cd14 ct14 : Value} {od14 an14 : Option Addr} {sl14 : Array (Option Value)}
    (a14 : PySem.W.nsIn K mainGlobals "is_spot" = some (some (.ref f14))) (l14 : K.lookup f14 = some ⟨oc14, od14, .func (PySem.W.fnOf "is_spot" "is_spot" (defArgs s_is_spot) (defBody s_is_spot) (defScope s_is_spot) .none kV14 dc14 pm14 an14 cd14 ct14), sl14⟩) (c14 : PySem.W.codeIn K cd14 "is_spot" = true) (k14 : PySem.W.keepIn K (.ref f14) = true)
    {f15 : Addr} {oc15 kV15 dc15 pm15 cd15 ct15 : Value} {od15 an15 : Option Addr} {sl15 : Array (Option Value)}
    (a15 : PySem.W.nsIn K mainGlobals "need_spot" = some (some (.ref f15))) (l15 : K.lookup f15 = some ⟨oc15, od15, .func (PySem.W.fnOf "need_spot" "need_spot" (defArgs s_need_spot) (defBody s_need_spot) (defScope s_need_spot) .none kV15 dc15 pm15 an15 cd15 ct15), sl15⟩) (c15 : PySem.W.codeIn K cd15 "need_spot" = true) (k15 : PySem.W.keepIn K (.ref f15) = true)
    {f16 : Addr} {oc16 kV16 dc16 pm16 cd16 ct16 : Value} {od16 an16 : Option Addr} {sl16 : Array (Option Value)}
    (a16 : PySem.W.nsIn K mainGlobals "trade_at" = some (some (.ref f16))) (l16 : K.lookup f16 = some ⟨oc16, od16, .func (PySem.W.fnOf "trade_at" "trade_at" (defArgs s_trade_at) (defBody s_trade_at) (defScope s_trade_at) .none kV16 dc16 pm16 an16 cd16 ct16), sl16⟩) (c16 : PySem.W.codeIn K cd16 "trade_at" = true) (k16 : PySem.W.keepIn K (.ref f16) = true)
    {f17 : Addr} {oc17 kV17 dc17 pm17 cd17 ct17 : Value} {od17 an17 : Option Addr} {sl17 : Array (Option Value)}
    (a17 : PySem.W.nsIn K mainGlobals "traded_spot" = some (some (.ref f17))) (l17 : K.lookup f17 = some ⟨oc17, od17, .func (PySem.W.fnOf "traded_spot" "traded_spot" (defArgs s_traded_spot) (defBody s_traded_spot) (defScope s_traded_spot) .none kV17 dc17 pm17 an17 cd17 ct17), sl17⟩) (c17 : PySem.W.codeIn K cd17 "traded_spot" = true) (k17 : PySem.W.keepIn K (.ref f17) = true)
    {f18 : Addr} {oc18 kV18 dc18 pm18 cd18 ct18 : Value} {od18 an18 : Option Addr} {sl18 : Array (Option Value)}
    (a18 : PySem.W.nsIn K mainGlobals "rolled_mark" = some (some (.ref f18))) (l18 : K.lookup f18 = some ⟨oc18, od18, .func (PySem.W.fnOf "rolled_mark" "rolled_mark" (defArgs s_rolled_mark) (defBody s_rolled_mark) (defScope s_rolled_mark) .none kV18 dc18 pm18 an18 cd18 ct18), sl18⟩) (c18 : PySem.W.codeIn K cd18 "rolled_mark" = true) (k18 : PySem.W.keepIn K (.ref f18) = true)
    {f19 : Addr} {oc19 kV19 dc19 pm19 cd19 ct19 : Value} {od19 an19 : Option Addr} {sl19 : Array (Option Value)}
    (a19 : PySem.W.nsIn K mainGlobals "marks_reached" = some (some (.ref f19))) (l19 : K.lookup f19 = some ⟨oc19, od19, .func (PySem.W.fnOf "marks_reached" "marks_reached" (defArgs s_marks_reached) (defBody s_marks_reached) (defScope s_marks_reached) .none kV19 dc19 pm19 an19 cd19 ct19), sl19⟩) (c19 : PySem.W.codeIn K cd19 "marks_reached" = true) (k19 : PySem.W.keepIn K (.ref f19) = true)
    {f20 : Addr} {oc20 kV20 dc20 pm20 cd20 ct20 : Value} {od20 an20 : Option Addr} {sl20 : Array (Option Value)}
    (a20 : PySem.W.nsIn K mainGlobals "need_wish" = some (some (.ref f20))) (l20 : K.lookup f20 = some ⟨oc20, od20, .func (PySem.W.fnOf "need_wish" "need_wish" (defArgs s_need_wish) (defBody s_need_wish) (defScope s_need_wish) .none kV20 dc20 pm20 an20 cd20 ct20), sl20⟩) (c20 : PySem.W.codeIn K cd20 "need_wish" = true) (k20 : PySem.W.keepIn K (.ref f20) = true)
    {f21 : Addr} {oc21 kV21 dc21 pm21 cd21 ct21 : Value} {od21 an21 : Option Addr} {sl21 : Array (Option Value)}
    (a21 : PySem.W.nsIn K mainGlobals "bring" = some (some (.ref f21))) (l21 : K.lookup f21 = some ⟨oc21, od21, .func (PySem.W.fnOf "bring" "bring" (defArgs s_bring) (defBody s_bring) (defScope s_bring) .none kV21 dc21 pm21 an21 cd21 ct21), sl21⟩) (c21 : PySem.W.codeIn K cd21 "bring" = true) (k21 : PySem.W.keepIn K (.ref f21) = true)
    {f22 : Addr} {oc22 kV22 dc22 pm22 cd22 ct22 : Value} {od22 an22 : Option Addr} {sl22 : Array (Option Value)}
    (a22 : PySem.W.nsIn K mainGlobals "_law_cell_at" = some (some (.ref f22))) (l22 : K.lookup f22 = some ⟨oc22, od22, .func (PySem.W.fnOf "_law_cell_at" "_law_cell_at" (defArgs s__law_cell_at) (defBody s__law_cell_at) (defScope s__law_cell_at) .none kV22 dc22 pm22 an22 cd22 ct22), sl22⟩) (c22 : PySem.W.codeIn K cd22 "_law_cell_at" = true) (k22 : PySem.W.keepIn K (.ref f22) = true)
    {f23 : Addr} {oc23 kV23 dc23 pm23 cd23 ct23 : Value} {od23 an23 : Option Addr} {sl23 : Array (Option Value)}
    (a23 : PySem.W.nsIn K mainGlobals "_law_pen" = some (some (.ref f23))) (l23 : K.lookup f23 = some ⟨oc23, od23, .func (PySem.W.fnOf "_law_pen" "_law_pen" (defArgs s__law_pen) (defBody s__law_pen) (defScope s__law_pen) .none kV23 dc23 pm23 an23 cd23 ct23), sl23⟩) (c23 : PySem.W.codeIn K cd23 "_law_pen" = true) (k23 : PySem.W.keepIn K (.ref f23) = true)
    {f24 : Addr} {oc24 kV24 dc24 pm24 cd24 ct24 : Value} {od24 an24 : Option Addr} {sl24 : Array (Option Value)}
    (a24 : PySem.W.nsIn K mainGlobals "_law_draw" = some (some (.ref f24))) (l24 : K.lookup f24 = some ⟨oc24, od24, .func (PySem.W.fnOf "_law_draw" "_law_draw" (defArgs s__law_draw) (defBody s__law_draw) (defScope s__law_draw) .none kV24 dc24 pm24 an24 cd24 ct24), sl24⟩) (c24 : PySem.W.codeIn K cd24 "_law_draw" = true) (k24 : PySem.W.keepIn K (.ref f24) = true)
    {f25 : Addr} {oc25 kV25 dc25 pm25 cd25 ct25 : Value} {od25 an25 : Option Addr} {sl25 : Array (Option Value)}
    (a25 : PySem.W.nsIn K mainGlobals "_law_pick" = some (some (.ref f25))) (l25 : K.lookup f25 = some ⟨oc25, od25, .func (PySem.W.fnOf "_law_pick" "_law_pick" (defArgs s__law_pick) (defBody s__law_pick) (defScope s__law_pick) .none kV25 dc25 pm25 an25 cd25 ct25), sl25⟩) (c25 : PySem.W.codeIn K cd25 "_law_pick" = true) (k25 : PySem.W.keepIn K (.ref f25) = true)
    {f26 : Addr} {oc26 kV26 dc26 pm26 cd26 ct26 : Value} {od26 an26 : Option Addr} {sl26 : Array (Option Value)}
    (a26 : PySem.W.nsIn K mainGlobals "_law_beside" = some (some (.ref f26))) (l26 : K.lookup f26 = some ⟨oc26, od26, .func (PySem.W.fnOf "_law_beside" "_law_beside" (defArgs s__law_beside) (defBody s__law_beside) (defScope s__law_beside) .none kV26 dc26 pm26 an26 cd26 ct26), sl26⟩) (c26 : PySem.W.codeIn K cd26 "_law_beside" = true) (k26 : PySem.W.keepIn K (.ref f26) = true)
    {f27 : Addr} {oc27 kV27 dc27 pm27 cd27 ct27 : Value} {od27 an27 : Option Addr} {sl27 : Array (Option Value)}
    (a27 : PySem.W.nsIn K mainGlobals "_law_tip" = some (some (.ref f27))) (l27 : K.lookup f27 = some ⟨oc27, od27, .func (PySem.W.fnOf "_law_tip" "_law_tip" (defArgs s__law_tip) (defBody s__law_tip) (defScope s__law_tip) .none kV27 dc27 pm27 an27 cd27 ct27), sl27⟩) (c27 : PySem.W.codeIn K cd27 "_law_tip" = true) (k27 : PySem.W.keepIn K (.ref f27) = true)
    {f28 : Addr} {oc28 kV28 dc28 pm28 cd28 ct28 : Value} {od28 an28 : Option Addr} {sl28 : Array (Option Value)}
    (a28 : PySem.W.nsIn K mainGlobals "_law_drawn_floor" = some (some (.ref f28))) (l28 : K.lookup f28 = some ⟨oc28, od28, .func (PySem.W.fnOf "_law_drawn_floor" "_law_drawn_floor" (defArgs s__law_drawn_floor) (defBody s__law_drawn_floor) (defScope s__law_drawn_floor) .none kV28 dc28 pm28 an28 cd28 ct28), sl28⟩) (c28 : PySem.W.codeIn K cd28 "_law_drawn_floor" = true) (k28 : PySem.W.keepIn K (.ref f28) = true)
    {f29 : Addr} {oc29 kV29 dc29 pm29 cd29 ct29 : Value} {od29 an29 : Option Addr} {sl29 : Array (Option Value)}
    (a29 : PySem.W.nsIn K mainGlobals "_law_drawn_stand" = some (some (.ref f29))) (l29 : K.lookup f29 = some ⟨oc29, od29, .func (PySem.W.fnOf "_law_drawn_stand" "_law_drawn_stand" (defArgs s__law_drawn_stand) (defBody s__law_drawn_stand) (defScope s__law_drawn_stand) .none kV29 dc29 pm29 an29 cd29 ct29), sl29⟩) (c29 : PySem.W.codeIn K cd29 "_law_drawn_stand" = true) (k29 : PySem.W.keepIn K (.ref f29) = true)
    {f30 : Addr} {oc30 kV30 dc30 pm30 cd30 ct30 : Value} {od30 an30 : Option Addr} {sl30 : Array (Option Value)}
    (a30 : PySem.W.nsIn K mainGlobals "_law_free" = some (some (.ref f30))) (l30 : K.lookup f30 = some ⟨oc30, od30, .func (PySem.W.fnOf "_law_free" "_law_free" (defArgs s__law_free) (defBody s__law_free) (defScope s__law_free) .none kV30 dc30 pm30 an30 cd30 ct30), sl30⟩) (c30 : PySem.W.codeIn K cd30 "_law_free" = true) (k30 : PySem.W.keepIn K (.ref f30) = true)
    {f31 : Addr} {oc31 kV31 dc31 pm31 cd31 ct31 : Value} {od31 an31 : Option Addr} {sl31 : Array (Option Value)}
    (a31 : PySem.W.nsIn K mainGlobals "_law_rolled_on" = some (some (.ref f31))) (l31 : K.lookup f31 = some ⟨oc31, od31, .func (PySem.W.fnOf "_law_rolled_on" "_law_rolled_on" (defArgs s__law_rolled_on) (defBody s__law_rolled_on) (defScope s__law_rolled_on) .none kV31 dc31 pm31 an31 cd31 ct31), sl31⟩) (c31 : PySem.W.codeIn K cd31 "_law_rolled_on" = true) (k31 : PySem.W.keepIn K (.ref f31) = true)
    {f32 : Addr} {oc32 kV32 dc32 pm32 cd32 ct32 : Value} {od32 an32 : Option Addr} {sl32 : Array (Option Value)}
    (a32 : PySem.W.nsIn K mainGlobals "_law_layers" = some (some (.ref f32))) (l32 : K.lookup f32 = some ⟨oc32, od32, .func (PySem.W.fnOf "_law_layers" "_law_layers" (defArgs s__law_layers) (defBody s__law_layers) (defScope s__law_layers) .none kV32 dc32 pm32 an32 cd32 ct32), sl32⟩) (c32 : PySem.W.codeIn K cd32 "_law_layers" = true) (k32 : PySem.W.keepIn K (.ref f32) = true)
    {f33 : Addr} {oc33 kV33 dc33 pm33 cd33 ct33 : Value} {od33 an33 : Option Addr} {sl33 : Array (Option Value)}
    (a33 : PySem.W.nsIn K mainGlobals "_law_due" = some (some (.ref f33))) (l33 : K.lookup f33 = some ⟨oc33, od33, .func (PySem.W.fnOf "_law_due" "_law_due" (defArgs s__law_due) (defBody s__law_due) (defScope s__law_due) .none kV33 dc33 pm33 an33 cd33 ct33), sl33⟩) (c33 : PySem.W.codeIn K cd33 "_law_due" = true) (k33 : PySem.W.keepIn K (.ref f33) = true)
    {f34 : Addr} {oc34 kV34 dc34 pm34 cd34 ct34 : Value} {od34 an34 : Option Addr} {sl34 : Array (Option Value)}
    (a34 : PySem.W.nsIn K mainGlobals "_law_all_spots" = some (some (.ref f34))) (l34 : K.lookup f34 = some ⟨oc34, od34, .func (PySem.W.fnOf "_law_all_spots" "_law_all_spots" (defArgs s__law_all_spots) (defBody s__law_all_spots) (defScope s__law_all_spots) .none kV34 dc34 pm34 an34 cd34 ct34), sl34⟩) (c34 : PySem.W.codeIn K cd34 "_law_all_spots" = true) (k34 : PySem.W.keepIn K (.ref f34) = true)
    {f35 : Addr} {oc35 kV35 dc35 pm35 cd35 ct35 : Value} {od35 an35 : Option Addr} {sl35 : Array (Option Value)}
    (a35 : PySem.W.nsIn K mainGlobals "law" = some (some (.ref f35))) (l35 : K.lookup f35 = some ⟨oc35, od35, .func (PySem.W.fnOf "law" "law" (defArgs s_law) (defBody s_law) (defScope s_law) .none kV35 dc35 pm35 an35 cd35 ct35), sl35⟩) (c35 : PySem.W.codeIn K cd35 "law" = true) (k35 : PySem.W.keepIn K (.ref f35) = true)
    {f36 : Addr} {oc36 kV36 dc36 pm36 cd36 ct36 : Value} {od36 an36 : Option Addr} {sl36 : Array (Option Value)} {T36 : Addr} {oT36 : Obj}
    (a36 : PySem.W.nsIn K mainGlobals "reached" = some (some (.ref f36))) (l36 : K.lookup f36 = some ⟨oc36, od36, .func (PySem.W.fnOf "reached" "reached" (defArgs s_reached) (defBody s_reached) (defScope s_reached) (.ref T36) kV36 dc36 pm36 an36 cd36 ct36), sl36⟩) (t36 : K.lookup T36 = some oT36) (db_u36 : isNon1 oT36 = true) (c36 : PySem.W.codeIn K cd36 "reached" = true) (k36 : PySem.W.keepIn K (.ref f36) = true)
    (z_isinstance : PySem.W.nsIn K mainGlobals "isinstance" = some none)
    (z_bool : PySem.W.nsIn K mainGlobals "bool" = some none)
    (z_int : PySem.W.nsIn K mainGlobals "int" = some none)
    (z_len : PySem.W.nsIn K mainGlobals "len" = some none)
    (z_tuple : PySem.W.nsIn K mainGlobals "tuple" = some none)
    (z_all : PySem.W.nsIn K mainGlobals "all" = some none)
    (z_zip : PySem.W.nsIn K mainGlobals "zip" = some none)
    (z_sorted : PySem.W.nsIn K mainGlobals "sorted" = some none)
    (z_max : PySem.W.nsIn K mainGlobals "max" = some none)
    (z_range : PySem.W.nsIn K mainGlobals "range" = some none)
    (z_min : PySem.W.nsIn K mainGlobals "min" = some none)
    (z_list : PySem.W.nsIn K mainGlobals "list" = some none)
    (z_repr : PySem.W.nsIn K mainGlobals "repr" = some none)
    {u_LAST_LINE : Value} (ca_LAST_LINE : PySem.W.nsIn K mainGlobals "LAST_LINE" = some (some u_LAST_LINE)) (cb_LAST_LINE : kvB K 9 u_LAST_LINE v_LAST_LINE = true)
    {u_MOST_CELLS : Value} (ca_MOST_CELLS : PySem.W.nsIn K mainGlobals "MOST_CELLS" = some (some u_MOST_CELLS)) (cb_MOST_CELLS : kvB K 9 u_MOST_CELLS v_MOST_CELLS = true)
    {u_LYINGS : Value} (ca_LYINGS : PySem.W.nsIn K mainGlobals "LYINGS" = some (some u_LYINGS)) (cb_LYINGS : kvB K 9 u_LYINGS v_LYINGS = true)
    {u_OPPOSITE_SUM : Value} (ca_OPPOSITE_SUM : PySem.W.nsIn K mainGlobals "OPPOSITE_SUM" = some (some u_OPPOSITE_SUM)) (cb_OPPOSITE_SUM : kvB K 9 u_OPPOSITE_SUM v_OPPOSITE_SUM = true)
    {u_LETTERS : Value} (ca_LETTERS : PySem.W.nsIn K mainGlobals "LETTERS" = some (some u_LETTERS)) (cb_LETTERS : kvB K 9 u_LETTERS v_LETTERS = true)
    {u_FACES : Value} (ca_FACES : PySem.W.nsIn K mainGlobals "FACES" = some (some u_FACES)) (cb_FACES : kvB K 9 u_FACES v_FACES = true)
    {d_STEPS : Addr} {es_STEPS : Array DictEntry} {n_STEPS : Nat} (da_STEPS : PySem.W.nsIn K mainGlobals "STEPS" = some (some (.ref d_STEPS))) (dl_STEPS : K.lookup d_STEPS = some ⟨.type "dict", none, .dict es_STEPS n_STEPS, #[]⟩) (dk_STEPS : PySem.W.KeysLit w.params es_STEPS.toList) (db_STEPS : kdB K d_STEPS v_STEPS = true)
    (db_kT : (K.all fun e => notTabO e.2) = true) :
    ∃ (fd : FuncData) (cc t : Addr) (sp : Sp), h.get? t = some emT ∧ K.lookup t = none ∧ PySem.W.CodeHd h cc t ∧ (∀ (s : Shared) (u : Value), BindsTo s fd ⟨[u], []⟩ [("_law_script", u)]) ∧
    (∀ (H : Hp) (a : Addr) (ns : List Int), ns.length ≤ 63 → H t = some (.tbl #[]) → SqL K H a (ns.map V.int) → sp [.ref a] H (fun v _ => v = .bl true) fun _ _ _ => False) ∧
    ∀ base : Heap, K.In base → base.Ns mainGlobals mg → LamX.TabB base mg cc t → FnG P w K mg base 8 fa fd ["_law_script"] sp := by
  have e := hfa.symm.trans (PySem.W.mg_of X G a35)
  cases e
  obtain ⟨fT, oT, fdT, cT, PT, t1, t2, t3, t4, t5, t6, ocT, vT, t7, t8, t9⟩ := TA
  have e1 := t1.symm.trans (PySem.W.mg_of X G a19)
  cases e1
  have e2 := t2.symm.trans (X _ _ l19)
  cases e2
  cases t3
  have e3 : cd19 = .ref cT := t4
  subst e3
  have nM := no_tab X db_kT t6
  letI : TabL := ⟨[(PT, fun _ _ => ("marks_reached.<locals>.<lambda>" : Str))]⟩
  have Z_isinstance := PySem.W.mg_none_of X G z_isinstance
  have Z_bool := PySem.W.mg_none_of X G z_bool
  have Z_int := PySem.W.mg_none_of X G z_int
  have Z_len := PySem.W.mg_none_of X G z_len
  have Z_tuple := PySem.W.mg_none_of X G z_tuple
  have Z_all := PySem.W.mg_none_of X G z_all
  have Z_zip := PySem.W.mg_none_of X G z_zip
  have Z_sorted := PySem.W.mg_none_of X G z_sorted
  have Z_max := PySem.W.mg_none_of X G z_max
  have Z_range := PySem.W.mg_none_of X G z_range
  have Z_min := PySem.W.mg_none_of X G z_min
  have Z_list := PySem.W.mg_none_of X G z_list
  have Z_repr := PySem.W.mg_none_of X G z_repr
  have C_LAST_LINE : KC K mg "LAST_LINE" v_LAST_LINE := kc_by X G ca_LAST_LINE cb_LAST_LINE
  have C_MOST_CELLS : KC K mg "MOST_CELLS" v_MOST_CELLS := kc_by X G ca_MOST_CELLS cb_MOST_CELLS
  have C_LYINGS : KC K mg "LYINGS" v_LYINGS := kc_by X G ca_LYINGS cb_LYINGS
  have C_OPPOSITE_SUM : KC K mg "OPPOSITE_SUM" v_OPPOSITE_SUM := kc_by X G ca_OPPOSITE_SUM cb_OPPOSITE_SUM
  have C_LETTERS : KC K mg "LETTERS" v_LETTERS := kc_by X G ca_LETTERS cb_LETTERS
  have C_FACES : KC K mg "FACES" v_FACES := kc_by X G ca_FACES cb_FACES
  have D_STEPS : KD K w mg "STEPS" v_STEPS := kd_mk X G da_STEPS dl_STEPS dk_STEPS db_STEPS
  have A_is_whole : At0 K mg "is_whole" s_is_whole ["thing", "most"] := at0_mk X G a0 l0 c0 k0 fun _ _ _ _ _ _ us hl => match us, hl with | [_, _], _ => rfl
  have A_is_cell : At0 K mg "is_cell" s_is_cell ["thing"] := at0_mk X G a1 l1 c1 k1 fun _ _ _ _ _ _ us hl => match us, hl with | [_], _ => rfl
  have A_is_rising : At0 K mg "is_rising" s_is_rising ["things"] := at0_mk X G a2 l2 c2 k2 fun _ _ _ _ _ _ us hl => match us, hl with | [_], _ => rfl
  have A_is_floor : At0 K mg "is_floor" s_is_floor ["thing"] := at0_mk X G a3 l3 c3 k3 fun _ _ _ _ _ _ us hl => match us, hl with | [_], _ => rfl
  have A_is_cell_of : At0 K mg "is_cell_of" s_is_cell_of ["floor", "thing"] := at0_mk X G a4 l4 c4 k4 fun _ _ _ _ _ _ us hl => match us, hl with | [_, _], _ => rfl
  have A_is_lying : At0 K mg "is_lying" s_is_lying ["thing"] := at0_mk X G a5 l5 c5 k5 fun _ _ _ _ _ _ us hl => match us, hl with | [_], _ => rfl
  have A_is_stand : At0 K mg "is_stand" s_is_stand ["floor", "thing"] := at0_mk X G a6 l6 c6 k6 fun _ _ _ _ _ _ us hl => match us, hl with | [_, _], _ => rfl
  have A_need_floor : At0 K mg "need_floor" s_need_floor ["floor"] := at0_mk X G a7 l7 c7 k7 fun _ _ _ _ _ _ us hl => match us, hl with | [_], _ => rfl
  have A_need_stand : At0 K mg "need_stand" s_need_stand ["floor", "stand"] := at0_mk X G a8 l8 c8 k8 fun _ _ _ _ _ _ us hl => match us, hl with | [_, _], _ => rfl
  have A_rolled_cell : At0 K mg "rolled_cell" s_rolled_cell ["cell", "letter"] := at0_mk X G a9 l9 c9 k9 fun _ _ _ _ _ _ us hl => match us, hl with | [_, _], _ => rfl
  have A_rolled_lying : At0 K mg "rolled_lying" s_rolled_lying ["lying", "letter"] := at0_mk X G a10 l10 c10 k10 fun _ _ _ _ _ _ us hl => match us, hl with | [_, _], _ => rfl
  have A_rolled_stand : At0 K mg "rolled_stand" s_rolled_stand ["stand", "letter"] := at0_mk X G a11 l11 c11 k11 fun _ _ _ _ _ _ us hl => match us, hl with | [_, _], _ => rfl
  have A_let_letters : At0 K mg "let_letters" s_let_letters ["floor", "cell"] := at0_mk X G a12 l12 c12 k12 fun _ _ _ _ _ _ us hl => match us, hl with | [_, _], _ => rfl
  have A_spot_of_cell : At0 K mg "spot_of_cell" s_spot_of_cell ["floor", "cell"] := at0_mk X G a13 l13 c13 k13 fun _ _ _ _ _ _ us hl => match us, hl with | [_, _], _ => rfl
  have A_is_spot : At0 K mg "is_spot" s_is_spot ["floor", "thing"] := at0_mk X G a14 l14 c14 k14 fun _ _ _ _ _ _ us hl => match us, hl with | [_, _], _ => rfl
  have A_need_spot : At0 K mg "need_spot" s_need_spot ["floor", "spot"] := at0_mk X G a15 l15 c15 k15 fun _ _ _ _ _ _ us hl => match us, hl with | [_, _], _ => rfl
  have A_trade_at : At0 K mg "trade_at" s_trade_at ["floor", "stand"] := at0_mk X G a16 l16 c16 k16 fun _ _ _ _ _ _ us hl => match us, hl with | [_, _], _ => rfl
  have A_traded_spot : At0 K mg "traded_spot" s_traded_spot ["trade", "spot"] := at0_mk X G a17 l17 c17 k17 fun _ _ _ _ _ _ us hl => match us, hl with | [_, _], _ => rfl
  have A_rolled_mark : At0 K mg "rolled_mark" s_rolled_mark ["floor", "here", "letter"] := at0_mk X G a18 l18 c18 k18 fun _ _ _ _ _ _ us hl => match us, hl with | [_, _, _], _ => rfl
  have A_marks_reached : AtC K mg "marks_reached" s_marks_reached ["floor", "stand", "spot"] cT := ⟨_, _, _, _, _, _, _, _, _, l19, c19, k19, PySem.W.mg_of X G a19, (fun_mk (st := s_marks_reached) l19 c19 k19).binds fun _ _ _ _ _ _ us hl => match us, hl with | [_, _, _], _ => rfl⟩
  have A_need_wish : At0 K mg "need_wish" s_need_wish ["floor", "stand", "spot", "to"] := at0_mk X G a20 l20 c20 k20 fun _ _ _ _ _ _ us hl => match us, hl with | [_, _, _, _], _ => rfl
  have A_bring : At0 K mg "bring" s_bring ["floor", "stand", "spot", "to"] := at0_mk X G a21 l21 c21 k21 fun _ _ _ _ _ _ us hl => match us, hl with | [_, _, _, _], _ => rfl
  have A__law_cell_at : At0 K mg "_law_cell_at" s__law_cell_at ["_law_script", "_law_k"] := at0_mk X G a22 l22 c22 k22 fun _ _ _ _ _ _ us hl => match us, hl with | [_, _], _ => rfl
  have A__law_pen : At0 K mg "_law_pen" s__law_pen ["_law_cell"] := at0_mk X G a23 l23 c23 k23 fun _ _ _ _ _ _ us hl => match us, hl with | [_], _ => rfl
  have A__law_draw : At0 K mg "_law_draw" s__law_draw ["_law_pen_here", "_law_many"] := at0_mk X G a24 l24 c24 k24 fun _ _ _ _ _ _ us hl => match us, hl with | [_, _], _ => rfl
  have A__law_pick : At0 K mg "_law_pick" s__law_pick ["_law_pen_here", "_law_some"] := at0_mk X G a25 l25 c25 k25 fun _ _ _ _ _ _ us hl => match us, hl with | [_, _], _ => rfl
  have A__law_beside : At0 K mg "_law_beside" s__law_beside ["_law_cell", "_law_letter"] := at0_mk X G a26 l26 c26 k26 fun _ _ _ _ _ _ us hl => match us, hl with | [_, _], _ => rfl
  have A__law_tip : At0 K mg "_law_tip" s__law_tip ["_law_lying", "_law_letter"] := at0_mk X G a27 l27 c27 k27 fun _ _ _ _ _ _ us hl => match us, hl with | [_, _], _ => rfl
  have A__law_drawn_floor : At0 K mg "_law_drawn_floor" s__law_drawn_floor ["_law_pen_here", "_law_most"] := at0_mk X G a28 l28 c28 k28 fun _ _ _ _ _ _ us hl => match us, hl with | [_, _], _ => rfl
  have A__law_drawn_stand : At0 K mg "_law_drawn_stand" s__law_drawn_stand ["_law_pen_here", "_law_floor"] := at0_mk X G a29 l29 c29 k29 fun _ _ _ _ _ _ us hl => match us, hl with | [_, _], _ => rfl
  have A__law_free : At0 K mg "_law_free" s__law_free ["_law_floor", "_law_cell"] := at0_mk X G a30 l30 c30 k30 fun _ _ _ _ _ _ us hl => match us, hl with | [_, _], _ => rfl
  have A__law_rolled_on : At0 K mg "_law_rolled_on" s__law_rolled_on ["_law_floor", "_law_place", "_law_letter"] := at0_mk X G a31 l31 c31 k31 fun _ _ _ _ _ _ us hl => match us, hl with | [_, _, _], _ => rfl
  have A__law_layers : At0 K mg "_law_layers" s__law_layers ["_law_floor", "_law_place"] := at0_mk X G a32 l32 c32 k32 fun _ _ _ _ _ _ us hl => match us, hl with | [_, _], _ => rfl
  have A__law_due : At0 K mg "_law_due" s__law_due ["_law_floor", "_law_stand", "_law_spot", "_law_to"] := at0_mk X G a33 l33 c33 k33 fun _ _ _ _ _ _ us hl => match us, hl with | [_, _, _, _], _ => rfl
  have A__law_all_spots : At0 K mg "_law_all_spots" s__law_all_spots ["_law_floor"] := at0_mk X G a34 l34 c34 k34 fun _ _ _ _ _ _ us hl => match us, hl with | [_], _ => rfl
  have A_reached : AtD K mg "reached" s_reached ["floor", "start", "rolled", "most"] := atD_mk X G 3 a36 l36 t36 db_u36 c36 k36 rfl fun _ _ _ _ _ _ _ us its hl hi => match us, hl, its, hi with | [_, _, _], _, [_], _ => ⟨_, rfl, rfl⟩
  refine ⟨PySem.W.fnOf "law" "law" (defArgs s_law) (defBody s_law) (defScope s_law) .none kV35 dc35 pm35 an35 cd35 ct35, cT, PT, spF K f_law 1, t6, nM, t5, fun s v => .of_eq rfl, fun H a ns hl hH hS => ?_, fun base _ _ TB => ?_⟩
  · refine law_spT (hF ns hl) (fun p hp => ?_) hS
    have hp : p ∈ [(PT, fun _ _ => ("marks_reached.<locals>.<lambda>" : Str))] := hp
    rw [List.mem_singleton.mp hp]
    exact ⟨#[], hH, fun z => z, trivial, fun pos cv z => by cases z⟩
  have hu : TabU := fun p hp p2 hp2 _ => by
    have hp : p ∈ [(PT, fun _ _ => ("marks_reached.<locals>.<lambda>" : Str))] := hp
    have hp2 : p2 ∈ [(PT, fun _ _ => ("marks_reached.<locals>.<lambda>" : Str))] := hp2
    rw [List.mem_singleton.mp hp, List.mem_singleton.mp hp2]
  have hm : (PT, fun _ _ => ("marks_reached.<locals>.<lambda>" : Str)) ∈ TabL.l := List.mem_singleton.mpr rfl
  have H_is_whole : Has P w K mg base "is_whole" 2 f_is_whole 1 := p_is_whole A_is_whole Z_isinstance Z_bool Z_int
  have H_is_cell : Has P w K mg base "is_cell" 1 f_is_cell 2 := p_is_cell A_is_cell H_is_whole Z_len Z_isinstance Z_tuple C_LAST_LINE
  have H_is_rising : Has P w K mg base "is_rising" 1 f_is_rising 1 := p_is_rising A_is_rising Z_all Z_zip
  have H_is_floor : Has P w K mg base "is_floor" 1 f_is_floor 3 := p_is_floor A_is_floor H_is_rising H_is_cell Z_len Z_isinstance Z_tuple Z_all C_MOST_CELLS
  have H_is_cell_of : Has P w K mg base "is_cell_of" 2 f_is_cell_of 3 := p_is_cell_of A_is_cell_of H_is_cell
  have H_is_lying : Has P w K mg base "is_lying" 1 f_is_lying 2 := p_is_lying A_is_lying H_is_whole Z_isinstance Z_tuple Z_all C_LYINGS C_OPPOSITE_SUM
  have H_is_stand : Has P w K mg base "is_stand" 2 f_is_stand 4 := p_is_stand A_is_stand H_is_lying H_is_cell_of Z_len Z_isinstance Z_tuple
  have H_need_floor : Has P w K mg base "need_floor" 1 f_need_floor 4 := p_need_floor A_need_floor H_is_floor
  have H_need_stand : Has P w K mg base "need_stand" 2 f_need_stand 5 := p_need_stand A_need_stand H_is_stand
  have H_rolled_cell : Has P w K mg base "rolled_cell" 2 f_rolled_cell 1 := p_rolled_cell A_rolled_cell D_STEPS
  have H_rolled_lying : Has P w K mg base "rolled_lying" 2 f_rolled_lying 1 := p_rolled_lying A_rolled_lying C_OPPOSITE_SUM
  have H_rolled_stand : Has P w K mg base "rolled_stand" 2 f_rolled_stand 2 := p_rolled_stand A_rolled_stand H_rolled_lying H_rolled_cell
  have H_let_letters : Has P w K mg base "let_letters" 2 f_let_letters 2 := p_let_letters A_let_letters H_rolled_cell Z_sorted C_LETTERS
  have H_spot_of_cell : Has P w K mg base "spot_of_cell" 2 f_spot_of_cell 1 := p_spot_of_cell A_spot_of_cell C_FACES
  have H_is_spot : Has P w K mg base "is_spot" 2 f_is_spot 2 := p_is_spot A_is_spot H_is_whole Z_len C_FACES
  have H_need_spot : Has P w K mg base "need_spot" 2 f_need_spot 3 := p_need_spot A_need_spot H_is_spot
  have H_trade_at : Has P w K mg base "trade_at" 2 f_trade_at 2 := p_trade_at A_trade_at H_spot_of_cell
  have H_traded_spot : Has P w K mg base "traded_spot" 2 f_traded_spot 1 := p_traded_spot A_traded_spot 
  have H_rolled_mark : Has P w K mg base "rolled_mark" 3 f_rolled_mark 3 := p_rolled_mark A_rolled_mark H_rolled_stand H_traded_spot H_trade_at
  have H_marks_reached : Has P w K mg base "marks_reached" 3 f_marks_reached 6 := p_marks_reached A_marks_reached A_reached H_let_letters H_rolled_mark Z_len hu hm TB
  have H_need_wish : Has P w K mg base "need_wish" 4 f_need_wish 6 := p_need_wish A_need_wish H_need_floor H_need_stand H_need_spot
  have H_bring : Has P w K mg base "bring" 4 f_bring 7 := p_bring A_bring H_need_wish H_marks_reached Z_tuple Z_sorted
  have H__law_cell_at : Has P w K mg base "_law_cell_at" 2 f__law_cell_at 1 := p__law_cell_at A__law_cell_at Z_len
  have H__law_pen : Has P w K mg base "_law_pen" 1 f__law_pen 1 := p__law_pen A__law_pen Z_max
  have H__law_draw : Has P w K mg base "_law_draw" 2 f__law_draw 1 := p__law_draw A__law_draw 
  have H__law_pick : Has P w K mg base "_law_pick" 2 f__law_pick 2 := p__law_pick A__law_pick H__law_draw Z_len
  have H__law_beside : Has P w K mg base "_law_beside" 2 f__law_beside 1 := p__law_beside A__law_beside 
  have H__law_tip : Has P w K mg base "_law_tip" 2 f__law_tip 1 := p__law_tip A__law_tip 
  have H__law_drawn_floor : Has P w K mg base "_law_drawn_floor" 2 f__law_drawn_floor 3 := p__law_drawn_floor A__law_drawn_floor H__law_draw H__law_beside H__law_pick Z_range Z_min Z_max Z_tuple Z_sorted
  have H__law_drawn_stand : Has P w K mg base "_law_drawn_stand" 2 f__law_drawn_stand 3 := p__law_drawn_stand A__law_drawn_stand H__law_draw H__law_tip H__law_pick Z_range
  have H__law_free : Has P w K mg base "_law_free" 2 f__law_free 2 := p__law_free A__law_free H__law_beside
  have H__law_rolled_on : Has P w K mg base "_law_rolled_on" 3 f__law_rolled_on 2 := p__law_rolled_on A__law_rolled_on H__law_tip H__law_beside
  have H__law_layers : Has P w K mg base "_law_layers" 2 f__law_layers 3 := p__law_layers A__law_layers H__law_free H__law_rolled_on Z_min Z_list
  have H__law_due : Has P w K mg base "_law_due" 4 f__law_due 4 := p__law_due A__law_due H__law_layers Z_sorted Z_len Z_tuple
  have H__law_all_spots : Has P w K mg base "_law_all_spots" 1 f__law_all_spots 1 := p__law_all_spots A__law_all_spots Z_list Z_range Z_len
  exact q_law (fun_mk (st := s_law) l35 c35 k35) H__law_pen H__law_cell_at H__law_drawn_floor H__law_draw H__law_all_spots H__law_drawn_stand H__law_pick H__law_due H_bring Z_range Z_max Z_min Z_len Z_int Z_repr
end
end L19
open PySem PySem.W PyProof.Rows
theorem main19 (hmath : ∀ ns : List Int, ns.length ≤ 63 → ∃ as, L19.f_law [.pd (.list (ns.map .int))] = some (.pd (.bool true), as)) : PySem.Challenge.rw_tumblemarks_k19_marks_brought.Holds := by
  refine hd19 ?_
  k_fill
  refine T3.walkTG (l := PySem.Challenge.rw_tumblemarks_k19_marks_brought) (n := 63) (k := 8) (x := "_law_script") (nm := "marks_reached") rfl (by decide) rfl ⟨rfl, by decide, by decide⟩ (by decide +kernel) (fun w h Y => PySem.W.km_in_of Y) ?F
  case F =>
    intro w mg fa h KX G hmg TA
    refine' L19.fin KX G hmg TA hmath ?a0 ?l0 ?c0 ?k0 ?a1 ?l1 ?c1 ?k1 ?a2 ?l2 ?c2 ?k2 ?a3 ?l3 ?c3 ?k3 ?a4 ?l4 ?c4 ?k4 ?a5 ?l5 ?c5 ?k5 ?a6 ?l6 ?c6 ?k6 ?a7 ?l7 ?c7 ?k7 ?a8 ?l8 ?c8 ?k8 ?a9 ?l9 ?c9 ?k9 ?a10 ?l10 ?c10 ?k10 ?a11 ?l11 ?c11 ?k11 ?a12 ?l12 ?c12 ?k12 ?a13 ?l13 ?c13 ?k13 ?a14 ?l14 ?c14 ?k14 ?a15 ?l15 ?c15 ?k15 ?a16 ?l16 ?c16 ?k16 ?a17 ?l17 ?c17 ?k17 ?a18 ?l18 ?c18 ?k18 ?a19 ?l19 ?c19 ?k19 ?a20 ?l20 ?c20 ?k20 ?a21 ?l21 ?c21 ?k21 ?a22 ?l22 ?c22 ?k22 ?a23 ?l23 ?c23 ?k23 ?a24 ?l24 ?c24 ?k24 ?a25 ?l25 ?c25 ?k25 ?a26 ?l26 ?c26 ?k26 ?a27 ?l27 ?c27 ?k27 ?a28 ?l28 ?c28 ?k28 ?a29 ?l29 ?c29 ?k29 ?a30 ?l30 ?c30 ?k30 ?a31 ?l31 ?c31 ?k31 ?a32 ?l32 ?c32 ?k32 ?a33 ?l33 ?c33 ?k33 ?a34 ?l34 ?c34 ?k34 ?a35 ?l35 ?c35 ?k35 ?a36 ?l36 ?t36 ?db_u36 ?c36 ?k36 ?z_isinstance ?z_bool ?z_int ?z_len ?z_tuple ?z_all ?z_zip ?z_sorted ?z_max ?z_range ?z_min ?z_list ?z_repr ?ca_LAST_LINE ?cb_LAST_LINE ?ca_MOST_CELLS ?cb_MOST_CELLS ?ca_LYINGS ?cb_LYINGS ?ca_OPPOSITE_SUM ?cb_OPPOSITE_SUM ?ca_LETTERS ?cb_LETTERS ?ca_FACES ?cb_FACES ?da_STEPS ?dl_STEPS ?dk_STEPS ?db_STEPS ?db_kT
    case a0 => k_is
    case l0 => k_is
    case c0 => k_is
    case k0 => k_is
    case a1 => k_is
    case l1 => k_is
    case c1 => k_is
    case k1 => k_is
    case a2 => k_is
    case l2 => k_is
    case c2 => k_is
    case k2 => k_is
    case a3 => k_is
    case l3 => k_is
    case c3 => k_is
    case k3 => k_is
    case a4 => k_is
    case l4 => k_is
    case c4 => k_is
    case k4 => k_is
    case a5 => k_is
    case l5 => k_is
    case c5 => k_is
    case k5 => k_is
    case a6 => k_is
    case l6 => k_is
    case c6 => k_is
    case k6 => k_is
    case a7 => k_is
    case l7 => k_is
    case c7 => k_is
    case k7 => k_is
    case a8 => k_is
    case l8 => k_is
    case c8 => k_is
    case k8 => k_is
    case a9 => k_is
    case l9 => k_is
    case c9 => k_is
    case k9 => k_is
    case a10 => k_is
    case l10 => k_is
    case c10 => k_is
    case k10 => k_is
    case a11 => k_is
    case l11 => k_is
    case c11 => k_is
    case k11 => k_is
    case a12 => k_is
    case l12 => k_is
    case c12 => k_is
    case k12 => k_is
    case a13 => k_is
    case l13 => k_is
    case c13 => k_is
    case k13 => k_is
    case a14 => k_is
    case l14 => k_is
    case c14 => k_is
    case k14 => k_is
    case a15 => k_is
    case l15 => k_is
    case c15 => k_is
    case k15 => k_is
    case a16 => k_is
    case l16 => k_is
    case c16 => k_is
    case k16 => k_is
    case a17 => k_is
    case l17 => k_is
    case c17 => k_is
    case k17 => k_is
    case a18 => k_is
    case l18 => k_is
    case c18 => k_is
    case k18 => k_is
    case a19 => k_is
    case l19 => k_is
    case c19 => k_is
    case k19 => k_is
    case a20 => k_is
    case l20 => k_is
    case c20 => k_is
    case k20 => k_is
    case a21 => k_is
    case l21 => k_is
    case c21 => k_is
    case k21 => k_is
    case a22 => k_is
    case l22 => k_is
    case c22 => k_is
    case k22 => k_is
    case a23 => k_is
    case l23 => k_is
    case c23 => k_is
    case k23 => k_is
    case a24 => k_is
    case l24 => k_is
    case c24 => k_is
    case k24 => k_is
    case a25 => k_is
    case l25 => k_is
    case c25 => k_is
    case k25 => k_is
    case a26 => k_is
    case l26 => k_is
    case c26 => k_is
    case k26 => k_is
    case a27 => k_is
    case l27 => k_is
    case c27 => k_is
    case k27 => k_is
    case a28 => k_is
    case l28 => k_is
    case c28 => k_is
    case k28 => k_is
    case a29 => k_is
    case l29 => k_is
    case c29 => k_is
    case k29 => k_is
    case a30 => k_is
    case l30 => k_is
    case c30 => k_is
    case k30 => k_is
    case a31 => k_is
    case l31 => k_is
    case c31 => k_is
    case k31 => k_is
    case a32 => k_is
    case l32 => k_is
    case c32 => k_is
    case k32 => k_is
    case a33 => k_is
    case l33 => k_is
    case c33 => k_is
    case k33 => k_is
    case a34 => k_is
    case l34 => k_is
    case c34 => k_is
    case k34 => k_is
    case a35 => k_is
    case l35 => k_is
    case c35 => k_is
    case k35 => k_is
    case a36 => k_is
    case l36 => k_is
    case t36 => k_is
    case db_u36 => first | k_is | (decide +kernel) | rfl
    case c36 => k_is
    case k36 => k_is
    case z_isinstance => k_is
    case z_bool => k_is
    case z_int => k_is
    case z_len => k_is
    case z_tuple => k_is
    case z_all => k_is
    case z_zip => k_is
    case z_sorted => k_is
    case z_max => k_is
    case z_range => k_is
    case z_min => k_is
    case z_list => k_is
    case z_repr => k_is
    case ca_LAST_LINE => k_is
    case cb_LAST_LINE => first | k_is | (decide +kernel) | rfl
    case ca_MOST_CELLS => k_is
    case cb_MOST_CELLS => first | k_is | (decide +kernel) | rfl
    case ca_LYINGS => k_is
    case cb_LYINGS => first | k_is | (decide +kernel) | rfl
    case ca_OPPOSITE_SUM => k_is
    case cb_OPPOSITE_SUM => first | k_is | (decide +kernel) | rfl
    case ca_LETTERS => k_is
    case cb_LETTERS => first | k_is | (decide +kernel) | rfl
    case ca_FACES => k_is
    case cb_FACES => first | k_is | (decide +kernel) | rfl
    case da_STEPS => k_is
    case dl_STEPS => k_is
    case dk_STEPS => k_keys
    case db_STEPS => first | k_is | (decide +kernel) | rfl
    case db_kT => first | k_is | (decide +kernel) | rfl

end
theorem PySem.Challenge.cw_tumblemarks_k19_marks_brought_holds : PySem.Challenge.rw_tumblemarks_k19_marks_brought.Holds := by
  exact main19 L19.hmath

import PyProof.Rows.All
import Wide.All
import OpenK.AllK
import Wide.FinOn
import HandS.ForMost
import HandS.Spec
import KE.KeyNested
import KE.KDictPairs
import HandS.Lambda
import HandS.EndTab
import HandS.Zip
import HandS.Conv
import HandS.IsInst
import HandS.Deep
import HandS.TupAny
import HandS.TupMul
import HandS.Wide
import KE.DataCmp
import KE.DataMinMax
import HandS.Sort
import PyProof.EnumMake
import KE.GoesMore
import PyProof.Draws
import HandS.Text
import HandS.Style
import PyProof.SeqIndex
import HandS.More
import HandS.SortInts
import HandS.TupSets
import HandS.Ends
import PyProof.ReprRoads
import HandS.Replace
import KE.KRevSl
import KE.KDictZip
import HandS.Zip0
import HandS.ListItems
import KE.KDictDisplayH
import PyProof.StrBlock2
import HandS.SetFor
import HandS.CallLocal
import KE.KDictCopyH
import PyProof.ReprLen
import PyProof.Rows.ReprShort
import HandS.TupLe
import HandS.Iter
import HandS.Defaults
import KE.KTupSum
import HandS.Nested
import HandS.EndOwn
import KE.KDictWalk
import HandS.DictComp
import KE.SortCalls
import KE.SortData
import HandS.Strs
import HandS.Star
import KE.GoesEnumKw
import HandS.SortKw
import KE.KDictLaws
import HandS.RaiseMore
import HandS.Exc
import PyProof.ReprDict
import HandS.ExcCtx
import HandS.ExcOwn
import HandS.ExcIs
import HandS.WordsExc
import HandS.HotCalls
import PyProof.Rows.FactsCmp_str
import PyProof.PureStr
import PyProof.WalkInts
import KE.KDictItemsList
import PyProof.StrLawsRepr
import PySem.Challenge.RW_tumblemarks_k59_rolls_left_out
section
set_option linter.all false
set_option autoImplicit false
set_option Elab.async false
namespace T3
open PySem L2

inductive Md where | own | bor | fro
  deriving DecidableEq
inductive Ct where
  | ls (xs : List PyData)
  | dk (kvs : List (Key × PyData))
  | dn (kvs : List (NestedKey × PyData))
inductive S where
  | pd (x : PyData)
  | nt (xs : List PyData)
  | mu (m : Md) (c : Ct)
inductive R where
  | pd (x : PyData)
  | nt (xs : List PyData)
  | tmp (c : Ct)
  | var (i : Nat)
abbrev Sl := List (Option S)
abbrev Mset := Addr → Prop

def Imm : HO → Prop
  | .tup _ => True
  | .frz _ _ => True
  | _ => False
def NT (o : HO) : Prop := ∀ ps, o ≠ .tbl ps
class TabL where
  l : List (Addr × (Nat → Nat → Str))
instance (priority := low) TabL.no : TabL := ⟨[]⟩
variable [TabL]

def FnK (K : PySem.W.Frag) (nm : Str) (a : Addr) : Prop := PySem.W.nsIn K mainGlobals nm = some (some (.ref a))
abbrev fnV (nm : Str) : PyData := .dict [(.str nm, .none)]
abbrev ntD (xs : List PyData) : PyData := .dict [(.bool true, .tuple xs)]
abbrev exD (a : Addr) : PyData := .dict [(.bool false, .int (a : Nat))]
abbrev lamD (f c a : Addr) (q : Str) (xs : List PyData) : PyData := .dict [(.int (f : Nat), .none), (.int (c : Nat), .none), (.str q, .none), (.int (a : Nat), .tuple xs)]
def NkOk (k : NestedKey) : Prop := k.depth ≤ 8 ∧ (∀ w w', NestedKey.hash w k = NestedKey.hash w' k) ∧ ∃ ks, k = .tup ks
structure DEs where
  o : Obj
  ep : Nat
  es : List DictEntry
def DnO (a : Addr) (z : DEs) : HO := .ext fun h => (a == sysModules) = false ∧ z.es.length ≤ sizeLine ∧ h.get? a = some z.o ∧ z.o.ExactDict ∧ z.o.data = .dict z.es.toArray z.ep
abbrev dcD (kvs : List (NestedKey × PyData)) : PyData := .dict ((.list [], .none) :: kvs.map fun q => (q.1.data, q.2))
def keyD : Key → PyData
  | .inl i => .int i
  | .inr x => .str x
abbrev dkD (kvs : List (Key × PyData)) : PyData := .dict ((.list [.none], .none) :: kvs.map fun q => (keyD q.1, q.2))
inductive Dn4 : List DictEntry → List V → List V → List NestedKey → Prop
  | nil : Dn4 [] [] [] []
  | cons {e : DictEntry} {es : List DictEntry} {b : Addr} {v : V} {ks vs : List V} {n : NestedKey} {ns : List NestedKey} : NkOk n → (∀ w, NestedKey.hash w n = e.hash) → e.key = .ref b → RelV v e.val → Dn4 es ks vs ns → Dn4 (e :: es) (.ref b :: ks) (v :: vs) (n :: ns)
mutual
inductive Rp (K : PySem.W.Frag) (B : Mset) (H : Hp) : V → PyData → Prop
  | non : Rp K B H .non .none
  | bl (b : Bool) : Rp K B H (.bl b) (.bool b)
  | int (i : Int) : Rp K B H (.int i) (.int i)
  | str (x : Str) : Rp K B H (.str x) (.str x)
  | tup {a : Addr} {xs : List V} {ds : List PyData} : SqT K H a xs → RpA K B H xs ds → Rp K B H (.ref a) (.tuple ds)
  | lst {a : Addr} {xs : List V} {ds : List PyData} : H a = some (.lst xs) → ¬ B a → RpA K B H xs ds → Rp K B H (.ref a) (.list ds)
  | frz {a : Addr} {o : Obj} {xs : List V} {ds : List PyData} : H a = some (.frz o (.lst xs)) → RpA K B H xs ds → Rp K B H (.ref a) (.list ds)
  | kls {a : Addr} {o : Obj} {its : Array Value} {n : Nat} {xs : List V} {ds : List PyData} : K.lookup a = some o → o.cls = .type "list" → o.dict = none → o.data = .seq its n → its.size ≤ sizeLine → Vals xs its.toList → RpA K B H xs ds → Rp K B H (.ref a) (.list ds)
  | fn {a : Addr} {nm : Str} : FnK K nm a → Rp K B H (.ref a) (fnV nm)
  | exn {a : Addr} : Rp K B H (.ref a) (exD a)
  | ntp {a : Addr} {o : Obj} {vs : List V} {xs : List PyData} : H a = some (.frz o (.tup vs)) → o.dict = none → RpA K B H vs xs → Rp K B H (.ref a) (ntD xs)
  | lam {f c a : Addr} {q : Str} {o : Obj} {vs : List V} {xs : List PyData} : H c = some (LamX.CodeO c q) → ¬ B c → H a = some (.frz o (.tup vs)) → o.dict = none → RpA K B H vs xs → Rp K B H (.ref f) (lamD f c a q xs)
  | dct {a : Addr} {z : DEs} {ks vs : List V} {kvs : List (NestedKey × PyData)} : H a = some (DnO a z) → ¬ B a → Dn4 z.es ks vs (kvs.map (·.1)) → (kvs.map (·.1)).Nodup → RpA K B H ks (kvs.map fun q => q.1.data) → RpA K B H vs (kvs.map (·.2)) → Rp K B H (.ref a) (dcD kvs)
  | dck {a : Addr} {ws : List (Key × V)} {kvs : List (Key × PyData)} : H a = some (.dK ws) → ¬ B a → ws.map (·.1) = kvs.map (·.1) → RpA K B H (ws.map (·.2)) (kvs.map (·.2)) → Rp K B H (.ref a) (dkD kvs)
inductive RpA (K : PySem.W.Frag) (B : Mset) (H : Hp) : List V → List PyData → Prop
  | nil : RpA K B H [] []
  | cons {v : V} {vs : List V} {d : PyData} {ds : List PyData} : Rp K B H v d → RpA K B H vs ds → RpA K B H (v :: vs) (d :: ds)
end

structure Grow (B : Mset) (H : Hp) (B' : Mset) (H' : Hp) : Prop where
  keep : ∀ a o, H a = some o → (¬ B a ∧ NT o ∨ Imm o) → H' a = some o
  new : ∀ a, B' a → B a ∨ H a = none

theorem SqT.grow {K : PySem.W.Frag} {B B' : Mset} {H H' : Hp} (g : Grow B H B' H') {a : Addr} {xs : List V} (h : SqT K H a xs) : SqT K H' a xs := by
  rcases h with (h | ⟨o, h⟩) | h
  · exact .inl (.inl (g.keep _ _ h (.inr trivial)))
  · exact .inl (.inr ⟨o, g.keep _ _ h (.inr trivial)⟩)
  · exact .inr h

mutual
theorem Rp.grow {K : PySem.W.Frag} {B B' : Mset} {H H' : Hp} (g : Grow B H B' H') : ∀ {v : V} {d : PyData}, Rp K B H v d → Rp K B' H' v d
  | _, _, .non => .non
  | _, _, .bl b => .bl b
  | _, _, .int i => .int i
  | _, _, .str x => .str x
  | _, _, .tup h r => .tup (SqT.grow g h) (RpA.grow g r)
  | _, _, .lst h nb r => .lst (g.keep _ _ h (.inl ⟨nb, fun _ z => nomatch z⟩)) (fun q => by
      rcases g.new _ q with q | q
      · exact nb q
      · rw [h] at q; cases q) (RpA.grow g r)
  | _, _, .frz h r => .frz (g.keep _ _ h (.inr trivial)) (RpA.grow g r)
  | _, _, .kls h1 h2 h3 h4 h5 h6 r => .kls h1 h2 h3 h4 h5 h6 (RpA.grow g r)
  | _, _, .fn h => .fn h
  | _, _, .exn => .exn
  | _, _, .ntp h1 h2 r => .ntp (g.keep _ _ h1 (.inr trivial)) h2 (RpA.grow g r)
  | _, _, .lam h1 nb h2 h3 r => .lam (g.keep _ _ h1 (.inl ⟨nb, LamX.codeO_ne⟩)) (fun q => by
      rcases g.new _ q with q | q
      · exact nb q
      · rw [h1] at q; cases q) (g.keep _ _ h2 (.inr trivial)) h3 (RpA.grow g r)
  | _, _, .dct h nb h4 nd r1 r2 => .dct (g.keep _ _ h (.inl ⟨nb, fun _ z => nomatch z⟩)) (fun q => by
      rcases g.new _ q with q | q
      · exact nb q
      · rw [h] at q; cases q) h4 nd (RpA.grow g r1) (RpA.grow g r2)
  | _, _, .dck h nb hk r => .dck (g.keep _ _ h (.inl ⟨nb, fun _ z => nomatch z⟩)) (fun q => by
      rcases g.new _ q with q | q
      · exact nb q
      · rw [h] at q; cases q) hk (RpA.grow g r)
theorem RpA.grow {K : PySem.W.Frag} {B B' : Mset} {H H' : Hp} (g : Grow B H B' H') : ∀ {vs : List V} {ds : List PyData}, RpA K B H vs ds → RpA K B' H' vs ds
  | _, _, .nil => .nil
  | _, _, .cons h r => .cons (Rp.grow g h) (RpA.grow g r)
end

theorem RpA.length {K : PySem.W.Frag} {B : Mset} {H : Hp} : ∀ {vs : List V} {ds : List PyData}, RpA K B H vs ds → vs.length = ds.length
  | _, _, .nil => rfl
  | _, _, .cons _ r => by simp [RpA.length r]
theorem RpA.get {K : PySem.W.Frag} {B : Mset} {H : Hp} : ∀ {vs : List V} {ds : List PyData} {i : Nat} {d : PyData}, RpA K B H vs ds → ds[i]? = some d → ∃ v, vs[i]? = some v ∧ Rp K B H v d
  | _, _, _, _, .nil, e => by simp at e
  | _, _, 0, _, .cons h _, e => by simp at e; subst e; exact ⟨_, rfl, h⟩
  | _, _, i + 1, d, .cons _ r, e => by
    obtain ⟨v, h1, h2⟩ := RpA.get (i := i) (d := d) r (by simpa using e)
    exact ⟨v, by simpa using h1, h2⟩
theorem RpA.getV {K : PySem.W.Frag} {B : Mset} {H : Hp} : ∀ {vs : List V} {ds : List PyData} {i : Nat} {v : V}, RpA K B H vs ds → vs[i]? = some v → ∃ d, ds[i]? = some d ∧ Rp K B H v d
  | _, _, _, _, .nil, e => by simp at e
  | _, _, 0, _, .cons h _, e => by simp at e; subst e; exact ⟨_, rfl, h⟩
  | _, _, i + 1, d, .cons _ r, e => by
    obtain ⟨v, h1, h2⟩ := RpA.getV (i := i) (v := d) r (by simpa using e)
    exact ⟨v, by simpa using h1, h2⟩
theorem RpA.append {K : PySem.W.Frag} {B : Mset} {H : Hp} : ∀ {vs ws : List V} {ds es : List PyData}, RpA K B H vs ds → RpA K B H ws es → RpA K B H (vs ++ ws) (ds ++ es)
  | _, _, _, _, .nil, q => q
  | _, _, _, _, .cons h r, q => .cons h (RpA.append r q)
theorem RpA.take {K : PySem.W.Frag} {B : Mset} {H : Hp} : ∀ {vs : List V} {ds : List PyData} (n : Nat), RpA K B H vs ds → RpA K B H (vs.take n) (ds.take n)
  | _, _, 0, _ => .nil
  | _, _, _ + 1, .nil => .nil
  | _, _, n + 1, .cons h r => .cons h (RpA.take n r)
theorem RpA.drop {K : PySem.W.Frag} {B : Mset} {H : Hp} : ∀ {vs : List V} {ds : List PyData} (n : Nat), RpA K B H vs ds → RpA K B H (vs.drop n) (ds.drop n)
  | _, _, 0, q => q
  | _, _, _ + 1, .nil => .nil
  | _, _, n + 1, .cons h r => RpA.drop n r
theorem RpA.set {K : PySem.W.Frag} {B : Mset} {H : Hp} {v : V} {d : PyData} (q : Rp K B H v d) : ∀ {vs : List V} {ds : List PyData} (n : Nat), RpA K B H vs ds → RpA K B H (vs.set n v) (ds.set n d)
  | _, _, _, .nil => .nil
  | _, _, 0, .cons _ r => .cons q r
  | _, _, n + 1, .cons h r => .cons h (RpA.set q n r)
theorem RpA.reverse {K : PySem.W.Frag} {B : Mset} {H : Hp} : ∀ {vs : List V} {ds : List PyData}, RpA K B H vs ds → RpA K B H vs.reverse ds.reverse
  | _, _, .nil => .nil
  | _, _, .cons h r => by
    rw [List.reverse_cons, List.reverse_cons]
    exact (RpA.reverse r).append (.cons h .nil)
theorem RpA.ints {K : PySem.W.Frag} {B : Mset} {H : Hp} : ∀ {vs : List V} {ns : List Int}, RpA K B H vs (ns.map .int) → vs = ns.map V.int
  | _, [], .nil => rfl
  | _, n :: ns, .cons h r => by
    cases h
    rw [RpA.ints r]
    rfl
theorem RpA.of_ints {K : PySem.W.Frag} {B : Mset} {H : Hp} : ∀ (ns : List Int), RpA K B H (ns.map V.int) (ns.map .int)
  | [] => .nil
  | n :: ns => .cons (.int n) (RpA.of_ints ns)
theorem RpA.bls {K : PySem.W.Frag} {B : Mset} {H : Hp} : ∀ {vs : List V} {ns : List Bool}, RpA K B H vs (ns.map .bool) → vs = ns.map V.bl
  | _, [], .nil => rfl
  | _, n :: ns, .cons h r => by
    cases h
    rw [RpA.bls r]
    rfl
theorem RpA.strs {K : PySem.W.Frag} {B : Mset} {H : Hp} : ∀ {vs : List V} {ns : List Str}, RpA K B H vs (ns.map .str) → vs = ns.map V.str
  | _, [], .nil => rfl
  | _, n :: ns, .cons h r => by
    cases h
    rw [RpA.strs r]
    rfl


mutual
theorem Rp.dp0 {K : PySem.W.Frag} {B : Mset} {H : Hp} : ∀ {v : V} {d : PyData}, Rp K B H v d → d.canLay0 = true → Dp K H v d
  | _, _, .non, _ => .non
  | _, _, .bl b, _ => .bl b
  | _, _, .int i, _ => .int i
  | _, _, .str x, _ => .str x
  | _, _, .tup h r, l => .tup h (RpA.dp0 r (by simpa [PyData.canLay0] using l))
  | _, _, .lst h _ r, l => .lst (.inl (.inl h)) (RpA.dp0 r (by simpa [PyData.canLay0] using l))
  | _, _, .frz h r, l => .lst (.inl (.inr ⟨_, h⟩)) (RpA.dp0 r (by simpa [PyData.canLay0] using l))
  | _, _, .kls h1 h2 h3 h4 h5 h6 r, l => .lst (.inr ⟨_, _, _, h1, h2, h3, h4, h5, h6⟩) (RpA.dp0 r (by simpa [PyData.canLay0] using l))
  | _, _, .fn _, l => by simp [PyData.canLay0] at l
  | _, _, .exn, l => by simp [PyData.canLay0] at l
  | _, _, .ntp _ _ _, l => by simp [PyData.canLay0] at l
  | _, _, .lam _ _ _ _ _, l => by simp [PyData.canLay0] at l
  | _, _, .dct _ _ _ _ _ _, l => by simp [PyData.canLay0] at l
  | _, _, .dck _ _ _ _, l => by simp [PyData.canLay0] at l
theorem RpA.dp0 {K : PySem.W.Frag} {B : Mset} {H : Hp} : ∀ {vs : List V} {ds : List PyData}, RpA K B H vs ds → PyData.canLayAll0 ds = true → DpAll K H vs ds
  | _, _, .nil, _ => .nil
  | _, _, .cons h r, l => .cons (Rp.dp0 h (by simp [PyData.canLayAll0] at l; exact l.1)) (RpA.dp0 r (by simp [PyData.canLayAll0] at l; exact l.2))
end

def KvR (K : PySem.W.Frag) (B : Mset) (H : Hp) : List (Key × V) → List (Key × PyData) → Prop := Paired fun p q => p.1 = q.1 ∧ Rp K B H p.2 q.2
def DnE (K : PySem.W.Frag) (B : Mset) (H : Hp) (e : DictEntry) (q : NestedKey × PyData) : Prop :=
  NkOk q.1 ∧ (∀ w, NestedKey.hash w q.1 = e.hash) ∧ (∃ b, e.key = .ref b ∧ Rp K B H (.ref b) q.1.data) ∧ ∃ v, RelV v e.val ∧ Rp K B H v q.2
structure DnR (K : PySem.W.Frag) (B : Mset) (H : Hp) (es : DEs) (kvs : List (NestedKey × PyData)) : Prop where
  ent : Paired (DnE K B H) es.es kvs
  nd : (kvs.map (·.1)).Nodup
theorem DnR.grow {K : PySem.W.Frag} {B B' : Mset} {H H' : Hp} (g : Grow B H B' H') {es : DEs} {kvs : List (NestedKey × PyData)} (h : DnR K B H es kvs) : DnR K B' H' es kvs :=
  ⟨Paired.mapP h.ent fun _ _ ⟨a, b, ⟨c, d, e⟩, v, f, x⟩ => ⟨a, b, ⟨c, d, e.grow g⟩, v, f, x.grow g⟩, h.nd⟩
def CtR (K : PySem.W.Frag) (B : Mset) (H : Hp) (a : Addr) : Ct → Prop
  | .ls xs => ∃ vs, H a = some (.lst vs) ∧ RpA K B H vs xs
  | .dk kvs => ∃ ws, H a = some (.dK ws) ∧ KvR K B H ws kvs
  | .dn kvs => ∃ es, H a = some (DnO a es) ∧ DnR K B H es kvs

theorem dn_split {K : PySem.W.Frag} {B : Mset} {H : Hp} : ∀ {es : List DictEntry} {kvs : List (NestedKey × PyData)}, Paired (DnE K B H) es kvs → ∃ ks vs, Dn4 es ks vs (kvs.map (·.1)) ∧ RpA K B H ks (kvs.map fun q => q.1.data) ∧ RpA K B H vs (kvs.map (·.2))
  | _, _, .nil => ⟨[], [], .nil, .nil, .nil⟩
  | _, _, .cons ⟨h1, h2, ⟨b, h3, h4⟩, v, h5, h6⟩ t => by
    obtain ⟨ks, vs, a1, a2, a3⟩ := dn_split t
    exact ⟨.ref b :: ks, v :: vs, .cons h1 h2 h3 h5 a1, .cons h4 a2, .cons h6 a3⟩
theorem dn_join {K : PySem.W.Frag} {B : Mset} {H : Hp} : ∀ {es : List DictEntry} {ks vs : List V} {kvs : List (NestedKey × PyData)}, Dn4 es ks vs (kvs.map (·.1)) → RpA K B H ks (kvs.map fun q => q.1.data) → RpA K B H vs (kvs.map (·.2)) → Paired (DnE K B H) es kvs
  | es, ks, vs, [], h, _, _ => by
    simp only [List.map_nil] at h
    cases h
    exact .nil
  | es, ks, vs, q :: kvs, h, r1, r2 => by
    simp only [List.map_cons] at h r1 r2
    cases h with
    | cons h1 h2 h3 h4 t =>
      cases r1 with
      | cons k1 k2 =>
        cases r2 with
        | cons v1 v2 => exact .cons ⟨h1, h2, ⟨_, h3, k1⟩, _, h4, v1⟩ (dn_join t k2 v2)
theorem kv_split {K : PySem.W.Frag} {B : Mset} {H : Hp} : ∀ {ws : List (Key × V)} {kvs : List (Key × PyData)}, KvR K B H ws kvs → ws.map (·.1) = kvs.map (·.1) ∧ RpA K B H (ws.map (·.2)) (kvs.map (·.2))
  | _, _, .nil => ⟨rfl, .nil⟩
  | _, _, .cons ⟨h1, h2⟩ t => by
    obtain ⟨a, b⟩ := kv_split t
    exact ⟨by simp [h1, a], .cons h2 b⟩
theorem kv_join {K : PySem.W.Frag} {B : Mset} {H : Hp} : ∀ {ws : List (Key × V)} {kvs : List (Key × PyData)}, ws.map (·.1) = kvs.map (·.1) → RpA K B H (ws.map (·.2)) (kvs.map (·.2)) → KvR K B H ws kvs
  | [], [], _, _ => .nil
  | [], _ :: _, h, _ => by simp at h
  | _ :: _, [], h, _ => by simp at h
  | w :: ws, q :: kvs, h, r => by
    simp only [List.map_cons, List.cons.injEq] at h r
    cases r with
    | cons r1 r2 => exact .cons ⟨h.1, r1⟩ (kv_join h.2 r2)
theorem CtR.hop {K : PySem.W.Frag} {B B' : Mset} {H H' : Hp} {a : Addr} {c : Ct} (h : CtR K B H a c) (g : Grow B H B' H') (k : ∀ o, H a = some o → H' a = some o) : CtR K B' H' a c := by
  cases c with
  | ls zs => obtain ⟨ws, h1, h2⟩ := h; exact ⟨ws, k _ h1, h2.grow g⟩
  | dk kvs => obtain ⟨ws, h1, h2⟩ := h; exact ⟨ws, k _ h1, Paired.mapP h2 fun _ _ q => ⟨q.1, q.2.grow g⟩⟩
  | dn kvs => obtain ⟨ws, h1, h2⟩ := h; exact ⟨ws, k _ h1, h2.grow g⟩
def ctD : Ct → PyData
  | .ls xs => .list xs
  | .dk kvs => dkD kvs
  | .dn kvs => dcD kvs
theorem CtR.rp {K : PySem.W.Frag} {B : Mset} {H : Hp} {a : Addr} {c : Ct} (h : CtR K B H a c) (nb : ¬ B a) : Rp K B H (.ref a) (ctD c) := by
  cases c with
  | ls xs => obtain ⟨vs, h1, h2⟩ := h; exact .lst h1 nb h2
  | dk kvs => obtain ⟨ws, h1, h2⟩ := h; obtain ⟨a, b⟩ := kv_split h2; exact .dck h1 nb a b
  | dn kvs => obtain ⟨es, h1, h2⟩ := h; obtain ⟨ks, vs, x, y, z⟩ := dn_split h2.ent; exact .dct h1 nb x h2.nd y z

def NtR (K : PySem.W.Frag) (B : Mset) (H : Hp) (a : Addr) (xs : List PyData) : Prop := ∃ o vs, H a = some (.frz o (.tup vs)) ∧ o.dict = none ∧ RpA K B H vs xs
theorem NtR.grow {K : PySem.W.Frag} {B B' : Mset} {H H' : Hp} (g : Grow B H B' H') {a : Addr} {xs : List PyData} (h : NtR K B H a xs) : NtR K B' H' a xs := by
  obtain ⟨o, vs, h1, h2, h3⟩ := h
  exact ⟨o, vs, g.keep _ _ h1 (.inr trivial), h2, h3.grow g⟩
theorem NtR.rp {K : PySem.W.Frag} {B : Mset} {H : Hp} {a : Addr} {xs : List PyData} (h : NtR K B H a xs) : Rp K B H (.ref a) (.tuple xs) := by
  obtain ⟨o, vs, h1, h2, h3⟩ := h
  exact .tup (.inl (.inr ⟨o, h1⟩)) h3
def Wof (σ : St) (env : Sl) : Mset := fun a => ∃ (i : Nat) (m : Md) (c : Ct), env[i]? = some (some (.mu m c)) ∧ m ≠ .fro ∧ σ[i]? = some (some (.ref a))

def TbB (B : Mset) (H : Hp) : Prop := ∀ p ∈ TabL.l, ∃ ps : Array Value, H p.1 = some (.tbl ps) ∧ ¬ B p.1 ∧ TriplesOk ps.toList ∧ ∀ (pos : Pos) (cv : Value), codeAmong pos ps.toList = some cv → ∃ c, cv = .ref c ∧ H c = some (LamX.CodeO c (p.2 pos.line pos.col)) ∧ ¬ B c
theorem TbB.on {B B' : Mset} {H H' : Hp} (h : TbB B H) (k : ∀ a o, H a = some o → ¬ B a → H' a = some o) (n : ∀ a, B' a → B a ∨ H a = none) : TbB B' H' := fun p hp => by
  obtain ⟨ps, h1, h2, h3, h4⟩ := h p hp
  have nb : ∀ a o, H a = some o → ¬ B a → ¬ B' a := fun a o e q z => by
    rcases n a z with z | z
    · exact q z
    · rw [e] at z; cases z
  refine ⟨ps, k _ _ h1 h2, nb _ _ h1 h2, h3, fun pos cv hc => ?_⟩
  obtain ⟨c, e1, e2, e3⟩ := h4 pos cv hc
  exact ⟨c, e1, k _ _ e2 e3, nb _ _ e2 e3⟩
structure EnvR (K : PySem.W.Frag) (B : Mset) (H : Hp) (σ : St) (env : Sl) : Prop where
  len : env.length = σ.length
  pd : ∀ (i : Nat) x, env[i]? = some (some (.pd x)) → ∃ v, σ[i]? = some (some v) ∧ Rp K B H v x
  nt : ∀ (i : Nat) xs, env[i]? = some (some (.nt xs)) → ∃ a, σ[i]? = some (some (.ref a)) ∧ NtR K B H a xs
  mu : ∀ (i : Nat) m c, env[i]? = some (some (.mu m c)) → ∃ a, σ[i]? = some (some (.ref a)) ∧ B a ∧ CtR K B H a c
  inj : ∀ (i j : Nat) m n c d a, env[i]? = some (some (.mu m c)) → env[j]? = some (some (.mu n d)) → σ[i]? = some (some (.ref a)) → σ[j]? = some (some (.ref a)) → i = j
  dom : ∀ a, B a → ∃ o, H a = some o
  tb : TbB B H

structure Stp (W B : Mset) (H : Hp) (W' B' : Mset) (H' : Hp) : Prop where
  keep : ∀ a o, H a = some o → (¬ W a ∧ NT o ∨ Imm o) → H' a = some o
  new : ∀ a, B' a → B a ∨ H a = none
  old : ∀ a, B a → ¬ W a → B' a
  sub : ∀ a, W' a → W a ∨ H a = none
  liv : ∀ a, H' a = none → H a = none

theorem EnvR.wb {K : PySem.W.Frag} {B : Mset} {H : Hp} {σ : St} {env : Sl} (e : EnvR K B H σ env) : ∀ a, Wof σ env a → B a := by
  rintro a ⟨i, m, c, h1, _, h3⟩
  obtain ⟨a', h4, h5, _⟩ := e.mu i m c h1
  rw [h3] at h4
  cases h4
  exact h5

theorem Stp.grow {W B W' B' : Mset} {H H' : Hp} (s : Stp W B H W' B' H') (wb : ∀ a, W a → B a) : Grow B H B' H' :=
  ⟨fun a o h q => s.keep a o h (q.imp (fun n => ⟨fun w => n.1 (wb a w), n.2⟩) id), s.new⟩

theorem Stp.refl {W B : Mset} {H : Hp} : Stp W B H W B H := ⟨fun _ _ h _ => h, fun _ h => .inl h, fun _ h _ => h, fun _ h => .inl h, fun _ h => h⟩

theorem Stp.trans {W B W1 B1 W2 B2 : Mset} {H H1 H2 : Hp} (s : Stp W B H W1 B1 H1) (t : Stp W1 B1 H1 W2 B2 H2) (wb : ∀ a, W a → B a) (dom : ∀ a, B a → ∃ o, H a = some o) : Stp W B H W2 B2 H2 where
  keep a o h q := by
    refine t.keep a o (s.keep a o h q) ?_
    rcases q with q | q
    · refine .inl ⟨fun w => ?_, q.2⟩
      rcases s.sub a w with w | w
      · exact q.1 w
      · rw [h] at w; cases w
    · exact .inr q
  new a h := by
    rcases t.new a h with h | h
    · exact s.new a h
    · exact .inr (s.liv a h)
  old a h w := by
    refine t.old a (s.old a h w) fun w1 => ?_
    rcases s.sub a w1 with q | q
    · exact w q
    · obtain ⟨o, e⟩ := dom a h
      rw [e] at q; cases q
  sub a h := by
    rcases t.sub a h with h | h
    · exact s.sub a h
    · exact .inr (s.liv a h)
  liv a h := s.liv a (t.liv a h)

def RR (K : PySem.W.Frag) (H₀ : Hp) (B : Mset) (H : Hp) (σ : St) (env : Sl) (v : V) : R → Prop
  | .pd x => Rp K B H v x
  | .nt xs => ∃ a, v = .ref a ∧ NtR K B H a xs
  | .tmp c => ∃ a, v = .ref a ∧ H₀ a = none ∧ B a ∧ CtR K B H a c ∧ ∀ (i : Nat) m d, env[i]? = some (some (S.mu m d)) → σ[i]? ≠ some (some (V.ref a))
  | .var i => σ[i]? = some (some v) ∧ ∃ m c, env[i]? = some (some (.mu m c))

structure At (K : PySem.W.Frag) (σ : St) (B : Mset) (H : Hp) (env : Sl) (B' : Mset) (H' : Hp) (env' : Sl) : Prop where
  st : Stp (Wof σ env) B H (Wof σ env') B' H'
  en : EnvR K B' H' σ env'
  sm : ∀ (i : Nat) m c, env'[i]? = some (some (.mu m c)) → ∃ c', env[i]? = some (some (.mu m c'))
  ks : ∀ (i : Nat) m c, env[i]? = some (some (.mu m c)) → ∃ c', env'[i]? = some (some (.mu m c'))

abbrev EE := Sl → Option (R × Sl)
abbrev EA := Sl → Option (List R × Sl)

def tE (K : PySem.W.Frag) (f : EE) : TE := fun σ H Q => ∃ B env d env', EnvR K B H σ env ∧ f env = some (d, env') ∧
  ∀ B' H' v, At K σ B H env B' H' env' → RR K H B' H' σ env' v d → Q v H'

theorem PE.imp {X : Cx} {e : Expr} {t t' : TE} (h : PE X e t) (i : ∀ σ H Q, t' σ H Q → t σ H Q) : PE X e t' := ⟨fun pins s σ H Q I q => h.run pins s σ H Q I (i σ H Q q)⟩
theorem PS.imp {X : Cx} {e : Stmt} {t t' : TS} (h : PS X e t) (i : ∀ D σ H, t' D σ H → t D σ H) : PS X e t' := ⟨fun pins s σ H D I q => h.run pins s σ H D I (i D σ H q)⟩
theorem PSs.imp {X : Cx} {e : List Stmt} {t t' : TS} (h : PSs X e t) (i : ∀ D σ H, t' D σ H → t D σ H) : PSs X e t' := ⟨fun pins s σ H D I q => h.run pins s σ H D I (i D σ H q)⟩
theorem PT.imp {X : Cx} {e : Expr} {t t' : TT} (h : PT X e t) (i : ∀ σ H Q, t' σ H Q → t σ H Q) : PT X e t' := ⟨fun pins s σ H Q I q => h.run pins s σ H Q I (i σ H Q q)⟩
theorem PA.imp {X : Cx} {e : List Expr} {t t' : TA} (h : PA X e t) (i : ∀ σ H Q, t' σ H Q → t σ H Q) : PA X e t' := ⟨fun pos pins s σ H Q I q => h.run pos pins s σ H Q I (i σ H Q q)⟩

theorem At.refl {K : PySem.W.Frag} {σ : St} {B : Mset} {H : Hp} {env : Sl} (e : EnvR K B H σ env) : At K σ B H env B H env := ⟨.refl, e, fun _ _ c h => ⟨c, h⟩, fun _ _ c h => ⟨c, h⟩⟩
theorem At.trans {K : PySem.W.Frag} {σ : St} {B B1 B2 : Mset} {H H1 H2 : Hp} {env env1 env2 : Sl} (e : EnvR K B H σ env) (a : At K σ B H env B1 H1 env1) (b : At K σ B1 H1 env1 B2 H2 env2) : At K σ B H env B2 H2 env2 :=
  ⟨a.st.trans b.st e.wb e.dom, b.en, fun i m c h => let ⟨c1, h1⟩ := b.sm i m c h; a.sm i m c1 h1, fun i m c h => let ⟨c1, h1⟩ := a.ks i m c h; b.ks i m c1 h1⟩
theorem At.grow {K : PySem.W.Frag} {σ : St} {B B1 : Mset} {H H1 : Hp} {env env1 : Sl} (e : EnvR K B H σ env) (a : At K σ B H env B1 H1 env1) : Grow B H B1 H1 := a.st.grow e.wb

theorem KvR.grow {K : PySem.W.Frag} {B B' : Mset} {H H' : Hp} (g : Grow B H B' H') {ws : List (Key × V)} {kvs : List (Key × PyData)} (h : KvR K B H ws kvs) : KvR K B' H' ws kvs :=
  Paired.mapP h fun _ _ q => ⟨q.1, q.2.grow g⟩

theorem CtR.keep {K : PySem.W.Frag} {W B W' B' : Mset} {H H' : Hp} {a : Addr} {c : Ct} (h : CtR K B H a c) (s : Stp W B H W' B' H') (wb : ∀ a, W a → B a) (hw : ¬ W a) : CtR K B' H' a c := by
  cases c with
  | ls xs =>
    obtain ⟨vs, h1, h2⟩ := h
    exact ⟨vs, s.keep _ _ h1 (.inl ⟨hw, fun _ z => nomatch z⟩), h2.grow (s.grow wb)⟩
  | dk kvs =>
    obtain ⟨vs, h1, h2⟩ := h
    exact ⟨vs, s.keep _ _ h1 (.inl ⟨hw, fun _ z => nomatch z⟩), h2.grow (s.grow wb)⟩
  | dn kvs =>
    obtain ⟨vs, h1, h2⟩ := h
    exact ⟨vs, s.keep _ _ h1 (.inl ⟨hw, fun _ z => nomatch z⟩), h2.grow (s.grow wb)⟩

theorem RR.later {K : PySem.W.Frag} {H₀ : Hp} {σ : St} {B B1 : Mset} {H H1 : Hp} {env env1 : Sl} {v : V} {d : R} (e : EnvR K B H σ env) (a : At K σ B H env B1 H1 env1) (h : RR K H₀ B H σ env v d) (hd : ∀ i, d ≠ .var i) : RR K H₀ B1 H1 σ env1 v d := by
  cases d with
  | pd x => exact Rp.grow (a.grow e) h
  | nt xs => obtain ⟨p, e1, h1⟩ := h; exact ⟨p, e1, h1.grow (a.grow e)⟩
  | var i => exact absurd rfl (hd i)
  | tmp c =>
    obtain ⟨p, rfl, h0, hb, hc, hn⟩ := h
    have hw : ¬ Wof σ env p := by
      rintro ⟨i, m, c', h1, _, h3⟩
      exact hn i m c' h1 h3
    refine ⟨p, rfl, h0, a.st.old p hb hw, hc.keep a.st e.wb hw, fun i m d h1 h2 => ?_⟩
    obtain ⟨c', h3⟩ := a.sm i m d h1
    exact hn i m c' h3 h2
end T3

end
section
set_option linter.all false
set_option autoImplicit false
set_option Elab.async false
namespace T3
open PySem L2
variable [TabL]

def RA (K : PySem.W.Frag) (H₀ : Hp) (B : Mset) (H : Hp) (σ : St) (env : Sl) (v : V) : R → Prop
  | .pd x => Rp K B H v x
  | .nt xs => ∃ a, v = .ref a ∧ NtR K B H a xs
  | .tmp c => ∃ a, v = .ref a ∧ H₀ a = none ∧ B a ∧ CtR K B H a c ∧ ∀ (i : Nat) m d, env[i]? = some (some (S.mu m d)) → σ[i]? ≠ some (some (V.ref a))
  | .var i => σ[i]? = some (some v)
structure RRA (K : PySem.W.Frag) (H₀ : Hp) (B : Mset) (H : Hp) (σ : St) (env : Sl) (vs : List V) (ds : List R) : Prop where
  len : vs.length = ds.length
  each : ∀ (k : Nat) v d, vs[k]? = some v → ds[k]? = some d → RA K H₀ B H σ env v d
  apart : ∀ (k l : Nat) c c' v, k ≠ l → ds[k]? = some (.tmp c) → ds[l]? = some (.tmp c') → vs[k]? = some v → vs[l]? = some v → False

theorem RR.ra {K : PySem.W.Frag} {H₀ H : Hp} {B : Mset} {σ : St} {env : Sl} {v : V} {d : R} (h : RR K H₀ B H σ env v d) : RA K H₀ B H σ env v d := by
  cases d with
  | pd x => exact h
  | nt x => exact h
  | tmp c => exact h
  | var i => exact h.1
theorem RR.from {K : PySem.W.Frag} {H₀ H₁ H : Hp} {B : Mset} {σ : St} {env : Sl} {v : V} {d : R} (h : RR K H₁ B H σ env v d) (l : ∀ a, H₁ a = none → H₀ a = none) : RR K H₀ B H σ env v d := by
  cases d with
  | pd x => exact h
  | nt x => exact h
  | tmp c => obtain ⟨a, h1, h2, h3⟩ := h; exact ⟨a, h1, l a h2, h3⟩
  | var i => exact h
theorem RA.later {K : PySem.W.Frag} {H₀ : Hp} {σ : St} {B B1 : Mset} {H H1 : Hp} {env env1 : Sl} {v : V} {d : R} (e : EnvR K B H σ env) (a : At K σ B H env B1 H1 env1) (h : RA K H₀ B H σ env v d) : RA K H₀ B1 H1 σ env1 v d := by
  cases d with
  | pd x => exact RR.later (d := .pd x) (H₀ := H₀) e a h (fun _ => nofun)
  | nt x => exact RR.later (d := .nt x) (H₀ := H₀) e a h (fun _ => nofun)
  | var i => exact h
  | tmp c => exact RR.later (d := .tmp c) e a h (fun _ => nofun)

def tA (K : PySem.W.Frag) (f : EA) : TA := fun σ H Q => ∃ B env ds env', EnvR K B H σ env ∧ f env = some (ds, env') ∧
  ∀ B' H' vs, At K σ B H env B' H' env' → RRA K H B' H' σ env' vs ds → Q vs H'
def eNil : EA := fun env => some ([], env)
def eCons (fa : EE) (fr : EA) : EA := fun env => match fa env with
  | none => none
  | some (d, e1) => match fr e1 with
    | none => none
    | some (ds, e2) => some (d :: ds, e2)

theorem rd_cons {K : PySem.W.Frag} {fa : EE} {fr : EA} {σ : St} {H : Hp} {Q : List V → Hp → Prop} (h : tA K (eCons fa fr) σ H Q) : tCons (tE K fa) (tA K fr) σ H Q := by
  obtain ⟨B, env, ds, env', en, ev, q⟩ := h
  unfold eCons at ev
  split at ev
  · cases ev
  rename_i d e1 h1
  split at ev
  · cases ev
  rename_i ds1 e2 h2
  cases ev
  refine ⟨B, env, d, e1, en, h1, fun B1 H1 v a1 r1 => ⟨B1, e1, ds1, _, a1.en, h2, fun B2 H2 vs a2 r2 => q B2 H2 (v :: vs) (a1.trans en a2) ?_⟩⟩
  refine ⟨by simp [r2.len], fun k w d' hv hd => ?_, fun k l c c' w hkl hk hl vk vl => ?_⟩
  · cases k with
    | zero =>
      simp at hv hd
      subst hv hd
      exact (r1.ra).later a1.en a2
    | succ k =>
      have := r2.each k w d' (by simpa using hv) (by simpa using hd)
      cases d' with
      | pd x => exact this
      | nt x => exact this
      | var i => exact this
      | tmp c => obtain ⟨a, e1, e2, e3⟩ := this; exact ⟨a, e1, a1.st.liv a e2, e3⟩
  · have fresh : ∀ (k : Nat) c', ds1[k]? = some (.tmp c') → vs[k]? = some w → ∀ c, d = .tmp c → v = w → False := by
      intro kk c' gk gv c hd hw
      subst hd hw
      obtain ⟨a, rfl, _, ba, _, _⟩ := r1
      obtain ⟨a', e, h0, _⟩ := r2.each kk _ _ gv gk
      cases e
      obtain ⟨o, ho⟩ := a1.en.dom a ba
      rw [ho] at h0
      cases h0
    cases k with
    | zero =>
      cases l with
      | zero => exact hkl rfl
      | succ l => exact fresh l c' (by simpa using hl) (by simpa using vl) c (by simpa using hk) (by simpa using vk)
    | succ k =>
      cases l with
      | zero => exact fresh k c (by simpa using hk) (by simpa using vk) c' (by simpa using hl) (by simpa using vl)
      | succ l => exact r2.apart k l c c' w (by omega) (by simpa using hk) (by simpa using hl) (by simpa using vk) (by simpa using vl)
theorem rd_nil {K : PySem.W.Frag} {σ : St} {H : Hp} {Q : List V → Hp → Prop} (h : tA K eNil σ H Q) : tNil σ H Q := by
  obtain ⟨B, env, ds, env', en, ev, q⟩ := h
  cases ev
  exact q B H [] (.refl en) ⟨rfl, fun k v d h => by simp at h, fun k l c c' v _ h => by simp at h⟩

section
variable {X : Cx} {e : Expr} {es : List Expr} {K : PySem.W.Frag}
theorem a_nil : PA X [] (tA K eNil) := PA.imp pa_nil fun _ _ _ h => rd_nil h
theorem a_cons {fa : EE} {fr : EA} (ha : PE X e (tE K fa)) (hr : PA X es (tA K fr)) (hs : starEach (e :: es) X.env = (false, eval e X.env) :: starEach es X.env := by rfl) : PA X (e :: es) (tA K (eCons fa fr)) :=
  PA.imp (pa_cons ha hr hs) fun _ _ _ h => rd_cons h
end

def eVar (i : Nat) : EE := fun env => match env[i]? with
  | some (some (.pd x)) => some (.pd x, env)
  | some (some (.nt x)) => some (.nt x, env)
  | some (some (.mu _ _)) => some (.var i, env)
  | _ => none
def eC (x : PyData) : EE := fun env => some (.pd x, env)
theorem e_var {X : Cx} {e : Expr} {i : Nat} (h : PE X e (tVar i)) : PE X e (tE X.K (eVar i)) := PE.imp h fun σ H Q t => by
  obtain ⟨B, env, d, env', en, ev, q⟩ := t
  unfold eVar at ev
  split at ev
  · rename_i x hx
    cases ev
    obtain ⟨v, hv, r⟩ := en.pd _ _ hx
    exact ⟨v, hv, q B H v (.refl en) r⟩
  · rename_i x hx
    cases ev
    obtain ⟨a, hv, r⟩ := en.nt _ _ hx
    exact ⟨_, hv, q B H _ (.refl en) ⟨a, rfl, r⟩⟩
  · rename_i m c hx
    cases ev
    obtain ⟨a, hv, _, r⟩ := en.mu _ _ _ hx
    exact ⟨_, hv, q B H _ (.refl en) ⟨hv, _, _, hx⟩⟩
  · cases ev
theorem e_c {X : Cx} {e : Expr} {v : V} {x : PyData} (h : PE X e (tC v)) (r : ∀ B H, Rp X.K B H v x) : PE X e (tE X.K (eC x)) := PE.imp h fun σ H Q t => by
  obtain ⟨B, env, d, env', en, ev, q⟩ := t
  cases ev
  exact q B H v (.refl en) (r B H)

def ctn (env : Sl) : R → Option PyData
  | .pd x => some x
  | .nt xs => some (.tuple xs)
  | .tmp (.ls xs) => some (.list xs)
  | .tmp (.dk _) => none
  | .tmp (.dn _) => none
  | .var i => match env[i]? with
    | some (some (.mu _ (.ls xs))) => some (.list xs)
    | _ => none
def ctns (env : Sl) : List R → Option (List PyData)
  | [] => some []
  | d :: ds => match ctn env d with
    | none => none
    | some x => match ctns env ds with
      | none => none
      | some xs => some (x :: xs)
inductive Cn (K : PySem.W.Frag) (B : Mset) (H : Hp) : V → PyData → Prop
  | rp {v : V} {x : PyData} : Rp K B H v x → Cn K B H v x
  | ct {a : Addr} {vs : List V} {xs : List PyData} : H a = some (.lst vs) → RpA K B H vs xs → Cn K B H (.ref a) (.list xs)
inductive CnA (K : PySem.W.Frag) (B : Mset) (H : Hp) : List V → List PyData → Prop
  | nil : CnA K B H [] []
  | cons {v : V} {vs : List V} {d : PyData} {ds : List PyData} : Cn K B H v d → CnA K B H vs ds → CnA K B H (v :: vs) (d :: ds)
theorem Cn.of {K : PySem.W.Frag} {H₀ : Hp} {B : Mset} {H : Hp} {σ : St} {env : Sl} {v : V} {d : R} {x : PyData} (en : EnvR K B H σ env) (h : RA K H₀ B H σ env v d) (c : ctn env d = some x) : Cn K B H v x := by
  cases d with
  | pd y => cases c; exact .rp h
  | nt y => cases c; obtain ⟨a, rfl, h⟩ := h; exact .rp h.rp
  | tmp t =>
    cases t with
    | ls xs =>
      cases c
      obtain ⟨a, rfl, _, _, ⟨vs, h1, h2⟩, _⟩ := h
      exact .ct h1 h2
    | dk _ => cases c
    | dn _ => cases c
  | var i =>
    simp only [ctn] at c
    split at c
    · rename_i m xs hx
      cases c
      obtain ⟨a, h1, _, vs, h2, h3⟩ := en.mu _ _ _ hx
      have h : σ[i]? = some (some v) := h
      rw [h] at h1
      cases h1
      exact .ct h2 h3
    · cases c
theorem CnA.of {K : PySem.W.Frag} {H₀ : Hp} {B : Mset} {H : Hp} {σ : St} {env : Sl} (en : EnvR K B H σ env) : ∀ {vs : List V} {ds : List R} {xs : List PyData}, RRA K H₀ B H σ env vs ds → ctns env ds = some xs → CnA K B H vs xs
  | [], [], xs, _, c => by cases c; exact .nil
  | v :: vs, d :: ds, xs, r, c => by
    unfold ctns at c
    split at c
    · cases c
    rename_i x hx
    split at c
    · cases c
    rename_i ys hy
    cases c
    refine .cons (Cn.of en (r.each 0 v d rfl rfl) hx) (CnA.of en ⟨by have := r.len; simpa using this, fun k w e h1 h2 => r.each (k + 1) w e (by simpa using h1) (by simpa using h2), fun k l c c' w h0 h1 h2 h3 h4 => r.apart (k + 1) (l + 1) c c' w (by omega) (by simpa using h1) (by simpa using h2) (by simpa using h3) (by simpa using h4)⟩ hy)
  | [], _ :: _, _, r, _ => by have := r.len; simp at this
  | _ :: _, [], _, r, _ => by have := r.len; simp at this
theorem Cn.dp {K : PySem.W.Frag} {B : Mset} {H : Hp} {v : V} {x : PyData} (h : Cn K B H v x) (l : SeqAt.shaped x = true) : Dp K H v x := by
  have l0 : x.canLay0 = true := by
    unfold SeqAt.shaped at l
    rw [Bool.and_eq_true] at l
    exact l.1
  cases h with
  | rp h => exact h.dp0 l0
  | ct h r => exact .lst (.inl (.inl h)) (r.dp0 (by simpa [PyData.canLay0] using l0))
theorem Cn.list {K : PySem.W.Frag} {B : Mset} {H : Hp} {v : V} {xs : List PyData} (h : Cn K B H v (.list xs)) : ∃ a vs, v = .ref a ∧ SqL K H a vs ∧ RpA K B H vs xs := by
  cases h with
  | rp h =>
    cases h with
    | lst h _ r => exact ⟨_, _, rfl, .inl (.inl h), r⟩
    | frz h r => exact ⟨_, _, rfl, .inl (.inr ⟨_, h⟩), r⟩
    | kls h1 h2 h3 h4 h5 h6 r => exact ⟨_, _, rfl, .inr ⟨_, _, _, h1, h2, h3, h4, h5, h6⟩, r⟩
  | ct h r => exact ⟨_, _, rfl, .inl (.inl h), r⟩
theorem Cn.tuple {K : PySem.W.Frag} {B : Mset} {H : Hp} {v : V} {xs : List PyData} (h : Cn K B H v (.tuple xs)) : ∃ a vs, v = .ref a ∧ SqT K H a vs ∧ RpA K B H vs xs := by
  cases h with
  | rp h =>
    cases h with
    | tup h r => exact ⟨_, _, rfl, h, r⟩
theorem Cn.int {K : PySem.W.Frag} {B : Mset} {H : Hp} {v : V} {i : Int} (h : Cn K B H v (.int i)) : v = .int i := by
  cases h with
  | rp h => cases h; rfl
theorem Cn.str {K : PySem.W.Frag} {B : Mset} {H : Hp} {v : V} {i : Str} (h : Cn K B H v (.str i)) : v = .str i := by
  cases h with
  | rp h => cases h; rfl
theorem Cn.bool {K : PySem.W.Frag} {B : Mset} {H : Hp} {v : V} {i : Bool} (h : Cn K B H v (.bool i)) : v = .bl i := by
  cases h with
  | rp h => cases h; rfl
theorem Cn.none {K : PySem.W.Frag} {B : Mset} {H : Hp} {v : V} (h : Cn K B H v .none) : v = .non := by
  cases h with
  | rp h => cases h; rfl

theorem At.alloc {K : PySem.W.Frag} {σ : St} {B B1 : Mset} {H H1 : Hp} {env env1 : Sl} {p : Addr} (en : EnvR K B H σ env) (a : At K σ B H env B1 H1 env1) (np : H1 p = none) (o : HO) (mt : Prop) (fz : Mset)
    (hf : ∀ q, fz q → H q = none ∧ ∀ (i : Nat) m d, env1[i]? = some (some (S.mu m d)) → σ[i]? ≠ some (some (V.ref q))) :
    Grow B1 H1 (fun q => (B1 q ∧ ¬ fz q) ∨ (mt ∧ q = p)) (upd H1 p o) ∧ At K σ B H env (fun q => (B1 q ∧ ¬ fz q) ∨ (mt ∧ q = p)) (upd H1 p o) env1 := by
  have ne : ∀ {q o'}, H1 q = some o' → q ≠ p := fun {q o'} h e => by rw [e, np] at h; cases h
  have g : Grow B1 H1 (fun q => (B1 q ∧ ¬ fz q) ∨ (mt ∧ q = p)) (upd H1 p o) := ⟨fun q o' h _ => by rw [upd_ne (ne h)]; exact h, fun q h => by
    rcases h with h | h
    · exact .inl h.1
    · rw [h.2]; exact .inr np⟩
  refine ⟨g, ⟨fun q o' h c => ?_, fun q h => ?_, fun q h w => ?_, a.st.sub, fun q h => ?_⟩, ⟨a.en.len, fun i x h => ?_, fun i x h => ?_, fun i m c h => ?_, a.en.inj, fun q h => ?_, a.en.tb.on (fun q o' h _ => by rw [upd_ne (ne h)]; exact h) g.new⟩, a.sm, a.ks⟩
  · have h1 := a.st.keep q o' h c
    rw [upd_ne (ne h1)]; exact h1
  · rcases h with h | h
    · exact a.st.new q h.1
    · rw [h.2]; exact .inr (a.st.liv _ np)
  · refine .inl ⟨a.st.old q h w, fun f => ?_⟩
    obtain ⟨o', ho⟩ := en.dom q h
    rw [(hf q f).1] at ho; cases ho
  · by_cases e : q = p
    · rw [e]; exact a.st.liv _ np
    · rw [upd_ne e] at h; exact a.st.liv _ h
  · obtain ⟨v, h1, h2⟩ := a.en.pd i x h
    exact ⟨v, h1, h2.grow g⟩
  · obtain ⟨v, h1, h2⟩ := a.en.nt i x h
    exact ⟨v, h1, h2.grow g⟩
  · obtain ⟨q, h1, h2, h3⟩ := a.en.mu i m c h
    refine ⟨q, h1, .inl ⟨h2, fun f => (hf q f).2 i m c h h1⟩, ?_⟩
    cases c with
    | ls xs => obtain ⟨vs, h4, h5⟩ := h3; exact ⟨vs, by rw [upd_ne (ne h4)]; exact h4, h5.grow g⟩
    | dk xs => obtain ⟨vs, h4, h5⟩ := h3; exact ⟨vs, by rw [upd_ne (ne h4)]; exact h4, h5.grow g⟩
    | dn xs => obtain ⟨vs, h4, h5⟩ := h3; exact ⟨vs, by rw [upd_ne (ne h4)]; exact h4, h5.grow g⟩
  · rcases h with h | h
    · obtain ⟨o', ho⟩ := a.en.dom q h.1
      exact ⟨o', by rw [upd_ne (ne ho)]; exact ho⟩
    · rw [h.2]; exact ⟨o, upd_same⟩

abbrev KK := List R → Sl → Option (R × Sl)
def eThen (f : EA) (k : KK) : EE := fun env => match f env with
  | none => none
  | some (ds, e1) => k ds e1
def Con (K : PySem.W.Frag) (k : KK) (r : List V → Hp → VK → Prop) : Prop := ∀ σ H B env B1 H1 env1 vs ds d e2 Q, EnvR K B H σ env → At K σ B H env B1 H1 env1 → RRA K H B1 H1 σ env1 vs ds → k ds env1 = some (d, e2) →
  (∀ B' H' v, At K σ B H env B' H' e2 → RR K H B' H' σ e2 v d → Q v H') → r vs H1 Q
theorem rd_then {K : PySem.W.Frag} {f : EA} {k : KK} {r : List V → Hp → VK → Prop} (c : Con K k r) {σ : St} {H : Hp} {Q : VK} (h : tE K (eThen f k) σ H Q) : tA K f σ H (fun vs H1 => r vs H1 Q) := by
  obtain ⟨B, env, d, env', en, ev, q⟩ := h
  unfold eThen at ev
  split at ev
  · cases ev
  rename_i ds e1 h1
  exact ⟨B, env, ds, e1, en, h1, fun B1 H1 vs a1 r1 => c σ H B env B1 H1 e1 vs ds d env' Q en a1 r1 ev q⟩
def l2 (r : R2) : List V → Hp → VK → Prop := fun vs H Q => ∀ x y, vs = [x, y] → r x y H Q
def l1 (r : V → Hp → VK → Prop) : List V → Hp → VK → Prop := fun vs H Q => ∀ x, vs = [x] → r x H Q
def eTwo (fa fb : EE) : EA := eCons fa (eCons fb eNil)
def eOne (fa : EE) : EA := eCons fa eNil
theorem rd_two {K : PySem.W.Frag} {fa fb : EE} {k : KK} {r : R2} (c : Con K k (l2 r)) {σ : St} {H : Hp} {Q : VK} (h : tE K (eThen (eTwo fa fb) k) σ H Q) : tOp r (tE K fa) (tE K fb) σ H Q := by
  have h := rd_cons (rd_then c h)
  obtain ⟨B, env, d, env', en, ev, q⟩ := h
  refine ⟨B, env, d, env', en, ev, fun B1 H1 x a1 r1 => ?_⟩
  have h2 := rd_cons (q B1 H1 x a1 r1)
  obtain ⟨B, env, d, env', en, ev, q⟩ := h2
  refine ⟨B, env, d, env', en, ev, fun B2 H2 y a2 r2 => ?_⟩
  exact rd_nil (q B2 H2 y a2 r2) x y rfl
theorem rd_one {K : PySem.W.Frag} {fa : EE} {k : KK} {r : V → Hp → VK → Prop} (c : Con K k (l1 r)) {σ : St} {H : Hp} {Q : VK} (h : tE K (eThen (eOne fa) k) σ H Q) : tUn r (tE K fa) σ H Q := by
  have h := rd_cons (rd_then c h)
  obtain ⟨B, env, d, env', en, ev, q⟩ := h
  refine ⟨B, env, d, env', en, ev, fun B1 H1 x a1 r1 => ?_⟩
  exact rd_nil (q B1 H1 x a1 r1) x rfl

def kE (o : List PyData → Option PyData) : KK := fun ds env => match ctns env ds with
  | none => none
  | some xs => match o xs with
    | none => none
    | some z => some (.pd z, env)
def OkE (K : PySem.W.Frag) (o : List PyData → Option PyData) (r : List V → Hp → VK → Prop) : Prop := ∀ B H vs xs z Q, CnA K B H vs xs → o xs = some z → (∀ v, Rp K B H v z → Q v H) → r vs H Q
theorem con_E {K : PySem.W.Frag} {o : List PyData → Option PyData} {r : List V → Hp → VK → Prop} (h : OkE K o r) : Con K (kE o) r := by
  intro σ H B env B1 H1 env1 vs ds d e2 Q en a rr hk q
  unfold kE at hk
  split at hk
  · cases hk
  rename_i xs hx
  split at hk
  · cases hk
  rename_i z hz
  cases hk
  exact h B1 H1 vs xs z _ (CnA.of a.en rr hx) hz fun v hv => q B1 H1 v a hv
def kT (o : List PyData → Option (List PyData)) : KK := fun ds env => match ctns env ds with
  | none => none
  | some xs => match o xs with
    | none => none
    | some z => some (.pd (.tuple z), env)
def OkT (K : PySem.W.Frag) (o : List PyData → Option (List PyData)) (r : List V → Hp → VK → Prop) : Prop := ∀ B H vs xs z Q, CnA K B H vs xs → o xs = some z → (∀ v, Rp K B H v (.tuple z) → Q v H) → (∀ ws p, RpA K B H ws z → H p = none → Q (.ref p) (upd H p (.tup ws))) → r vs H Q
theorem con_T {K : PySem.W.Frag} {o : List PyData → Option (List PyData)} {r : List V → Hp → VK → Prop} (h : OkT K o r) : Con K (kT o) r := by
  intro σ H B env B1 H1 env1 vs ds d e2 Q en a rr hk q
  unfold kT at hk
  split at hk
  · cases hk
  rename_i xs hx
  split at hk
  · cases hk
  rename_i z hz
  cases hk
  refine h B1 H1 vs xs z _ (CnA.of a.en rr hx) hz (fun v hv => q B1 H1 v a hv) fun ws p hw np => ?_
  obtain ⟨g, a2⟩ := a.alloc en np (.tup ws) False (fun _ => False) (fun _ f => f.elim)
  exact q _ _ _ a2 (.tup (.inl (.inl upd_same)) (hw.grow g))
def kL (o : List PyData → Option (List PyData)) : KK := fun ds env => match ctns env ds with
  | none => none
  | some xs => match o xs with
    | none => none
    | some z => some (.tmp (.ls z), env)
def OkL (K : PySem.W.Frag) (o : List PyData → Option (List PyData)) (r : List V → Hp → VK → Prop) : Prop := ∀ B H vs xs z Q, CnA K B H vs xs → o xs = some z → (∀ ws p, RpA K B H ws z → H p = none → Q (.ref p) (upd H p (.lst ws))) → r vs H Q
theorem con_L {K : PySem.W.Frag} {o : List PyData → Option (List PyData)} {r : List V → Hp → VK → Prop} (h : OkL K o r) : Con K (kL o) r := by
  intro σ H B env B1 H1 env1 vs ds d e2 Q en a rr hk q
  unfold kL at hk
  split at hk
  · cases hk
  rename_i xs hx
  split at hk
  · cases hk
  rename_i z hz
  cases hk
  refine h B1 H1 vs xs z _ (CnA.of a.en rr hx) hz fun ws p hw np => ?_
  obtain ⟨g, a2⟩ := a.alloc en np (.lst ws) True (fun _ => False) (fun _ f => f.elim)
  refine q _ _ _ a2 ⟨p, rfl, a.st.liv _ np, .inr ⟨trivial, rfl⟩, ⟨ws, upd_same, hw.grow g⟩, fun i m d h1 h2 => ?_⟩
  obtain ⟨b, h3, h4, _⟩ := a.en.mu i m d h1
  rw [h3] at h2
  cases h2
  obtain ⟨o', ho⟩ := a.en.dom _ h4
  rw [np] at ho; cases ho
end T3

end
section
set_option linter.all false
set_option autoImplicit false
set_option Elab.async false
namespace T3
open PySem L2
variable [TabL]

def data1 : R → Option PyData
  | .pd x => some x
  | .nt xs => some (.tuple xs)
  | .tmp c => some (ctD c)
  | .var _ => none
def datas : List R → Option (List PyData)
  | [] => some []
  | d :: ds => match data1 d with
    | none => none
    | some x => match datas ds with
      | none => none
      | some xs => some (x :: xs)
def fzOf (vs : List V) (ds : List R) : Mset := fun q => ∃ (k : Nat) (c : Ct), ds[k]? = some (.tmp c) ∧ vs[k]? = some (.ref q)
theorem RRA.fz {K : PySem.W.Frag} {H₀ : Hp} {B : Mset} {H : Hp} {σ : St} {env : Sl} {vs : List V} {ds : List R} (r : RRA K H₀ B H σ env vs ds) : ∀ q, fzOf vs ds q → H₀ q = none ∧ ∀ (i : Nat) m d, env[i]? = some (some (S.mu m d)) → σ[i]? ≠ some (some (V.ref q)) := by
  rintro q ⟨k, c, h1, h2⟩
  obtain ⟨a, e, h3, _, _, h5⟩ := r.each k _ _ h2 h1
  cases e
  exact ⟨h3, h5⟩
theorem RRA.tail {K : PySem.W.Frag} {H₀ : Hp} {B : Mset} {H : Hp} {σ : St} {env : Sl} {v : V} {d : R} {vs : List V} {ds : List R} (r : RRA K H₀ B H σ env (v :: vs) (d :: ds)) : RRA K H₀ B H σ env vs ds :=
  ⟨by have := r.len; simpa using this, fun k w e h1 h2 => r.each (k + 1) w e (by simpa using h1) (by simpa using h2), fun k l c c' w h0 h1 h2 h3 h4 => r.apart (k + 1) (l + 1) c c' w (by omega) (by simpa using h1) (by simpa using h2) (by simpa using h3) (by simpa using h4)⟩
theorem RRA.data {K : PySem.W.Frag} {H₀ : Hp} {B B' : Mset} {H H' : Hp} {σ : St} {env : Sl} (g : Grow B H B' H') (hk : ∀ a o, H a = some o → H' a = some o) : ∀ {vs : List V} {ds : List R} {xs : List PyData}, RRA K H₀ B H σ env vs ds → (∀ q, fzOf vs ds q → ¬ B' q) → datas ds = some xs → RpA K B' H' vs xs
  | [], [], xs, _, _, c => by cases c; exact .nil
  | v :: vs, d :: ds, xs, r, nb, c => by
    unfold datas at c
    split at c
    · cases c
    rename_i x hx
    split at c
    · cases c
    rename_i ys hy
    cases c
    refine .cons ?_ (RRA.data g hk r.tail (fun q ⟨k, c, h1, h2⟩ => nb q ⟨k + 1, c, by simpa using h1, by simpa using h2⟩) hy)
    have h := r.each 0 v d rfl rfl
    cases d with
    | pd y => cases hx; exact Rp.grow g h
    | nt y => cases hx; obtain ⟨a, rfl, h⟩ := h; exact h.rp.grow g
    | var i => cases hx
    | tmp t =>
      cases hx
      obtain ⟨a, rfl, _, _, hc, _⟩ := h
      refine CtR.rp ?_ (nb a ⟨0, _, rfl, rfl⟩)
      exact hc.hop g (hk _)
  | [], _ :: _, _, r, _, _ => by have := r.len; simp at this
  | _ :: _, [], _, r, _, _ => by have := r.len; simp at this
theorem datas_len : ∀ {ds : List R} {xs : List PyData}, datas ds = some xs → xs.length = ds.length
  | [], xs, c => by cases c; rfl
  | d :: ds, xs, c => by
    unfold datas at c
    split at c
    · cases c
    split at c
    · cases c
    rename_i h
    cases c
    simp [datas_len h]
def kTup : KK := fun ds env => match datas ds with
  | none => none
  | some xs => if xs.length ≤ 1000 then some (.pd (.tuple xs), env) else none
def kLst : KK := fun ds env => match datas ds with
  | none => none
  | some xs => if xs.length ≤ 1000 then some (.tmp (.ls xs), env) else none
theorem keep_upd {H : Hp} {p : Addr} {o : HO} (np : H p = none) : ∀ a o', H a = some o' → upd H p o a = some o' := fun a o' h => by
  rw [upd_ne (fun e => by rw [e, np] at h; cases h)]; exact h
theorem con_tup {K : PySem.W.Frag} : Con K kTup (fun xs H1 Q => xs.length ≤ sizeLine ∧ ∀ p, H1 p = none → Q (.ref p) (upd H1 p (.tup xs))) := by
  intro σ H B env B1 H1 env1 vs ds d e2 Q en a rr hk q
  unfold kTup at hk
  split at hk
  · cases hk
  rename_i xs hx
  split at hk
  · rename_i hl
    cases hk
    refine ⟨by rw [rr.len, ← datas_len hx]; exact Nat.le_of_lt (small1000 hl), fun p np => ?_⟩
    obtain ⟨g, a2⟩ := a.alloc en np (.tup vs) False (fzOf vs ds) rr.fz
    exact q _ _ _ a2 (.tup (.inl (.inl upd_same)) (rr.data g (keep_upd np) (fun q f h => h.elim (fun h => h.2 f) (fun h => h.1)) hx))
  · cases hk
theorem con_lst {K : PySem.W.Frag} : Con K kLst (fun xs H1 Q => xs.length ≤ sizeLine ∧ ∀ p, H1 p = none → Q (.ref p) (upd H1 p (.lst xs))) := by
  intro σ H B env B1 H1 env1 vs ds d e2 Q en a rr hk q
  unfold kLst at hk
  split at hk
  · cases hk
  rename_i xs hx
  split at hk
  · rename_i hl
    cases hk
    refine ⟨by rw [rr.len, ← datas_len hx]; exact Nat.le_of_lt (small1000 hl), fun p np => ?_⟩
    obtain ⟨g, a2⟩ := a.alloc en np (.lst vs) True (fzOf vs ds) rr.fz
    have nfp : ∀ q, fzOf vs ds q → q ≠ p := by
      rintro q ⟨k, c, h1, h2⟩ e
      obtain ⟨b, e2, _, h4, _⟩ := rr.each k _ _ h2 h1
      cases e2
      obtain ⟨o, ho⟩ := a.en.dom _ h4
      rw [e, np] at ho; cases ho
    refine q _ _ _ a2 ⟨p, rfl, a.st.liv _ np, .inr ⟨trivial, rfl⟩, ⟨vs, upd_same, rr.data g (keep_upd np) (fun q f h => h.elim (fun h => h.2 f) (fun h => nfp q f h.2)) hx⟩, fun i m d h1 h2 => ?_⟩
    obtain ⟨b, h3, h4, _⟩ := a.en.mu i m d h1
    rw [h3] at h2
    cases h2
    obtain ⟨o', ho⟩ := a.en.dom _ h4
    rw [np] at ho; cases ho
  · cases hk
section
variable {X : Cx} {e : Expr} {es : List Expr} {pos : Pos} {f : EA} {fa fb : EE}
theorem e_tup {k : Nat} (h : PA X es (tA X.K f)) : PE X (.Tuple es k pos) (tE X.K (eThen f kTup)) := PE.imp (pe_tup h) fun _ _ _ t => rd_then con_tup t
theorem e_lst (h : PA X es (tA X.K f)) : PE X (.List es pos) (tE X.K (eThen f kLst)) := PE.imp (pe_lst h) fun _ _ _ t => rd_then con_lst t
theorem e_op {a b : Expr} {op : Operator} {r : R2} {k : KK} (ho : OpR X (binaryOp op) r) (c : Con X.K k (l2 r)) (ha : PE X a (tE X.K fa)) (hb : PE X b (tE X.K fb)) : PE X (.BinOp a op b pos) (tE X.K (eThen (eTwo fa fb) k)) :=
  PE.imp (pe_op ho ha hb) fun _ _ _ t => rd_two c t
theorem e_un {a : Expr} {op : UnaryOp} {r : V → Hp → VK → Prop} {k : KK} (ho : UnR X (unaryOp op) r) (c : Con X.K k (l1 r)) (ha : PE X a (tE X.K fa)) : PE X (.UnaryOp op a pos) (tE X.K (eThen (eOne fa) k)) :=
  PE.imp (pe_un ho ha) fun _ _ _ t => rd_one c t
theorem e_cmp {a b : Expr} {op : CmpOp} {r : R2} {k : KK} (ho : OpR X (compareOp op) r) (c : Con X.K k (l2 r)) (ha : PE X a (tE X.K fa)) (hb : PE X b (tE X.K fb)) (hm : behindInMarks op b = false := by rfl) : PE X (.Compare a [op] [b] pos) (tE X.K (eThen (eTwo fa fb) k)) :=
  PE.imp (pe_cmpR ho ha hb hm) fun _ _ _ t => rd_two c t
theorem e_ix {a b : Expr} {r : R2} {k : KK} (ho : IxR X r) (c : Con X.K k (l2 r)) (ha : PE X a (tE X.K fa)) (hb : PE X b (tE X.K fb)) (hs : PlainIx b := by exact fun _ _ => rfl) : PE X (.Subscript a b pos) (tE X.K (eThen (eTwo fa fb) k)) :=
  PE.imp (pe_ix ho ha hb hs) fun _ _ _ t => rd_two c t
theorem e_callB {id : String} {x : Str} {p : Pos} {r : List V → Hp → VK → Prop} {k : KK} (hc : CallR X (.builtin id) r) (c : Con X.K k r) (hg : Gl X x) (hm : X.mg x = none) (hv : bootBuiltins x = some (.builtin id)) (ha : PA X (e :: es) (tA X.K f)) (hn : x ≠ "__name__" := by decide) (hdb : (x == ("__debug__" : Str)) = false := by decide) (he : starEach (e :: es) X.env = (false, eval e X.env) :: starEach es X.env := by rfl) (hpl : (backTo pos (starEach es X.env)).any (·.1) = false := by rfl) :
    PE X (.Call (.Name x p) (e :: es) [] pos) (tE X.K (eThen f k)) :=
  PE.imp (pe_callB hc hg hm hv ha hn hdb he hpl) fun _ _ _ t => rd_then c t
theorem e_callTy {T : String} {x : Str} {p : Pos} {r : List V → Hp → VK → Prop} {k : KK} (hc : CallR X (.type T) r) (c : Con X.K k r) (hg : Gl X x) (hm : X.mg x = none) (hv : bootBuiltins x = some (.type T)) (ha : PA X (e :: es) (tA X.K f)) (hn : x ≠ "__name__" := by decide) (hdb : (x == ("__debug__" : Str)) = false := by decide) (he : starEach (e :: es) X.env = (false, eval e X.env) :: starEach es X.env := by rfl) (hpl : (backTo pos (starEach es X.env)).any (·.1) = false := by rfl) :
    PE X (.Call (.Name x p) (e :: es) [] pos) (tE X.K (eThen f k)) :=
  PE.imp (pe_callTy hc hg hm hv ha hn hdb he hpl) fun _ _ _ t => rd_then c t
end

abbrev EB := Sl → Option (Bool × Sl)
def tT (K : PySem.W.Frag) (f : EB) : TT := fun σ H Q => ∃ B env b env', EnvR K B H σ env ∧ f env = some (b, env') ∧ ∀ B' H', At K σ B H env B' H' env' → Q b H'
def bT (f : EE) : EB := fun env => match f env with
  | some (.pd (.bool b), e) => some (b, e)
  | _ => none
theorem rd_test {K : PySem.W.Frag} {f : EE} {σ : St} {H : Hp} {Q : Bool → Hp → Prop} (h : tT K (bT f) σ H Q) : tTest (tE K f) σ H Q := by
  obtain ⟨B, env, b, env', en, ev, q⟩ := h
  unfold bT at ev
  split at ev
  · rename_i b' e' h1
    cases ev
    refine ⟨B, env, _, env', en, h1, fun B' H' v a r => ?_⟩
    have r : Rp K B' H' v (.bool b) := r
    cases r
    exact ⟨_, rfl, q _ _ a⟩
  · cases ev
def bAnd (f g : EB) : EB := fun env => match f env with
  | none => none
  | some (b, e) => if b = true then g e else some (false, e)
def bOr (f g : EB) : EB := fun env => match f env with
  | none => none
  | some (b, e) => if b = true then some (true, e) else g e
def bNot (f : EB) : EB := fun env => match f env with
  | none => none
  | some (b, e) => some (!b, e)
theorem tT.later {K : PySem.W.Frag} {f : EB} {σ : St} {H : Hp} {Q : Bool → Hp → Prop} {B B1 : Mset} {H1 : Hp} {env e1 env' : Sl} {b : Bool} (en : EnvR K B H σ env) (a1 : At K σ B H env B1 H1 e1) (ev : f e1 = some (b, env')) (q : ∀ B' H', At K σ B H env B' H' env' → Q b H') : tT K f σ H1 Q :=
  ⟨B1, e1, b, env', a1.en, ev, fun B2 H2 a2 => q B2 H2 (a1.trans en a2)⟩
theorem rd_or {K : PySem.W.Frag} {f g : EB} {σ : St} {H : Hp} {Q : Bool → Hp → Prop} (h : tT K (bOr f g) σ H Q) : tOr (tT K f) (tT K g) σ H Q := by
  obtain ⟨B, env, b, env', en, ev, q⟩ := h
  unfold bOr at ev
  split at ev
  · cases ev
  rename_i b1 e1 h1
  refine ⟨B, env, b1, e1, en, h1, fun B1 H1 a1 => ?_⟩
  cases b1 with
  | false => simp at ev ⊢; exact tT.later en a1 ev q
  | true => simp at ev ⊢; obtain ⟨rfl, rfl⟩ := ev; exact q _ _ a1
theorem rd_not {K : PySem.W.Frag} {f : EB} {σ : St} {H : Hp} {Q : Bool → Hp → Prop} (h : tT K (bNot f) σ H Q) : tNot (tT K f) σ H Q := by
  obtain ⟨B, env, b, env', en, ev, q⟩ := h
  unfold bNot at ev
  split at ev
  · cases ev
  rename_i b1 e1 h1
  cases ev
  exact ⟨B, env, b1, env', en, h1, fun B1 H1 a1 => q _ _ a1⟩
def eB (f : EB) : EE := fun env => match f env with
  | none => none
  | some (b, e) => some (.pd (.bool b), e)
theorem rd_eT {K : PySem.W.Frag} {f : EE} {σ : St} {H : Hp} {Q : VK} (h : tE K (eB (bT f)) σ H Q) : tE K f σ H Q := by
  obtain ⟨B, env, d, env', en, ev, q⟩ := h
  unfold eB bT at ev
  split at ev
  · cases ev
  rename_i b e1 h1
  cases ev
  split at h1
  · rename_i h2
    cases h1
    exact ⟨B, env, _, _, en, h2, q⟩
  · cases h1
theorem rd_andV {K : PySem.W.Frag} {f g : EB} {σ : St} {H : Hp} {Q : VK} (h : tE K (eB (bAnd f g)) σ H Q) : tAndV (tE K (eB f)) (tE K (eB g)) σ H Q := by
  obtain ⟨B, env, d, env', en, ev, q⟩ := h
  unfold eB bAnd at ev
  split at ev
  · cases ev
  rename_i b0 e0 h0
  cases ev
  split at h0
  · cases h0
  rename_i b1 e1 h1
  refine ⟨B, env, .pd (.bool b1), e1, en, by unfold eB; rw [h1], fun B1 H1 v a1 r1 => ?_⟩
  have r1 : Rp K B1 H1 v (.bool b1) := r1
  cases r1
  refine ⟨b1, rfl, ?_⟩
  cases b1 with
  | true => simp at h0 ⊢; exact ⟨B1, e1, _, _, a1.en, by unfold eB; rw [h0], fun B2 H2 v a2 r2 => q B2 H2 v (a1.trans en a2) (RR.from (H₁ := H1) r2 a1.st.liv)⟩
  | false => simp at h0 ⊢; obtain ⟨rfl, rfl⟩ := h0; exact q _ _ _ a1 (.bl _)
theorem rd_notV {K : PySem.W.Frag} {f : EB} {σ : St} {H : Hp} {Q : VK} (h : tE K (eB (bNot f)) σ H Q) : tNotV (tE K (eB f)) σ H Q := by
  obtain ⟨B, env, d, env', en, ev, q⟩ := h
  unfold eB bNot at ev
  split at ev
  · cases ev
  rename_i b0 e0 h0
  cases ev
  split at h0
  · cases h0
  rename_i b1 e1 h1
  cases h0
  refine ⟨B, env, .pd (.bool b1), _, en, by unfold eB; rw [h1], fun B1 H1 v a1 r1 => ?_⟩
  have r1 : Rp K B1 H1 v (.bool b1) := r1
  cases r1
  exact ⟨b1, rfl, q _ _ _ a1 (.bl _)⟩
def eIf (c : EB) (f g : EE) : EE := fun env => match c env with
  | none => none
  | some (b, e) => if b = true then f e else g e
theorem tE.later {K : PySem.W.Frag} {f : EE} {σ : St} {H : Hp} {Q : VK} {B B1 : Mset} {H1 : Hp} {env e1 env' : Sl} {d : R} (en : EnvR K B H σ env) (a1 : At K σ B H env B1 H1 e1) (ev : f e1 = some (d, env')) (q : ∀ B' H' v, At K σ B H env B' H' env' → RR K H B' H' σ env' v d → Q v H') : tE K f σ H1 Q :=
  ⟨B1, e1, d, env', a1.en, ev, fun B2 H2 v a2 r2 => q B2 H2 v (a1.trans en a2) (r2.from a1.st.liv)⟩
theorem rd_if {K : PySem.W.Frag} {c : EB} {f g : EE} {σ : St} {H : Hp} {Q : VK} (h : tE K (eIf c f g) σ H Q) : tIf (tT K c) (tE K f) (tE K g) σ H Q := by
  obtain ⟨B, env, d, env', en, ev, q⟩ := h
  unfold eIf at ev
  split at ev
  · cases ev
  rename_i b1 e1 h1
  refine ⟨B, env, b1, e1, en, h1, fun B1 H1 a1 => ?_⟩
  cases b1 with
  | true => simp at ev ⊢; exact tE.later en a1 ev q
  | false => simp at ev ⊢; exact tE.later en a1 ev q
section
variable {X : Cx} {a b c : Expr} {rest : List Expr} {pos : Pos} {f g : EB} {fa fb fc : EE}
theorem b_of {t : TE} (h : PT X a (tTest t)) (i : ∀ σ H Q, tE X.K fa σ H Q → t σ H Q) : PT X a (tT X.K (bT fa)) := PT.imp h fun σ H Q q => i _ _ _ (rd_test q)
theorem b_cmp {op : CmpOp} {r : R2} {k : KK} (ho : OpR X (compareOp op) r) (cn : Con X.K k (l2 r)) (ha : PE X a (tE X.K fa)) (hb : PE X b (tE X.K fb)) (hm : behindInMarks op b = false := by rfl) : PT X (.Compare a [op] [b] pos) (tT X.K (bT (eThen (eTwo fa fb) k))) :=
  b_of (pt_cmpR ho ha hb hm) fun _ _ _ t => rd_two cn t
theorem b_or1 (ha : PT X a (tT X.K f)) : PW X (.BoolOp .Or [a] pos) (tT X.K f) := pw_or1 ha
theorem PW.imp {e : Expr} {t t' : TT} (h : PW X e t) (i : ∀ σ H Q, t' σ H Q → t σ H Q) : PW X e t' := ⟨fun w pins s σ H Q I q => h.run w pins s σ H Q I (i σ H Q q)⟩
theorem b_or (ha : PT X a (tT X.K f)) (hb : PW X (.BoolOp .Or (b :: rest) pos) (tT X.K g)) : PW X (.BoolOp .Or (a :: b :: rest) pos) (tT X.K (bOr f g)) := PW.imp (pw_or ha hb) fun _ _ _ t => rd_or t
theorem b_not (ha : PT X a (tT X.K f)) : PT X (.UnaryOp .Not a pos) (tT X.K (bNot f)) := PT.imp (pt_not ha) fun _ _ _ t => rd_not t
theorem e_and1 {op} (ha : PE X a (tE X.K fa)) : PE X (.BoolOp op [a] pos) (tE X.K (eB (bT fa))) := PE.imp (pe_one ha) fun _ _ _ t => rd_eT t
theorem e_bool (ha : PE X a (tE X.K fa)) : PE X a (tE X.K (eB (bT fa))) := PE.imp ha fun _ _ _ t => rd_eT t
theorem e_and (ha : PE X a (tE X.K (eB f))) (hb : PE X (.BoolOp .And (b :: rest) pos) (tE X.K (eB g))) : PE X (.BoolOp .And (a :: b :: rest) pos) (tE X.K (eB (bAnd f g))) := PE.imp (pe_and ha hb) fun _ _ _ t => rd_andV t
theorem e_not (ha : PE X a (tE X.K (eB f))) : PE X (.UnaryOp .Not a pos) (tE X.K (eB (bNot f))) := PE.imp (pe_not ha) fun _ _ _ t => rd_notV t
theorem e_if (hc : PT X c (tT X.K f)) (ha : PE X a (tE X.K fa)) (hb : PE X b (tE X.K fb)) : PE X (.IfExp c a b pos) (tE X.K (eIf f fa fb)) := PE.imp (pe_ifExp hc ha hb) fun _ _ _ t => rd_if t
end
end T3

end
section
set_option linter.all false
set_option autoImplicit false
set_option Elab.async false
namespace T3
open PySem L2
variable [TabL]

inductive Fl where | nx | bk | ct | rt (d : R)
abbrev SS := Sl → Option (Fl × Sl)
def Bor (σ : St) (env : Sl) (σ' : St) (env' : Sl) : Prop := ∀ (i : Nat) m c, env[i]? = some (some (S.mu m c)) → m ≠ .own → σ'[i]? = σ[i]? ∧ ∃ c', env'[i]? = some (some (S.mu m c'))
structure AtS (K : PySem.W.Frag) (σ : St) (B : Mset) (H : Hp) (env : Sl) (σ' : St) (B' : Mset) (H' : Hp) (env' : Sl) : Prop where
  st : Stp (Wof σ env) B H (Wof σ' env') B' H'
  en : EnvR K B' H' σ' env'
  bo : Bor σ env σ' env'
theorem Bor.refl {σ : St} {env : Sl} : Bor σ env σ env := fun i m c h _ => ⟨rfl, c, h⟩
theorem Bor.trans {σ σ1 σ2 : St} {env env1 env2 : Sl} (a : Bor σ env σ1 env1) (b : Bor σ1 env1 σ2 env2) : Bor σ env σ2 env2 := fun i m c h hm => by
  obtain ⟨h1, c1, h2⟩ := a i m c h hm
  obtain ⟨h3, h4⟩ := b i m c1 h2 hm
  exact ⟨h3.trans h1, h4⟩
theorem AtS.refl {K : PySem.W.Frag} {σ : St} {B : Mset} {H : Hp} {env : Sl} (e : EnvR K B H σ env) : AtS K σ B H env σ B H env := ⟨.refl, e, .refl⟩
theorem AtS.trans {K : PySem.W.Frag} {σ σ1 σ2 : St} {B B1 B2 : Mset} {H H1 H2 : Hp} {env env1 env2 : Sl} (e : EnvR K B H σ env) (a : AtS K σ B H env σ1 B1 H1 env1) (b : AtS K σ1 B1 H1 env1 σ2 B2 H2 env2) : AtS K σ B H env σ2 B2 H2 env2 :=
  ⟨a.st.trans b.st e.wb e.dom, b.en, a.bo.trans b.bo⟩
def Fin (K : PySem.W.Frag) (D : Ends) (H : Hp) (fl : Fl) (B' : Mset) (σ' : St) (H' : Hp) (env' : Sl) : Prop := match fl with
  | .nx => D.nx σ' H'
  | .bk => D.bk σ' H'
  | .ct => D.ct σ' H'
  | .rt d => ∀ v, RR K H B' H' σ' env' v d → D.rt v H'
def tS (K : PySem.W.Frag) (f : SS) : TS := fun D σ H => ∃ B env fl env', EnvR K B H σ env ∧ f env = some (fl, env') ∧ ∀ B' σ' H', AtS K σ B H env σ' B' H' env' → Fin K D H fl B' σ' H' env'
def sPass : SS := fun env => some (.nx, env)
def sSeq (f g : SS) : SS := fun env => match f env with
  | none => none
  | some (.nx, e1) => g e1
  | some (fl, e1) => some (fl, e1)
theorem tS.later {K : PySem.W.Frag} {f : SS} {D : Ends} {σ σ1 : St} {H H1 : Hp} {B B1 : Mset} {env e1 env' : Sl} {fl : Fl} (en : EnvR K B H σ env) (a1 : AtS K σ B H env σ1 B1 H1 e1) (ev : f e1 = some (fl, env')) (q : ∀ B' σ' H', AtS K σ B H env σ' B' H' env' → Fin K D H fl B' σ' H' env') : tS K f D σ1 H1 := by
  refine ⟨B1, e1, fl, env', a1.en, ev, fun B2 σ2 H2 a2 => ?_⟩
  have h := q B2 σ2 H2 (a1.trans en a2)
  cases fl with
  | nx => exact h
  | bk => exact h
  | ct => exact h
  | rt d => exact fun v r => h v (r.from a1.st.liv)
theorem rd_seq {K : PySem.W.Frag} {f g : SS} {D : Ends} {σ : St} {H : Hp} (h : tS K (sSeq f g) D σ H) : tSeq (tS K f) (tS K g) D σ H := by
  obtain ⟨B, env, fl, env', en, ev, q⟩ := h
  unfold sSeq at ev
  split at ev
  · cases ev
  · rename_i e1 h1
    exact ⟨B, env, .nx, e1, en, h1, fun B1 σ1 H1 a1 => tS.later en a1 ev q⟩
  · rename_i fl1 e1 hn h1
    cases ev
    refine ⟨B, env, fl, env', en, h1, fun B1 σ1 H1 a1 => ?_⟩
    have h := q B1 σ1 H1 a1
    cases fl with
    | nx => exact (hn rfl).elim
    | bk => exact h
    | ct => exact h
    | rt d => exact h
theorem rd_pass {K : PySem.W.Frag} {D : Ends} {σ : St} {H : Hp} (h : tS K sPass D σ H) : tNext D σ H := by
  obtain ⟨B, env, fl, env', en, ev, q⟩ := h
  cases ev
  exact q B σ H (.refl en)
theorem At.s {K : PySem.W.Frag} {σ : St} {B B1 : Mset} {H H1 : Hp} {env env1 : Sl} (a : At K σ B H env B1 H1 env1) : AtS K σ B H env σ B1 H1 env1 :=
  ⟨a.st, a.en, fun i m c h _ => ⟨rfl, a.ks i m c h⟩⟩
def sIf (c : EB) (f g : SS) : SS := fun env => match c env with
  | none => none
  | some (b, e) => if b = true then f e else g e
theorem rd_ifS {K : PySem.W.Frag} {c : EB} {f g : SS} {D : Ends} {σ : St} {H : Hp} (h : tS K (sIf c f g) D σ H) : tIfS (tT K c) (tS K f) (tS K g) D σ H := by
  obtain ⟨B, env, fl, env', en, ev, q⟩ := h
  unfold sIf at ev
  split at ev
  · cases ev
  rename_i b1 e1 h1
  refine ⟨B, env, b1, e1, en, h1, fun B1 H1 a1 => ?_⟩
  cases b1 with
  | true => simp at ev ⊢; exact tS.later en a1.s ev q
  | false => simp at ev ⊢; exact tS.later en a1.s ev q
def sRet (f : EE) : SS := fun env => match f env with
  | none => none
  | some (d, e) => some (.rt d, e)
theorem rd_ret {K : PySem.W.Frag} {f : EE} {D : Ends} {σ : St} {H : Hp} (h : tS K (sRet f) D σ H) : tRet (tE K f) D σ H := by
  obtain ⟨B, env, fl, env', en, ev, q⟩ := h
  unfold sRet at ev
  split at ev
  · cases ev
  rename_i d e1 h1
  cases ev
  exact ⟨B, env, d, _, en, h1, fun B1 H1 v a1 r1 => q B1 σ H1 a1.s v r1⟩
def sExpr (f : EE) : SS := fun env => match f env with
  | none => none
  | some (_, e) => some (.nx, e)
theorem rd_expr {K : PySem.W.Frag} {f : EE} {D : Ends} {σ : St} {H : Hp} (h : tS K (sExpr f) D σ H) : tDrop (tE K f) D σ H := by
  obtain ⟨B, env, fl, env', en, ev, q⟩ := h
  unfold sExpr at ev
  split at ev
  · cases ev
  rename_i d e1 h1
  cases ev
  exact ⟨B, env, d, _, en, h1, fun B1 H1 v a1 r1 => q B1 σ H1 a1.s⟩
def sNever : SS := fun _ => none
theorem rd_never {K : PySem.W.Frag} {D : Ends} {σ : St} {H : Hp} (h : tS K sNever D σ H) : tNever D σ H := by
  obtain ⟨B, env, fl, env', en, ev, q⟩ := h
  cases ev

def free (env : Sl) (i : Nat) : Bool := match env[i]? with
  | some (some (.mu .own _)) => true
  | some (some (.pd _)) => true
  | some (some (.nt _)) => true
  | some none => true
  | _ => false
def setR (i : Nat) (d : R) (env : Sl) : Option Sl := if free env i = true then match d with
    | .pd x => some (env.set i (some (.pd x)))
    | .nt x => some (env.set i (some (.nt x)))
    | .tmp c => some (env.set i (some (.mu .own c)))
    | .var _ => none
  else none
theorem free_ne {env : Sl} {i : Nat} (h : free env i = true) : i < env.length ∧ ∀ m c, env[i]? = some (some (S.mu m c)) → m = .own := by
  unfold free at h
  split at h
  · rename_i h1; refine ⟨(List.getElem?_eq_some_iff.mp h1).1, fun m c e => ?_⟩; rw [h1] at e; cases e; rfl
  · rename_i h1; refine ⟨(List.getElem?_eq_some_iff.mp h1).1, fun m c e => ?_⟩; rw [h1] at e; cases e
  · rename_i h1; refine ⟨(List.getElem?_eq_some_iff.mp h1).1, fun m c e => ?_⟩; rw [h1] at e; cases e
  · rename_i h1; refine ⟨(List.getElem?_eq_some_iff.mp h1).1, fun m c e => ?_⟩; rw [h1] at e; cases e
  · cases h
theorem get_set {α : Type} {l : List α} {i j : Nat} {x y : α} (h : (l.set i x)[j]? = some y) : (i = j ∧ y = x) ∨ (i ≠ j ∧ l[j]? = some y) := by
  by_cases e : i = j
  · subst e
    by_cases hl : i < l.length
    · rw [List.getElem?_set_self hl] at h; cases h; exact .inl ⟨rfl, rfl⟩
    · rw [List.getElem?_eq_none (by simpa using hl)] at h; cases h
  · rw [List.getElem?_set_ne e] at h; exact .inr ⟨e, h⟩
theorem AtS.set {K : PySem.W.Frag} {σ₀ σ : St} {B B1 : Mset} {H H1 : Hp} {env e1 e2 : Sl} {i : Nat} {v : V} {d : R} (en : EnvR K B H σ₀ env) (a : AtS K σ₀ B H env σ B1 H1 e1) (r : RA K H B1 H1 σ e1 v d) (hs : setR i d e1 = some e2) : AtS K σ₀ B H env (σ.set i (some v)) B1 H1 e2 := by
  unfold setR at hs
  split at hs
  · rename_i hf
    obtain ⟨hi, hm⟩ := free_ne hf
    have hiσ : i < σ.length := by rw [← a.en.len]; exact hi
    have bor : ∀ x, Bor σ₀ env (σ.set i (some v)) (e1.set i x) := fun x j m c h hn => by
      obtain ⟨h1, c', h2⟩ := a.bo j m c h hn
      have hj : i ≠ j := fun z => by subst z; exact hn (hm _ _ h2)
      exact ⟨by rw [List.getElem?_set_ne hj]; exact h1, c', by rw [List.getElem?_set_ne hj]; exact h2⟩
    cases d with
    | var _ => cases hs
    | pd x =>
      cases hs
      have wsub : ∀ q, Wof (σ.set i (some v)) (e1.set i (some (.pd x))) q → Wof σ e1 q := by
        rintro q ⟨j, m, c, h1, h2, h3⟩
        rcases get_set h1 with ⟨e, e'⟩ | ⟨e, h1⟩
        · cases e'
        · rw [List.getElem?_set_ne e] at h3; exact ⟨j, m, c, h1, h2, h3⟩
      refine ⟨⟨a.st.keep, a.st.new, a.st.old, fun q w => a.st.sub q (wsub q w), a.st.liv⟩, ⟨by simp [a.en.len], fun j y h => ?_, fun j y h => ?_, fun j m c h => ?_, fun j k m n c c' q h1 h2 h3 h4 => ?_, a.en.dom, a.en.tb⟩, bor _⟩
      · rcases get_set h with ⟨e, e'⟩ | ⟨e, h⟩
        · cases e'; subst e; exact ⟨v, by rw [List.getElem?_set_self hiσ], r⟩
        · obtain ⟨w, h1, h2⟩ := a.en.pd j y h
          exact ⟨w, by rw [List.getElem?_set_ne e]; exact h1, h2⟩
      · rcases get_set h with ⟨e, e'⟩ | ⟨e, h⟩
        · cases e'
        · obtain ⟨w, h1, h2⟩ := a.en.nt j y h
          exact ⟨w, by rw [List.getElem?_set_ne e]; exact h1, h2⟩
      · rcases get_set h with ⟨e, e'⟩ | ⟨e, h⟩
        · cases e'
        · obtain ⟨w, h1, h2⟩ := a.en.mu j m c h
          exact ⟨w, by rw [List.getElem?_set_ne e]; exact h1, h2⟩
      · rcases get_set h1 with ⟨e, e'⟩ | ⟨e, h1⟩
        · cases e'
        rcases get_set h2 with ⟨f, e'⟩ | ⟨f, h2⟩
        · cases e'
        rw [List.getElem?_set_ne e] at h3
        rw [List.getElem?_set_ne f] at h4
        exact a.en.inj j k m n c c' q h1 h2 h3 h4
    | nt x =>
      cases hs
      obtain ⟨p, rfl, r⟩ := r
      have wsub : ∀ q, Wof (σ.set i (some (.ref p))) (e1.set i (some (.nt x))) q → Wof σ e1 q := by
        rintro q ⟨j, m, c, h1, h2, h3⟩
        rcases get_set h1 with ⟨e, e'⟩ | ⟨e, h1⟩
        · cases e'
        · rw [List.getElem?_set_ne e] at h3; exact ⟨j, m, c, h1, h2, h3⟩
      refine ⟨⟨a.st.keep, a.st.new, a.st.old, fun q w => a.st.sub q (wsub q w), a.st.liv⟩, ⟨by simp [a.en.len], fun j y h => ?_, fun j y h => ?_, fun j m c h => ?_, fun j k m n c c' q h1 h2 h3 h4 => ?_, a.en.dom, a.en.tb⟩, bor _⟩
      · rcases get_set h with ⟨e, e'⟩ | ⟨e, h⟩
        · cases e'
        · obtain ⟨w, h1, h2⟩ := a.en.pd j y h
          exact ⟨w, by rw [List.getElem?_set_ne e]; exact h1, h2⟩
      · rcases get_set h with ⟨e, e'⟩ | ⟨e, h⟩
        · cases e'; subst e; exact ⟨p, by rw [List.getElem?_set_self hiσ], r⟩
        · obtain ⟨w, h1, h2⟩ := a.en.nt j y h
          exact ⟨w, by rw [List.getElem?_set_ne e]; exact h1, h2⟩
      · rcases get_set h with ⟨e, e'⟩ | ⟨e, h⟩
        · cases e'
        · obtain ⟨w, h1, h2⟩ := a.en.mu j m c h
          exact ⟨w, by rw [List.getElem?_set_ne e]; exact h1, h2⟩
      · rcases get_set h1 with ⟨e, e'⟩ | ⟨e, h1⟩
        · cases e'
        rcases get_set h2 with ⟨f, e'⟩ | ⟨f, h2⟩
        · cases e'
        rw [List.getElem?_set_ne e] at h3
        rw [List.getElem?_set_ne f] at h4
        exact a.en.inj j k m n c c' q h1 h2 h3 h4
    | tmp t =>
      cases hs
      obtain ⟨p, rfl, h0, hb, hc, hns⟩ := r
      refine ⟨⟨a.st.keep, a.st.new, a.st.old, fun q w => ?_, a.st.liv⟩, ⟨by simp [a.en.len], fun j y h => ?_, fun j y h => ?_, fun j m c h => ?_, fun j k m n c c' q h1 h2 h3 h4 => ?_, a.en.dom, a.en.tb⟩, bor _⟩
      · obtain ⟨j, m, c, h1, h2, h3⟩ := w
        rcases get_set h1 with ⟨e, e'⟩ | ⟨e, h1⟩
        · subst e
          rw [List.getElem?_set_self hiσ] at h3
          cases h3
          exact .inr h0
        · rw [List.getElem?_set_ne e] at h3; exact a.st.sub q ⟨j, m, c, h1, h2, h3⟩
      · rcases get_set h with ⟨e, e'⟩ | ⟨e, h⟩
        · cases e'
        · obtain ⟨w, h1, h2⟩ := a.en.pd j y h
          exact ⟨w, by rw [List.getElem?_set_ne e]; exact h1, h2⟩
      · rcases get_set h with ⟨e, e'⟩ | ⟨e, h⟩
        · cases e'
        · obtain ⟨w, h1, h2⟩ := a.en.nt j y h
          exact ⟨w, by rw [List.getElem?_set_ne e]; exact h1, h2⟩
      · rcases get_set h with ⟨e, e'⟩ | ⟨e, h⟩
        · cases e'; subst e; exact ⟨p, by rw [List.getElem?_set_self hiσ], hb, hc⟩
        · obtain ⟨w, h1, h2⟩ := a.en.mu j m c h
          exact ⟨w, by rw [List.getElem?_set_ne e]; exact h1, h2⟩
      · rcases get_set h1 with ⟨e, e'⟩ | ⟨e, h1⟩
        · subst e
          rw [List.getElem?_set_self hiσ] at h3
          cases h3
          rcases get_set h2 with ⟨f, e''⟩ | ⟨f, h2⟩
          · exact f
          · rw [List.getElem?_set_ne f] at h4
            exact absurd h4 (hns _ _ _ h2)
        · rw [List.getElem?_set_ne e] at h3
          rcases get_set h2 with ⟨f, e''⟩ | ⟨f, h2⟩
          · subst f
            rw [List.getElem?_set_self hiσ] at h4
            cases h4
            exact absurd h3 (hns _ _ _ h1)
          · rw [List.getElem?_set_ne f] at h4
            exact a.en.inj j k m n c c' q h1 h2 h3 h4
  · cases hs
def sSet (i : Nat) (f : EE) : SS := fun env => match f env with
  | none => none
  | some (d, e) => match setR i d e with
    | none => none
    | some e2 => some (.nx, e2)
theorem rd_set {K : PySem.W.Frag} {i : Nat} {f : EE} {D : Ends} {σ : St} {H : Hp} (h : tS K (sSet i f) D σ H) : tAsg (tE K f) (gName i) D σ H := by
  obtain ⟨B, env, fl, env', en, ev, q⟩ := h
  unfold sSet at ev
  split at ev
  · cases ev
  rename_i d e1 h1
  split at ev
  · cases ev
  rename_i e2 h2
  cases ev
  exact ⟨B, env, d, _, en, h1, fun B1 H1 v a1 r1 => q B1 _ H1 (AtS.set en a1.s r1.ra h2)⟩
abbrev GG := PyData → Sl → Option Sl
def tG (K : PySem.W.Frag) (g : GG) : TG := fun v σ H Q => ∃ B env x env', EnvR K B H σ env ∧ Rp K B H v x ∧ g x env = some env' ∧ ∀ B' σ' H', AtS K σ B H env σ' B' H' env' → Q σ' H'
def gN (i : Nat) : GG := fun x env => setR i (.pd x) env
theorem rd_gN {K : PySem.W.Frag} {i : Nat} {v : V} {σ : St} {H : Hp} {Q : St → Hp → Prop} (h : tG K (gN i) v σ H Q) : gName i v σ H Q := by
  obtain ⟨B, env, x, env', en, r, ev, q⟩ := h
  exact q B _ H (AtS.set en (.refl en) (d := .pd x) r ev)
abbrev GGs := List PyData → Sl → Option Sl
def tGs (K : PySem.W.Frag) (g : GGs) : TGs := fun vs σ H Q => ∃ B env xs env', EnvR K B H σ env ∧ RpA K B H vs xs ∧ g xs env = some env' ∧ ∀ B' σ' H', AtS K σ B H env σ' B' H' env' → Q σ' H'
def gNl : GGs := fun xs env => match xs with
  | [] => some env
  | _ => none
def gCn (g : GG) (gs : GGs) : GGs := fun xs env => match xs with
  | [] => none
  | x :: xs => match g x env with
    | none => none
    | some e => gs xs e
theorem rd_gNl {K : PySem.W.Frag} {vs : List V} {σ : St} {H : Hp} {Q : St → Hp → Prop} (h : tGs K gNl vs σ H Q) : gNil vs σ H Q := by
  obtain ⟨B, env, x, env', en, r, ev, q⟩ := h
  unfold gNl at ev
  split at ev
  · cases ev; cases r; exact ⟨rfl, q B _ H (.refl en)⟩
  · cases ev
theorem rd_gCn {K : PySem.W.Frag} {g : GG} {gs : GGs} {vs : List V} {σ : St} {H : Hp} {Q : St → Hp → Prop} (h : tGs K (gCn g gs) vs σ H Q) : gCons (tG K g) (tGs K gs) vs σ H Q := by
  obtain ⟨B, env, xs, env', en, r, ev, q⟩ := h
  unfold gCn at ev
  split at ev
  · cases ev
  rename_i x xs
  split at ev
  · cases ev
  rename_i e1 h1
  cases r with
  | cons r1 r2 =>
    exact ⟨_, _, rfl, B, env, x, e1, en, r1, h1, fun B1 σ1 H1 a1 => ⟨B1, e1, xs, env', a1.en, r2.grow (a1.st.grow en.wb), ev, fun B2 σ2 H2 a2 => q B2 σ2 H2 (a1.trans en a2)⟩⟩
def gT (n : Nat) (gs : GGs) : GG := fun x env => match x with
  | .tuple xs => if xs.length = n then gs xs env else none
  | _ => none
theorem rd_gT {K : PySem.W.Frag} {n : Nat} {gs : GGs} {v : V} {σ : St} {H : Hp} {Q : St → Hp → Prop} (h : tG K (gT n gs) v σ H Q) : gTup K n (tGs K gs) v σ H Q := by
  obtain ⟨B, env, x, env', en, r, ev, q⟩ := h
  unfold gT at ev
  split at ev
  · split at ev
    · rename_i xs hl
      obtain ⟨a, vs, rfl, h1, h2⟩ := Cn.tuple (.rp r)
      exact ⟨a, vs, rfl, h1, by rw [h2.length]; exact hl, B, env, xs, env', en, h2, ev, q⟩
    · cases ev
  · cases ev
def putL (j : Nat) (i : Int) (x : PyData) (env : Sl) : Option Sl := match env[j]? with
  | some (some (.mu m (.ls xs))) => if m = .fro then none else match ixN xs.length i with
    | none => none
    | some k => some (env.set j (some (.mu m (.ls (xs.set k x)))))
  | _ => none
theorem AtS.write {K : PySem.W.Frag} {σ : St} {B : Mset} {H : Hp} {env : Sl} {j : Nat} {m : Md} {c c' : Ct} {a : Addr} {o : HO} (en : EnvR K B H σ env) (hj : env[j]? = some (some (.mu m c))) (hm : m ≠ .fro) (ha : σ[j]? = some (some (.ref a))) (ni : ∀ o', H a = some o' → ¬ Imm o')
    (hc : ∀ H', (∀ q o', q ≠ a → H q = some o' → H' q = some o') → H' a = some o → Grow B H B H' → CtR K B H' a c') : Grow B H B (upd H a o) ∧ At K σ B H env B (upd H a o) (env.set j (some (.mu m c'))) := by
  have hjl : j < env.length := (List.getElem?_eq_some_iff.mp hj).1
  obtain ⟨a', ha', hb, _⟩ := en.mu j m c hj
  rw [ha] at ha'
  cases ha'
  have w : Wof σ env a := ⟨j, m, c, hj, hm, ha⟩
  have g : Grow B H B (upd H a o) := ⟨fun q o' h n => by
    by_cases e : q = a
    · subst e
      rcases n with n | n
      · exact absurd hb n.1
      · exact absurd n (ni _ h)
    · rw [upd_ne e]; exact h, fun q h => .inl h⟩
  refine ⟨g, ⟨fun q o' h n => ?_, fun q h => .inl h, fun q h _ => h, fun q w' => ?_, fun q h => ?_⟩, ⟨by simp [en.len], fun i x h => ?_, fun i x h => ?_, fun i m' d h => ?_, fun i k m1 m2 c1 c2 q h1 h2 h3 h4 => ?_, fun q h => ?_, en.tb.on (fun q o' h n => by rw [upd_ne (fun e => n (by rw [e]; exact hb))]; exact h) g.new⟩, fun i m1 c1 h => ?_, fun i m1 c1 h => ?_⟩
  · by_cases e : q = a
    · subst e
      rcases n with n | n
      · exact absurd w n.1
      · exact absurd n (ni _ h)
    · rw [upd_ne e]; exact h
  · obtain ⟨i, m1, c1, h1, h2, h3⟩ := w'
    rcases get_set h1 with ⟨e, e'⟩ | ⟨e, h1⟩
    · subst e; rw [ha] at h3; cases h3; exact .inl w
    · exact .inl ⟨i, m1, c1, h1, h2, h3⟩
  · by_cases e : q = a
    · subst e; rw [upd_same] at h; cases h
    · rw [upd_ne e] at h; exact h
  · rcases get_set h with ⟨e, e'⟩ | ⟨e, h⟩
    · cases e'
    · obtain ⟨v, h1, h2⟩ := en.pd i x h
      exact ⟨v, h1, h2.grow g⟩
  · rcases get_set h with ⟨e, e'⟩ | ⟨e, h⟩
    · cases e'
    · obtain ⟨v, h1, h2⟩ := en.nt i x h
      exact ⟨v, h1, h2.grow g⟩
  · rcases get_set h with ⟨e, e'⟩ | ⟨e, h⟩
    · cases e'
      subst e
      exact ⟨a, ha, hb, hc _ (fun q o' n h => by rw [upd_ne n]; exact h) upd_same g⟩
    · obtain ⟨b, h1, h2, h3⟩ := en.mu i m' d h
      refine ⟨b, h1, h2, ?_⟩
      have nb : b ≠ a := fun z => by subst z; exact e (en.inj j i m m' c d b hj h ha h1)
      cases d with
      | ls xs => obtain ⟨vs, h4, h5⟩ := h3; exact ⟨vs, by rw [upd_ne nb]; exact h4, h5.grow g⟩
      | dk xs => obtain ⟨vs, h4, h5⟩ := h3; exact ⟨vs, by rw [upd_ne nb]; exact h4, h5.grow g⟩
      | dn xs => obtain ⟨vs, h4, h5⟩ := h3; exact ⟨vs, by rw [upd_ne nb]; exact h4, h5.grow g⟩
  · have f : ∀ {i : Nat} {m1 : Md} {c1 : Ct}, (env.set j (some (S.mu m c')))[i]? = some (some (.mu m1 c1)) → ∃ m2 c2, env[i]? = some (some (.mu m2 c2)) := fun {i m1 c1} h => by
      rcases get_set h with ⟨e, e'⟩ | ⟨e, h⟩
      · subst e; exact ⟨m, c, hj⟩
      · exact ⟨_, _, h⟩
    obtain ⟨_, _, g1⟩ := f h1
    obtain ⟨_, _, g2⟩ := f h2
    exact en.inj i k _ _ _ _ q g1 g2 h3 h4
  · by_cases e : q = a
    · subst e; exact ⟨_, upd_same⟩
    · rw [upd_ne e]; exact en.dom q h
  · rcases get_set h with ⟨e, e'⟩ | ⟨e, h⟩
    · cases e'; subst e; exact ⟨c, hj⟩
    · exact ⟨_, h⟩
  · by_cases e : j = i
    · subst e; rw [hj] at h; cases h; exact ⟨c', by rw [List.getElem?_set_self hjl]⟩
    · exact ⟨c1, by rw [List.getElem?_set_ne e]; exact h⟩
end T3

end
section
set_option linter.all false
set_option autoImplicit false
set_option Elab.async false
namespace T3
open PySem L2
variable [TabL]

structure Wk (K : PySem.W.Frag) (J : It) (pr : Mset) (G : Mset → Hp → Prop) (xs : List PyData) : Prop where
  go : ∀ i B H, G B H → i < xs.length → J.go i H
  stop : ∀ B H, G B H → J.stop xs.length H
  yld : ∀ (i : Nat) B H x H' d, G B H → xs[i]? = some d → J.yld i H x H' → (H' = H ∨ (∃ T vs, H T = none ∧ H' = upd H T (.tup vs)) ∨ ∃ T vs T2 vs2, H T = none ∧ upd H T (.tup vs) T2 = none ∧ H' = upd (upd H T (.tup vs)) T2 (.tup vs2)) ∧ Rp K B H' x d
  keep : ∀ W B H W' B' H', G B H → Stp W B H W' B' H' → (∀ a, W a → B a) → (∀ a, pr a → ¬ W a) → G B' H'

abbrev Lk := Option (Nat × Md)
abbrev EI := Sl → Option (List PyData × Lk × Sl)
def Locked (lk : Lk) (e e' : Sl) : Prop := match lk with
  | none => e' = e
  | some (i, m) => ∃ c, e[i]? = some (some (S.mu m c)) ∧ e' = e.set i (some (.mu .fro c))
def unlock (lk : Lk) (env : Sl) : Sl := match lk with
  | none => env
  | some (i, m) => match env[i]? with
    | some (some (.mu _ c)) => env.set i (some (.mu m c))
    | _ => env
def tI (K : PySem.W.Frag) (f : EI) : TI := fun σ H R => ∃ B env xs lk env', EnvR K B H σ env ∧ f env = some (xs, lk, env') ∧
  ∀ B' H' J pr G e1, At K σ B H env B' H' e1 → Locked lk e1 env' → Wk K J pr G xs → G B' H' → (∀ a, pr a → ¬ Wof σ env' a ∧ ∃ o, H' a = some o) → R J H'

theorem EnvR.mode {K : PySem.W.Frag} {B : Mset} {H : Hp} {σ : St} {env : Sl} {i : Nat} {m m' : Md} {c : Ct} (en : EnvR K B H σ env) (h : env[i]? = some (some (.mu m c))) : EnvR K B H σ (env.set i (some (.mu m' c))) := by
  have f : ∀ {j : Nat} {m1 : Md} {c1 : Ct}, (env.set i (some (S.mu m' c)))[j]? = some (some (.mu m1 c1)) → ∃ m2, env[j]? = some (some (.mu m2 c1)) := fun {j m1 c1} h1 => by
    rcases get_set h1 with ⟨e, e'⟩ | ⟨e, h1⟩
    · cases e'; subst e; exact ⟨m, h⟩
    · exact ⟨_, h1⟩
  refine ⟨by simp [en.len], fun j x h1 => ?_, fun j x h1 => ?_, fun j m1 c1 h1 => ?_, fun j k m1 m2 c1 c2 a h1 h2 h3 h4 => ?_, en.dom, en.tb⟩
  · rcases get_set h1 with ⟨e, e'⟩ | ⟨e, h1⟩
    · cases e'
    · exact en.pd j x h1
  · rcases get_set h1 with ⟨e, e'⟩ | ⟨e, h1⟩
    · cases e'
    · exact en.nt j x h1
  · obtain ⟨m2, h2⟩ := f h1
    exact en.mu j m2 c1 h2
  · obtain ⟨_, g1⟩ := f h1
    obtain ⟨_, g2⟩ := f h2
    exact en.inj j k _ _ _ _ a g1 g2 h3 h4
theorem Locked.en {K : PySem.W.Frag} {B : Mset} {H : Hp} {σ : St} {lk : Lk} {e e' : Sl} (l : Locked lk e e') (en : EnvR K B H σ e) : EnvR K B H σ e' := by
  cases lk with
  | none => cases l; exact en
  | some p => obtain ⟨i, m⟩ := p; obtain ⟨c, h1, rfl⟩ := l; exact en.mode h1
theorem Locked.sub {σ : St} {lk : Lk} {e e' : Sl} (l : Locked lk e e') : ∀ a, Wof σ e' a → Wof σ e a := by
  cases lk with
  | none => cases l; exact fun _ h => h
  | some p =>
    obtain ⟨i, m⟩ := p
    obtain ⟨c, h1, rfl⟩ := l
    rintro a ⟨j, m1, c1, h2, h3, h4⟩
    rcases get_set h2 with ⟨e, e'⟩ | ⟨e, h2⟩
    · cases e'; exact absurd rfl h3
    · exact ⟨j, m1, c1, h2, h3, h4⟩
theorem Locked.stp {W B B1 : Mset} {H H1 : Hp} {σ : St} {lk : Lk} {e e' : Sl} (l : Locked lk e e') (s : Stp W B H (Wof σ e) B1 H1) : Stp W B H (Wof σ e') B1 H1 := ⟨s.keep, s.new, s.old, fun a h => s.sub a (l.sub a h), s.liv⟩
theorem AtS.through {K : PySem.W.Frag} {σ σ2 : St} {B B1 B2 : Mset} {H H1 H2 : Hp} {env e1 e1' e2 : Sl} {lk : Lk} (en : EnvR K B H σ env) (a : At K σ B H env B1 H1 e1) (l : Locked lk e1 e1') (b : AtS K σ B1 H1 e1' σ2 B2 H2 e2) : AtS K σ B H env σ2 B2 H2 (unlock lk e2) := by
  have t : Stp (Wof σ env) B H (Wof σ2 e2) B2 H2 := (l.stp a.st).trans b.st en.wb en.dom
  cases lk with
  | none =>
    cases l
    exact ⟨t, b.en, fun i m c h hm => by
      obtain ⟨c1, h1⟩ := a.ks i m c h
      exact b.bo i m c1 h1 hm⟩
  | some p =>
    obtain ⟨i, m⟩ := p
    obtain ⟨c, h1, rfl⟩ := l
    have hi : i < e1.length := (List.getElem?_eq_some_iff.mp h1).1
    obtain ⟨hσ, c2, h2⟩ := b.bo i .fro c (by rw [List.getElem?_set_self hi]) (by decide)
    have hi2 : i < e2.length := (List.getElem?_eq_some_iff.mp h2).1
    have eu : unlock (some (i, m)) e2 = e2.set i (some (.mu m c2)) := by simp only [unlock, h2]
    rw [eu]
    refine ⟨⟨t.keep, t.new, t.old, fun q w => ?_, t.liv⟩, b.en.mode h2, fun j n d h hn => ?_⟩
    · obtain ⟨j, m1, d, g1, g2, g3⟩ := w
      rcases get_set g1 with ⟨e, e'⟩ | ⟨e, g1⟩
      · cases e'
        subst e
        rw [hσ] at g3
        exact a.st.sub q ⟨i, m, c, h1, g2, g3⟩
      · exact t.sub q ⟨j, m1, d, g1, g2, g3⟩
    · obtain ⟨d1, g1⟩ := a.ks j n d h
      by_cases e : i = j
      · subst e
        rw [h1] at g1
        cases g1
        exact ⟨hσ, c2, by rw [List.getElem?_set_self hi2]⟩
      · obtain ⟨g2, d2, g3⟩ := b.bo j n d1 (by rw [List.getElem?_set_ne e]; exact g1) hn
        exact ⟨g2, d2, by rw [List.getElem?_set_ne e]; exact g3⟩
theorem RR.relock {K : PySem.W.Frag} {H₀ H : Hp} {B : Mset} {σ : St} {env : Sl} {v : V} {d : R} {lk : Lk} (h : RR K H₀ B H σ env v d) : RR K H₀ B H σ (T3.unlock lk env) v d := by
  cases lk with
  | none => exact h
  | some p =>
    obtain ⟨i, m⟩ := p
    simp only [T3.unlock]
    split
    · rename_i m1 c h1
      have hi := (List.getElem?_eq_some_iff.mp h1).1
      cases d with
      | pd x => exact h
      | nt x => exact h
      | tmp t =>
        obtain ⟨a, e, h2, h3, h4, h5⟩ := h
        refine ⟨a, e, h2, h3, h4, fun j n d g => ?_⟩
        rcases get_set g with ⟨e, e'⟩ | ⟨e, g⟩
        · subst e; exact h5 i _ _ h1
        · exact h5 j n d g
      | var j =>
        obtain ⟨h2, n, d, h3⟩ := h
        refine ⟨h2, ?_⟩
        by_cases q : i = j
        · subst q; exact ⟨m, c, by rw [List.getElem?_set_self hi]⟩
        · exact ⟨n, d, by rw [List.getElem?_set_ne q]; exact h3⟩
    · exact h
theorem At.pair {K : PySem.W.Frag} {σ : St} {B : Mset} {H : Hp} {env : Sl} {T : Addr} {vs : List V} (en : EnvR K B H σ env) (nT : H T = none) : At K σ B H env B (upd H T (.tup vs)) env := by
  have ne : ∀ {q o'}, H q = some o' → q ≠ T := fun {q o'} h e => by rw [e, nT] at h; cases h
  have g : Grow B H B (upd H T (.tup vs)) := ⟨fun q o' h _ => by rw [upd_ne (ne h)]; exact h, fun q h => .inl h⟩
  refine ⟨⟨fun q o' h c => by rw [upd_ne (ne h)]; exact h, fun q h => .inl h, fun q h _ => h, fun q h => .inl h, fun q h => ?_⟩, ⟨en.len, fun i x h => ?_, fun i x h => ?_, fun i m c h => ?_, en.inj, fun q h => ?_, en.tb.on (fun q o' h _ => by rw [upd_ne (ne h)]; exact h) g.new⟩, fun i m c h => ⟨c, h⟩, fun i m c h => ⟨c, h⟩⟩
  · by_cases e : q = T
    · rw [e]; exact nT
    · rw [upd_ne e] at h; exact h
  · obtain ⟨v, h1, h2⟩ := en.pd i x h
    exact ⟨v, h1, h2.grow g⟩
  · obtain ⟨v, h1, h2⟩ := en.nt i x h
    exact ⟨v, h1, h2.grow g⟩
  · obtain ⟨q, h1, h2, h3⟩ := en.mu i m c h
    refine ⟨q, h1, h2, ?_⟩
    cases c with
    | ls xs => obtain ⟨vs, h4, h5⟩ := h3; exact ⟨vs, by rw [upd_ne (ne h4)]; exact h4, h5.grow g⟩
    | dk xs => obtain ⟨vs, h4, h5⟩ := h3; exact ⟨vs, by rw [upd_ne (ne h4)]; exact h4, h5.grow g⟩
    | dn xs => obtain ⟨vs, h4, h5⟩ := h3; exact ⟨vs, by rw [upd_ne (ne h4)]; exact h4, h5.grow g⟩
  · obtain ⟨o', ho⟩ := en.dom q h
    exact ⟨o', by rw [upd_ne (ne ho)]; exact ho⟩

def forL (g : GG) (body : SS) : List PyData → SS
  | [], env => some (.nx, env)
  | x :: xs, env => match g x env with
    | none => none
    | some e1 => match body e1 with
      | none => none
      | some (.nx, e2) => forL g body xs e2
      | some (.ct, e2) => forL g body xs e2
      | some (.bk, e2) => some (.nx, e2)
      | some (.rt d, e2) => some (.rt d, e2)
def sFor (it : EI) (g : GG) (body : SS) : SS := fun env => match it env with
  | none => none
  | some (xs, lk, e1) => match forL g body xs e1 with
    | none => none
    | some (fl, e2) => some (fl, unlock lk e2)
theorem rd_for {K : PySem.W.Frag} {it : EI} {g : GG} {body : SS} {D : Ends} {σ : St} {H : Hp} (h : tS K (sFor it g body) D σ H) : tFor (tI K it) (tG K g) (tS K body) D σ H := by
  obtain ⟨B, env, fl, env', en, ev, q⟩ := h
  unfold sFor at ev
  split at ev
  · cases ev
  rename_i xs lk e1 h1
  split at ev
  · cases ev
  rename_i fl' e2 h2
  cases ev
  refine ⟨B, env, xs, lk, e1, en, h1, fun B1 H1 J pr G e0 a1 lkd wk g0 hpr => ?_⟩
  have en1 : EnvR K B1 H1 σ e1 := lkd.en a1.en
  -- the walked thing stands wherever one comes
  have stays : ∀ {σi Bi Hi ei}, AtS K σ B1 H1 e1 σi Bi Hi ei → G Bi Hi := fun {σi Bi Hi ei} a => wk.keep _ _ _ _ _ _ g0 a.st en1.wb fun x hx => (hpr x hx).1
  have done : ∀ {σi Bi Hi ei}, AtS K σ B1 H1 e1 σi Bi Hi ei → ei = e2 → Fin K D H fl Bi σi Hi (unlock lk e2) := fun {σi Bi Hi ei} a e => by
    subst e
    exact q Bi σi Hi (AtS.through en a1 lkd a)
  refine ⟨fun i m σi Hi => i ≤ xs.length ∧ m = xs.length - i ∧ ∃ Bi ei, AtS K σ B1 H1 e1 σi Bi Hi ei ∧ forL g body (xs.drop i) ei = some (fl, e2), ⟨_, Nat.zero_le _, rfl, B1, e1, .refl en1, h2⟩, ?_⟩
  rintro i m σi Hi ⟨hi, rfl, Bi, ei, ai, fi⟩
  have gi := stays ai
  by_cases hlt : i < xs.length
  · have hd : xs.drop i = xs[i] :: xs.drop (i + 1) := List.drop_eq_getElem_cons hlt
    rw [hd] at fi
    unfold forL at fi
    split at fi
    · cases fi
    rename_i e3 h3
    refine .inr ⟨wk.go i Bi Hi gi hlt, fun σ' H' => ∃ B' e', AtS K σ B1 H1 e1 σ' B' H' e' ∧ forL g body (xs.drop (i + 1)) e' = some (fl, e2), fun σ' H' ⟨B', e', a', f'⟩ => ⟨xs.length - (i + 1), by omega, hlt, rfl, B', e', a', f'⟩, fun x H' hy => ?_⟩
    obtain ⟨hH, rx⟩ := wk.yld i Bi Hi x H' xs[i] gi (List.getElem?_eq_getElem hlt) hy
    have ay : At K σi Bi Hi ei Bi H' ei := by
      rcases hH with e | ⟨T, vs, nT, e⟩ | ⟨T, vs, T2, vs2, nT, nT2, e⟩
      · subst e; exact .refl ai.en
      · subst e; exact At.pair ai.en nT
      · subst e; exact (At.pair ai.en nT).trans ai.en (At.pair (At.pair ai.en nT).en nT2)
    have ai' : AtS K σ B1 H1 e1 σi Bi H' ei := ai.trans en1 ay.s
    refine ⟨Bi, ei, xs[i], e3, ay.en, rx, h3, fun B3 σ3 H3 a3 => ?_⟩
    have a3' : AtS K σ B1 H1 e1 σ3 B3 H3 e3 := ai'.trans en1 a3
    split at fi
    · cases fi
    · rename_i e4 h4
      exact ⟨B3, e3, .nx, e4, a3.en, h4, fun B4 σ4 H4 a4 => ⟨B4, e4, a3'.trans en1 a4, fi⟩⟩
    · rename_i e4 h4
      exact ⟨B3, e3, .ct, e4, a3.en, h4, fun B4 σ4 H4 a4 => ⟨B4, e4, a3'.trans en1 a4, fi⟩⟩
    · rename_i e4 h4
      cases fi
      exact ⟨B3, e3, .bk, _, a3.en, h4, fun B4 σ4 H4 a4 => done (a3'.trans en1 a4) rfl⟩
    · rename_i d e4 h4
      cases fi
      refine ⟨B3, e3, .rt d, _, a3.en, h4, fun B4 σ4 H4 a4 v r => ?_⟩
      have z := done (a3'.trans en1 a4) rfl
      exact z v ((r.from fun a h => a1.st.liv a (a3'.st.liv a h)).relock)
  · have e : i = xs.length := by omega
    subst e
    rw [List.drop_length] at fi
    cases fi
    exact .inl ⟨wk.stop Bi Hi gi, done ai rfl⟩
end T3

end
section
set_option linter.all false
set_option autoImplicit false
set_option Elab.async false
namespace T3
open PySem L2
variable [TabL]

abbrev FnD := List S → Option (R × List S)
def outR (env : Sl) : R → Option R
  | .pd x => some (.pd x)
  | .nt x => some (.nt x)
  | .tmp c => some (.tmp c)
  | .var i => match env[i]? with
    | some (some (.mu .own c)) => some (.tmp c)
    | _ => none
def finals : List S → Sl → Option (List S)
  | [], _ => some []
  | .pd x :: as, _ :: env => match finals as env with
    | none => none
    | some l => some (.pd x :: l)
  | .nt x :: as, _ :: env => match finals as env with
    | none => none
    | some l => some (.nt x :: l)
  | .mu m _ :: as, some (.mu m' c') :: env => if m = m' ∧ m ≠ .own then match finals as env with
      | none => none
      | some l => some (.mu m c' :: l)
    else none
  | _ :: _, _ => none
def startE (n : Nat) (as : List S) : Sl := as.map some ++ List.replicate (n - as.length) none
def runFn (n : Nat) (b : SS) : FnD := fun as => match b (startE n as) with
  | some (.rt d, e) => match outR e d with
    | none => none
    | some d' => match finals as e with
      | none => none
      | some as' => some (d', as')
  | some (.nx, e) => match finals as e with
    | none => none
    | some as' => some (.pd .none, as')
  | _ => none
def spF (K : PySem.W.Frag) (F : FnD) (n : Nat) : Sp := fun vs H Q _ => vs.length = n ∧ ∃ B as d as', EnvR K B H (vs.map some) (as.map some) ∧ F as = some (d, as') ∧
  ∀ B' H' v, At K (vs.map some) B H (as.map some) B' H' (as'.map some) → RR K H B' H' (vs.map some) (as'.map some) v d → (∀ i, d ≠ .var i) → Q v H'

theorem finals_get : ∀ {as : List S} {env : Sl} {as' : List S}, finals as env = some as' → as'.length = as.length ∧ ∀ (i : Nat) s, as[i]? = some s → (∃ x, s = .pd x ∧ as'[i]? = some (.pd x)) ∨ (∃ x, s = .nt x ∧ as'[i]? = some (.nt x)) ∨ (∃ m c c', s = .mu m c ∧ m ≠ .own ∧ env[i]? = some (some (.mu m c')) ∧ as'[i]? = some (.mu m c'))
  | [], _, _, h => by cases h; exact ⟨rfl, fun i s h => by simp at h⟩
  | .pd x :: as, [], _, h => by cases h
  | .nt x :: as, [], _, h => by cases h
  | .mu _ _ :: as, [], _, h => by cases h
  | .pd x :: as, e :: env, as', h => by
    unfold finals at h
    split at h
    · cases h
    rename_i l hl
    cases h
    obtain ⟨h1, h2⟩ := finals_get hl
    refine ⟨by simp [h1], fun i s hs => ?_⟩
    cases i with
    | zero => simp at hs; subst hs; exact .inl ⟨x, rfl, rfl⟩
    | succ i => simpa using h2 i s (by simpa using hs)
  | .nt x :: as, e :: env, as', h => by
    unfold finals at h
    split at h
    · cases h
    rename_i l hl
    cases h
    obtain ⟨h1, h2⟩ := finals_get hl
    refine ⟨by simp [h1], fun i s hs => ?_⟩
    cases i with
    | zero => simp at hs; subst hs; exact .inr (.inl ⟨x, rfl, rfl⟩)
    | succ i => simpa using h2 i s (by simpa using hs)
  | .mu m c :: as, none :: env, _, h => by cases h
  | .mu m c :: as, some (.pd _) :: env, _, h => by cases h
  | .mu m c :: as, some (.nt _) :: env, _, h => by cases h
  | .mu m c :: as, some (.mu m' c') :: env, as', h => by
    unfold finals at h
    split at h
    · rename_i hm
      obtain ⟨rfl, hm⟩ := hm
      split at h
      · cases h
      rename_i l hl
      cases h
      obtain ⟨h1, h2⟩ := finals_get hl
      refine ⟨by simp [h1], fun i s hs => ?_⟩
      cases i with
      | zero => simp at hs; subst hs; exact .inr (.inr ⟨m, c, c', rfl, hm, rfl, rfl⟩)
      | succ i => simpa using h2 i s (by simpa using hs)
    · cases h

theorem startE_get {n : Nat} {as : List S} {i : Nat} {s : S} : (startE n as)[i]? = some (some s) ↔ as[i]? = some s := by
  unfold startE
  by_cases h : i < as.length
  · rw [List.getElem?_append_left (by simpa using h), List.getElem?_map, List.getElem?_eq_getElem h]
    simp
  · rw [List.getElem?_append_right (by simpa using h), List.getElem?_eq_none (l := as) (by omega)]
    simp only [List.length_map]
    constructor
    · intro q
      by_cases z : i - as.length < n - as.length
      · rw [List.getElem?_replicate, if_pos z] at q; cases q
      · rw [List.getElem?_replicate, if_neg z] at q; cases q
    · intro q; cases q
theorem start_get {N : List Str} {vs : List V} {i : Nat} {v : V} : (start N vs)[i]? = some (some v) ↔ vs[i]? = some v := by
  unfold L2.start
  by_cases h : i < vs.length
  · rw [List.getElem?_append_left (by simpa using h), List.getElem?_map, List.getElem?_eq_getElem h]
    simp
  · rw [List.getElem?_append_right (by simpa using h), List.getElem?_eq_none (l := vs) (by omega)]
    simp only [List.length_map]
    constructor
    · intro q
      by_cases z : i - vs.length < N.length - vs.length
      · rw [List.getElem?_replicate, if_pos z] at q; cases q
      · rw [List.getElem?_replicate, if_neg z] at q; cases q
    · intro q; cases q
theorem map_get {α : Type} {l : List α} {i : Nat} {x : α} : (l.map some)[i]? = some (some x) ↔ l[i]? = some x := by
  rw [List.getElem?_map]
  cases l[i]? <;> simp
theorem fn_body {K : PySem.W.Frag} {n : Nat} {N : List Str} {b : SS} {vs : List V} {H : Hp} {Q : VK} {E : XK} (h : spF K (runFn N.length b) n vs H Q E) : tS K b { nx := fun _ H' => Q .non H', rt := Q } (start N vs) H := by
  obtain ⟨hn, B, as, d, as', en, hF, q⟩ := h
  have hl : as.length = vs.length := by simpa using en.len
  have en0 : EnvR K B H (start N vs) (startE N.length as) := by
    refine ⟨by simp [startE, L2.start, hl], fun i x h => ?_, fun i x h => ?_, fun i m c h => ?_, fun i j m m' c c' a h1 h2 h3 h4 => ?_, en.dom, en.tb⟩
    · obtain ⟨v, h1, h2⟩ := en.pd i x (map_get.mpr (startE_get.mp h))
      exact ⟨v, start_get.mpr (map_get.mp h1), h2⟩
    · obtain ⟨v, h1, h2⟩ := en.nt i x (map_get.mpr (startE_get.mp h))
      exact ⟨v, start_get.mpr (map_get.mp h1), h2⟩
    · obtain ⟨v, h1, h2⟩ := en.mu i m c (map_get.mpr (startE_get.mp h))
      exact ⟨v, start_get.mpr (map_get.mp h1), h2⟩
    · exact en.inj i j m m' c c' a (map_get.mpr (startE_get.mp h1)) (map_get.mpr (startE_get.mp h2)) (map_get.mpr (start_get.mp h3)) (map_get.mpr (start_get.mp h4))
  have wiff : ∀ a, Wof (start N vs) (startE N.length as) a ↔ Wof (vs.map some) (as.map some) a := fun a => by
    constructor
    · rintro ⟨i, m, c, h1, h2, h3⟩; exact ⟨i, m, c, map_get.mpr (startE_get.mp h1), h2, map_get.mpr (start_get.mp h3)⟩
    · rintro ⟨i, m, c, h1, h2, h3⟩; exact ⟨i, m, c, startE_get.mpr (map_get.mp h1), h2, start_get.mpr (map_get.mp h3)⟩
  -- where the body ends
  have key : ∀ {e : Sl} {B' σ' H'}, finals as e = some as' → AtS K (start N vs) B H (startE N.length as) σ' B' H' e → At K (vs.map some) B H (as.map some) B' H' (as'.map some) ∧ (∀ (i : Nat) m c, as'[i]? = some (.mu m c) → m ≠ .own ∧ e[i]? = some (some (.mu m c)) ∧ ∀ v, vs[i]? = some v → σ'[i]? = some (some v)) := by
    intro e B' σ' H' hf a
    obtain ⟨f1, f2⟩ := finals_get hf
    have back : ∀ (i : Nat) m c, as'[i]? = some (.mu m c) → m ≠ .own ∧ e[i]? = some (some (.mu m c)) ∧ (∃ c0, as[i]? = some (.mu m c0)) ∧ ∀ v, vs[i]? = some v → σ'[i]? = some (some v) := by
      intro i m c h
      have hi : i < as.length := by rw [← f1]; exact (List.getElem?_eq_some_iff.mp h).1
      rcases f2 i as[i] (List.getElem?_eq_getElem hi) with ⟨x, e1, e2⟩ | ⟨x, e1, e2⟩ | ⟨m1, c1, c2, e1, e2, e3, e4⟩
      · rw [h] at e2; cases e2
      · rw [h] at e2; cases e2
      · rw [h] at e4
        cases e4
        have hs : as[i]? = some (.mu m c1) := by rw [List.getElem?_eq_getElem hi, e1]
        refine ⟨e2, e3, ⟨c1, hs⟩, fun v hv => ?_⟩
        obtain ⟨g1, _⟩ := a.bo i m c1 (startE_get.mpr hs) e2
        rw [g1]
        exact start_get.mpr hv
    have wsub : ∀ q, Wof (vs.map some) (as'.map some) q → Wof (vs.map some) (as.map some) q := by
      rintro q ⟨i, m, c, h1, h2, h3⟩
      obtain ⟨_, _, ⟨c0, h4⟩, _⟩ := back i m c (map_get.mp h1)
      exact ⟨i, m, c0, map_get.mpr h4, h2, h3⟩
    have st : Stp (Wof (vs.map some) (as.map some)) B H (Wof (vs.map some) (as'.map some)) B' H' :=
      ⟨fun q o h c => a.st.keep q o h (c.imp (fun n => ⟨fun w => n.1 ((wiff q).mp w), n.2⟩) id), a.st.new, fun q h w => a.st.old q h fun w' => w ((wiff q).mp w'), fun q w => .inl (wsub q w), a.st.liv⟩
    refine ⟨⟨st, ⟨by simp [f1, hl], fun i x h => ?_, fun i x h => ?_, fun i m c h => ?_, fun i j m m' c c' p h1 h2 h3 h4 => ?_, a.en.dom, a.en.tb⟩, fun i m c h => ?_, fun i m c h => ?_⟩, fun i m c h => ⟨(back i m c h).1, (back i m c h).2.1, (back i m c h).2.2.2⟩⟩
    · have h := map_get.mp h
      have hi : i < as.length := by rw [← f1]; exact (List.getElem?_eq_some_iff.mp h).1
      rcases f2 i as[i] (List.getElem?_eq_getElem hi) with ⟨y, e1, e2⟩ | ⟨y, e1, e2⟩ | ⟨m1, c1, c2, e1, e2, e3, e4⟩
      · rw [h] at e2
        cases e2
        obtain ⟨v, g1, g2⟩ := en.pd i x (map_get.mpr (by rw [List.getElem?_eq_getElem hi, e1]))
        exact ⟨v, g1, g2.grow (a.st.grow en0.wb)⟩
      · rw [h] at e2; cases e2
      · rw [h] at e4; cases e4
    · have h := map_get.mp h
      have hi : i < as.length := by rw [← f1]; exact (List.getElem?_eq_some_iff.mp h).1
      rcases f2 i as[i] (List.getElem?_eq_getElem hi) with ⟨y, e1, e2⟩ | ⟨y, e1, e2⟩ | ⟨m1, c1, c2, e1, e2, e3, e4⟩
      · rw [h] at e2; cases e2
      · rw [h] at e2
        cases e2
        obtain ⟨v, g1, g2⟩ := en.nt i x (map_get.mpr (by rw [List.getElem?_eq_getElem hi, e1]))
        exact ⟨v, g1, g2.grow (a.st.grow en0.wb)⟩
      · rw [h] at e4; cases e4
    · obtain ⟨g0, g1, ⟨c0, g2⟩, g3⟩ := back i m c (map_get.mp h)
      obtain ⟨p, k1, k2, k3⟩ := a.en.mu i m c g1
      obtain ⟨p', k4, _⟩ := en.mu i m c0 (map_get.mpr g2)
      rw [g3 _ (map_get.mp k4)] at k1
      cases k1
      exact ⟨_, k4, k2, k3⟩
    · obtain ⟨_, _, ⟨c1, g1⟩, _⟩ := back i m c (map_get.mp h1)
      obtain ⟨_, _, ⟨c2, g2⟩, _⟩ := back j m' c' (map_get.mp h2)
      exact en.inj i j m m' c1 c2 p (map_get.mpr g1) (map_get.mpr g2) h3 h4
    · obtain ⟨_, _, ⟨c1, g1⟩, _⟩ := back i m c (map_get.mp h)
      exact ⟨c1, map_get.mpr g1⟩
    · have h := map_get.mp h
      rcases f2 i _ h with ⟨y, e1, e2⟩ | ⟨y, e1, e2⟩ | ⟨m1, c1, c2, e1, e2, e3, e4⟩
      · cases e1
      · cases e1
      · cases e1; exact ⟨c2, map_get.mpr e4⟩
  unfold runFn at hF
  split at hF
  · rename_i d0 e hb
    split at hF
    · cases hF
    rename_i d1 ho
    split at hF
    · cases hF
    rename_i as1 hf
    cases hF
    refine ⟨B, startE N.length as, .rt d0, e, en0, hb, fun B' σ' H' a v r => ?_⟩
    obtain ⟨at_, bk⟩ := key hf a
    cases d0 with
    | pd x => cases ho; exact q B' H' v at_ r (fun _ => nofun)
    | nt x => cases ho; exact q B' H' v at_ r (fun _ => nofun)
    | tmp c =>
      cases ho
      obtain ⟨p, rfl, r1, r2, r3, r4⟩ := r
      refine q B' H' _ at_ ⟨p, rfl, r1, r2, r3, fun i m c h1 h2 => ?_⟩ (fun _ => nofun)
      obtain ⟨_, g1, g2⟩ := bk i m c (map_get.mp h1)
      exact r4 i m c g1 (g2 _ (map_get.mp h2))
    | var j =>
      simp only [outR] at ho
      split at ho
      · rename_i c hc
        cases ho
        obtain ⟨r1, _⟩ := r
        obtain ⟨p, k1, k2, k3⟩ := a.en.mu j _ _ hc
        rw [k1] at r1
        cases r1
        have nsl : ∀ (i : Nat) m c, as'[i]? = some (.mu m c) → vs[i]? ≠ some (.ref p) := fun i m c' h1 h2 => by
          obtain ⟨g0, g1, g2⟩ := bk i m c' h1
          have e := a.en.inj j i _ _ _ _ p hc g1 k1 (g2 _ h2)
          subst e
          rw [hc] at g1
          cases g1
          exact g0 rfl
        refine q B' H' _ at_ ⟨p, rfl, ?_, k2, k3, fun i m c h1 h2 => nsl i m c (map_get.mp h1) (map_get.mp h2)⟩ (fun _ => nofun)
        rcases a.st.sub p ⟨j, _, _, hc, by decide, k1⟩ with w | w
        · obtain ⟨i, m, c0, h1, h2, h3⟩ := w
          obtain ⟨c1, h4⟩ := at_.ks i m c0 (map_get.mpr (startE_get.mp h1))
          exact absurd (start_get.mp h3) (nsl i m c1 (map_get.mp h4))
        · exact w
      · cases ho
  · rename_i e hb
    split at hF
    · cases hF
    rename_i as1 hf
    cases hF
    refine ⟨B, startE N.length as, .nx, e, en0, hb, fun B' σ' H' a => ?_⟩
    obtain ⟨at_, bk⟩ := key hf a
    exact q B' H' _ at_ .non (fun _ => nofun)
  · cases hF
theorem spF_len {K : PySem.W.Frag} {F : FnD} {n : Nat} {ps : List Str} (h : n = ps.length) : ∀ vs H Q E, spF K F n vs H Q E → vs.length = ps.length := fun vs H Q E q => by rw [← h]; exact q.1
end T3

end
section
set_option linter.all false
set_option autoImplicit false
set_option Elab.async false
namespace T3
open PySem L2
variable [TabL]

def toArg (env : Sl) : R → Option S
  | .pd x => some (.pd x)
  | .nt x => some (.nt x)
  | .tmp c => some (.mu .bor c)
  | .var i => match env[i]? with
    | some (some (.mu .fro c)) => some (.mu .fro c)
    | some (some (.mu _ c)) => some (.mu .bor c)
    | _ => none
def toArgs (env : Sl) : List R → Option (List S)
  | [] => some []
  | d :: ds => match toArg env d with
    | none => none
    | some a => match toArgs env ds with
      | none => none
      | some as => some (a :: as)
def hasVar (i : Nat) : List R → Bool
  | [] => false
  | .var j :: ds => decide (i = j) || hasVar i ds
  | _ :: ds => hasVar i ds
def varsApart : List R → Bool
  | [] => true
  | .var j :: ds => !hasVar j ds && varsApart ds
  | _ :: ds => varsApart ds
def back : List R → List S → Sl → Sl
  | .var i :: ds, .mu _ c :: as, env => match env[i]? with
    | some (some (.mu m _)) => back ds as (env.set i (some (.mu m c)))
    | _ => back ds as env
  | _ :: ds, _ :: as, env => back ds as env
  | _, _, env => env
def eCall (F : FnD) (f : EA) : EE := eThen f fun ds env => match toArgs env ds with
  | none => none
  | some as => if varsApart ds = true then match F as with
      | none => none
      | some (.var _, _) => none
      | some (d, as') => some (d, back ds as' env)
    else none

theorem toArgs_get {env : Sl} : ∀ {ds : List R} {as : List S}, toArgs env ds = some as → as.length = ds.length ∧ ∀ (k : Nat) d, ds[k]? = some d → ∃ s, as[k]? = some s ∧ toArg env d = some s
  | [], as, h => by cases h; exact ⟨rfl, fun k d h => by simp at h⟩
  | d :: ds, as, h => by
    unfold toArgs at h
    split at h
    · cases h
    rename_i a ha
    split at h
    · cases h
    rename_i as1 h1
    cases h
    obtain ⟨g1, g2⟩ := toArgs_get h1
    refine ⟨by simp [g1], fun k d' hd => ?_⟩
    cases k with
    | zero => simp at hd; subst hd; exact ⟨a, rfl, ha⟩
    | succ k => simpa using g2 k d' (by simpa using hd)
theorem hasVar_get {i : Nat} : ∀ {ds : List R} {k : Nat}, ds[k]? = some (.var i) → hasVar i ds = true
  | [], k, h => by simp at h
  | d :: ds, 0, h => by simp at h; subst h; simp [hasVar]
  | d :: ds, k + 1, h => by
    have := hasVar_get (ds := ds) (k := k) (by simpa using h)
    cases d <;> simp [hasVar, this]
theorem varsApart_get : ∀ {ds : List R} {k l i : Nat}, varsApart ds = true → ds[k]? = some (.var i) → ds[l]? = some (.var i) → k = l
  | [], k, _, _, _, h, _ => by simp at h
  | d :: ds, 0, 0, _, _, _, _ => rfl
  | d :: ds, 0, l + 1, i, hv, h, h' => by
    simp at h
    subst h
    have := hasVar_get (ds := ds) (k := l) (by simpa using h')
    simp [varsApart, this] at hv
  | d :: ds, k + 1, 0, i, hv, h, h' => by
    simp at h'
    subst h'
    have := hasVar_get (ds := ds) (k := k) (by simpa using h)
    simp [varsApart, this] at hv
  | d :: ds, k + 1, l + 1, i, hv, h, h' => by
    have hv' : varsApart ds = true := by cases d <;> simp [varsApart] at hv <;> first | exact hv | exact hv.2
    rw [varsApart_get (ds := ds) (k := k) (l := l) (i := i) hv' (by simpa using h) (by simpa using h')]
theorem varsApart_tail {d : R} {ds : List R} (h : varsApart (d :: ds) = true) : varsApart ds = true := by cases d <;> simp [varsApart] at h <;> first | exact h | exact h.2
theorem back_get : ∀ {ds : List R} {as : List S} {env : Sl}, varsApart ds = true → as.length = ds.length → (∀ (k : Nat) i, ds[k]? = some (.var i) → ∃ m c, env[i]? = some (some (.mu m c))) → (∀ (k : Nat) i, ds[k]? = some (.var i) → ∃ m c, as[k]? = some (.mu m c)) →
    (back ds as env).length = env.length ∧ (∀ j, (∀ k : Nat, ds[k]? ≠ some (.var j)) → (back ds as env)[j]? = env[j]?) ∧ ∀ (k : Nat) i m c m' c', ds[k]? = some (.var i) → env[i]? = some (some (.mu m c)) → as[k]? = some (.mu m' c') → (back ds as env)[i]? = some (some (.mu m c'))
  | [], [], env, _, _, _, _ => ⟨rfl, fun j _ => rfl, fun k i m c m' c' h => by simp at h⟩
  | [], _ :: _, _, _, h, _, _ => by simp at h
  | _ :: _, [], _, _, h, _, _ => by simp at h
  | d :: ds, a :: as, env, hv, hl, hm, hc => by
    have hl' : as.length = ds.length := by simpa using hl
    have hv' := varsApart_tail hv
    have plain : (∀ i, d ≠ .var i) → back (d :: ds) (a :: as) env = back ds as env := fun h => by
      cases d with
      | var i => exact absurd rfl (h i)
      | pd x => rfl
      | nt x => rfl
      | tmp c => rfl
    by_cases hd : ∃ i, d = .var i
    · obtain ⟨i, rfl⟩ := hd
      obtain ⟨m, c, h1⟩ := hm 0 i rfl
      obtain ⟨m', c', h2⟩ := hc 0 i rfl
      simp at h2
      subst h2
      have hi : i < env.length := (List.getElem?_eq_some_iff.mp h1).1
      have e : back (.var i :: ds) (.mu m' c' :: as) env = back ds as (env.set i (some (.mu m c'))) := by simp only [back, h1]
      have ni : ∀ k : Nat, ds[k]? ≠ some (.var i) := fun k z => by
        have := varsApart_get (ds := .var i :: ds) (k := 0) (l := k + 1) (i := i) hv rfl (by simpa using z)
        omega
      obtain ⟨b1, b2, b3⟩ := back_get (ds := ds) (as := as) (env := env.set i (some (.mu m c'))) hv' hl' (fun k j h => by
        obtain ⟨m1, c1, g⟩ := hm (k + 1) j (by simpa using h)
        have : i ≠ j := fun z => by subst z; exact ni k h
        exact ⟨m1, c1, by rw [List.getElem?_set_ne this]; exact g⟩) (fun k j h => by simpa using hc (k + 1) j (by simpa using h))
      rw [e]
      refine ⟨by simp [b1], fun j hj => ?_, fun k j m1 c1 m2 c2 g1 g2 g3 => ?_⟩
      · have n1 : i ≠ j := fun z => by subst z; exact hj 0 rfl
        rw [b2 j (fun k z => hj (k + 1) (by simpa using z)), List.getElem?_set_ne n1]
      · cases k with
        | zero =>
          simp at g1 g3
          subst g1
          rw [b2 _ ni, List.getElem?_set_self hi]
          rw [h1] at g2
          cases g2
          obtain ⟨_, rfl⟩ := g3
          rfl
        | succ k =>
          have g1' : ds[k]? = some (.var j) := by simpa using g1
          have n1 : i ≠ j := fun z => by subst z; exact ni k g1'
          exact b3 k j m1 c1 m2 c2 g1' (by rw [List.getElem?_set_ne n1]; exact g2) (by simpa using g3)
    · have hd' : ∀ i, d ≠ .var i := fun i z => hd ⟨i, z⟩
      rw [plain hd']
      obtain ⟨b1, b2, b3⟩ := back_get (ds := ds) (as := as) (env := env) hv' hl' (fun k j h => by simpa using hm (k + 1) j (by simpa using h)) (fun k j h => by simpa using hc (k + 1) j (by simpa using h))
      refine ⟨b1, fun j hj => b2 j (fun k z => hj (k + 1) (by simpa using z)), fun k j m1 c1 m2 c2 g1 g2 g3 => ?_⟩
      cases k with
      | zero => simp at g1; exact absurd g1 (hd' j)
      | succ k => exact b3 k j m1 c1 m2 c2 (by simpa using g1) g2 (by simpa using g3)

theorem rd_callS {K : PySem.W.Frag} {F : FnD} {f : EA} {n : Nat} {σ : St} {H : Hp} {Q : VK} {E : XK} {B : Mset} {env : Sl} {d : R} {env' : Sl} (hn : ∀ ds e e', f e = some (ds, e') → ds.length = n) (en : EnvR K B H σ env) (ev : eCall F f env = some (d, env')) (q : ∀ B' H' v, At K σ B H env B' H' env' → RR K H B' H' σ env' v d → Q v H') :
    ∃ ds e1, f env = some (ds, e1) ∧ ∀ B1 H1 vs, At K σ B H env B1 H1 e1 → RRA K H B1 H1 σ e1 vs ds → spF K F n vs H1 Q E := by
  unfold eCall eThen at ev
  split at ev
  · cases ev
  rename_i ds e1 h1
  dsimp only at ev
  split at ev
  · cases ev
  rename_i as h2
  split at ev
  rotate_left
  · cases ev
  rename_i hv
  refine ⟨ds, e1, h1, fun B1 H1 vs a1 rr => ?_⟩
  have lds : ds.length = n := hn _ _ _ h1
  obtain ⟨la, ga⟩ := toArgs_get h2
  have hlv : vs.length = ds.length := rr.len
  have hls : as.length = vs.length := by omega
  -- what an argument is
  have kind : ∀ (k : Nat) s v, as[k]? = some s → vs[k]? = some v → (∃ x, s = .pd x ∧ Rp K B1 H1 v x ∧ ∃ d, ds[k]? = some d ∧ ∀ i, d ≠ .var i) ∨ (∃ x p, s = .nt x ∧ v = .ref p ∧ NtR K B1 H1 p x) ∨ (∃ c p, s = .mu .bor c ∧ ds[k]? = some (.tmp c) ∧ v = .ref p ∧ H p = none ∧ B1 p ∧ CtR K B1 H1 p c ∧ ∀ (i : Nat) m d, e1[i]? = some (some (S.mu m d)) → σ[i]? ≠ some (some (V.ref p))) ∨
      (∃ i m c p, s = .mu (if m = .fro then .fro else .bor) c ∧ ds[k]? = some (.var i) ∧ e1[i]? = some (some (.mu m c)) ∧ v = .ref p ∧ σ[i]? = some (some (.ref p)) ∧ B1 p ∧ CtR K B1 H1 p c) := by
    intro k s v hs hv'
    have hk : k < ds.length := by rw [← la]; exact (List.getElem?_eq_some_iff.mp hs).1
    obtain ⟨s', g1, g2⟩ := ga k ds[k] (List.getElem?_eq_getElem hk)
    rw [hs] at g1
    cases g1
    have hdk : ds[k]? = some ds[k] := List.getElem?_eq_getElem hk
    have hr := rr.each k v ds[k] hv' hdk
    revert g2 hr hdk
    generalize ds[k] = d
    intro g2 hdk hr
    cases d with
    | pd x => cases g2; exact .inl ⟨x, rfl, hr, _, hdk, fun _ => nofun⟩
    | nt x => cases g2; obtain ⟨p, e1, e2⟩ := hr; exact .inr (.inl ⟨x, p, rfl, e1, e2⟩)
    | tmp c =>
      cases g2
      obtain ⟨p, rfl, r1, r2, r3, r4⟩ := hr
      exact .inr (.inr (.inl ⟨c, p, rfl, hdk, rfl, r1, r2, r3, r4⟩))
    | var i =>
      simp only [toArg] at g2
      have hr : σ[i]? = some (some v) := hr
      split at g2
      · rename_i c hc
        cases g2
        obtain ⟨p, k1, k2, k3⟩ := a1.en.mu i _ _ hc
        rw [hr] at k1
        cases k1
        exact .inr (.inr (.inr ⟨i, .fro, c, p, by simp, hdk, hc, rfl, hr, k2, k3⟩))
      · rename_i m c hnf hc
        cases g2
        obtain ⟨p, k1, k2, k3⟩ := a1.en.mu i _ _ hc
        rw [hr] at k1
        cases k1
        refine .inr (.inr (.inr ⟨i, m, c, p, ?_, hdk, hc, rfl, hr, k2, k3⟩))
        have hm : m ≠ .fro := fun z => hnf z
        rw [if_neg hm]
      · cases g2
  have enA : EnvR K B1 H1 (vs.map some) (as.map some) := by
    refine ⟨by simp [hls], fun k x h => ?_, fun k x h => ?_, fun k m c h => ?_, fun k l m m' c c' p g1 g2 g3 g4 => ?_, a1.en.dom, a1.en.tb⟩
    · have h := map_get.mp h
      have hk : k < vs.length := by rw [← hls]; exact (List.getElem?_eq_some_iff.mp h).1
      have hvk : vs[k]? = some vs[k] := List.getElem?_eq_getElem hk
      rcases kind k _ _ h hvk with ⟨y, e, r, _⟩ | ⟨y, p, e, _⟩ | ⟨c, p, e, _⟩ | ⟨i, m, c, p, e, _⟩
      · cases e; exact ⟨vs[k], map_get.mpr hvk, r⟩
      · cases e
      · cases e
      · cases e
    · have h := map_get.mp h
      have hk : k < vs.length := by rw [← hls]; exact (List.getElem?_eq_some_iff.mp h).1
      have hvk : vs[k]? = some vs[k] := List.getElem?_eq_getElem hk
      rcases kind k _ _ h hvk with ⟨y, e, r, _⟩ | ⟨y, p, e, e2, r⟩ | ⟨c, p, e, _⟩ | ⟨i, m, c, p, e, _⟩
      · cases e
      · cases e; exact ⟨p, map_get.mpr (by rw [hvk, e2]), r⟩
      · cases e
      · cases e
    · have h := map_get.mp h
      have hk : k < vs.length := by rw [← hls]; exact (List.getElem?_eq_some_iff.mp h).1
      have hvk : vs[k]? = some vs[k] := List.getElem?_eq_getElem hk
      rcases kind k _ _ h hvk with ⟨y, e, r, _⟩ | ⟨y, p, e, _⟩ | ⟨c1, p, e, _, ev, _, r2, r3, _⟩ | ⟨i, m1, c1, p, e, _, _, ev, _, r2, r3⟩
      · cases e
      · cases e
      · cases e; exact ⟨p, map_get.mpr (by rw [hvk, ev]), r2, r3⟩
      · cases e; exact ⟨p, map_get.mpr (by rw [hvk, ev]), r2, r3⟩
    · have g1 := map_get.mp g1
      have g2 := map_get.mp g2
      have g3 := map_get.mp g3
      have g4 := map_get.mp g4
      rcases kind k _ _ g1 g3 with ⟨y, e, r, _⟩ | ⟨y, p, e, _⟩ | ⟨c1, p1, e, d1, ev1, _, _, _, n1⟩ | ⟨i1, m1, c1, p1, e, d1, s1, ev1, t1, _⟩
      · cases e
      · cases e
      · cases ev1
        rcases kind l _ _ g2 g4 with ⟨y, e', r, _⟩ | ⟨y, p, e', _⟩ | ⟨c2, p2, e', d2, ev2, _, _, _, n2⟩ | ⟨i2, m2, c2, p2, e', d2, s2, ev2, t2, _⟩
        · cases e'
        · cases e'
        · cases ev2
          by_cases z : k = l
          · exact z
          · exact (rr.apart k l _ _ _ z d1 d2 g3 g4).elim
        · cases ev2; exact absurd t2 (n1 _ _ _ s2)
      · cases ev1
        rcases kind l _ _ g2 g4 with ⟨y, e', r, _⟩ | ⟨y, p, e', _⟩ | ⟨c2, p2, e', d2, ev2, _, _, _, n2⟩ | ⟨i2, m2, c2, p2, e', d2, s2, ev2, t2, _⟩
        · cases e'
        · cases e'
        · cases ev2; exact absurd t1 (n2 _ _ _ s1)
        · cases ev2
          have z := a1.en.inj i1 i2 _ _ _ _ _ s1 s2 t1 t2
          subst z
          exact varsApart_get hv d1 d2
  split at ev
  · cases ev
  · cases ev
  rename_i d0 as1 hd0 hF
  cases ev
  refine ⟨by omega, B1, as, d, as1, enA, hF, fun B2 H2 v a2 r2 nv => ?_⟩
  have las1 : as1.length = vs.length := by simpa using a2.en.len
  have bk := back_get (ds := ds) (as := as1) (env := e1) hv (by omega) (fun k i h => by
      obtain ⟨s, g1, g2⟩ := ga k _ h
      simp only [toArg] at g2
      split at g2
      · rename_i hc; exact ⟨_, _, hc⟩
      · rename_i hc; exact ⟨_, _, hc⟩
      · cases g2) (fun k i h => by
      obtain ⟨s, g1, g2⟩ := ga k _ h
      have : ∃ m c, s = .mu m c := by
        simp only [toArg] at g2
        split at g2
        · cases g2; exact ⟨_, _, rfl⟩
        · cases g2; exact ⟨_, _, rfl⟩
        · cases g2
      obtain ⟨m, c, rfl⟩ := this
      obtain ⟨c', h'⟩ := a2.ks k m c (map_get.mpr g1)
      exact ⟨m, c', map_get.mp h'⟩)
  obtain ⟨bl, bo, bv⟩ := bk
  -- W of the call: of the caller's or new
  have wcall : ∀ p, Wof (vs.map some) (as.map some) p → (∃ (k i : Nat) (m : Md) (c : Ct), ds[k]? = some (R.var i) ∧ e1[i]? = some (some (S.mu m c)) ∧ m ≠ .fro ∧ σ[i]? = some (some (V.ref p))) ∨ (H p = none ∧ ∀ (i : Nat) m d, e1[i]? = some (some (S.mu m d)) → σ[i]? ≠ some (some (V.ref p))) := by
    rintro p ⟨k, m, c, g1, g2, g3⟩
    rcases kind k _ _ (map_get.mp g1) (map_get.mp g3) with ⟨y, e, r, _⟩ | ⟨y, p, e, _⟩ | ⟨c1, p1, e, d1, ev1, h0, _, _, n1⟩ | ⟨i1, m1, c1, p1, e, d1, s1, ev1, t1, _⟩
    · cases e
    · cases e
    · cases ev1; exact .inr ⟨h0, n1⟩
    · cases ev1
      cases e
      refine .inl ⟨k, i1, m1, _, d1, s1, fun z => ?_, t1⟩
      rw [if_pos z] at g2
      exact g2 rfl
  have wW : ∀ p, Wof (vs.map some) (as.map some) p → Wof σ env p ∨ H p = none := fun p w => by
    rcases wcall p w with ⟨k, i, m, c, g1, g2, g3, g4⟩ | ⟨h0, _⟩
    · exact a1.st.sub p ⟨i, m, c, g2, g3, g4⟩
    · exact .inr h0
  have same : ∀ (j : Nat) m c, (back ds as1 e1)[j]? = some (some (S.mu m c)) → ∃ c', e1[j]? = some (some (.mu m c')) := fun j m c h => by
    by_cases z : ∃ k : Nat, ds[k]? = some (.var j)
    · obtain ⟨k, hk⟩ := z
      obtain ⟨s, g1, g2⟩ := ga k _ hk
      have : ∃ m c, e1[j]? = some (some (.mu m c)) ∧ ∃ m', s = .mu m' c := by
        simp only [toArg] at g2
        split at g2
        · rename_i hc; cases g2; exact ⟨_, _, hc, _, rfl⟩
        · rename_i hc; cases g2; exact ⟨_, _, hc, _, rfl⟩
        · cases g2
      obtain ⟨m1, c1, h3, m2, rfl⟩ := this
      obtain ⟨c2, h4⟩ := a2.ks k m2 c1 (map_get.mpr g1)
      rw [bv k j m1 c1 m2 c2 hk h3 (map_get.mp h4)] at h
      cases h
      exact ⟨c1, h3⟩
    · rw [bo j (fun k hk => z ⟨k, hk⟩)] at h
      exact ⟨c, h⟩
  have same' : ∀ (j : Nat) m c, e1[j]? = some (some (S.mu m c)) → ∃ c', (back ds as1 e1)[j]? = some (some (.mu m c')) ∧ ((∀ k : Nat, ds[k]? ≠ some (.var j)) ∧ c' = c ∨ ∃ (k : Nat) (m' : Md), ds[k]? = some (R.var j) ∧ as1[k]? = some (S.mu m' c')) := fun j m c h => by
    by_cases z : ∃ k : Nat, ds[k]? = some (.var j)
    · obtain ⟨k, hk⟩ := z
      obtain ⟨s, g1, g2⟩ := ga k _ hk
      have : ∃ m', s = .mu m' c := by
        simp only [toArg] at g2
        split at g2
        · rename_i hc; rw [h] at hc; cases hc; cases g2; exact ⟨_, rfl⟩
        · rename_i hc; rw [h] at hc; cases hc; cases g2; exact ⟨_, rfl⟩
        · cases g2
      obtain ⟨m2, rfl⟩ := this
      obtain ⟨c2, h4⟩ := a2.ks k m2 c (map_get.mpr g1)
      exact ⟨c2, bv k j m c m2 c2 hk h (map_get.mp h4), .inr ⟨k, m2, hk, map_get.mp h4⟩⟩
    · exact ⟨c, by rw [bo j (fun k hk => z ⟨k, hk⟩)]; exact h, .inl ⟨fun k hk => z ⟨k, hk⟩, rfl⟩⟩
  have gr : Grow B1 H1 B2 H2 := a2.grow enA
  have enE : EnvR K B2 H2 σ (back ds as1 e1) := by
    refine ⟨by rw [bl]; exact a1.en.len, fun j x h => ?_, fun j x h => ?_, fun j m c h => ?_, fun j k m m' c c' p g1 g2 g3 g4 => ?_, a2.en.dom, a2.en.tb⟩
    · have h' : e1[j]? = some (some (.pd x)) := by
        by_cases z : ∃ k : Nat, ds[k]? = some (.var j)
        · obtain ⟨k, hk⟩ := z
          obtain ⟨s, g1, g2⟩ := ga k _ hk
          have : ∃ m c, e1[j]? = some (some (.mu m c)) := by
            simp only [toArg] at g2
            split at g2
            · rename_i hc; exact ⟨_, _, hc⟩
            · rename_i hc; exact ⟨_, _, hc⟩
            · cases g2
          obtain ⟨m, c, h3⟩ := this
          obtain ⟨c', h4, _⟩ := same' j m c h3
          rw [h4] at h
          cases h
        · rw [bo j (fun k hk => z ⟨k, hk⟩)] at h; exact h
      obtain ⟨w, g1, g2⟩ := a1.en.pd j x h'
      exact ⟨w, g1, g2.grow gr⟩
    · have h' : e1[j]? = some (some (.nt x)) := by
        by_cases z : ∃ k : Nat, ds[k]? = some (.var j)
        · obtain ⟨k, hk⟩ := z
          obtain ⟨s, g1, g2⟩ := ga k _ hk
          have : ∃ m c, e1[j]? = some (some (.mu m c)) := by
            simp only [toArg] at g2
            split at g2
            · rename_i hc; exact ⟨_, _, hc⟩
            · rename_i hc; exact ⟨_, _, hc⟩
            · cases g2
          obtain ⟨m, c, h3⟩ := this
          obtain ⟨c', h4, _⟩ := same' j m c h3
          rw [h4] at h
          cases h
        · rw [bo j (fun k hk => z ⟨k, hk⟩)] at h; exact h
      obtain ⟨w, g1, g2⟩ := a1.en.nt j x h'
      exact ⟨w, g1, g2.grow gr⟩
    · obtain ⟨c0, h0⟩ := same j m c h
      obtain ⟨p, g1, g2, g3⟩ := a1.en.mu j m c0 h0
      obtain ⟨c', h4, hc⟩ := same' j m c0 h0
      rw [h] at h4
      cases h4
      rcases hc with ⟨hno, rfl⟩ | ⟨k, m', hk, ha⟩
      · have nw : ¬ Wof (vs.map some) (as.map some) p := fun w => by
          rcases wcall p w with ⟨k, i, m1, c1, k1, k2, k3, k4⟩ | ⟨_, hns⟩
          · have z := a1.en.inj j i _ _ _ _ p h0 k2 g1 k4
            subst z
            exact hno k k1
          · exact hns j m _ h0 g1
        exact ⟨p, g1, a2.st.old p g2 nw, g3.keep a2.st enA.wb nw⟩
      · obtain ⟨p', k1, k2, k3⟩ := a2.en.mu k m' c (map_get.mpr ha)
        have hvk : vs[k]? = some (.ref p') := map_get.mp k1
        have := rr.each k _ _ hvk hk
        have this : σ[j]? = some (some (.ref p')) := this
        rw [g1] at this
        cases this
        exact ⟨p, g1, k2, k3⟩
    · obtain ⟨c1, h1'⟩ := same j m c g1
      obtain ⟨c2, h2'⟩ := same k m' c' g2
      exact a1.en.inj j k m m' c1 c2 p h1' h2' g3 g4
  refine q B2 H2 v ⟨⟨fun p o h c => ?_, fun p h => ?_, fun p h w => ?_, fun p w => ?_, fun p h => a1.st.liv p (a2.st.liv p h)⟩, enE, fun j m c h => ?_, fun j m c h => ?_⟩ ?_
  · refine a2.st.keep p o (a1.st.keep p o h c) ?_
    rcases c with c | c
    · refine .inl ⟨fun w => ?_, c.2⟩
      rcases wW p w with w | w
      · exact c.1 w
      · rw [h] at w; cases w
    · exact .inr c
  · rcases a2.st.new p h with h | h
    · exact a1.st.new p h
    · exact .inr (a1.st.liv p h)
  · refine a2.st.old p (a1.st.old p h w) fun w' => ?_
    rcases wW p w' with z | z
    · exact w z
    · obtain ⟨o, ho⟩ := en.dom p h
      rw [z] at ho; cases ho
  · obtain ⟨j, m, c, g1, g2, g3⟩ := w
    obtain ⟨c0, h0⟩ := same j m c g1
    exact a1.st.sub p ⟨j, m, c0, h0, g2, g3⟩
  · obtain ⟨c0, h0⟩ := same j m c h
    exact a1.sm j m c0 h0
  · obtain ⟨c0, h0⟩ := a1.ks j m c h
    obtain ⟨c', h4, _⟩ := same' j m c0 h0
    exact ⟨c', h4⟩
  · cases d with
    | pd x => exact r2
    | nt x => exact r2
    | var i => exact absurd rfl (nv i)
    | tmp c =>
      obtain ⟨p, rfl, k1, k2, k3, k4⟩ := r2
      refine ⟨p, rfl, a1.st.liv p k1, k2, k3, fun j m d h1 h2 => ?_⟩
      obtain ⟨c0, h0⟩ := same j m d h1
      obtain ⟨p', g1, g2, g3⟩ := a1.en.mu j m c0 h0
      rw [h2] at g1
      cases g1
      obtain ⟨o, ho⟩ := a1.en.dom p g2
      rw [k1] at ho; cases ho
theorem rd_call {K : PySem.W.Frag} {F : FnD} {f : EA} {n : Nat} {σ : St} {H : Hp} {Q : VK} {E : XK} (hn : ∀ ds e e', f e = some (ds, e') → ds.length = n) (h : tE K (eCall F f) σ H Q) : tCall (spF K F n) [] E (tA K f) σ H Q := by
  obtain ⟨B, env, d, env', en, ev, q⟩ := h
  obtain ⟨ds, e1, h1, h2⟩ := rd_callS (E := E) hn en ev q
  exact ⟨B, env, ds, e1, en, h1, fun B1 H1 vs a1 rr => by
    show spF K F n (vs ++ []) H1 Q E
    rw [List.append_nil]
    exact h2 B1 H1 vs a1 rr⟩
end T3

end
section
set_option linter.all false
set_option autoImplicit false
set_option Elab.async false
namespace T3
open PySem L2
variable [TabL]

theorem small {n : Nat} (h : n ≤ 1000000) : n < sizeLine := by rw [sizeLine_eq]; omega

def wipeE (env : Sl) : List Nat → Sl
  | [] => env
  | v :: vs => (wipeE env vs).set v none
def unwipe (env : Sl) (e : Sl) : List Nat → Sl
  | [] => e
  | v :: vs => (unwipe env e vs).set v (env.getD v none)
theorem wipeE_len {env : Sl} : ∀ {vs : List Nat}, (wipeE env vs).length = env.length
  | [] => rfl
  | v :: vs => by simp [wipeE, wipeE_len (vs := vs)]
theorem wipeE_in {env : Sl} {s : S} : ∀ {vs : List Nat} {i : Nat}, (wipeE env vs)[i]? = some (some s) → i ∉ vs ∧ env[i]? = some (some s)
  | [], i, h => ⟨by simp, h⟩
  | v :: vs, i, h => by
    unfold wipeE at h
    rcases get_set h with ⟨e, e'⟩ | ⟨e, h⟩
    · cases e'
    · obtain ⟨h1, h2⟩ := wipeE_in h
      exact ⟨by simp only [List.mem_cons, not_or]; exact ⟨fun z => e z.symm, h1⟩, h2⟩
theorem wipeE_out {env : Sl} : ∀ {vs : List Nat} {i : Nat}, i ∉ vs → (wipeE env vs)[i]? = env[i]?
  | [], i, h => rfl
  | v :: vs, i, h => by
    simp only [List.mem_cons, not_or] at h
    unfold wipeE
    rw [List.getElem?_set_ne (fun z => h.1 z.symm), wipeE_out h.2]
theorem wipe_out {σ : St} : ∀ {vs : List Nat} {i : Nat}, i ∉ vs → (wipe σ vs)[i]? = σ[i]?
  | [], i, h => rfl
  | v :: vs, i, h => by
    simp only [List.mem_cons, not_or] at h
    unfold wipe
    rw [List.getElem?_set_ne (fun z => h.1 z.symm), wipe_out h.2]
theorem unwipe_len {env e : Sl} : ∀ {vs : List Nat}, (unwipe env e vs).length = e.length
  | [] => rfl
  | v :: vs => by simp [unwipe, unwipe_len (vs := vs)]
theorem unwipe_out {env e : Sl} : ∀ {vs : List Nat} {i : Nat}, i ∉ vs → (unwipe env e vs)[i]? = e[i]?
  | [], i, h => rfl
  | v :: vs, i, h => by
    simp only [List.mem_cons, not_or] at h
    unfold unwipe
    rw [List.getElem?_set_ne (fun z => h.1 z.symm), unwipe_out h.2]
theorem unwipe_in {env e : Sl} (hl : e.length = env.length) : ∀ {vs : List Nat} {i : Nat}, i ∈ vs → (unwipe env e vs)[i]? = env[i]?
  | [], i, h => by simp at h
  | v :: vs, i, h => by
    unfold unwipe
    by_cases z : v = i
    · subst z
      by_cases q : v < e.length
      · rw [List.getElem?_set_self (by rw [unwipe_len]; exact q)]
        rw [List.getD_eq_getElem?_getD, List.getElem?_eq_getElem (by omega)]
        rfl
      · rw [List.getElem?_eq_none (by simp [unwipe_len]; omega), List.getElem?_eq_none (by omega)]
    · rw [List.getElem?_set_ne z]
      refine unwipe_in hl ?_
      simp only [List.mem_cons] at h
      rcases h with h | h
      · exact absurd h.symm z
      · exact h
def Only (g : GG) (vs : List Nat) : Prop := ∀ x e e', g x e = some e' → ∀ j, j ∉ vs → e'[j]? = e[j]?
def tGv (K : PySem.W.Frag) (g : GG) (vs : List Nat) : TG := fun v σ H Q => ∃ B env x env', EnvR K B H σ env ∧ Rp K B H v x ∧ g x env = some env' ∧ ∀ B' σ' H', AtS K σ B H env σ' B' H' env' → wipe σ' vs = wipe σ vs → Q σ' H'
theorem wipe_set {σ : St} {x : Option V} : ∀ {vs : List Nat} {i : Nat}, i ∈ vs → wipe (σ.set i x) vs = wipe σ vs
  | [], i, h => by simp at h
  | v :: vs, i, h => by
    unfold wipe
    by_cases z : i ∈ vs
    · rw [wipe_set z]
    · have e : i = v := by
        simp only [List.mem_cons] at h
        rcases h with h | h
        · exact h
        · exact absurd h z
      subst e
      have : ∀ {ws : List Nat}, i ∉ ws → wipe (σ.set i x) ws = (wipe σ ws).set i x := by
        intro ws
        induction ws with
        | nil => intro _; rfl
        | cons w ws ih =>
          intro hw
          simp only [List.mem_cons, not_or] at hw
          show (wipe (σ.set i x) ws).set w none = ((wipe σ ws).set w none).set i x
          rw [ih hw.2, List.set_comm _ _ hw.1]
      rw [this z, List.set_set]
theorem wipe_idem {σ : St} : ∀ {vs : List Nat}, wipe (wipe σ vs) vs = wipe σ vs := fun {vs} => by
  have : ∀ (us ws : List Nat), (∀ u ∈ us, u ∈ ws) → wipe (wipe σ us) ws = wipe σ ws := by
    intro us
    induction us with
    | nil => intro ws _; rfl
    | cons u us ih =>
      intro ws h
      show wipe ((wipe σ us).set u none) ws = wipe σ ws
      rw [wipe_set (h u (by simp)), ih ws (fun z hz => h z (by simp [hz]))]
  exact this vs vs (fun _ h => h)
theorem rd_gNv {K : PySem.W.Frag} {i : Nat} {vs : List Nat} (hi : i ∈ vs) {v : V} {σ : St} {H : Hp} {Q : St → Hp → Prop} (h : tGv K (gN i) vs v σ H Q) : gName i v σ H Q := by
  obtain ⟨B, env, x, env', en, r, ev, q⟩ := h
  exact q B _ H (AtS.set en (.refl en) (d := .pd x) r ev) (wipe_set hi)
theorem only_gN {i : Nat} {vs : List Nat} (hi : i ∈ vs) : Only (gN i) vs := by
  intro x e e' h j hj
  have hij : i ≠ j := fun z => by subst z; exact hj hi
  simp only [gN, setR] at h
  split at h
  · cases h; rw [List.getElem?_set_ne hij]
  · cases h
def tGsv (K : PySem.W.Frag) (g : GGs) (vs : List Nat) : TGs := fun ws σ H Q => ∃ B env xs env', EnvR K B H σ env ∧ RpA K B H ws xs ∧ g xs env = some env' ∧ ∀ B' σ' H', AtS K σ B H env σ' B' H' env' → wipe σ' vs = wipe σ vs → Q σ' H'
def OnlyS (g : GGs) (vs : List Nat) : Prop := ∀ x e e', g x e = some e' → ∀ j, j ∉ vs → e'[j]? = e[j]?
theorem rd_gNlv {K : PySem.W.Frag} {us : List Nat} {vs : List V} {σ : St} {H : Hp} {Q : St → Hp → Prop} (h : tGsv K gNl us vs σ H Q) : gNil vs σ H Q := by
  obtain ⟨B, env, x, env', en, r, ev, q⟩ := h
  unfold gNl at ev
  split at ev
  · cases ev; cases r; exact ⟨rfl, q B _ H (.refl en) rfl⟩
  · cases ev
theorem rd_gCnv {K : PySem.W.Frag} {us : List Nat} {g : GG} {gs : GGs} {vs : List V} {σ : St} {H : Hp} {Q : St → Hp → Prop} (h : tGsv K (gCn g gs) us vs σ H Q) : gCons (tGv K g us) (tGsv K gs us) vs σ H Q := by
  obtain ⟨B, env, xs, env', en, r, ev, q⟩ := h
  unfold gCn at ev
  split at ev
  · cases ev
  rename_i x xs
  split at ev
  · cases ev
  rename_i e1 h1
  cases r with
  | cons r1 r2 =>
    exact ⟨_, _, rfl, B, env, x, e1, en, r1, h1, fun B1 σ1 H1 a1 w1 => ⟨B1, e1, xs, env', a1.en, r2.grow (a1.st.grow en.wb), ev, fun B2 σ2 H2 a2 w2 => q B2 σ2 H2 (a1.trans en a2) (w2.trans w1)⟩⟩
theorem rd_gTv {K : PySem.W.Frag} {us : List Nat} {n : Nat} {gs : GGs} {v : V} {σ : St} {H : Hp} {Q : St → Hp → Prop} (h : tGv K (gT n gs) us v σ H Q) : gTup K n (tGsv K gs us) v σ H Q := by
  obtain ⟨B, env, x, env', en, r, ev, q⟩ := h
  unfold gT at ev
  split at ev
  · split at ev
    · rename_i xs hl
      obtain ⟨a, vs, rfl, h1, h2⟩ := Cn.tuple (.rp r)
      exact ⟨a, vs, rfl, h1, by rw [h2.length]; exact hl, B, env, xs, env', en, h2, ev, q⟩
    · cases ev
  · cases ev
theorem only_gNl {vs : List Nat} : OnlyS gNl vs := by
  intro x e e' h j hj
  unfold gNl at h
  split at h
  · cases h; rfl
  · cases h
theorem only_gCn {vs : List Nat} {g : GG} {gs : GGs} (h1 : Only g vs) (h2 : OnlyS gs vs) : OnlyS (gCn g gs) vs := by
  intro x e e' h j hj
  unfold gCn at h
  split at h
  · cases h
  split at h
  · cases h
  rename_i e1 k1
  rw [h2 _ _ _ h j hj, h1 _ _ _ k1 j hj]
theorem only_gT {vs : List Nat} {n : Nat} {gs : GGs} (h1 : OnlyS gs vs) : Only (gT n gs) vs := by
  intro x e e' h j hj
  unfold gT at h
  split at h
  · split at h
    · exact h1 _ _ _ h j hj
    · cases h
  · cases h

theorem EnvR.wiped {K : PySem.W.Frag} {B : Mset} {H : Hp} {σ : St} {env : Sl} (en : EnvR K B H σ env) (vs : List Nat) : EnvR K B H (wipe σ vs) (wipeE env vs) := by
  refine ⟨by rw [wipeE_len, wipe_length]; exact en.len, fun i x h => ?_, fun i x h => ?_, fun i m c h => ?_, fun i j m n c d a h1 h2 h3 h4 => ?_, en.dom, en.tb⟩
  · obtain ⟨h1, h2⟩ := wipeE_in h
    rw [wipe_out h1]
    exact en.pd i x h2
  · obtain ⟨h1, h2⟩ := wipeE_in h
    rw [wipe_out h1]
    exact en.nt i x h2
  · obtain ⟨h1, h2⟩ := wipeE_in h
    rw [wipe_out h1]
    exact en.mu i m c h2
  · obtain ⟨k1, k2⟩ := wipeE_in h1
    obtain ⟨k3, k4⟩ := wipeE_in h2
    rw [wipe_out k1] at h3
    rw [wipe_out k3] at h4
    exact en.inj i j m n c d a k2 k4 h3 h4
theorem At.unwiped {K : PySem.W.Frag} {σ σ2 : St} {B B2 B4 : Mset} {H H2 H4 : Hp} {e e2 e4 : Sl} {vs : List Nat} (en : EnvR K B H σ e) (a : AtS K (wipe σ vs) B H (wipeE e vs) σ2 B2 H2 e2) (hw : wipe σ2 vs = wipe σ vs) (ho : ∀ j, j ∉ vs → e2[j]? = (wipeE e vs)[j]?)
    (b : At K σ2 B2 H2 e2 B4 H4 e4) : At K σ B H e B4 H4 (unwipe e e4 vs) := by
  have ew := en.wiped vs
  have t : Stp (Wof (wipe σ vs) (wipeE e vs)) B H (Wof σ2 e4) B4 H4 := a.st.trans b.st ew.wb ew.dom
  have hσ : ∀ j, j ∉ vs → σ2[j]? = σ[j]? := fun j hj => by rw [← wipe_out hj, hw, wipe_out hj]
  have l2 : e2.length = e.length := by rw [a.en.len, ← wipe_length σ2 vs, hw, wipe_length, en.len]
  have l4 : e4.length = e.length := by rw [b.en.len, ← a.en.len, l2]
  have wsub : ∀ p, Wof (wipe σ vs) (wipeE e vs) p → Wof σ e p := by
    rintro p ⟨i, m, c, h1, h2, h3⟩
    obtain ⟨k1, k2⟩ := wipeE_in h1
    rw [wipe_out k1] at h3
    exact ⟨i, m, c, k2, h2, h3⟩
  have hid : ∀ {i p}, i ∈ vs → (∃ m c, e[i]? = some (some (S.mu m c))) → σ[i]? = some (some (.ref p)) → ¬ Wof (wipe σ vs) (wipeE e vs) p := by
    rintro i p hi ⟨m, c, hm⟩ hp ⟨j, m1, c1, h1, h2, h3⟩
    obtain ⟨k1, k2⟩ := wipeE_in h1
    rw [wipe_out k1] at h3
    have z := en.inj i j _ _ _ _ p hm k2 hp h3
    subst z
    exact k1 hi
  have vis : ∀ (i : Nat) m c, i ∉ vs → e4[i]? = some (some (S.mu m c)) → ∃ c', e[i]? = some (some (.mu m c')) := fun i m c hi h => by
    obtain ⟨c1, h1⟩ := b.sm i m c h
    rw [ho i hi, wipeE_out hi] at h1
    exact ⟨c1, h1⟩
  have src : ∀ (i : Nat) m c, (unwipe e e4 vs)[i]? = some (some (S.mu m c)) → ∃ c', e[i]? = some (some (.mu m c')) := fun i m c h => by
    by_cases hi : i ∈ vs
    · rw [unwipe_in l4 hi] at h; exact ⟨c, h⟩
    · rw [unwipe_out hi] at h; exact vis i m c hi h
  refine ⟨⟨fun q o h c => t.keep q o h (c.imp (fun n => ⟨fun w => n.1 (wsub q w), n.2⟩) id), t.new, fun q h w => t.old q h fun w' => w (wsub q w'), fun q w => ?_, t.liv⟩, ⟨by rw [unwipe_len, l4, en.len], fun i x h => ?_, fun i x h => ?_, fun i m c h => ?_, fun i j m n c d p h1 h2 h3 h4 => ?_, b.en.dom, b.en.tb⟩, src, fun i m c h => ?_⟩
  · obtain ⟨i, m, c, h1, h2, h3⟩ := w
    obtain ⟨c', h4⟩ := src i m c h1
    exact .inl ⟨i, m, c', h4, h2, h3⟩
  · by_cases hi : i ∈ vs
    · rw [unwipe_in l4 hi] at h
      obtain ⟨v, k1, k2⟩ := en.pd i x h
      exact ⟨v, k1, k2.grow (t.grow ew.wb)⟩
    · rw [unwipe_out hi] at h
      obtain ⟨v, k1, k2⟩ := b.en.pd i x h
      rw [hσ i hi] at k1
      exact ⟨v, k1, k2⟩
  · by_cases hi : i ∈ vs
    · rw [unwipe_in l4 hi] at h
      obtain ⟨v, k1, k2⟩ := en.nt i x h
      exact ⟨v, k1, k2.grow (t.grow ew.wb)⟩
    · rw [unwipe_out hi] at h
      obtain ⟨v, k1, k2⟩ := b.en.nt i x h
      rw [hσ i hi] at k1
      exact ⟨v, k1, k2⟩
  · by_cases hi : i ∈ vs
    · rw [unwipe_in l4 hi] at h
      obtain ⟨p, k1, k2, k3⟩ := en.mu i m c h
      have nw := hid hi ⟨m, c, h⟩ k1
      exact ⟨p, k1, t.old p k2 nw, k3.keep t ew.wb nw⟩
    · rw [unwipe_out hi] at h
      obtain ⟨p, k1, k2, k3⟩ := b.en.mu i m c h
      rw [hσ i hi] at k1
      exact ⟨p, k1, k2, k3⟩
  · obtain ⟨c1, g1⟩ := src i m c h1
    obtain ⟨c2, g2⟩ := src j n d h2
    exact en.inj i j m n c1 c2 p g1 g2 h3 h4
  · by_cases hi : i ∈ vs
    · exact ⟨c, by rw [unwipe_in l4 hi]; exact h⟩
    · have h1 : e2[i]? = some (some (.mu m c)) := by rw [ho i hi, wipeE_out hi]; exact h
      obtain ⟨c', h2⟩ := b.ks i m c h1
      exact ⟨c', by rw [unwipe_out hi]; exact h2⟩
theorem At.app {K : PySem.W.Frag} {σ : St} {B B4 : Mset} {H H4 : Hp} {e e4 : Sl} {D : Addr} {ws ws' : List V} (en : EnvR K B H σ e) (a : At K σ B H e B4 H4 e4) (nD : H D = none) (bD : B4 D) (hD : H4 D = some (.lst ws)) (sD : ∀ (i : Nat) m d, e4[i]? = some (some (S.mu m d)) → σ[i]? ≠ some (some (V.ref D)))
    (fz : Mset) (hf : ∀ q, fz q → q ≠ D ∧ H q = none ∧ ∀ (i : Nat) m d, e4[i]? = some (some (S.mu m d)) → σ[i]? ≠ some (some (V.ref q))) :
    Grow B4 H4 (fun q => B4 q ∧ ¬ fz q) (upd H4 D (.lst ws')) ∧ At K σ B H e (fun q => B4 q ∧ ¬ fz q) (upd H4 D (.lst ws')) e4 := by
  have g : Grow B4 H4 (fun q => B4 q ∧ ¬ fz q) (upd H4 D (.lst ws')) := by
    refine ⟨fun q o h c => ?_, fun q h => .inl h.1⟩
    have : q ≠ D := fun z => by
      subst z
      rcases c with c | c
      · exact c.1 bD
      · rw [hD] at h; cases h; exact c
    rw [upd_ne this]; exact h
  refine ⟨g, ⟨fun q o h c => ?_, fun q h => a.st.new q h.1, fun q h w => ⟨a.st.old q h w, fun f => ?_⟩, a.st.sub, fun q h => ?_⟩, ⟨a.en.len, fun i x h => ?_, fun i x h => ?_, fun i m c h => ?_, a.en.inj, fun q h => ?_, a.en.tb.on (fun q o h n => by rw [upd_ne (fun z => n (by rw [z]; exact bD))]; exact h) g.new⟩, a.sm, a.ks⟩
  · have : q ≠ D := fun z => by rw [z, nD] at h; cases h
    rw [upd_ne this]; exact a.st.keep q o h c
  · obtain ⟨o, ho⟩ := en.dom q h
    rw [(hf q f).2.1] at ho; cases ho
  · by_cases z : q = D
    · rw [z]; exact nD
    · rw [upd_ne z] at h; exact a.st.liv q h
  · obtain ⟨v, k1, k2⟩ := a.en.pd i x h
    exact ⟨v, k1, k2.grow g⟩
  · obtain ⟨v, k1, k2⟩ := a.en.nt i x h
    exact ⟨v, k1, k2.grow g⟩
  · obtain ⟨p, k1, k2, k3⟩ := a.en.mu i m c h
    have np : p ≠ D := fun z => by subst z; exact sD i m c h k1
    refine ⟨p, k1, ⟨k2, fun f => (hf p f).2.2 i m c h k1⟩, ?_⟩
    cases c with
    | ls xs => obtain ⟨vs, h4, h5⟩ := k3; exact ⟨vs, by rw [upd_ne np]; exact h4, h5.grow g⟩
    | dk xs => obtain ⟨vs, h4, h5⟩ := k3; exact ⟨vs, by rw [upd_ne np]; exact h4, h5.grow g⟩
    | dn xs => obtain ⟨vs, h4, h5⟩ := k3; exact ⟨vs, by rw [upd_ne np]; exact h4, h5.grow g⟩
  · by_cases z : q = D
    · rw [z]; exact ⟨_, upd_same⟩
    · rw [upd_ne z]; exact a.en.dom q h.1

def lcL (g : GG) (t : EB) (f : EE) (vs : List Nat) : List PyData → Sl → List PyData → Option (List PyData × Sl)
  | [], env, acc => some (acc, env)
  | x :: xs, env, acc => match g x (wipeE env vs) with
    | none => none
    | some e1 => match t e1 with
      | none => none
      | some (b, e2) => if b = true then match f e2 with
          | none => none
          | some (d, e3) => match data1 d with
            | none => none
            | some y => lcL g t f vs xs (unwipe env e3 vs) (acc ++ [y])
        else lcL g t f vs xs (unwipe env e2 vs) acc
def eLc (it : EI) (g : GG) (t : EB) (f : EE) (vs : List Nat) : EE := fun env => match it env with
  | none => none
  | some (xs, lk, e1) => if xs.length ≤ 1000000 then match lcL g t f vs xs e1 [] with
      | none => none
      | some (acc, e2) => some (.tmp (.ls acc), unlock lk e2)
    else none
def bYes : EB := fun env => some (true, env)
theorem rd_yes {K : PySem.W.Frag} {σ : St} {H : Hp} {Q : Bool → Hp → Prop} (h : tT K bYes σ H Q) : tYes σ H Q := by
  obtain ⟨B, env, b, env', en, ev, q⟩ := h
  cases ev
  exact q B H (.refl en)
theorem At.through {K : PySem.W.Frag} {σ : St} {B B1 B2 : Mset} {H H1 H2 : Hp} {env e1 e1' e2 : Sl} {lk : Lk} (en : EnvR K B H σ env) (a : At K σ B H env B1 H1 e1) (l : Locked lk e1 e1') (b : At K σ B1 H1 e1' B2 H2 e2) : At K σ B H env B2 H2 (unlock lk e2) := by
  have h := AtS.through en a l b.s
  refine ⟨h.st, h.en, ?_, ?_⟩
  · cases lk with
    | none =>
      cases l
      exact fun i m c q => let ⟨c1, h1⟩ := b.sm i m c q; a.sm i m c1 h1
    | some p =>
      obtain ⟨i, m⟩ := p
      obtain ⟨c, h1, rfl⟩ := l
      have hi : i < e1.length := (List.getElem?_eq_some_iff.mp h1).1
      obtain ⟨c2, h2⟩ := b.ks i .fro c (by rw [List.getElem?_set_self hi])
      have eu : unlock (some (i, m)) e2 = e2.set i (some (.mu m c2)) := by simp only [unlock, h2]
      rw [eu]
      intro j n d q
      rcases get_set q with ⟨z, z'⟩ | ⟨z, q⟩
      · cases z'; subst z; exact a.sm i m c h1
      · obtain ⟨d1, q1⟩ := b.sm j n d q
        rw [List.getElem?_set_ne z] at q1
        exact a.sm j n d1 q1
  · cases lk with
    | none =>
      cases l
      exact fun i m c q => let ⟨c1, h1⟩ := a.ks i m c q; b.ks i m c1 h1
    | some p =>
      obtain ⟨i, m⟩ := p
      obtain ⟨c, h1, rfl⟩ := l
      have hi : i < e1.length := (List.getElem?_eq_some_iff.mp h1).1
      obtain ⟨c2, h2⟩ := b.ks i .fro c (by rw [List.getElem?_set_self hi])
      have hi2 : i < e2.length := (List.getElem?_eq_some_iff.mp h2).1
      have eu : unlock (some (i, m)) e2 = e2.set i (some (.mu m c2)) := by simp only [unlock, h2]
      rw [eu]
      intro j n d q
      obtain ⟨d1, q1⟩ := a.ks j n d q
      by_cases z : i = j
      · subst z
        rw [h1] at q1
        cases q1
        exact ⟨c2, by rw [List.getElem?_set_self hi2]⟩
      · obtain ⟨d2, q2⟩ := b.ks j n d1 (by rw [List.getElem?_set_ne z]; exact q1)
        exact ⟨d2, by rw [List.getElem?_set_ne z]; exact q2⟩

theorem rd_lc {K : PySem.W.Frag} {it : EI} {g : GG} {t : EB} {f : EE} {vs : List Nat} (hg : Only g vs) {σ : St} {H : Hp} {Q : VK} (h : tE K (eLc it g t f vs) σ H Q) : tLc (tI K it) (tGv K g vs) (tT K t) (tE K f) vs σ H Q := by
  obtain ⟨B, env, d, env', en, ev, q⟩ := h
  unfold eLc at ev
  split at ev
  · cases ev
  rename_i xs lk e1 h1
  split at ev
  rotate_left
  · cases ev
  rename_i hlen
  split at ev
  · cases ev
  rename_i accF e2 h2
  cases ev
  refine ⟨B, env, xs, lk, e1, en, h1, fun B1 H1 J pr G e0 a1 lkd wk g0 hpr D nD => ?_⟩
  have en1 : EnvR K B1 H1 σ e1 := lkd.en a1.en
  have stays : ∀ {Bi Hi ei}, At K σ B1 H1 e1 Bi Hi ei → G Bi Hi := fun {Bi Hi ei} a => wk.keep _ _ _ _ _ _ g0 a.st en1.wb fun x hx => (hpr x hx).1
  have slotNone : ∀ {Bi Hi ei}, At K σ B1 H1 e1 Bi Hi ei → ∀ p, H1 p = none → ∀ (i : Nat) m d, ei[i]? = some (some (S.mu m d)) → σ[i]? ≠ some (some (V.ref p)) := fun {Bi Hi ei} a p np i m d h3 h4 => by
    obtain ⟨c0, k0⟩ := a.sm i m d h3
    obtain ⟨p', k1, k2, _⟩ := en1.mu i m c0 k0
    rw [h4] at k1
    cases k1
    obtain ⟨o, ho⟩ := en1.dom p k2
    rw [np] at ho; cases ho
  let Iv : Nat → Hp → List PyData → Sl → Mset → Prop := fun i Hi acc ei Bi => At K σ B1 H1 e1 Bi Hi ei ∧ Bi D ∧ acc.length ≤ i ∧ (∃ ws, Hi D = some (.lst ws) ∧ RpA K Bi Hi ws acc) ∧ lcL g t f vs (xs.drop i) ei acc = some (accF, e2)
  refine ⟨fun i m Hi => i ≤ xs.length ∧ m = xs.length - i ∧ ∃ acc ei Bi, Iv i Hi acc ei Bi, ⟨_, Nat.zero_le _, rfl, [], e1, (fun q => (B1 q ∧ ¬ False) ∨ (True ∧ q = D)), ?_⟩, ?_⟩
  · obtain ⟨_, a2⟩ := (At.refl en1).alloc en1 nD (.lst []) True (fun _ => False) (fun _ z => z.elim)
    exact ⟨a2, .inr ⟨trivial, rfl⟩, Nat.le_refl _, ⟨[], upd_same, .nil⟩, h2⟩
  rintro i m Hi ⟨hi, rfl, acc, ei, Bi, ai, bD, hacc, ⟨ws, hD, rw_⟩, fi⟩
  have gi := stays ai
  by_cases hlt : i < xs.length
  · have hd : xs.drop i = xs[i] :: xs.drop (i + 1) := List.drop_eq_getElem_cons hlt
    rw [hd] at fi
    unfold lcL at fi
    split at fi
    · cases fi
    rename_i e3 h3
    refine .inr ⟨wk.go i Bi Hi gi hlt, fun H' => ∃ acc ei Bi, Iv (i + 1) H' acc ei Bi, fun H' ⟨acc', e', B', z⟩ => ⟨xs.length - (i + 1), by omega, hlt, rfl, acc', e', B', z⟩, fun x H' hy => ?_⟩
    obtain ⟨hH, rx⟩ := wk.yld i Bi Hi x H' xs[i] gi (List.getElem?_eq_getElem hlt) hy
    have ay : At K σ Bi Hi ei Bi H' ei := by
      rcases hH with e | ⟨T, vs, nT, e⟩ | ⟨T, vs, T2, vs2, nT, nT2, e⟩
      · subst e; exact .refl ai.en
      · subst e; exact At.pair ai.en nT
      · subst e; exact (At.pair ai.en nT).trans ai.en (At.pair (At.pair ai.en nT).en nT2)
    have ai' : At K σ B1 H1 e1 Bi H' ei := ai.trans en1 ay
    have hD' : H' D = some (.lst ws) := by
      rcases hH with e | ⟨T, us, nT, e⟩ | ⟨T, us, T2, us2, nT, nT2, e⟩
      · rw [e]; exact hD
      · rw [e, upd_ne (fun z => by rw [← z, hD] at nT; cases nT)]; exact hD
      · have h1 : upd Hi T (.tup us) D = some (.lst ws) := by rw [upd_ne (fun z => by rw [← z, hD] at nT; cases nT)]; exact hD
        rw [e, upd_ne (fun z => by rw [← z, h1] at nT2; cases nT2)]; exact h1
    have rw' : RpA K Bi H' ws acc := rw_.grow (ay.grow ai.en)
    refine ⟨Bi, wipeE ei vs, xs[i], e3, ay.en.wiped vs, rx, h3, fun B3 σ3 H3 a3 w3' => ?_⟩
    have w3 : wipe σ3 vs = wipe σ vs := w3'.trans wipe_idem
    refine ⟨w3, ?_⟩
    have ho : ∀ j, j ∉ vs → e3[j]? = (wipeE ei vs)[j]? := hg _ _ _ h3
    -- what lies behind some step of the block
    have out : ∀ {B4 H4 e4}, At K σ3 B3 H3 e3 B4 H4 e4 → At K σ B1 H1 e1 B4 H4 (unwipe ei e4 vs) ∧ B4 D ∧ H4 D = some (.lst ws) ∧ RpA K B4 H4 ws acc := fun {B4 H4 e4} b => by
      have u := At.unwiped ay.en a3 w3 ho b
      have nw : ¬ Wof σ ei D := by
        rintro ⟨j, m, c, k1, _, k3⟩
        exact slotNone ai' D nD j m c k1 k3
      exact ⟨ai'.trans en1 u, u.st.old D bD nw, u.st.keep D _ hD' (.inl ⟨nw, fun _ z => nomatch z⟩), rw'.grow (u.grow ay.en)⟩
    split at fi
    · cases fi
    rename_i b e4 h4
    refine ⟨B3, e3, b, e4, a3.en, h4, fun B4 H4 a4 => ?_⟩
    cases b with
    | false =>
      simp at fi ⊢
      obtain ⟨o1, o2, o3, o4⟩ := out a4
      exact ⟨acc, _, B4, o1, o2, by omega, ⟨ws, o3, o4⟩, fi⟩
    | true =>
      simp at fi ⊢
      split at fi
      · cases fi
      rename_i d e5 h5
      split at fi
      · cases fi
      rename_i y hy'
      refine ⟨B4, e4, d, e5, a4.en, h5, fun B5 H5 v a5 r5 => ?_⟩
      have a45 := a4.trans a3.en a5
      obtain ⟨o1, o2, o3, o4⟩ := out a45
      refine ⟨ws, o3, ?_, ?_⟩
      · have := o4.length; exact Nat.lt_of_le_of_lt (by omega) (small (n := i) (by omega))
      have hH1 : ∀ p, H4 p = none → H1 p = none := fun p z => (out a4).1.st.liv p z
      cases d with
      | var j => cases hy'
      | nt z =>
        cases hy'
        obtain ⟨p, rfl, r5⟩ := r5
        obtain ⟨g6, a6⟩ := o1.app (ws' := ws ++ [.ref p]) en1 nD o2 o3 (slotNone o1 D nD) (fun _ => False) (fun _ z => z.elim)
        exact ⟨_, _, _, a6, ⟨o2, id⟩, by simp; omega, ⟨_, upd_same, (o4.grow g6).append (.cons (r5.rp.grow g6) .nil)⟩, fi⟩
      | pd z =>
        cases hy'
        obtain ⟨g6, a6⟩ := o1.app (ws' := ws ++ [v]) en1 nD o2 o3 (slotNone o1 D nD) (fun _ => False) (fun _ z => z.elim)
        exact ⟨acc ++ [y], _, _, a6, ⟨o2, id⟩, by simp; omega, ⟨_, upd_same, (o4.grow g6).append (.cons (Rp.grow g6 r5) .nil)⟩, fi⟩
      | tmp c =>
        cases hy'
        obtain ⟨p, rfl, k1, k2, k3, k4⟩ := r5
        have npD : p ≠ D := fun z => by
          subst z
          obtain ⟨_, _, q3, _⟩ := out a4
          rw [q3] at k1; cases k1
        obtain ⟨g6, a6⟩ := o1.app (ws' := ws ++ [.ref p]) en1 nD o2 o3 (slotNone o1 D nD) (fun q => q = p) (fun q z => by subst z; exact ⟨npD, hH1 q k1, slotNone o1 q (hH1 q k1)⟩)
        exact ⟨acc ++ [ctD c], _, _, a6, ⟨o2, fun z => npD z.symm⟩, by simp; omega, ⟨_, upd_same, (o4.grow g6).append (.cons ((k3.hop g6 (fun o z => by rw [upd_ne npD]; exact z)).rp (fun z => z.2 rfl)) .nil)⟩, fi⟩
  · have e : i = xs.length := by omega
    subst e
    rw [List.drop_length] at fi
    cases fi
    refine .inl ⟨wk.stop Bi Hi gi, q Bi Hi _ (At.through en a1 lkd ai) (RR.relock (d := .tmp (.ls accF)) ⟨D, rfl, a1.st.liv D nD, bD, ⟨ws, hD, rw_⟩, slotNone ai D nD⟩)⟩
end T3

end
section
set_option linter.all false
set_option autoImplicit false
set_option Elab.async false
namespace T3
open PySem L2
variable [TabL]

theorem PI.imp {X : Cx} {tg e : Expr} {t t' : TI} (h : PI X tg e t) (i : ∀ σ H Q, t' σ H Q → t σ H Q) : PI X tg e t' := ⟨fun pins s σ H Q I q => h.run pins s σ H Q I (i σ H Q q)⟩
theorem PI.or {X : Cx} {tg e : Expr} {t t' : TI} (h : PI X tg e t) (h' : PI X tg e t') : PI X tg e (fun σ H Q => t σ H Q ∨ t' σ H Q) := ⟨fun pins s σ H Q I q => q.elim (h.run pins s σ H Q I) (h'.run pins s σ H Q I)⟩
def signs (s : Str) : List PyData := s.cps.toList.map fun c => .str ⟨#[c]⟩
def iSeq (f : EE) : EI := fun env => match f env with
  | some (.pd (.tuple xs), e) => some (xs, none, e)
  | some (.nt xs, e) => some (xs, none, e)
  | some (.pd (.list xs), e) => some (xs, none, e)
  | some (.pd (.str s), e) => some (signs s, none, e)
  | some (.tmp (.ls xs), e) => some (xs, none, e)
  | some (.var i, e) => match e[i]? with
    | some (some (.mu m (.ls xs))) => some (xs, some (i, m), e.set i (some (.mu .fro (.ls xs))))
    | _ => none
  | _ => none
theorem wk_tup {K : PySem.W.Frag} {a : Addr} {xs : List PyData} : Wk K (Itt K a) (fun _ => False) (fun B H => Rp K B H (.ref a) (.tuple xs)) xs where
  go i B H g hi := by
    obtain ⟨a', vs, e, h1, h2⟩ := Cn.tuple (.rp g)
    cases e
    exact ⟨vs, vs[i]'(by rw [h2.length]; exact hi), h1, by simp⟩
  stop B H g := by
    obtain ⟨a', vs, e, h1, h2⟩ := Cn.tuple (.rp g)
    cases e
    exact ⟨vs, h1, by rw [h2.length]; exact Nat.le_refl _⟩
  yld i B H x H' d g hd hy := by
    obtain ⟨a', vs, e, h1, h2⟩ := Cn.tuple (.rp g)
    cases e
    obtain ⟨rfl, hy⟩ := hy
    obtain ⟨v, k1, k2⟩ := h2.get hd
    rw [hy vs h1] at k1
    cases k1
    exact ⟨.inl rfl, k2⟩
  keep W B H W' B' H' g s wb _ := g.grow (s.grow wb)
theorem wk_lst {K : PySem.W.Frag} {a : Addr} {xs : List PyData} : Wk K (Itl K a) (fun _ => False) (fun B H => Rp K B H (.ref a) (.list xs)) xs where
  go i B H g hi := by
    obtain ⟨a', vs, e, h1, h2⟩ := Cn.list (.rp g)
    cases e
    exact ⟨vs, vs[i]'(by rw [h2.length]; exact hi), h1, by simp⟩
  stop B H g := by
    obtain ⟨a', vs, e, h1, h2⟩ := Cn.list (.rp g)
    cases e
    exact ⟨vs, h1, by rw [h2.length]; exact Nat.le_refl _⟩
  yld i B H x H' d g hd hy := by
    obtain ⟨a', vs, e, h1, h2⟩ := Cn.list (.rp g)
    cases e
    obtain ⟨rfl, hy⟩ := hy
    obtain ⟨v, k1, k2⟩ := h2.get hd
    rw [hy vs h1] at k1
    cases k1
    exact ⟨.inl rfl, k2⟩
  keep W B H W' B' H' g s wb _ := g.grow (s.grow wb)
theorem wk_mut {K : PySem.W.Frag} {a : Addr} {xs : List PyData} : Wk K (Itl K a) (fun q => q = a) (fun B H => ∃ vs, H a = some (.lst vs) ∧ RpA K B H vs xs) xs where
  go i B H g hi := by
    obtain ⟨vs, h1, h2⟩ := g
    exact ⟨vs, vs[i]'(by rw [h2.length]; exact hi), .inl (.inl h1), by simp⟩
  stop B H g := by
    obtain ⟨vs, h1, h2⟩ := g
    exact ⟨vs, .inl (.inl h1), by rw [h2.length]; exact Nat.le_refl _⟩
  yld i B H x H' d g hd hy := by
    obtain ⟨vs, h1, h2⟩ := g
    obtain ⟨rfl, hy⟩ := hy
    obtain ⟨v, k1, k2⟩ := h2.get hd
    rw [hy vs (.inl (.inl h1))] at k1
    cases k1
    exact ⟨.inl rfl, k2⟩
  keep W B H W' B' H' g s wb hp := by
    obtain ⟨vs, h1, h2⟩ := g
    exact ⟨vs, s.keep _ _ h1 (.inl ⟨hp a rfl, fun _ z => nomatch z⟩), h2.grow (s.grow wb)⟩
theorem signs_len {s : Str} : (signs s).length = s.cps.size := by simp [signs]
theorem wk_str {K : PySem.W.Frag} {s : Str} : Wk K (Its s) (fun _ => False) (fun _ _ => True) (signs s) where
  go i B H g hi := by rw [signs_len] at hi; exact hi
  stop B H g := by rw [signs_len]; exact Nat.le_refl _
  yld i B H x H' d g hd hy := by
    obtain ⟨rfl, c, h1, rfl⟩ := hy
    refine ⟨.inl rfl, ?_⟩
    simp only [signs, List.getElem?_map, Array.getElem?_toList, h1] at hd
    cases hd
    exact .str _
  keep W B H W' B' H' g s wb hp := trivial
theorem rd_seq_ {K : PySem.W.Frag} {f : EE} {σ : St} {H : Hp} {R : It → Hp → Prop} (h : tI K (iSeq f) σ H R) : iList K (tE K f) σ H R ∨ iTup K (tE K f) σ H R ∨ iStr (tE K f) σ H R := by
  obtain ⟨B, env, xs, lk, env', en, ev, q⟩ := h
  unfold iSeq at ev
  split at ev
  · rename_i ys e h1
    cases ev
    refine .inr (.inl ⟨B, env, _, _, en, h1, fun B1 H1 v a1 r1 => ?_⟩)
    have r1 : Rp K B1 H1 v (.tuple xs) := r1
    obtain ⟨a, vs, rfl, h2, h3⟩ := Cn.tuple (.rp r1)
    exact ⟨a, rfl, ⟨vs, h2⟩, q B1 H1 _ _ _ _ a1 rfl wk_tup r1 (fun _ z => z.elim)⟩
  · rename_i ys e h1
    cases ev
    refine .inr (.inl ⟨B, env, _, _, en, h1, fun B1 H1 v a1 r1 => ?_⟩)
    obtain ⟨p, rfl, r1⟩ := r1
    obtain ⟨a, vs, e, h2, h3⟩ := Cn.tuple (.rp r1.rp)
    cases e
    exact ⟨_, rfl, ⟨vs, h2⟩, q B1 H1 _ _ _ _ a1 rfl wk_tup r1.rp (fun _ z => z.elim)⟩
  · rename_i ys e h1
    cases ev
    refine .inl ⟨B, env, _, _, en, h1, fun B1 H1 v a1 r1 => ?_⟩
    have r1 : Rp K B1 H1 v (.list xs) := r1
    obtain ⟨a, vs, rfl, h2, h3⟩ := Cn.list (.rp r1)
    exact ⟨a, rfl, ⟨vs, h2⟩, q B1 H1 _ _ _ _ a1 rfl wk_lst r1 (fun _ z => z.elim)⟩
  · rename_i s e h1
    cases ev
    refine .inr (.inr ⟨B, env, _, _, en, h1, fun B1 H1 v a1 r1 => ?_⟩)
    have r1 : Rp K B1 H1 v (.str s) := r1
    cases r1
    exact ⟨s, rfl, q B1 H1 _ _ _ _ a1 rfl wk_str trivial (fun _ z => z.elim)⟩
  · rename_i ys e h1
    cases ev
    refine .inl ⟨B, env, _, _, en, h1, fun B1 H1 v a1 r1 => ?_⟩
    obtain ⟨a, rfl, k0, k1, ⟨vs, k2, k3⟩, k4⟩ := r1
    refine ⟨a, rfl, ⟨vs, .inl (.inl k2)⟩, q B1 H1 _ _ _ _ a1 rfl wk_mut ⟨vs, k2, k3⟩ (fun p z => ?_)⟩
    subst z
    exact ⟨fun ⟨i, m, c, g1, _, g3⟩ => k4 i m c g1 g3, _, k2⟩
  · rename_i i e h1
    split at ev
    · rename_i m ys h2
      cases ev
      refine .inl ⟨B, env, _, _, en, h1, fun B1 H1 v a1 r1 => ?_⟩
      obtain ⟨k1, _⟩ := r1
      obtain ⟨a, g1, g2, vs, g3, g4⟩ := a1.en.mu i _ _ h2
      rw [k1] at g1
      cases g1
      refine ⟨a, rfl, ⟨vs, .inl (.inl g3)⟩, q B1 H1 _ _ _ _ a1 ⟨_, h2, rfl⟩ wk_mut ⟨vs, g3, g4⟩ (fun p z => ?_)⟩
      subst z
      refine ⟨fun ⟨j, m', c, z1, z2, z3⟩ => ?_, _, g3⟩
      rcases get_set z1 with ⟨e1, e2⟩ | ⟨e1, z1⟩
      · cases e2; exact z2 rfl
      · exact e1 (a1.en.inj i j _ _ _ _ _ h2 z1 k1 z3)
    · cases ev
  · cases ev
theorem i_seq {X : Cx} {tg l : Expr} {f : EE} (h : PE X l (tE X.K f)) : PI X tg l (tI X.K (iSeq f)) := PI.imp (PI.or (pi_list h) (PI.or (pi_tup h) (pi_str h))) fun _ _ _ t => rd_seq_ t
def rgD (i : Int) (n : Nat) (c : Int) : List PyData := (List.range n).map fun k => .int (i + (k : Nat) * c)
theorem rgD_get {i c : Int} {n k : Nat} {d : PyData} (h : (rgD i n c)[k]? = some d) : d = .int (i + (k : Nat) * c) := by
  simp only [rgD, List.getElem?_map] at h
  by_cases z : k < n
  · rw [List.getElem?_range z] at h; cases h; rfl
  · rw [List.getElem?_eq_none (by simpa using z)] at h; cases h
theorem wk_rng {K : PySem.W.Frag} {i : Int} {n : Nat} : Wk K (Itr i n) (fun _ => False) (fun _ _ => True) (rgD i n 1) where
  go k B H g hi := by simp [rgD] at hi; exact hi
  stop B H g := by simp [rgD, Itr, Itc]
  yld k B H x H' d g hd hy := by
    obtain ⟨rfl, rfl⟩ := hy
    have := rgD_get hd
    subst this
    rw [Int.mul_one]
    exact ⟨.inl rfl, .int _⟩
  keep W B H W' B' H' g s wb hp := trivial
def RgI1 (j : Int) : Prop := -(2 ^ 62) ≤ j ∧ j < 2 ^ 62
def RgI2 (i j : Int) : Prop := -(2 ^ 62) ≤ i ∧ i < 2 ^ 62 ∧ -(2 ^ 62) ≤ j ∧ j < 2 ^ 62
noncomputable instance (j : Int) : Decidable (RgI1 j) := Classical.propDecidable _
noncomputable instance (i j : Int) : Decidable (RgI2 i j) := Classical.propDecidable _
noncomputable def iRg1 (f : EA) : EI := fun env => match f env with
  | some ([.pd (.int j)], e) => if RgI1 j then some (rgD 0 j.toNat 1, none, e) else none
  | _ => none
theorem RRA.int1 {K : PySem.W.Frag} {H₀ : Hp} {B : Mset} {H : Hp} {σ : St} {env : Sl} {vs : List V} {j : Int} (r : RRA K H₀ B H σ env vs [.pd (.int j)]) : vs = [.int j] := by
  match vs, r with
  | [v], r =>
    have := r.each 0 v _ rfl rfl
    have this : Rp K B H v (.int j) := this
    cases this
    rfl
  | [], r => have := r.len; simp at this
  | _ :: _ :: _, r => have := r.len; simp at this
theorem rd_rg1 {K : PySem.W.Frag} {f : EA} {σ : St} {H : Hp} {R : It → Hp → Prop} (h : tI K (iRg1 f) σ H R) : iRng1 (tA K f) σ H R := by
  obtain ⟨B, env, xs, lk, env', en, ev, q⟩ := h
  unfold iRg1 at ev
  split at ev
  · rename_i j e h1
    split at ev
    · rename_i hb
      cases ev
      refine ⟨B, env, _, _, en, h1, fun B1 H1 vs a1 r1 => ⟨j, r1.int1, hb.1, hb.2, q B1 H1 _ _ _ _ a1 rfl wk_rng trivial (fun _ z => z.elim)⟩⟩
    · cases ev
  · cases ev
theorem i_rg1 {X : Cx} {tg a : Expr} {f : EA} {p pos : Pos} (hg : Gl X "range") (hm : X.mg "range" = none) (ha : PA X [a] (tA X.K f)) (hs : starEach [a] X.env = [(false, eval a X.env)] := by rfl) : PI X tg (.Call (.Name "range" p) [a] [] pos) (tI X.K (iRg1 f)) :=
  PI.imp (pi_range1 hg hm ha hs) fun _ _ _ t => rd_rg1 t
end T3

end
section
set_option linter.all false
set_option autoImplicit false
set_option Elab.async false
namespace T3
open PySem L2
variable [TabL]

theorem CnA.one {K : PySem.W.Frag} {B : Mset} {H : Hp} {vs : List V} {x : PyData} (h : CnA K B H vs [x]) : ∃ v, vs = [v] ∧ Cn K B H v x := by
  cases h with
  | cons h1 h2 => cases h2; exact ⟨_, rfl, h1⟩
theorem CnA.two {K : PySem.W.Frag} {B : Mset} {H : Hp} {vs : List V} {x y : PyData} (h : CnA K B H vs [x, y]) : ∃ v w, vs = [v, w] ∧ Cn K B H v x ∧ Cn K B H w y := by
  cases h with
  | cons h1 h2 => obtain ⟨w, rfl, h3⟩ := h2.one; exact ⟨_, _, rfl, h1, h3⟩
def kOr (k1 k2 : KK) : KK := fun ds env => match k1 ds env with
  | some r => some r
  | none => k2 ds env
theorem con_or {K : PySem.W.Frag} {k1 k2 : KK} {r1 r2 : List V → Hp → VK → Prop} (h1 : Con K k1 r1) (h2 : Con K k2 r2) : Con K (kOr k1 k2) (fun vs H Q => r1 vs H Q ∨ r2 vs H Q) := by
  intro σ H B env B1 H1 env1 vs ds d e2 Q en a rr hk q
  unfold kOr at hk
  split at hk
  · rename_i r hr
    cases hk
    exact .inl (h1 σ H B env B1 H1 env1 vs ds d e2 Q en a rr hr q)
  · exact .inr (h2 σ H B env B1 H1 env1 vs ds d e2 Q en a rr hk q)
theorem con_or2 {K : PySem.W.Frag} {k1 k2 : KK} {r1 r2 : R2} (h1 : Con K k1 (l2 r1)) (h2 : Con K k2 (l2 r2)) : Con K (kOr k1 k2) (l2 fun x y H Q => r1 x y H Q ∨ r2 x y H Q) := by
  intro σ H B env B1 H1 env1 vs ds d e2 Q en a rr hk q x y e
  exact (con_or h1 h2 σ H B env B1 H1 env1 vs ds d e2 Q en a rr hk q).imp (fun z => z x y e) (fun z => z x y e)

def oI (C : Int → Int → Prop) [∀ i j, Decidable (C i j)] (g : Int → Int → PyData) : List PyData → Option PyData
  | [.int i, .int j] => if C i j then some (g i j) else none
  | _ => none
theorem ok_I {K : PySem.W.Frag} {C : Int → Int → Prop} [∀ i j, Decidable (C i j)] {g : Int → Int → Int} : OkE K (oI C fun i j => .int (g i j)) (l2 (rI C fun i j => .int (g i j))) := by
  intro B H vs xs z Q cn ho q x y e
  unfold oI at ho
  split at ho
  · split at ho
    · rename_i i j hc
      cases ho
      obtain ⟨v, w, e2, c1, c2⟩ := cn.two
      rw [e] at e2
      cases e2
      exact ⟨i, j, c1.int, c2.int, hc, q _ (.int _)⟩
    · cases ho
  · cases ho
theorem ok_I0 {K : PySem.W.Frag} {g : Int → Int → Int} : OkE K (oI (fun _ _ => True) fun i j => .int (g i j)) (l2 (rI0 fun i j => .int (g i j))) := by
  intro B H vs xs z Q cn ho q x y e
  obtain ⟨i, j, h1, h2, _, h3⟩ := ok_I (C := fun _ _ => True) (g := g) B H vs xs z Q cn ho q x y e
  exact ⟨i, j, h1, h2, h3⟩
theorem ok_B0 {K : PySem.W.Frag} {g : Int → Int → Bool} : OkE K (oI (fun _ _ => True) fun i j => .bool (g i j)) (l2 (rI0 fun i j => .bl (g i j))) := by
  intro B H vs xs z Q cn ho q x y e
  unfold oI at ho
  split at ho
  · rename_i i j
    simp at ho
    cases ho
    obtain ⟨v, w, e2, c1, c2⟩ := cn.two
    rw [e] at e2
    cases e2
    exact ⟨i, j, c1.int, c2.int, q _ (.bl _)⟩
  · cases ho
noncomputable instance (i j : Int) : Decidable (CMul i j) := Classical.propDecidable _
noncomputable instance (i j : Int) : Decidable (CDivW i j) := Classical.propDecidable _
noncomputable instance (i j : Int) : Decidable (CPow i j) := Classical.propDecidable _
def kSub : KK := kE (oI (fun _ _ => True) fun i j => .int (i - j))
theorem cdv (i j : Int) (h1 : 0 < j) (h2 : j < 1000000000000000) : CDivW i j := by
  refine ⟨h1, ?_⟩
  have : j.natAbs.log2 < 50 := (Nat.log2_lt (by omega)).mpr (by omega)
  omega
noncomputable def kFdiv : KK := kE (oI CDivW fun i j => .int (i / j))
def kMod : KK := kE (oI (fun _ j => 0 < j) fun i j => .int (i % j))
noncomputable def kPow : KK := kE (oI CPow fun i j => .int (i ^ j.toNat))
def kLt0 : KK := kE (oI (fun _ _ => True) fun i j => .bool (decide (i < j)))
def oLtG : List PyData → Option PyData
  | [.tuple xs, .tuple ys] => if SeqAt.shaped (.tuple xs) = true ∧ SeqAt.shaped (.tuple ys) = true ∧ PySem.W.alike (.tuple xs) (.tuple ys) = true ∧ (PyData.tuple xs).depth ≤ 30 then some (.bool (PySem.W.dataLt (.tuple xs) (.tuple ys))) else none
  | _ => none
def oGtG : List PyData → Option PyData
  | [.tuple xs, .tuple ys] => if SeqAt.shaped (.tuple xs) = true ∧ SeqAt.shaped (.tuple ys) = true ∧ PySem.W.alike (.tuple xs) (.tuple ys) = true ∧ (PyData.tuple xs).depth ≤ 30 then some (.bool (PySem.W.dataLt (.tuple ys) (.tuple xs))) else none
  | _ => none
def rLtG (K : PySem.W.Frag) : R2 := fun x y H Q => ∃ d e, Dp K H x d ∧ Dp K H y e ∧ PySem.W.alike d e = true ∧ d ≠ .none ∧ d.depth ≤ 30 ∧ Q (.bl (PySem.W.dataLt d e)) H
def rGtG (K : PySem.W.Frag) : R2 := fun x y H Q => ∃ d e, Dp K H x d ∧ Dp K H y e ∧ PySem.W.alike d e = true ∧ d ≠ .none ∧ d.depth ≤ 30 ∧ Q (.bl (PySem.W.dataLt e d)) H
theorem op_ltG {X : Cx} (hu : X.A.units + 64 < cLine) : OpR X (compareOp .Lt) (rLtG X.K) := by
  intro pins s σ H x y v u Q I rx ry h
  obtain ⟨d, e, hd, he, al, nn, dp, q⟩ := h
  obtain ⟨as, r1⟩ := Dp.reads I d x v hd rx
  obtain ⟨bs, r2⟩ := Dp.reads I e y u he ry
  exact PySem.W.lt_data r1 r2 al nn (by omega) ⟨.bl _, H, I, rfl, q⟩
theorem op_gtG {X : Cx} (hu : X.A.units + 64 < cLine) : OpR X (compareOp .Gt) (rGtG X.K) := by
  intro pins s σ H x y v u Q I rx ry h
  obtain ⟨d, e, hd, he, al, nn, dp, q⟩ := h
  obtain ⟨as, r1⟩ := Dp.reads I d x v hd rx
  obtain ⟨bs, r2⟩ := Dp.reads I e y u he ry
  exact PySem.W.gt_data r1 r2 al nn (by omega) ⟨.bl _, H, I, rfl, q⟩
theorem ok_ltG {K : PySem.W.Frag} : OkE K oLtG (l2 (rLtG K)) := by
  intro B H vs xs z Q cn ho q x y e
  unfold oLtG at ho
  split at ho
  · split at ho
    · rename_i a b hs
      cases ho
      obtain ⟨v, w, e2, c1, c2⟩ := cn.two
      rw [e] at e2
      cases e2
      exact ⟨_, _, c1.dp hs.1, c2.dp hs.2.1, hs.2.2.1, by simp, hs.2.2.2, q _ (.bl _)⟩
    · cases ho
  · cases ho
theorem ok_gtG {K : PySem.W.Frag} : OkE K oGtG (l2 (rGtG K)) := by
  intro B H vs xs z Q cn ho q x y e
  unfold oGtG at ho
  split at ho
  · split at ho
    · rename_i a b hs
      cases ho
      obtain ⟨v, w, e2, c1, c2⟩ := cn.two
      rw [e] at e2
      cases e2
      exact ⟨_, _, c1.dp hs.1, c2.dp hs.2.1, hs.2.2.1, by simp, hs.2.2.2, q _ (.bl _)⟩
    · cases ho
  · cases ho
def kGt : KK := kOr (kE (oI (fun _ _ => True) fun i j => .bool (decide (j < i)))) (kE oGtG)
def oNeg : List PyData → Option PyData
  | [.int i] => some (.int (-i))
  | _ => none
def kNeg : KK := kE oNeg
theorem c_neg {K : PySem.W.Frag} : Con K kNeg (l1 (rU fun i => .int (-i))) := con_E <| by
  intro B H vs xs z Q cn ho q x e
  unfold oNeg at ho
  split at ho
  · cases ho
    obtain ⟨v, e2, c1⟩ := cn.one
    rw [e] at e2
    cases e2
    exact ⟨_, c1.int, q _ (.int _)⟩
  · cases ho

def oCatS : List PyData → Option PyData
  | [.str i, .str j] => if i.length + j.length ≤ 1000000 then some (.str (i ++ j)) else none
  | _ => none
def rCatS : R2 := fun x y H Q => ∃ i j, x = .str i ∧ y = .str j ∧ i.length + j.length ≤ sizeLine ∧ Q (.str (i ++ j)) H
theorem ok_catS {K : PySem.W.Frag} : OkE K oCatS (l2 rCatS) := by
  intro B H vs xs z Q cn ho q x y e
  unfold oCatS at ho
  split at ho
  · split at ho
    · rename_i hl
      cases ho
      obtain ⟨v, w, e2, c1, c2⟩ := cn.two
      rw [e] at e2
      cases e2
      exact ⟨_, _, c1.str, c2.str, Nat.le_of_lt (small hl), q _ (.str _)⟩
    · cases ho
  · cases ho
def oCatT : List PyData → Option (List PyData)
  | [.tuple xs, .tuple ys] => if xs.length + ys.length ≤ 1000000 then some (xs ++ ys) else none
  | _ => none
theorem ok_catT {K : PySem.W.Frag} : OkT K oCatT (l2 (rCatA K)) := by
  intro B H vs xs z Q cn ho q0 q x y e
  unfold oCatT at ho
  split at ho
  · split at ho
    · rename_i xs ys hl
      cases ho
      obtain ⟨v, w, e2, c1, c2⟩ := cn.two
      rw [e] at e2
      cases e2
      obtain ⟨a, us, rfl, h1, h2⟩ := c1.tuple
      obtain ⟨b, ws, rfl, h3, h4⟩ := c2.tuple
      refine ⟨a, b, us, ws, rfl, rfl, h1, h3, ?_, fun z => ?_, fun z z2 => ?_, fun z z2 p np => q _ p (h2.append h4) np⟩
      · rw [h2.length, h4.length]; exact Nat.le_of_lt (small hl)
      · subst z; cases h2; exact q0 _ (.tup h3 h4)
      · subst z2; cases h4; rw [List.append_nil] at q0; exact q0 _ (.tup h1 h2)
    · cases ho
  · cases ho
def lsOf (env : Sl) : R → Option (List PyData)
  | .tmp (.ls xs) => some xs
  | .var i => match env[i]? with
    | some (some (.mu _ (.ls xs))) => some xs
    | _ => none
  | _ => none
theorem lsOf_at {K : PySem.W.Frag} {H₀ : Hp} {B : Mset} {H : Hp} {σ : St} {env : Sl} {v : V} {d : R} {xs : List PyData} (en : EnvR K B H σ env) (h : RA K H₀ B H σ env v d) (c : lsOf env d = some xs) : ∃ a vs, v = .ref a ∧ H a = some (.lst vs) ∧ RpA K B H vs xs := by
  cases d with
  | pd y => cases c
  | nt y => cases c
  | tmp t =>
    cases t with
    | ls ys => cases c; obtain ⟨a, rfl, _, _, ⟨vs, h1, h2⟩, _⟩ := h; exact ⟨a, vs, rfl, h1, h2⟩
    | dk _ => cases c
    | dn _ => cases c
  | var i =>
    simp only [lsOf] at c
    split at c
    · rename_i m ys hx
      cases c
      obtain ⟨a, h1, _, vs, h2, h3⟩ := en.mu _ _ _ hx
      have h : σ[i]? = some (some v) := h
      rw [h] at h1
      cases h1
      exact ⟨a, vs, rfl, h2, h3⟩
    · cases c
def kCatL : KK := fun ds env => match ds with
  | [d1, d2] => match lsOf env d1 with
    | none => none
    | some xs => match lsOf env d2 with
      | none => none
      | some ys => if xs.length + ys.length ≤ 1000000 then some (.tmp (.ls (xs ++ ys)), env) else none
  | _ => none
theorem con_new {K : PySem.W.Frag} {σ : St} {B B1 : Mset} {H H1 : Hp} {env env1 : Sl} {p : Addr} {ws : List V} {xs : List PyData} {Q : VK} (en : EnvR K B H σ env) (a : At K σ B H env B1 H1 env1) (np : H1 p = none) (hw : RpA K B1 H1 ws xs)
    (q : ∀ B' H' v, At K σ B H env B' H' env1 → RR K H B' H' σ env1 v (.tmp (.ls xs)) → Q v H') : Q (.ref p) (upd H1 p (.lst ws)) := by
  obtain ⟨g, a2⟩ := a.alloc en np (.lst ws) True (fun _ => False) (fun _ f => f.elim)
  refine q _ _ _ a2 ⟨p, rfl, a.st.liv _ np, .inr ⟨trivial, rfl⟩, ⟨ws, upd_same, hw.grow g⟩, fun i m d h1 h2 => ?_⟩
  obtain ⟨b, h3, h4, _⟩ := a.en.mu i m d h1
  rw [h3] at h2
  cases h2
  obtain ⟨o', ho⟩ := a.en.dom _ h4
  rw [np] at ho; cases ho
theorem c_catL {K : PySem.W.Frag} : Con K kCatL (l2 rCat) := by
  intro σ H B env B1 H1 env1 vs ds d e2 Q en a rr hk q x y e
  unfold kCatL at hk
  split at hk
  · rename_i d1 d2
    split at hk
    · cases hk
    rename_i xs hx
    split at hk
    · cases hk
    rename_i ys hy
    split at hk
    · rename_i hl
      cases hk
      subst e
      obtain ⟨p, us, rfl, h1, h2⟩ := lsOf_at a.en (rr.each 0 x d1 rfl rfl) hx
      obtain ⟨p2, ws, rfl, h3, h4⟩ := lsOf_at a.en (rr.each 1 y d2 rfl rfl) hy
      exact ⟨p, p2, us, ws, rfl, rfl, h1, h3, by rw [h2.length, h4.length]; exact Nat.le_of_lt (small hl), fun r nr => con_new en a nr (h2.append h4) q⟩
    · cases hk
  · cases hk
def kAdd : KK := kOr (kE (oI (fun _ _ => True) fun i j => .int (i + j))) (kOr (kE oCatS) (kOr (kT oCatT) kCatL))
def oRepT : List PyData → Option (List PyData)
  | [.tuple xs, .int k] => if xs ≠ [] ∧ 2 ≤ k ∧ k ≤ 1000 ∧ xs.length ≤ 1000 then some (List.replicate k.toNat xs).flatten else none
  | _ => none
theorem RpA.rep {K : PySem.W.Frag} {B : Mset} {H : Hp} {vs : List V} {xs : List PyData} (h : RpA K B H vs xs) : ∀ k : Nat, RpA K B H (List.replicate k vs).flatten (List.replicate k xs).flatten
  | 0 => .nil
  | k + 1 => by
    rw [List.replicate_succ, List.replicate_succ, List.flatten_cons, List.flatten_cons]
    exact h.append (RpA.rep h k)
theorem ok_repT {K : PySem.W.Frag} : OkT K oRepT (l2 (rRepT K)) := by
  intro B H vs xs z Q cn ho q0 q x y e
  unfold oRepT at ho
  split at ho
  · split at ho
    · rename_i xs k hl
      cases ho
      obtain ⟨v, w, e2, c1, c2⟩ := cn.two
      rw [e] at e2
      cases e2
      obtain ⟨a, us, rfl, h1, h2⟩ := c1.tuple
      refine ⟨a, k, us, rfl, c2.int, h1, fun z => ?_, hl.2.1, hl.2.2.1, by rw [h2.length]; exact hl.2.2.2, fun p np => q _ p (h2.rep _) np⟩
      subst z
      cases h2
      exact hl.1 rfl
    · cases ho
  · cases ho
noncomputable def kMul : KK := kOr (kE (oI CMul fun i j => .int (i * j))) (kT oRepT)

def oEq : List PyData → Option PyData
  | [x, y] => if SeqAt.shaped x = true ∧ SeqAt.shaped y = true then some (.bool (PyData.eqv x y)) else none
  | _ => none
def oNe : List PyData → Option PyData
  | [x, y] => if SeqAt.shaped x = true ∧ SeqAt.shaped y = true then some (.bool (!PyData.eqv x y)) else none
  | _ => none
theorem ok_eq {K : PySem.W.Frag} : OkE K oEq (l2 (rEqD K)) := by
  intro B H vs xs z Q cn ho q x y e
  unfold oEq at ho
  split at ho
  · split at ho
    · rename_i a b hs
      cases ho
      obtain ⟨v, w, e2, c1, c2⟩ := cn.two
      rw [e] at e2
      cases e2
      exact ⟨a, b, c1.dp hs.1, c2.dp hs.2, hs.1, hs.2, q _ (.bl _)⟩
    · cases ho
  · cases ho
theorem ok_ne {K : PySem.W.Frag} : OkE K oNe (l2 (rNeD K)) := by
  intro B H vs xs z Q cn ho q x y e
  unfold oNe at ho
  split at ho
  · split at ho
    · rename_i a b hs
      cases ho
      obtain ⟨v, w, e2, c1, c2⟩ := cn.two
      rw [e] at e2
      cases e2
      exact ⟨a, b, c1.dp hs.1, c2.dp hs.2, hs.1, hs.2, q _ (.bl _)⟩
    · cases ho
  · cases ho
def rInT (K : PySem.W.Frag) (neg : Bool) : R2 := fun x y H Q => ∃ d ds, Dp K H x d ∧ Dp K H y (.tuple ds) ∧ SeqAt.shaped d = true ∧ SeqAt.shaped (.tuple ds) = true ∧ Q (.bl (if neg = true then !ds.any (fun z => PyData.eqv z d) else ds.any (fun z => PyData.eqv z d))) H
theorem room_in {A : Around} {xs : List PyData} {d : PyData} (hd : SeqAt.shaped d = true) (hu : A.units + 65 < cLine) : A.units + 1 + min (PyData.depthAll xs) d.depth < cLine := by
  have h1 := SeqAt.depth_of_shaped hd
  have h2 := Nat.min_le_right (PyData.depthAll xs) d.depth
  omega
theorem op_inT {X : Cx} (hu : X.A.units + 65 < cLine) : OpR X (compareOp .In) (rInT X.K false) := by
  intro pins s σ H x y v u Q I rx ry h
  obtain ⟨d, ds, hd, he, sd, se, q⟩ := h
  obtain ⟨as, r1⟩ := Dp.reads I d x v hd rx
  obtain ⟨bs, r2⟩ := Dp.reads I _ y u he ry
  have hl : PyData.canLayAll0 ds = true := SeqAt.canLay_of_shaped se
  exact SeqAt.in_tuple_reads r2 r1 hl (SeqAt.canLay_of_shaped sd) (room_in sd hu) ⟨.bl _, H, I, rfl, by simpa using q⟩
theorem op_notInT {X : Cx} (hu : X.A.units + 65 < cLine) : OpR X (compareOp .NotIn) (rInT X.K true) := by
  intro pins s σ H x y v u Q I rx ry h
  obtain ⟨d, ds, hd, he, sd, se, q⟩ := h
  obtain ⟨as, r1⟩ := Dp.reads I d x v hd rx
  obtain ⟨bs, r2⟩ := Dp.reads I _ y u he ry
  have hl : PyData.canLayAll0 ds = true := SeqAt.canLay_of_shaped se
  exact SeqAt.notIn_tuple_reads r2 r1 hl (SeqAt.canLay_of_shaped sd) (room_in sd hu) ⟨.bl _, H, I, rfl, by simpa using q⟩
def oIn (neg : Bool) : List PyData → Option PyData
  | [x, .list ys] => if SeqAt.shaped x = true ∧ SeqAt.shaped (.list ys) = true then some (.bool (if neg = true then !ys.any (fun z => PyData.eqv z x) else ys.any (fun z => PyData.eqv z x))) else none
  | [x, .tuple ys] => if SeqAt.shaped x = true ∧ SeqAt.shaped (.tuple ys) = true then some (.bool (if neg = true then !ys.any (fun z => PyData.eqv z x) else ys.any (fun z => PyData.eqv z x))) else none
  | _ => none
theorem ok_in {K : PySem.W.Frag} : OkE K (oIn false) (l2 fun x y H Q => rInD K x y H Q ∨ rInT K false x y H Q) := by
  intro B H vs xs z Q cn ho q x y e
  unfold oIn at ho
  split at ho
  · split at ho
    · rename_i a b hs
      cases ho
      obtain ⟨v, w, e2, c1, c2⟩ := cn.two
      rw [e] at e2
      cases e2
      exact .inl ⟨_, _, c1.dp hs.1, c2.dp hs.2, hs.1, hs.2, q _ (.bl _)⟩
    · cases ho
  · split at ho
    · rename_i a b hs
      cases ho
      obtain ⟨v, w, e2, c1, c2⟩ := cn.two
      rw [e] at e2
      cases e2
      exact .inr ⟨_, _, c1.dp hs.1, c2.dp hs.2, hs.1, hs.2, q _ (.bl _)⟩
    · cases ho
  · cases ho
theorem ok_notin {K : PySem.W.Frag} : OkE K (oIn true) (l2 fun x y H Q => rNotInD K x y H Q ∨ rInT K true x y H Q) := by
  intro B H vs xs z Q cn ho q x y e
  unfold oIn at ho
  split at ho
  · split at ho
    · rename_i a b hs
      cases ho
      obtain ⟨v, w, e2, c1, c2⟩ := cn.two
      rw [e] at e2
      cases e2
      exact .inl ⟨_, _, c1.dp hs.1, c2.dp hs.2, hs.1, hs.2, q _ (.bl _)⟩
    · cases ho
  · split at ho
    · rename_i a b hs
      cases ho
      obtain ⟨v, w, e2, c1, c2⟩ := cn.two
      rw [e] at e2
      cases e2
      exact .inr ⟨_, _, c1.dp hs.1, c2.dp hs.2, hs.1, hs.2, q _ (.bl _)⟩
    · cases ho
  · cases ho
def ints? : List PyData → Option (List Int)
  | [] => some []
  | .int i :: xs => match ints? xs with
    | none => none
    | some ns => some (i :: ns)
  | _ => none
theorem ints_map : ∀ {xs : List PyData} {ns : List Int}, ints? xs = some ns → xs = ns.map .int
  | [], ns, h => by cases h; rfl
  | .int i :: xs, ns, h => by
    unfold ints? at h
    split at h
    · cases h
    rename_i ms hm
    cases h
    rw [ints_map hm]
    rfl
  | .none :: _, _, h => by cases h
  | .bool _ :: _, _, h => by cases h
  | .str _ :: _, _, h => by cases h
  | .list _ :: _, _, h => by cases h
  | .tuple _ :: _, _, h => by cases h
  | .dict _ :: _, _, h => by cases h
def oLtT : List PyData → Option PyData
  | [.tuple xs, .tuple ys] => match ints? xs with
    | none => none
    | some ns => match ints? ys with
      | none => none
      | some ms => some (.bool (HT.lexLt ns ms))
  | _ => none
theorem ok_ltT {K : PySem.W.Frag} : OkE K oLtT (l2 (rLtT K)) := by
  intro B H vs xs z Q cn ho q x y e
  unfold oLtT at ho
  split at ho
  · split at ho
    · cases ho
    rename_i ns h1
    split at ho
    · cases ho
    rename_i ms h2
    cases ho
    obtain ⟨v, w, e2, c1, c2⟩ := cn.two
    rw [e] at e2
    cases e2
    obtain ⟨a, us, rfl, h3, h4⟩ := c1.tuple
    obtain ⟨b, ws, rfl, h5, h6⟩ := c2.tuple
    rw [ints_map h1] at h4
    rw [ints_map h2] at h6
    have e1 := h4.ints
    have e2 := h6.ints
    subst e1 e2
    exact ⟨a, b, ns, ms, rfl, rfl, h3, h5, q _ (.bl _)⟩
  · cases ho
def kLt : KK := kOr kLt0 (kOr (kE oLtT) (kE oLtG))
def oIx : List PyData → Option PyData
  | [.list xs, .int i] => atI xs i
  | [.tuple xs, .int i] => atI xs i
  | [.str s, .int i] => if s.length ≤ 1000000 then (atI s.cps.toList i).map fun c => .str ⟨#[c]⟩ else none
  | _ => none
theorem at_rp {K : PySem.W.Frag} {B : Mset} {H : Hp} {vs : List V} {xs : List PyData} {i : Int} {z : PyData} (r : RpA K B H vs xs) (h : atI xs i = some z) : ∃ v, atI vs i = some v ∧ Rp K B H v z := by
  unfold atI at h ⊢
  rw [r.length]
  cases e : ixN xs.length i with
  | none => rw [e] at h; cases h
  | some j =>
    rw [e] at h
    exact r.get h
theorem ok_ix {K : PySem.W.Frag} : OkE K oIx (l2 (rIx K)) := by
  intro B H vs xs z Q cn ho q x y e
  unfold oIx at ho
  split at ho
  · obtain ⟨v, w, e2, c1, c2⟩ := cn.two
    rw [e] at e2
    cases e2
    obtain ⟨a, us, rfl, h1, h2⟩ := c1.list
    obtain ⟨v, h3, h4⟩ := at_rp h2 ho
    exact .inl ⟨a, us, _, v, rfl, c2.int, h1, h3, q v h4⟩
  · obtain ⟨v, w, e2, c1, c2⟩ := cn.two
    rw [e] at e2
    cases e2
    obtain ⟨a, us, rfl, h1, h2⟩ := c1.tuple
    obtain ⟨v, h3, h4⟩ := at_rp h2 ho
    exact .inr (.inl ⟨a, us, _, v, rfl, c2.int, h1, h3, q v h4⟩)
  · split at ho
    · rename_i s i hl
      obtain ⟨v, w, e2, c1, c2⟩ := cn.two
      rw [e] at e2
      cases e2
      cases hc : atI s.cps.toList i with
      | none => rw [hc] at ho; cases ho
      | some c =>
        rw [hc] at ho
        cases ho
        exact .inr (.inr ⟨s, i, c, c1.str, c2.int, Nat.le_of_lt (small hl), hc, q _ (.str _)⟩)
    · cases ho
  · cases ho
end T3

end
section
set_option linter.all false
set_option autoImplicit false
set_option Elab.async false
namespace T3
open PySem L2
variable [TabL]

def cOr (r r' : List V → Hp → VK → Prop) : List V → Hp → VK → Prop := fun vs H Q => r vs H Q ∨ r' vs H Q
def oLen : List PyData → Option PyData
  | [.list xs] => some (.int xs.length)
  | [.tuple xs] => some (.int xs.length)
  | [.str s] => if s.length ≤ 1000000 then some (.int s.length) else none
  | _ => none
def rLen (K : PySem.W.Frag) : List V → Hp → VK → Prop := cOr (fun xs H Q => ∃ p ys, xs = [.ref p] ∧ (SqL K H p ys ∨ SqT K H p ys) ∧ Q (.int ys.length) H) (fun xs H Q => ∃ z, xs = [.str z] ∧ z.length ≤ sizeLine ∧ Q (.int z.length) H)
theorem cr_len {X : Cx} : CallR X (.builtin "len") (rLen X.K) := CallR.or call_len_seq call_len_str
theorem c_len {K : PySem.W.Frag} : Con K (kE oLen) (rLen K) := con_E <| by
  intro B H vs xs z Q cn ho q
  unfold oLen at ho
  split at ho
  · cases ho
    obtain ⟨v, rfl, c1⟩ := cn.one
    obtain ⟨a, us, rfl, h1, h2⟩ := c1.list
    refine .inl ⟨a, us, rfl, .inl h1, ?_⟩
    rw [h2.length]
    exact q _ (.int _)
  · cases ho
    obtain ⟨v, rfl, c1⟩ := cn.one
    obtain ⟨a, us, rfl, h1, h2⟩ := c1.tuple
    refine .inl ⟨a, us, rfl, .inr h1, ?_⟩
    rw [h2.length]
    exact q _ (.int _)
  · split at ho
    · rename_i hl
      cases ho
      obtain ⟨v, rfl, c1⟩ := cn.one
      exact .inr ⟨_, by rw [c1.str], Nat.le_of_lt (small hl), q _ (.int _)⟩
    · cases ho
  · cases ho
def bools? : List PyData → Option (List Bool)
  | [] => some []
  | .bool i :: xs => match bools? xs with
    | none => none
    | some ns => some (i :: ns)
  | _ => none
theorem bools_map : ∀ {xs : List PyData} {ns : List Bool}, bools? xs = some ns → xs = ns.map .bool
  | [], ns, h => by cases h; rfl
  | .bool i :: xs, ns, h => by
    unfold bools? at h
    split at h
    · cases h
    rename_i ms hm
    cases h
    rw [bools_map hm]
    rfl
  | .none :: _, _, h => by cases h
  | .int _ :: _, _, h => by cases h
  | .str _ :: _, _, h => by cases h
  | .list _ :: _, _, h => by cases h
  | .tuple _ :: _, _, h => by cases h
  | .dict _ :: _, _, h => by cases h
def oAll : List PyData → Option PyData
  | [.list xs] => match bools? xs with
    | none => none
    | some bs => some (.bool (bs.all id))
  | _ => none
theorem c_all {K : PySem.W.Frag} : Con K (kE oAll) (rAll K) := con_E <| by
  intro B H vs xs z Q cn ho q
  unfold oAll at ho
  split at ho
  · split at ho
    · cases ho
    rename_i bs hb
    cases ho
    obtain ⟨v, rfl, c1⟩ := cn.one
    obtain ⟨a, us, rfl, h1, h2⟩ := c1.list
    rw [bools_map hb] at h2
    have e := h2.bls
    subst e
    exact ⟨a, bs, rfl, h1, q _ (.bl _)⟩
  · cases ho
def oAbs : List PyData → Option PyData
  | [.int i] => some (.int (if i < 0 then -i else i))
  | _ => none
def rMinT (K : PySem.W.Frag) : List V → Hp → VK → Prop := fun vs H Q => ∃ (a : Addr) (n : Int) (ns : List Int), vs = [V.ref a] ∧ SqT K H a ((n :: ns).map V.int) ∧ Q (.int (ns.foldl min n)) H
def rMaxT (K : PySem.W.Frag) : List V → Hp → VK → Prop := fun vs H Q => ∃ (a : Addr) (n : Int) (ns : List Int), vs = [V.ref a] ∧ SqT K H a ((n :: ns).map V.int) ∧ Q (.int (ns.foldl max n)) H
theorem DpAll.ints {K : PySem.W.Frag} {H : Hp} : ∀ ns : List Int, DpAll K H (ns.map V.int) (ns.map .int)
  | [] => .nil
  | n :: ns => .cons (.int n) (DpAll.ints ns)
theorem alike_ints (ns : List Int) : PySem.W.AlikeAll (ns.map .int) := by
  constructor
  · intro x hx y hy
    obtain ⟨i, _, rfl⟩ := List.mem_map.mp hx
    obtain ⟨j, _, rfl⟩ := List.mem_map.mp hy
    rfl
  · intro x hx
    obtain ⟨i, _, rfl⟩ := List.mem_map.mp hx
    intro z
    cases z
theorem depth_ints : ∀ ns : List Int, PyData.depthAll (ns.map .int) = 0
  | [] => by simp [PyData.depthAll]
  | n :: ns => by simp [PyData.depthAll, PyData.depth, depth_ints ns]
theorem reads_int {h : Heap} {v : Value} {i : Int} {as : List Addr} (r : Reads h v (.int i) as) : ∃ t, v = .int i t := by
  cases r with
  | int _ t => exact ⟨t, rfl⟩
theorem cr_minT {X : Cx} (hc : X.calm = true) (hu : X.A.units + 64 < cLine) : CallR X (.builtin "min") (rMinT X.K) := by
  intro pins s σ H vs us Q I r h
  obtain ⟨a, n, ns, rfl, hs, q⟩ := h
  obtain ⟨its, rv, ⟨o, ho, hcl, m, hd⟩, hz⟩ := I.tuple hs
  rw [Vals.ref1 r]
  obtain ⟨as, hr⟩ := Dp.readsAll I _ _ its (DpAll.ints (n :: ns)) rv
  refine PySem.W.min_tuple_data (vs := its.toArray) (I.ok.hd hc) ⟨o, ho, hcl, m, hd⟩ (x := .int n) (xs := ns.map .int) hr (alike_ints (n :: ns)) (by have := depth_ints (n :: ns); simp only [List.map_cons] at this; rw [this]; omega) fun i v h' tk bs hv hrd hk => ?_
  rw [PySem.W.minD_ints] at hrd
  obtain ⟨t, rfl⟩ := reads_int hrd
  exact ⟨.int _, H, I.kept hk, ⟨t, rfl⟩, q⟩
theorem cr_maxT {X : Cx} (hc : X.calm = true) (hu : X.A.units + 64 < cLine) : CallR X (.builtin "max") (rMaxT X.K) := by
  intro pins s σ H vs us Q I r h
  obtain ⟨a, n, ns, rfl, hs, q⟩ := h
  obtain ⟨its, rv, ⟨o, ho, hcl, m, hd⟩, hz⟩ := I.tuple hs
  rw [Vals.ref1 r]
  obtain ⟨as, hr⟩ := Dp.readsAll I _ _ its (DpAll.ints (n :: ns)) rv
  refine PySem.W.max_tuple_data (vs := its.toArray) (I.ok.hd hc) ⟨o, ho, hcl, m, hd⟩ (x := .int n) (xs := ns.map .int) hr (alike_ints (n :: ns)) (by have := depth_ints (n :: ns); simp only [List.map_cons] at this; rw [this]; omega) fun i v h' tk bs hv hrd hk => ?_
  rw [PySem.W.maxD_ints] at hrd
  obtain ⟨t, rfl⟩ := reads_int hrd
  exact ⟨.int _, H, I.kept hk, ⟨t, rfl⟩, q⟩
def rMm (K : PySem.W.Frag) (mx : Bool) : List V → Hp → VK → Prop := if mx = true then cOr (fun xs H Q => ∃ i j, xs = [.int i, .int j] ∧ Q (.int (if j > i then j else i)) H) (cOr (rMaxT K) (rMax K)) else cOr (fun xs H Q => ∃ i j, xs = [.int i, .int j] ∧ Q (.int (if j < i then j else i)) H) (cOr (rMinT K) (rMin K))
theorem cr_mx {X : Cx} (hc : X.calm = true) (hu : X.A.units + 64 < cLine) : CallR X (.builtin "max") (rMm X.K true) := CallR.or (call_max2 hc) (CallR.or (cr_maxT hc hu) (cr_max hc))
theorem cr_mn {X : Cx} (hc : X.calm = true) (hu : X.A.units + 64 < cLine) : CallR X (.builtin "min") (rMm X.K false) := CallR.or (call_min2 hc) (CallR.or (cr_minT hc hu) (cr_min hc))
def oMax : List PyData → Option PyData
  | [.int i, .int j] => some (.int (if j > i then j else i))
  | [.tuple xs] => match ints? xs with
    | some (n :: ns) => some (.int (ns.foldl max n))
    | _ => none
  | [.list xs] => match ints? xs with
    | some (n :: ns) => some (.int (ns.foldl max n))
    | _ => none
  | _ => none
def oMin : List PyData → Option PyData
  | [.int i, .int j] => some (.int (if j < i then j else i))
  | [.tuple xs] => match ints? xs with
    | some (n :: ns) => some (.int (ns.foldl min n))
    | _ => none
  | [.list xs] => match ints? xs with
    | some (n :: ns) => some (.int (ns.foldl min n))
    | _ => none
  | _ => none
theorem foldl_max : ∀ (ns : List Int) (n m : Int), m ∈ n :: ns → (∀ y, y ∈ n :: ns → y ≤ m) → ns.foldl max n = m
  | [], n, m, h, _ => by simp at h; simp [h]
  | k :: ns, n, m, h, hb => by
    show ns.foldl max (max n k) = m
    have h1 := hb n (by simp)
    have h2 := hb k (by simp)
    refine foldl_max ns _ m ?_ fun y hy => ?_
    · simp only [List.mem_cons] at h ⊢
      rcases h with h | h | h
      · left; omega
      · left; omega
      · right; exact h
    · simp only [List.mem_cons] at hy
      rcases hy with hy | hy
      · omega
      · exact hb y (by simp [hy])
theorem foldl_min : ∀ (ns : List Int) (n m : Int), m ∈ n :: ns → (∀ y, y ∈ n :: ns → m ≤ y) → ns.foldl min n = m
  | [], n, m, h, _ => by simp at h; simp [h]
  | k :: ns, n, m, h, hb => by
    show ns.foldl min (min n k) = m
    have h1 := hb n (by simp)
    have h2 := hb k (by simp)
    refine foldl_min ns _ m ?_ fun y hy => ?_
    · simp only [List.mem_cons] at h ⊢
      rcases h with h | h | h
      · left; omega
      · left; omega
      · right; exact h
    · simp only [List.mem_cons] at hy
      rcases hy with hy | hy
      · omega
      · exact hb y (by simp [hy])
theorem c_mx {K : PySem.W.Frag} : Con K (kE oMax) (rMm K true) := con_E <| by
  intro B H vs xs z Q cn ho q
  unfold oMax at ho
  split at ho
  · cases ho
    obtain ⟨v, w, rfl, c1, c2⟩ := cn.two
    exact .inl ⟨_, _, by rw [c1.int, c2.int], q _ (.int _)⟩
  · split at ho
    · rename_i n ns hb
      cases ho
      obtain ⟨v, rfl, c1⟩ := cn.one
      obtain ⟨a, us, rfl, h1, h2⟩ := c1.tuple
      rw [ints_map hb] at h2
      have e := h2.ints
      subst e
      exact .inr (.inl ⟨a, n, ns, rfl, h1, q _ (.int _)⟩)
    · cases ho
  · split at ho
    · rename_i n ns hb
      cases ho
      obtain ⟨v, rfl, c1⟩ := cn.one
      obtain ⟨a, us, rfl, h1, h2⟩ := c1.list
      rw [ints_map hb] at h2
      have e := h2.ints
      subst e
      refine .inr (.inr ⟨a, n :: ns, rfl, h1, by simp, fun m hm hb' => ?_⟩)
      rw [← foldl_max ns n m hm hb']
      exact q _ (.int _)
    · cases ho
  · cases ho
theorem c_mn {K : PySem.W.Frag} : Con K (kE oMin) (rMm K false) := con_E <| by
  intro B H vs xs z Q cn ho q
  unfold oMin at ho
  split at ho
  · cases ho
    obtain ⟨v, w, rfl, c1, c2⟩ := cn.two
    exact .inl ⟨_, _, by rw [c1.int, c2.int], q _ (.int _)⟩
  · split at ho
    · rename_i n ns hb
      cases ho
      obtain ⟨v, rfl, c1⟩ := cn.one
      obtain ⟨a, us, rfl, h1, h2⟩ := c1.tuple
      rw [ints_map hb] at h2
      have e := h2.ints
      subst e
      exact .inr (.inl ⟨a, n, ns, rfl, h1, q _ (.int _)⟩)
    · cases ho
  · split at ho
    · rename_i n ns hb
      cases ho
      obtain ⟨v, rfl, c1⟩ := cn.one
      obtain ⟨a, us, rfl, h1, h2⟩ := c1.list
      rw [ints_map hb] at h2
      have e := h2.ints
      subst e
      refine .inr (.inr ⟨a, n :: ns, rfl, h1, by simp, fun m hm hb' => ?_⟩)
      rw [← foldl_min ns n m hm hb']
      exact q _ (.int _)
    · cases ho
  · cases ho
def rTupN (K : PySem.W.Frag) : List V → Hp → VK → Prop := fun xs H Q => ∃ p ys, xs = [.ref p] ∧ ((SqL K H p ys ∧ ∀ l o, H l = none → o.dict = none → Q (.ref l) (upd H l (.frz o (.tup ys)))) ∨ (SqT K H p ys ∧ Q (.ref p) H))
theorem cr_tupN {X : Cx} : CallR X (.type "tuple") (rTupN X.K) := by
  intro pins s σ H xs us Q I r h
  obtain ⟨p, ys, rfl, h⟩ := h
  obtain ⟨u, rfl, rx⟩ := vals1 r
  cases rx
  rcases h with ⟨hq, q⟩ | ⟨hq, q⟩
  · obtain ⟨its, r', pl, hz⟩ := I.list hq
    have hlen := r'.length
    refine call_tuple_list pl.isList (fun h' kp => ?_) (by simp only [List.size_toArray] <;> omega)
    have I1 : Inv X pins σ H { s with heap := h' } := I.kept (t' := s.toks) kp
    refine ⟨.ref h'.objs.size, _, I1.laid (t' := s.toks) (o := .frz { cls := .type "tuple", data := .seq its.toArray } (.tup ys)) (fun b o e => Heap.get?_push_of_some _ e) (Nat.le_refl _) ?_, rfl, q _ _ (I1.hok.fresh (Nat.le_refl _)) rfl⟩
    exact ⟨Heap.get?_push_size _ rfl, hz, its, r', PyProof.Rows.IsTup.new _ _⟩
  · obtain ⟨its, r', pl, hz⟩ := I.tuple hq
    exact call_tuple_same pl ⟨.ref p, H, I, rfl, q⟩
def kTupN : KK := fun ds env => match ds with
  | [.nt xs] => some (.nt xs, env)
  | [d] => match ctn env d with
    | some (.list xs) => some (.nt xs, env)
    | some (.tuple xs) => some (.pd (.tuple xs), env)
    | _ => none
  | _ => none
theorem c_tupN {K : PySem.W.Frag} : Con K kTupN (rTupN K) := by
  intro σ H B env B1 H1 env1 vs ds d e2 Q en a rr hk q
  unfold kTupN at hk
  split at hk
  · cases hk
    match vs, rr with
    | [v], rr =>
      obtain ⟨p, rfl, r⟩ := rr.each 0 v _ rfl rfl
      obtain ⟨o, us, h1, h2, h3⟩ := id r
      exact ⟨p, us, rfl, .inr ⟨.inl (.inr ⟨o, h1⟩), q B1 H1 _ a ⟨p, rfl, r⟩⟩⟩
    | [], rr => have := rr.len; simp at this
    | _ :: _ :: _, rr => have := rr.len; simp at this
  · rename_i d1 _
    match vs, rr with
    | [v], rr =>
      split at hk
      · rename_i xs hx
        cases hk
        obtain ⟨p, us, rfl, h1, h2⟩ := (Cn.of a.en (rr.each 0 v d1 rfl rfl) hx).list
        refine ⟨p, us, rfl, .inl ⟨h1, fun l o nl hd => ?_⟩⟩
        obtain ⟨g, a2⟩ := a.alloc en nl (.frz o (.tup us)) False (fun _ => False) (fun _ f => f.elim)
        exact q _ _ _ a2 ⟨l, rfl, o, us, upd_same, hd, h2.grow g⟩
      · rename_i xs hx
        cases hk
        obtain ⟨p, us, rfl, h1, h2⟩ := (Cn.of a.en (rr.each 0 v d1 rfl rfl) hx).tuple
        exact ⟨p, us, rfl, .inr ⟨h1, q B1 H1 _ a (.tup h1 h2)⟩⟩
      · cases hk
    | [], rr => have := rr.len; simp at this
    | _ :: _ :: _, rr => have := rr.len; simp at this
  · cases hk
def oList : List PyData → Option (List PyData)
  | [.list xs] => some xs
  | [.tuple xs] => some xs
  | _ => none
theorem c_list {K : PySem.W.Frag} : Con K (kL oList) (fun xs H Q => ∃ p ys, xs = [.ref p] ∧ (SqL K H p ys ∨ SqT K H p ys) ∧ ∀ l, H l = none → Q (.ref l) (upd H l (.lst ys))) := con_L <| by
  intro B H vs xs z Q cn ho q
  unfold oList at ho
  split at ho
  · cases ho
    obtain ⟨v, rfl, c1⟩ := cn.one
    obtain ⟨a, us, rfl, h1, h2⟩ := c1.list
    exact ⟨a, us, rfl, .inl h1, fun l nl => q us l h2 nl⟩
  · cases ho
    obtain ⟨v, rfl, c1⟩ := cn.one
    obtain ⟨a, us, rfl, h1, h2⟩ := c1.tuple
    exact ⟨a, us, rfl, .inr h1, fun l nl => q us l h2 nl⟩
  · cases ho
end T3

end
section
set_option linter.all false
set_option autoImplicit false
set_option Elab.async false
namespace T3
open PySem L2
variable [TabL]

def tyN : PyData → String
  | .none => "NoneType"
  | .bool _ => "bool"
  | .int _ => "int"
  | .str _ => "str"
  | .list _ => "list"
  | .tuple _ => "tuple"
  | .dict _ => "dict"
theorem Cn.ty {K : PySem.W.Frag} {B : Mset} {H : Hp} {v : V} {x : PyData} (h : Cn K B H v x) (nx : ∀ kvs, x ≠ .dict kvs) : TyX K H v (.type (tyN x)) := by
  cases h with
  | ct h r => exact .base (.lst h)
  | rp h =>
    cases h with
    | non => exact .base .non
    | bl b => exact .base (.bl b)
    | int i => exact .base (.int i)
    | str x => exact .base (.str x)
    | tup h r =>
      rcases h with (h | ⟨o, h⟩) | ⟨o, _, _, h1, h2, _⟩
      · exact .base (.tup h)
      · exact .fTuple h
      · exact .kTuple h1 h2
    | lst h _ r => exact .base (.lst h)
    | frz h r => exact .base (.frz h)
    | kls h1 h2 h3 h4 h5 h6 r => exact .kList h1 h2
    | fn h => exact absurd rfl (nx _)
    | exn => exact absurd rfl (nx _)
    | ntp h1 h2 h3 => exact absurd rfl (nx _)
    | lam h1 h2 h3 h4 h5 => exact absurd rfl (nx _)
    | dct h1 h2 h3 h4 h5 h6 => exact absurd rfl (nx _)
    | dck h1 h2 h3 h4 => exact absurd rfl (nx _)
inductive T5 where | int | bool | str | tuple | list
def T5.n : T5 → String
  | .int => "int"
  | .bool => "bool"
  | .str => "str"
  | .tuple => "tuple"
  | .list => "list"
def isi5 : T5 → PyData → Bool
  | .int, .int _ => true
  | .int, .bool _ => true
  | .bool, .bool _ => true
  | .str, .str _ => true
  | .tuple, .tuple _ => true
  | .list, .list _ => true
  | _, _ => false
theorem kt0 : ∀ t : T5, kitB "NoneType" t.n = some false := by intro t; cases t <;> decide +kernel
theorem kt1 : ∀ t : T5, kitB "bool" t.n = some (match t with | .int => true | .bool => true | _ => false) := by intro t; cases t <;> decide +kernel
theorem kt2 : ∀ t : T5, kitB "int" t.n = some (match t with | .int => true | _ => false) := by intro t; cases t <;> decide +kernel
theorem kt3 : ∀ t : T5, kitB "str" t.n = some (match t with | .str => true | _ => false) := by intro t; cases t <;> decide +kernel
theorem kt4 : ∀ t : T5, kitB "list" t.n = some (match t with | .list => true | _ => false) := by intro t; cases t <;> decide +kernel
theorem kt5 : ∀ t : T5, kitB "tuple" t.n = some (match t with | .tuple => true | _ => false) := by intro t; cases t <;> decide +kernel
theorem kit5 {K : PySem.W.Frag} (t : T5) (x : PyData) (hx : ∀ kvs, x ≠ .dict kvs) : PySem.W.kitOne K (.type (tyN x)) (.type t.n) = some (isi5 t x) := by
  cases x with
  | dict kvs => exact absurd rfl (hx kvs)
  | none => cases t <;> exact kit_ty (kt0 _)
  | bool b => cases t <;> exact kit_ty (kt1 _)
  | int b => cases t <;> exact kit_ty (kt2 _)
  | str b => cases t <;> exact kit_ty (kt3 _)
  | list b => cases t <;> exact kit_ty (kt4 _)
  | tuple b => cases t <;> exact kit_ty (kt5 _)
def oIsi (t : T5) : List PyData → Option PyData
  | [.dict _] => none
  | [x] => some (.bool (isi5 t x))
  | _ => none
def cutD (xs : List PyData) (lo hi : Option Int) : List PyData := (xs.drop (HT.sIx xs.length 0 lo)).take (HT.sIx xs.length xs.length hi - HT.sIx xs.length 0 lo)
theorem RpA.cut {K : PySem.W.Frag} {B : Mset} {H : Hp} {vs : List V} {xs : List PyData} (h : RpA K B H vs xs) (lo hi : Option Int) : RpA K B H (cutV vs lo hi) (cutD xs lo hi) := by
  unfold cutV cutD
  rw [h.length]
  exact (h.drop _).take _
abbrev EO := Sl → Option (Option Int × Sl)
def oNo : EO := fun env => some (none, env)
def oSome (f : EE) : EO := fun env => match f env with
  | some (.pd (.int i), e) => some (some i, e)
  | _ => none
def tO (K : PySem.W.Frag) (f : EO) : TO := fun σ H Q => ∃ B env i env', EnvR K B H σ env ∧ f env = some (i, env') ∧ ∀ B' H', At K σ B H env B' H' env' → Q i H'
theorem PO.imp {X : Cx} {e : Option Expr} {t t' : TO} (h : PO X e t) (i : ∀ σ H Q, t' σ H Q → t σ H Q) : PO X e t' := ⟨fun pins s σ H Q I q => h.run pins s σ H Q I (i σ H Q q)⟩
theorem o_no {X : Cx} {K : PySem.W.Frag} : PO X none (tO K oNo) := PO.imp po_none fun σ H Q q => by
  obtain ⟨B, env, i, env', en, ev, q⟩ := q
  cases ev
  exact q B H (.refl en)
theorem o_some {X : Cx} {e : Expr} {f : EE} (h : PE X e (tE X.K f)) : PO X (some e) (tO X.K (oSome f)) := PO.imp (po_some h) fun σ H Q q => by
  obtain ⟨B, env, i, env', en, ev, q⟩ := q
  unfold oSome at ev
  split at ev
  · rename_i j e h1
    cases ev
    refine ⟨B, env, _, _, en, h1, fun B1 H1 v a1 r1 => ?_⟩
    have r1 : Rp X.K B1 H1 v (.int j) := r1
    cases r1
    exact ⟨j, rfl, q B1 H1 a1⟩
  · cases ev
def kSl (l h : Option Int) : KK := fun ds env => match ds with
  | [d] => match ctn env d with
    | some (.tuple xs) => some (.pd (.tuple (cutD xs l h)), env)
    | some (.list xs) => some (.tmp (.ls (cutD xs l h)), env)
    | some (.str s) => if s.length ≤ 1000000 then some (.pd (.str (cutS s l h)), env) else none
    | _ => none
  | _ => none
def eSl (f : EE) (lo hi : EO) : EE := fun env => match f env with
  | none => none
  | some (d, e1) => match lo e1 with
    | none => none
    | some (l, e2) => match hi e2 with
      | none => none
      | some (h, e3) => kSl l h [d] e3
def rSl3 (K : PySem.W.Frag) : V → Option Int → Option Int → Hp → VK → Prop := fun x lo hi H Q => rSlL K x lo hi H Q ∨ rSlA K x lo hi H Q ∨ rSlS x lo hi H Q
theorem sl3 {X : Cx} : SlR X (rSl3 X.K) := SlR.or sl_list (SlR.or sl_tupA sl_str)
theorem cutD_all {xs : List PyData} {lo hi : Option Int} (h : HT.sIx xs.length 0 lo = 0 ∧ HT.sIx xs.length xs.length hi = xs.length) : cutD xs lo hi = xs := by
  unfold cutD
  rw [h.1, h.2]
  simp
theorem c_sl {K : PySem.W.Frag} {l h : Option Int} : Con K (kSl l h) (l1 fun x H Q => rSl3 K x l h H Q) := by
  intro σ H B env B1 H1 env1 vs ds d e2 Q en a rr hk q x e
  subst e
  unfold kSl at hk
  split at hk
  · rename_i d1
    split at hk
    · rename_i xs hx
      cases hk
      obtain ⟨p, us, rfl, h1, h2⟩ := (Cn.of a.en (rr.each 0 x d1 rfl rfl) hx).tuple
      refine .inr (.inl ⟨p, us, rfl, h1, fun z => ?_, fun z r nr => ?_⟩)
      · rw [h2.length] at z
        rw [cutD_all z] at q
        exact q B1 H1 _ a (.tup h1 h2)
      · obtain ⟨g, a2⟩ := a.alloc en nr (.tup (cutV us l h)) False (fun _ => False) (fun _ f => f.elim)
        exact q _ _ _ a2 (.tup (.inl (.inl upd_same)) ((h2.cut l h).grow g))
    · rename_i xs hx
      cases hk
      obtain ⟨p, us, rfl, h1, h2⟩ := (Cn.of a.en (rr.each 0 x d1 rfl rfl) hx).list
      exact .inl ⟨p, us, rfl, h1, fun r nr => con_new en a nr (h2.cut l h) q⟩
    · rename_i s hx
      split at hk
      · rename_i hl
        cases hk
        have c1 := Cn.of a.en (rr.each 0 x d1 rfl rfl) hx
        exact .inr (.inr ⟨s, c1.str, Nat.le_of_lt (small hl), q B1 H1 _ a (.str _)⟩)
      · cases hk
    · cases hk
  · cases hk
theorem e_sl {X : Cx} {e : Expr} {lo hi : Option Expr} {f : EE} {fl fh : EO} {p2 pos : Pos} (he : PE X e (tE X.K f)) (hl : PO X lo (tO X.K fl)) (hu : PO X hi (tO X.K fh)) : PE X (.Subscript e (.Slice lo hi none p2) pos) (tE X.K (eSl f fl fh)) := by
  refine PE.imp (pe_slice sl3 he hl hu) fun σ H Q t => ?_
  obtain ⟨B, env, d, env', en, ev, q⟩ := t
  unfold eSl at ev
  split at ev
  · cases ev
  rename_i d1 e1 h1
  split at ev
  · cases ev
  rename_i l e2 h2
  split at ev
  · cases ev
  rename_i h e3 h3
  refine ⟨B, env, d1, e1, en, h1, fun B1 H1 v a1 r1 => ⟨B1, e1, l, e2, a1.en, h2, fun B2 H2 a2 => ⟨B2, e2, h, e3, a2.en, h3, fun B3 H3 a3 => ?_⟩⟩⟩
  have a23 := a2.trans a1.en a3
  have aa := a1.trans en a23
  refine c_sl σ H B env B3 H3 e3 [v] [d1] d env' Q en aa ⟨rfl, fun k w d' hv hd => ?_, fun k l' c c' w hkl hk hl _ _ => ?_⟩ ev q v rfl
  · cases k with
    | zero => simp at hv hd; subst hv hd; exact (r1.ra).later a1.en a23
    | succ k => simp at hv
  · have : k = 0 := by
      cases k with
      | zero => rfl
      | succ k => simp at hk
    have : l' = 0 := by
      cases l' with
      | zero => rfl
      | succ k => simp at hl
    omega
end T3

end
section
set_option linter.all false
set_option autoImplicit false
set_option Elab.async false
namespace T3
open PySem L2
variable [TabL]

theorem RRA.cons {K : PySem.W.Frag} {σ : St} {B1 B2 : Mset} {H H1 H2 : Hp} {e1 e2 : Sl} {v : V} {d : R} {vs : List V} {ds : List R} (en1 : EnvR K B1 H1 σ e1) (lv : ∀ a, H1 a = none → H a = none) (r1 : RR K H B1 H1 σ e1 v d) (a2 : At K σ B1 H1 e1 B2 H2 e2) (r2 : RRA K H1 B2 H2 σ e2 vs ds) : RRA K H B2 H2 σ e2 (v :: vs) (d :: ds) := by
  refine ⟨by simp [r2.len], fun k w d' hv hd => ?_, fun k l c c' w hkl hk hl vk vl => ?_⟩
  · cases k with
    | zero => simp at hv hd; subst hv hd; exact (r1.ra).later en1 a2
    | succ k =>
      have := r2.each k w d' (by simpa using hv) (by simpa using hd)
      cases d' with
      | pd x => exact this
      | nt x => exact this
      | var i => exact this
      | tmp c => obtain ⟨a, e1, e2, e3⟩ := this; exact ⟨a, e1, lv a e2, e3⟩
  · have fresh : ∀ (k : Nat) c', ds[k]? = some (.tmp c') → vs[k]? = some w → ∀ c, d = .tmp c → v = w → False := by
      intro kk c' gk gv c hd hw
      subst hd hw
      obtain ⟨a, rfl, _, ba, _, _⟩ := r1
      obtain ⟨a', e, h0, _⟩ := r2.each kk _ _ gv gk
      cases e
      obtain ⟨o, ho⟩ := en1.dom a ba
      rw [ho] at h0
      cases h0
    cases k with
    | zero =>
      cases l with
      | zero => exact hkl rfl
      | succ l => exact fresh l c' (by simpa using hl) (by simpa using vl) c (by simpa using hk) (by simpa using vk)
    | succ k =>
      cases l with
      | zero => exact fresh k c (by simpa using hk) (by simpa using vk) c' (by simpa using hl) (by simpa using vl)
      | succ l => exact r2.apart k l c c' w (by omega) (by simpa using hk) (by simpa using hl) (by simpa using vk) (by simpa using vl)

def isL (env : Sl) : R → Bool
  | .pd (.list _) => true
  | .tmp (.ls _) => true
  | .var i => match env[i]? with
    | some (some (.mu _ (.ls _))) => true
    | _ => false
  | _ => false
def isS (env : Sl) : R → Bool
  | .pd (.str _) => true
  | _ => false
def eBM (ty : Sl → R → Bool) (fo : EE) (fa : EA) (k : KK) : EE := fun env => match fo env with
  | none => none
  | some (d, e1) => if ty e1 d = true then match fa e1 with
      | none => none
      | some (ds, e2) => k (d :: ds) e2
    else none
def lm (r : V → List V → Hp → VK → Prop) : List V → Hp → VK → Prop := fun vs H Q => ∀ x xs, vs = x :: xs → r x xs H Q
theorem rd_bm {K : PySem.W.Frag} {ty : Sl → R → Bool} {fo : EE} {fa : EA} {k : KK} {r : V → List V → Hp → VK → Prop} {P : V → Hp → Prop} (hp : ∀ H₀ B H σ env v d, EnvR K B H σ env → RR K H₀ B H σ env v d → ty env d = true → P v H) (c : Con K k (lm r)) {σ : St} {H : Hp} {Q : VK} (h : tE K (eBM ty fo fa k) σ H Q) :
    tE K fo σ H fun x H1 => P x H1 ∧ tA K fa σ H1 fun xs H2 => r x xs H2 Q := by
  obtain ⟨B, env, d, env', en, ev, q⟩ := h
  unfold eBM at ev
  split at ev
  · cases ev
  rename_i d1 e1 h1
  split at ev
  rotate_left
  · cases ev
  rename_i ht
  split at ev
  · cases ev
  rename_i ds e2 h2
  refine ⟨B, env, d1, e1, en, h1, fun B1 H1 v a1 r1 => ⟨hp H B1 H1 σ e1 v d1 a1.en r1 ht, B1, e1, ds, e2, a1.en, h2, fun B2 H2 vs a2 r2 => ?_⟩⟩
  exact c σ H B env B2 H2 e2 (v :: vs) (d1 :: ds) d env' Q en (a1.trans en a2) (RRA.cons a1.en a1.st.liv r1 a2 r2) ev q v vs rfl
theorem ty_L {K : PySem.W.Frag} : ∀ H₀ B H σ env v d, EnvR K B H σ env → RR K H₀ B H σ env v d → isL env d = true → tyV K "list" v H := by
  intro H₀ B H σ env v d en r h
  unfold isL at h
  split at h
  · obtain ⟨a, vs, rfl, h1, _⟩ := Cn.list (.rp (show Rp K B H v (.list _) from r))
    exact .inl ⟨rfl, vs, h1⟩
  · obtain ⟨a, rfl, _, _, ⟨vs, h1, _⟩, _⟩ := r
    exact .inl ⟨rfl, vs, .inl (.inl h1)⟩
  · rename_i i
    split at h
    · rename_i hx
      obtain ⟨a, h1, _, vs, h2, _⟩ := en.mu _ _ _ hx
      rw [r.1] at h1
      cases h1
      exact .inl ⟨rfl, vs, .inl (.inl h2)⟩
    · cases h
  · cases h
theorem ty_S {K : PySem.W.Frag} : ∀ H₀ B H σ env v d, EnvR K B H σ env → RR K H₀ B H σ env v d → isS env d = true → tyV K "str" v H := by
  intro H₀ B H σ env v d en r h
  unfold isS at h
  split at h
  · have r : Rp K B H v (.str _) := r
    cases r
    rfl
  · cases h
theorem At.freeze {K : PySem.W.Frag} {σ : St} {B B1 : Mset} {H H1 : Hp} {env env1 : Sl} (en : EnvR K B H σ env) (a : At K σ B H env B1 H1 env1) (fz : Mset) (hf : ∀ q, fz q → H q = none ∧ ∀ (i : Nat) m d, env1[i]? = some (some (S.mu m d)) → σ[i]? ≠ some (some (V.ref q))) :
    Grow B1 H1 (fun q => B1 q ∧ ¬ fz q) H1 ∧ At K σ B H env (fun q => B1 q ∧ ¬ fz q) H1 env1 := by
  have g : Grow B1 H1 (fun q => B1 q ∧ ¬ fz q) H1 := ⟨fun q o h _ => h, fun q h => .inl h.1⟩
  refine ⟨g, ⟨a.st.keep, fun q h => a.st.new q h.1, fun q h w => ⟨a.st.old q h w, fun f => ?_⟩, a.st.sub, a.st.liv⟩, ⟨a.en.len, fun i x h => ?_, fun i x h => ?_, fun i m c h => ?_, a.en.inj, fun q h => a.en.dom q h.1, a.en.tb.on (fun q o h _ => h) g.new⟩, a.sm, a.ks⟩
  · obtain ⟨o', ho⟩ := en.dom q h
    rw [(hf q f).1] at ho; cases ho
  · obtain ⟨v, h1, h2⟩ := a.en.pd i x h
    exact ⟨v, h1, h2.grow g⟩
  · obtain ⟨v, h1, h2⟩ := a.en.nt i x h
    exact ⟨v, h1, h2.grow g⟩
  · obtain ⟨q, h1, h2, h3⟩ := a.en.mu i m c h
    refine ⟨q, h1, ⟨h2, fun f => (hf q f).2 i m c h h1⟩, ?_⟩
    cases c with
    | ls xs => obtain ⟨vs, h4, h5⟩ := h3; exact ⟨vs, h4, h5.grow g⟩
    | dk xs => obtain ⟨vs, h4, h5⟩ := h3; exact ⟨vs, h4, h5.grow g⟩
    | dn xs => obtain ⟨vs, h4, h5⟩ := h3; exact ⟨vs, h4, h5.grow g⟩
def kAppend : KK := fun ds env => match ds with
  | [.var i, d] => match data1 d with
    | none => none
    | some y => match env[i]? with
      | some (some (.mu m (.ls xs))) => if m ≠ .fro ∧ xs.length ≤ 1000000 then some (.pd .none, env.set i (some (.mu m (.ls (xs ++ [y]))))) else none
      | _ => none
  | _ => none
theorem c_append {K : PySem.W.Frag} : Con K kAppend (lm rAppend) := by
  intro σ H B env B1 H1 env1 vs ds d e2 Q en a rr hk q x xs e
  subst e
  unfold kAppend at hk
  split at hk
  · rename_i i d1
    split at hk
    · cases hk
    rename_i y hy
    split at hk
    · rename_i m ys hm
      split at hk
      · rename_i hc
        cases hk
        have hx : σ[i]? = some (some x) := rr.each 0 x _ rfl rfl
        obtain ⟨p, g1, g2, us, g3, g4⟩ := a.en.mu i _ _ hm
        rw [hx] at g1
        cases g1
        match xs, rr with
        | [w], rr =>
          obtain ⟨gf, af⟩ := a.freeze en (fzOf [.ref p, w] [.var i, d1]) rr.fz
          have hw : RpA K (fun q => B1 q ∧ ¬ fzOf [.ref p, w] [.var i, d1] q) H1 [w] [y] := by
            have := RRA.data (vs := [w]) (ds := [d1]) (xs := [y]) gf (fun a o h => h) rr.tail (fun q ⟨k, c, z1, z2⟩ h => h.2 ⟨k + 1, c, by simpa using z1, by simpa using z2⟩) (by simp [datas, hy])
            exact this
          refine ⟨p, us, w, rfl, rfl, g3, by rw [g4.length]; exact small hc.2, ?_⟩
          obtain ⟨gw, aw⟩ := AtS.write (o := .lst (us ++ [w])) (c' := .ls (ys ++ [y])) af.en hm hc.1 hx (fun o' h' im => by rw [g3] at h'; cases h'; exact im) (fun H' _ h1 g' => ⟨_, h1, ((g4.grow gf).append hw).grow g'⟩)
          exact q _ _ _ (af.trans en aw) .non
        | [], rr => have := rr.len; simp at this
        | _ :: _ :: _, rr => have := rr.len; simp at this
      · cases hk
    · cases hk
  · cases hk
end T3

end
section
set_option linter.all false
set_option autoImplicit false
set_option Elab.async false
namespace T3
open PySem L2
variable [TabL]

def eCh (c1 c2 : Int → Int → Bool) (fa fb fc : EE) : EE := fun env => match fa env with
  | some (.pd (.int i), e1) => match fb e1 with
    | some (.pd (.int j), e2) => if c1 i j = true then match fc e2 with
        | some (.pd (.int k), e3) => some (.pd (.bool (c2 j k)), e3)
        | _ => none
      else some (.pd (.bool false), e2)
    | _ => none
  | _ => none
theorem rd_chain {K : PySem.W.Frag} {c1 c2 : Int → Int → Bool} {fa fb fc : EE} {σ : St} {H : Hp} {Q : VK} (h : tE K (eCh c1 c2 fa fb fc) σ H Q) : tChain (rI0 fun i j => .bl (c1 i j)) (rI0 fun i j => .bl (c2 i j)) (tE K fa) (tE K fb) (tE K fc) σ H Q := by
  obtain ⟨B, env, d, env', en, ev, q⟩ := h
  unfold eCh at ev
  split at ev
  · rename_i i e1 h1
    split at ev
    · rename_i j e2 h2
      refine ⟨B, env, _, _, en, h1, fun B1 H1 v a1 r1 => ⟨B1, e1, _, _, a1.en, h2, fun B2 H2 w a2 r2 => ?_⟩⟩
      have r1 : Rp K B1 H1 v (.int i) := r1
      have r2 : Rp K B2 H2 w (.int j) := r2
      cases r1
      cases r2
      have a12 := a1.trans en a2
      refine ⟨i, j, rfl, rfl, c1 i j, rfl, ?_⟩
      split at ev
      · rename_i hc
        rw [if_pos hc]
        split at ev
        · rename_i k e3 h3
          cases ev
          refine ⟨B2, e2, _, _, a2.en, h3, fun B3 H3 u a3 r3 => ?_⟩
          have r3 : Rp K B3 H3 u (.int k) := r3
          cases r3
          exact ⟨j, k, rfl, rfl, q _ _ _ (a12.trans en a3) (.bl _)⟩
        · cases ev
      · rename_i hc
        rw [if_neg hc]
        cases ev
        exact q _ _ _ a12 (.bl _)
    · cases ev
  · cases ev
inductive Cm where | lt | le | gt | ge
def Cm.op : Cm → CmpOp
  | .lt => .Lt
  | .le => .LtE
  | .gt => .Gt
  | .ge => .GtE
def Cm.f : Cm → Int → Int → Bool
  | .lt => fun i j => decide (i < j)
  | .le => fun i j => decide (i ≤ j)
  | .gt => fun i j => decide (j < i)
  | .ge => fun i j => decide (j ≤ i)
theorem Cm.ok {X : Cx} (c : Cm) : OpR X (compareOp c.op) (rI0 fun i j => .bl (c.f i j)) := by
  cases c
  · exact op_lt
  · exact op_le
  · exact op_gt
  · exact op_ge
theorem e_chain {X : Cx} {a b c : Expr} {fa fb fc : EE} {pos : Pos} (o1 o2 : Cm) (ha : PE X a (tE X.K fa)) (hb : PE X b (tE X.K fb)) (hc : PE X c (tE X.K fc)) (hm : lastMarks [o1.op, o2.op] [b, c] = false := by with_unfolding_all rfl) :
    PE X (.Compare a [o1.op, o2.op] [b, c] pos) (tE X.K (eCh o1.f o2.f fa fb fc)) := PE.imp (pe_chain o1.ok o2.ok ha hb hc hm) fun _ _ _ t => rd_chain t
theorem b_chain {X : Cx} {a b c : Expr} {fa fb fc : EE} {pos : Pos} (o1 o2 : Cm) (ha : PE X a (tE X.K fa)) (hb : PE X b (tE X.K fb)) (hc : PE X c (tE X.K fc)) (hm : lastMarks [o1.op, o2.op] [b, c] = false := by with_unfolding_all rfl) :
    PT X (.Compare a [o1.op, o2.op] [b, c] pos) (tT X.K (bT (eCh o1.f o2.f fa fb fc))) := b_of (pt_chain o1.ok o2.ok ha hb hc hm) fun _ _ _ t => rd_chain t
theorem b_truth {X : Cx} {a : Expr} {f : EE} (h : PE X a (tE X.K f)) (he : ∀ whole, isTrue a X.env whole = (do let v ← whole; standAt a.pos; holding [v] (truthy v)) := by exact fun _ => rfl) : PT X a (tT X.K (bT f)) :=
  PT.imp (pt_truth h he) fun σ H Q t => by
    obtain ⟨B, env, d, env', en, ev, q⟩ := rd_test t
    refine ⟨B, env, d, env', en, ev, fun B' H' v a r => ?_⟩
    obtain ⟨k, e, h⟩ := q B' H' v a r
    subst e
    exact ⟨k, rfl, h⟩
section
variable {X : Cx} {st : Stmt} {rest : List Stmt} {e : Expr} {pos : Pos} {f g : SS} {fe : EE} {c : EB}
theorem ss_nil : PSs X [] (tS X.K sPass) := PSs.imp pss_nil fun _ _ _ t => rd_pass t
theorem ss_cons (h1 : PS X st (tS X.K f)) (h2 : PSs X rest (tS X.K g)) : PSs X (st :: rest) (tS X.K (sSeq f g)) := PSs.imp (pss_cons h1 h2) fun _ _ _ t => rd_seq t
theorem ss_one (h1 : PS X st (tS X.K f)) : PSs X [st] (tS X.K f) := pss_one h1
theorem s_never : PS X st (tS X.K sNever) := PS.imp ps_never fun _ _ _ t => rd_never t
theorem s_if {t : Expr} {a b : List Stmt} (hc : PT X t (tT X.K c)) (ha : PSs X a (tS X.K f)) (hb : PSs X b (tS X.K g)) : PS X (.If t a b pos) (tS X.K (sIf c f g)) := PS.imp (ps_if hc ha hb) fun _ _ _ t => rd_ifS t
theorem s_ret (h : PE X e (tE X.K fe)) : PS X (.Return (some e) pos) (tS X.K (sRet fe)) := PS.imp (ps_ret h) fun _ _ _ t => rd_ret t
theorem s_expr (h : PE X e (tE X.K fe)) (hs : swapsWith e none pos.line X.env = pure false := by rfl) : PS X (.Expr e pos) (tS X.K (sExpr fe)) := PS.imp (ps_expr h hs) fun _ _ _ t => rd_expr t
theorem s_set {i : Nat} {x : Str} {pos' : Pos} (hN : X.N.Nodup) (hi : X.N[i]? = some x) (hx : Loc X.env.scope x) (he : PE X e (tE X.K fe)) (hs : swapsWith e (some (.Name x pos')) pos.line X.env = pure false := by rfl) (hf : X.fn x = true ∨ X.env.scope.names.lookup x = some .local := by first | exact .inl rfl | exact .inr rfl | assumption) :
    PS X (.Assign [.Name x pos'] e pos) (tS X.K (sSet i fe)) := PS.imp (ps_set hN hi hx he hs hf) fun _ _ _ t => rd_set t
end
theorem PG.imp {X : Cx} {e : Expr} {t t' : TG} (h : PG X e t) (i : ∀ v σ H Q, t' v σ H Q → t v σ H Q) : PG X e t' := ⟨fun pins s σ H v u Q I r q => h.run pins s σ H v u Q I r (i v σ H Q q)⟩
theorem PGs.imp {X : Cx} {e : List Expr} {t t' : TGs} (h : PGs X e t) (i : ∀ v σ H Q, t' v σ H Q → t v σ H Q) : PGs X e t' := ⟨fun pins s σ H v u Q I r q => h.run pins s σ H v u Q I r (i v σ H Q q)⟩
section
variable {X : Cx} {K : PySem.W.Frag} {pos : Pos} {g : GG} {gs : GGs} {e : Expr} {es : List Expr}
theorem g_name {i : Nat} {x : Str} (hN : X.N.Nodup) (hi : X.N[i]? = some x) (hx : Loc X.env.scope x) (hf : X.fn x = true ∨ X.env.scope.names.lookup x = some .local := by first | exact .inl rfl | exact .inr rfl | assumption) : PG X (.Name x pos) (tG K (gN i)) := PG.imp (pg_name hN hi hx hf) fun _ _ _ _ t => rd_gN t
theorem gs_nil : PGs X [] (tGs K gNl) := PGs.imp pgs_nil fun _ _ _ _ t => rd_gNl t
theorem gs_cons (h1 : PG X e (tG K g)) (h2 : PGs X es (tGs K gs)) (hs : (assignEach (e :: es) X.env).map (·.2) = assign e X.env :: (assignEach es X.env).map (·.2) := by rfl) : PGs X (e :: es) (tGs K (gCn g gs)) := PGs.imp (pgs_cons h1 h2 hs) fun _ _ _ _ t => rd_gCn t
theorem g_tup {k n : Nat} (hc : X.calm = true) (h : PGs X es (tGs X.K gs)) (hn : (assignEach es X.env).length = n := by rfl) (hst : (assignEach es X.env).findIdx? (·.1) = none := by rfl) : PG X (.Tuple es k pos) (tG X.K (gT n gs)) := PG.imp (pg_tup hc h hn hst) fun _ _ _ _ t => rd_gT t
theorem v_name {i : Nat} {x : Str} {vs : List Nat} (hv : i ∈ vs) (hN : X.N.Nodup) (hi : X.N[i]? = some x) (hx : Loc X.env.scope x) (hf : X.fn x = true ∨ X.env.scope.names.lookup x = some .local := by first | exact .inl rfl | exact .inr rfl | assumption) : PG X (.Name x pos) (tGv K (gN i) vs) := PG.imp (pg_name hN hi hx hf) fun _ _ _ _ t => rd_gNv hv t
theorem vs_nil {vs : List Nat} : PGs X [] (tGsv K gNl vs) := PGs.imp pgs_nil fun _ _ _ _ t => rd_gNlv t
theorem vs_cons {vs : List Nat} (h1 : PG X e (tGv K g vs)) (h2 : PGs X es (tGsv K gs vs)) (hs : (assignEach (e :: es) X.env).map (·.2) = assign e X.env :: (assignEach es X.env).map (·.2) := by rfl) : PGs X (e :: es) (tGsv K (gCn g gs) vs) := PGs.imp (pgs_cons h1 h2 hs) fun _ _ _ _ t => rd_gCnv t
theorem v_tup {k n : Nat} {vs : List Nat} (hc : X.calm = true) (h : PGs X es (tGsv X.K gs vs)) (hn : (assignEach es X.env).length = n := by rfl) (hst : (assignEach es X.env).findIdx? (·.1) = none := by rfl) : PG X (.Tuple es k pos) (tGv X.K (gT n gs) vs) := PG.imp (pg_tup hc h hn hst) fun _ _ _ _ t => rd_gTv t
end
theorem s_for {X : Cx} {tg iter : Expr} {body : List Stmt} {pos : Pos} {it : EI} {g : GG} {f : SS} (hp : PassesOwn (model X.prog X.w) X.A X.env X.xe) (hc : X.calm = true) (hi : PI X tg iter (tI X.K it)) (hg : PG X tg (tG X.K g)) (hb : PSs X body (tS X.K f)) (hs : ∀ x, foldedSetIterable iter X.env x = pure x := by intro _; rfl) : PS X (.For tg iter body [] pos) (tS X.K (sFor it g f)) :=
  PS.imp (ps_for hp hc hi hg hb hs) fun _ _ _ t => rd_for t
def sAsg (f : EE) (g : GG) : SS := fun env => match f env with
  | some (.pd x, e) => match g x e with
    | none => none
    | some e2 => some (.nx, e2)
  | some (.nt xs, e) => match g (.tuple xs) e with
    | none => none
    | some e2 => some (.nx, e2)
  | _ => none
theorem rd_asg {K : PySem.W.Frag} {f : EE} {g : GG} {D : Ends} {σ : St} {H : Hp} (h : tS K (sAsg f g) D σ H) : tAsg (tE K f) (tG K g) D σ H := by
  obtain ⟨B, env, fl, env', en, ev, q⟩ := h
  unfold sAsg at ev
  split at ev
  · rename_i x e1 h1
    split at ev
    · cases ev
    rename_i e2 h2
    cases ev
    exact ⟨B, env, _, _, en, h1, fun B1 H1 v a1 r1 => ⟨B1, e1, x, _, a1.en, r1, h2, fun B2 σ2 H2 a2 => q B2 σ2 H2 (a1.s.trans en a2)⟩⟩
  · rename_i x e1 h1
    split at ev
    · cases ev
    rename_i e2 h2
    cases ev
    refine ⟨B, env, _, _, en, h1, fun B1 H1 v a1 r1 => ?_⟩
    obtain ⟨p, rfl, r1⟩ := r1
    exact ⟨B1, e1, _, _, a1.en, r1.rp, h2, fun B2 σ2 H2 a2 => q B2 σ2 H2 (a1.s.trans en a2)⟩
  · cases ev
theorem s_asg {X : Cx} {tg e : Expr} {pos : Pos} {f : EE} {g : GG} (he : PE X e (tE X.K f)) (hg : PG X tg (tG X.K g)) (hs : swapsWithSole [tg] e pos.line X.env = pure false := by rfl) (hw : swappedStores [tg] e X.env = pure none := by rfl)
    (h1 : (assignEach [tg] X.env).map (·.2) = [assign tg X.env] := by rfl) : PS X (.Assign [tg] e pos) (tS X.K (sAsg f g)) := PS.imp (ps_asg he hg hs hw h1) fun _ _ _ t => rd_asg t
def sPar (i j : Nat) (f : EA) : SS := fun env => match f env with
  | some ([d1, d2], e) => match setR i d1 e with
    | none => none
    | some e2 => match setR j d2 e2 with
      | none => none
      | some e3 => some (.nx, e3)
  | _ => none
theorem setR_slots {i : Nat} {d : R} {e e2 : Sl} (h : setR i d e = some e2) : ∀ (k : Nat) m c, e2[k]? = some (some (S.mu m c)) → (k = i ∧ ∃ c, d = .tmp c) ∨ (i ≠ k ∧ e[k]? = some (some (.mu m c))) := by
  intro k m c hk
  unfold setR at h
  split at h
  · cases d with
    | var _ => cases h
    | pd x =>
      cases h
      rcases get_set hk with ⟨_, z⟩ | ⟨z, hk⟩
      · cases z
      · exact .inr ⟨z, hk⟩
    | nt x =>
      cases h
      rcases get_set hk with ⟨_, z⟩ | ⟨z, hk⟩
      · cases z
      · exact .inr ⟨z, hk⟩
    | tmp t =>
      cases h
      rcases get_set hk with ⟨z, _⟩ | ⟨z, hk⟩
      · exact .inl ⟨z.symm, t, rfl⟩
      · exact .inr ⟨z, hk⟩
  · cases h
theorem RA.set {K : PySem.W.Frag} {H₀ : Hp} {σ : St} {B : Mset} {H : Hp} {e e2 : Sl} {i : Nat} {v w : V} {d d' : R} (hs : setR i d e = some e2) (hl : i < σ.length) (r : RA K H₀ B H σ e w d') (ap : ∀ c c', d = .tmp c → d' = .tmp c' → v ≠ w) (nv : ∀ k, d' ≠ .var k) : RA K H₀ B H (σ.set i (some v)) e2 w d' := by
  cases d' with
  | pd x => exact r
  | nt x => exact r
  | var k => exact absurd rfl (nv k)
  | tmp t =>
    obtain ⟨p, rfl, h1, h2, h3, h4⟩ := r
    refine ⟨p, rfl, h1, h2, h3, fun k m c hk hσ => ?_⟩
    rcases setR_slots hs k m c hk with ⟨z, t', z2⟩ | ⟨z, hk⟩
    · subst z
      rw [List.getElem?_set_self hl] at hσ
      cases hσ
      exact ap t' t z2 rfl rfl
    · rw [List.getElem?_set_ne z] at hσ
      exact h4 k m c hk hσ
theorem setR_nv {i : Nat} {d : R} {e e2 : Sl} (h : setR i d e = some e2) : ∀ k, d ≠ .var k := by
  intro k z
  subst z
  unfold setR at h
  split at h <;> cases h
theorem setR_lt {i : Nat} {d : R} {e e2 : Sl} (h : setR i d e = some e2) : i < e.length := by
  unfold setR at h
  split at h
  · rename_i hf; exact (free_ne hf).1
  · cases h
theorem rd_par {K : PySem.W.Frag} {i j : Nat} {f : EA} {D : Ends} {σ : St} {H : Hp} (h : tS K (sPar i j f) D σ H) : tPar i j (tA K f) D σ H := by
  obtain ⟨B, env, fl, env', en, ev, q⟩ := h
  unfold sPar at ev
  split at ev
  · rename_i d1 d2 e1 h1
    split at ev
    · cases ev
    rename_i e2 h2
    split at ev
    · cases ev
    rename_i e3 h3
    cases ev
    refine ⟨B, env, _, _, en, h1, fun B1 H1 vs a1 rr => ?_⟩
    match vs, rr with
    | [v, w], rr =>
      refine ⟨v, w, rfl, ?_⟩
      have s1 := AtS.set en a1.s (rr.each 0 v d1 rfl rfl) h2
      have r2 : RA K H B1 H1 (σ.set i (some v)) e2 w d2 := RA.set h2 (by rw [← a1.en.len]; exact setR_lt h2) (rr.each 1 w d2 rfl rfl) (fun c c' z1 z2 z3 => rr.apart 0 1 c c' v (by decide) (by simp [z1]) (by simp [z2]) rfl (by simp [z3])) (setR_nv h3)
      -- the second store over the first
      have s2 : AtS K σ B H env ((σ.set i (some v)).set j (some w)) B1 H1 env' := AtS.set en s1 r2 h3
      exact q B1 _ H1 s2
    | [], rr => have := rr.len; simp at this
    | [_], rr => have := rr.len; simp at this
    | _ :: _ :: _ :: _, rr => have := rr.len; simp at this
  · cases ev
end T3

end
section
set_option linter.all false
set_option autoImplicit false
set_option Elab.async false
namespace T3
open PySem L2
variable [TabL]

section
variable {X : Cx}
theorem s_par {i j : Nat} {x y : Str} {a b : Expr} {f : EA} {px py pt pos : Pos} {kt k2 : Nat} {pt2 : Pos} (hc : X.calm = true) (hN : X.N.Nodup) (hi : X.N[i]? = some x) (hj : X.N[j]? = some y) (hij : i ≠ j)
    (hx : X.env.scope.names.lookup x = some .local) (hy : X.env.scope.names.lookup y = some .local) (ha : PA X [a, b] (tA X.K f))
    (hw : swappedStores [.Tuple [.Name x px, .Name y py] kt pt] (.Tuple [a, b] k2 pt2) X.env = pure (some [x, y]))
    (hs : swapsWithSole [.Tuple [.Name x px, .Name y py] kt pt] (.Tuple [a, b] k2 pt2) pos.line X.env = pure false := by rfl) :
    PS X (.Assign [.Tuple [.Name x px, .Name y py] kt pt] (.Tuple [a, b] k2 pt2) pos) (tS X.K (sPar i j f)) := PS.imp (ps_par hc hN hi hj hij hx hy ha hw hs) fun _ _ _ t => rd_par t
theorem ts_yes {K : PySem.W.Frag} : PTs X [] (tT K bYes) := ⟨fun pins s σ H Q I h => (pts_nil (X := X)).run pins s σ H Q I (rd_yes h)⟩
theorem ts_one {K : PySem.W.Frag} {c : Expr} {t : EB} (h : PT X c (tT K t)) : PTs X [c] (tT K t) := pts_one h
theorem e_lc {elt tg iter : Expr} {ifs : List Expr} {scope : Scope} {own : List (Str × Nat)} {pos : Pos} {it : EI} {g : GG} {t : EB} {f : EE} (hc : X.calm = true) (hN : X.N.Nodup) (hi : PI X tg iter (tI X.K it)) (ok : BlkOk X.N X.env.scope scope own) (ho : Only g (own.map (·.2)))
    (hg : ∀ (s : Shared) (H : Hp) (C : Addr) (cl : List (Str × Addr)) (fp : List Addr), PG (X.blk s H scope (compEnvC scope cl C X.env) fp) tg (tGv X.K g (own.map (·.2)))) (ht : ∀ (s : Shared) (H : Hp) (C : Addr) (cl : List (Str × Addr)) (fp : List Addr), PTs (X.blk s H scope (compEnvC scope cl C X.env) fp) ifs (tT X.K t))
    (he : ∀ (s : Shared) (H : Hp) (C : Addr) (cl : List (Str × Addr)) (fp : List Addr), PE (X.blk s H scope (compEnvC scope cl C X.env) fp) elt (tE X.K f)) (hs : ∀ x, foldedSetIterable iter X.env x = pure x := by intro _; rfl) :
    PE X (.ListComp elt [⟨tg, iter, ifs, 0⟩] scope pos) (tE X.K (eLc it g t f (own.map (·.2)))) := PE.imp (pe_lc hc hN hi ok hg ht he hs) fun _ _ _ q => rd_lc ho q
theorem s_setLc {i : Nat} {y : Str} {py : Pos} {elt tg iter : Expr} {ifs : List Expr} {scope : Scope} {own : List (Str × Nat)} {pos spos : Pos} {it : EI} {g : GG} {t : EB} {f : EE} (hc : X.calm = true) (hN : X.N.Nodup) (hy : X.N[i]? = some y) (hyl : X.env.scope.names.lookup y = some .local)
    (hsw : swapsWith (.ListComp elt [⟨tg, iter, ifs, 0⟩] scope pos) (some (.Name y py)) spos.line X.env = pure true) (hi : PI X tg iter (tI X.K it)) (ok : BlkOk X.N X.env.scope scope own) (ho : Only g (own.map (·.2)))
    (hg : ∀ (s : Shared) (H : Hp) (C : Addr) (cl : List (Str × Addr)) (fp : List Addr), PG (X.blk s H scope (compEnvC scope cl C X.env) fp) tg (tGv X.K g (own.map (·.2)))) (ht : ∀ (s : Shared) (H : Hp) (C : Addr) (cl : List (Str × Addr)) (fp : List Addr), PTs (X.blk s H scope (compEnvC scope cl C X.env) fp) ifs (tT X.K t))
    (he : ∀ (s : Shared) (H : Hp) (C : Addr) (cl : List (Str × Addr)) (fp : List Addr), PE (X.blk s H scope (compEnvC scope cl C X.env) fp) elt (tE X.K f)) (hs : ∀ x, foldedSetIterable iter X.env x = pure x := by intro _; rfl) :
    PS X (.Assign [.Name y py] (.ListComp elt [⟨tg, iter, ifs, 0⟩] scope pos) spos) (tS X.K (sSet i (eLc it g t f (own.map (·.2))))) :=
  PS.imp (ps_setLc hc hN hy hyl hsw hi ok hg ht he hs) fun _ _ _ q => rd_lc ho (rd_set q)
end
def lenA : EA → Nat → Prop := fun f n => ∀ ds e e', f e = some (ds, e') → ds.length = n
theorem lenA_nil : lenA eNil 0 := by
  intro ds e e' h
  cases h
  rfl
theorem lenA_cons {fa : EE} {fr : EA} {n : Nat} (h : lenA fr n) : lenA (eCons fa fr) (n + 1) := by
  intro ds e e' he
  unfold eCons at he
  split at he
  · cases he
  split at he
  · cases he
  rename_i h2
  cases he
  simp [h _ _ _ h2]
section
variable {X : Cx} {k : Nat} {f : Addr} {fd : FuncData} {ps : List Str} {F : FnD} {x : Str} {p pos : Pos} {e : Expr} {es : List Expr} {fa : EA} {n : Nat}
theorem e_call (G : FnOk X.prog X.w X.K X.mg X.base CX0 k f fd ps (spF X.K F n)) (hr : Room k X.A) (hg : Gl X x) (hm : X.mg x = some (.ref f)) (hk : PySem.W.keepIn X.K (.ref f) = true) (hb : Binds X.K fd ps []) (hn : lenA fa n)
    (ha : PA X (e :: es) (tA X.K fa)) (hdb : (x == ("__debug__" : Str)) = false := by decide) (he : starEach (e :: es) X.env = (false, eval e X.env) :: starEach es X.env := by rfl) (hpl : (backTo pos (starEach es X.env)).any (·.1) = false := by rfl) :
    PE X (.Call (.Name x p) (e :: es) [] pos) (tE X.K (eCall F fa)) := PE.imp (pe_call G hr hg hm hk hb .nil pass0 ha hdb he hpl) fun _ _ _ t => rd_call hn t
end
theorem fn_ok {P : Program} {w : World} {K : PySem.W.Frag} {mg : Str → Option Value} {base : Heap} {x qual : Str} {st : Stmt} {f : Addr} {fd : FuncData} {N ps : List Str} {k n : Nat} {b : SS} (Fn : Fun K x qual st f fd) (Sc : FnScope N ps (defScope st)) (hn : n = ps.length)
    (hbody : ∀ (cdv : Value) (A : Around) (outer : List Env) (s : Shared) (H : Hp) (E : XK), Room k (A.deeper (PyProof.Rows.envOfC qual (defScope st) s.heap.objs.size f cdv)) →
      PSs (cxOf CX0 P w K mg base N qual (defScope st) f cdv A outer s H E).nox (defBody st) (tS K b)) : FnOk P w K mg base CX0 (k + 1) f fd ps (spF K (runFn N.length b) n) := by
  refine Fn.ok Sc (spF_len hn) fun cdv A outer s H vs Q E hr h => ⟨_, hbody cdv A outer s H E hr, fn_body h⟩

def gS (fo fi : EE) : GG := fun x env => match fo env with
  | some (.var j, e1) => match fi e1 with
    | some (.pd (.int k), e2) => putL j k x e2
    | _ => none
  | _ => none
theorem rd_gS {K : PySem.W.Frag} {fo fi : EE} {v : V} {σ : St} {H : Hp} {Q : St → Hp → Prop} (h : tG K (gS fo fi) v σ H Q) : gSub (tE K fo) (tE K fi) rSetL v σ H Q := by
  obtain ⟨B, env, x, env', en, r, ev, q⟩ := h
  unfold gS at ev
  split at ev
  · rename_i j e1 h1
    split at ev
    · rename_i k e2 h2
      refine ⟨B, env, _, _, en, h1, fun B1 H1 o a1 r1 => ⟨B1, e1, _, _, a1.en, h2, fun B2 H2 w a2 r2 => ?_⟩⟩
      have r2 : Rp K B2 H2 w (.int k) := r2
      cases r2
      have a12 := a1.trans en a2
      unfold putL at ev
      split at ev
      · rename_i m xs hm
        split at ev
        · cases ev
        rename_i hf
        split at ev
        · cases ev
        rename_i i hi
        cases ev
        have hx : σ[j]? = some (some o) := r1.1
        obtain ⟨p, g1, g2, us, g3, g4⟩ := a12.en.mu j _ _ hm
        rw [hx] at g1
        cases g1
        have rv : Rp K B2 H2 v x := r.grow (a12.grow en)
        refine ⟨p, us, k, i, rfl, rfl, g3, by rw [g4.length]; exact hi, ?_⟩
        obtain ⟨gw, aw⟩ := AtS.write (o := .lst (us.set i v)) (c' := .ls (xs.set i x)) a12.en hm hf hx (fun o' h' im => by rw [g3] at h'; cases h'; exact im) (fun H' _ h1 g' => ⟨_, h1, (g4.set rv i).grow g'⟩)
        exact q _ _ _ ((a12.trans en aw).s)
      · cases ev
    · cases ev
  · cases ev
theorem g_sub {X : Cx} {o i : Expr} {pos : Pos} {fo fi : EE} (ho : PE X o (tE X.K fo)) (hi : PE X i (tE X.K fi))
    (ha : ∀ v, assign (.Subscript o i pos) X.env v = (do
      let ov ← holding [v] (eval o X.env)
      let iv ← holding [v, ov] (eval i X.env)
      standAt pos
      holding [v, ov, iv] (setItem ov iv v)
      release [v, ov, iv] []) := by intro _; rfl) : PG X (.Subscript o i pos) (tG X.K (gS fo fi)) := PG.imp (pg_sub ho hi set_list ha) fun _ _ _ _ t => rd_gS t
def ItES (x : Str) : It := ⟨fun i _ => i < x.cps.size, fun i H v H' => ∃ T c, v = .ref T ∧ H T = none ∧ x.cps[i]? = some c ∧ H' = upd H T (.tup [.int (i : Nat), .str ⟨#[c]⟩]), fun i _ => i = x.cps.size⟩
def enumD (xs : List PyData) : Nat → List PyData
  | i => (List.range xs.length).map fun k => .tuple [.int ((i + k : Nat) : Int), xs.getD k .none]
theorem wk_es {K : PySem.W.Frag} {s : Str} : Wk K (ItES s) (fun _ => False) (fun _ _ => True) (enumD (signs s) 0) where
  go i B H g hi := by simp [enumD, signs_len] at hi; exact hi
  stop B H g := by simp [enumD, signs_len, ItES]
  yld i B H x H' d g hd hy := by
    obtain ⟨T, c, rfl, nT, hc, rfl⟩ := hy
    refine ⟨.inr (.inl ⟨T, _, nT, rfl⟩), ?_⟩
    have hi : i < (signs s).length := by
      rw [signs_len]
      exact (Array.getElem?_eq_some_iff.mp hc).1
    simp only [enumD, List.getElem?_map, List.getElem?_range hi, Option.map_some] at hd
    cases hd
    have : (signs s).getD i .none = .str ⟨#[c]⟩ := by
      rw [List.getD_eq_getElem?_getD]
      simp [signs, hc]
    rw [this, Nat.zero_add]
    exact .tup (.inl (.inl upd_same)) (.cons (.int _) (.cons (.str _) .nil))
  keep W B H W' B' H' g s wb hp := trivial
theorem turn_es {P : Program} {w : World} {K : PySem.W.Frag} {elts : List Expr} {kk : Nat} {tpos : Pos} (e it : Addr) (x : Str) (t : Tok) :
    Turn P w K (.Tuple elts kk tpos) (ItES x) [e, it] e (fun i h => (∃ old, IsEnum h e it ((i : Nat) : Int) old) ∧ h.IsStrIter it (strIterType x) x t i ∧ e ≠ it) where
  mem := by simp
  obj i h q b hb := by
    obtain ⟨⟨old, he⟩, ⟨o, ho, hc, hd⟩, _⟩ := q
    rcases (show b = e ∨ b = it by simpa using hb) with rfl | rfl
    · exact ⟨_, he, fun v z => nomatch z⟩
    · exact ⟨o, ho, fun v z => by rw [hd] at z; cases z⟩
  keep i h h' q k := by
    obtain ⟨⟨old, he⟩, ⟨o, ho, r⟩, hne⟩ := q
    exact ⟨⟨old, k e (by simp) _ he⟩, ⟨o, k it (by simp) _ ho, r⟩, hne⟩
  item := by
    intro X hP hw hK hc i pins s σ H E I hf q hg
    subst hP hw hK
    obtain ⟨⟨old, he⟩, hit, hne⟩ := q
    have hel : e < s.heap.objs.size := Heap.lt_size he
    have hil : it < s.heap.objs.size := by obtain ⟨_, z, _⟩ := hit; exact Heap.lt_size z
    have Dr := Draws.text (prog := X.prog) (w := X.w) (A := X.A.in1) (I.ok.hd hc) it x t
    refine wpAny_pyNext_enum_itemD Dr he hit hg hne (by simpa using hne) fun u h' tk hu ho hit' hT hsz hk => ?_
    obtain ⟨c, t2, hx, rfl⟩ := hu
    refine ⟨_, rfl, wpAny_letOwnedTupleGo_enum (s := { s with heap := h', toks := tk + 1 }) ho fun h'' he' sb => ?_⟩
    have new : ObjOk X.prog X.w (upd H s.heap.objs.size (.tup [.int (i : Nat), .str ⟨#[c]⟩])) h'' s.heap.objs.size (.tup [.int (i : Nat), .str ⟨#[c]⟩]) :=
      ⟨by rw [sizeLine_eq]; simp, [.int i tk, .str ⟨#[c]⟩ t2], .cons ⟨_, rfl⟩ (.cons ⟨_, rfl⟩ .nil), ⟨_, (sb.2 _ (Nat.ne_of_gt hel)).trans hT, rfl, _, rfl⟩⟩
    have I1 : Inv X pins σ (upd H s.heap.objs.size (.tup [.int (i : Nat), .str ⟨#[c]⟩])) { s with heap := h'', toks := tk + 1 } :=
      I.turnedNew (ch := [e, it]) (fun b ob hb z => (sb.2 b (fun y => hb (by simp [y]))).trans (hk b ob (fun y => hb (by simp [y])) (fun y => hb (by simp [y])) z)) hf (Nat.le_refl _) new
    obtain ⟨oi, hoi, ri⟩ := hit'
    refine ⟨.ref s.heap.objs.size, _, I1, rfl, ⟨_, c, rfl, I.hok.fresh (Nat.le_refl _), hx, rfl⟩, ⟨⟨.str ⟨#[c]⟩ t2, ?_⟩, ⟨oi, (sb.2 it (Ne.symm hne)).trans hoi, ri⟩, hne⟩, fun b hb => ?_⟩
    · have e1 : ((i + 1 : Nat) : Int) = (i : Int) + 1 := by omega
      rw [e1]; exact he'
    · have hb' : b < s.heap.objs.size := by
        rcases (show b = e ∨ b = it by simpa using hb) with z | z
        · rw [z]; exact hel
        · rw [z]; exact hil
      rw [upd_ne (Nat.ne_of_lt hb')]
      exact (hf b hb).1
  done := by
    intro X hP hw hK hc i pins s σ H E I hf q hg
    subst hP hw hK
    obtain ⟨⟨old, he⟩, hit, hne⟩ := q
    obtain ⟨f0, f1, f2, f3, f4, f5⟩ := hf it (by simp)
    have Dr := Draws.text (prog := X.prog) (w := X.w) (A := X.A.in1) (I.ok.hd hc) it x t
    have hi : i = x.cps.size := hg
    subst hi
    exact wpAny_pyNext_enum_endD Dr he hit fun h' eb => ⟨rfl, I.turned (t' := s.toks) (fun b o hb z => eb b o hb z) f0 f1 f3 f4 f5⟩
  self A i s Q E q h := by
    obtain ⟨⟨old, he⟩, _⟩ := q
    exact wpAny_pyIter_enum he h
def iES (te : TE) : TI := fun σ H R => te σ H fun v H1 => ∃ x, v = .str x ∧ R (ItES x) H1
theorem pi_es {X : Cx} {e : Expr} {te : TE} {p pos tpos : Pos} {elts : List Expr} {kk : Nat} (hg : Gl X "enumerate") (hm : X.mg "enumerate" = none) (he : PE X e te) (hs : starEach [e] X.env = (false, eval e X.env) :: starEach [] X.env := by rfl) :
    PI X (.Tuple elts kk tpos) (.Call (.Name "enumerate" p) [e] [] pos) (iES te) := by
  refine ⟨fun pins s σ H R I h => ?_⟩
  refine PyProof.Rows.Call_ (ld_blt I hg hm (by decide +kernel : bootBuiltins "enumerate" = some (.type "enumerate")) (PyProof.Rows.callWith_type1 (one_arg he I h (fun v s2 x H2 I2 r q => ?_) hs) hs))
  obtain ⟨z, rfl, q⟩ := q
  obtain ⟨t, rfl⟩ := r
  refine call_enumerate_str fun h' he' hit hsz hk => wpAny_pyIter_enum he' ?_
  refine ⟨s2.heap.objs.size + 1, [s2.heap.objs.size + 1, s2.heap.objs.size], _, _, H2, rfl, I2.kept (t' := s2.toks) hk, turn_es (s2.heap.objs.size + 1) s2.heap.objs.size z t, ⟨⟨.none, he'⟩, hit, Nat.succ_ne_self _⟩, fun b hb => ?_, q⟩
  have hle : s2.heap.objs.size ≤ b := by
    rcases (show b = s2.heap.objs.size + 1 ∨ b = s2.heap.objs.size by simpa using hb) with y | y
    · rw [y]; exact Nat.le_add_right _ _
    · rw [y]; exact Nat.le_refl _
  exact I2.fpOk hle (I2.hok.fresh hle)
def iEn (f : EE) : EI := fun env => match f env with
  | some (.pd (.str s), e) => some (enumD (signs s) 0, none, e)
  | _ => none
theorem i_en {X : Cx} {e : Expr} {f : EE} {p pos tpos : Pos} {elts : List Expr} {kk : Nat} (hg : Gl X "enumerate") (hm : X.mg "enumerate" = none) (he : PE X e (tE X.K f)) (hs : starEach [e] X.env = (false, eval e X.env) :: starEach [] X.env := by rfl) :
    PI X (.Tuple elts kk tpos) (.Call (.Name "enumerate" p) [e] [] pos) (tI X.K (iEn f)) := PI.imp (pi_es hg hm he hs) fun σ H R h => by
  obtain ⟨B, env, xs, lk, env', en, ev, q⟩ := h
  unfold iEn at ev
  split at ev
  · rename_i s e1 h1
    cases ev
    refine ⟨B, env, _, _, en, h1, fun B1 H1 v a1 r1 => ?_⟩
    have r1 : Rp X.K B1 H1 v (.str s) := r1
    cases r1
    exact ⟨s, rfl, q B1 H1 _ _ _ _ a1 rfl wk_es trivial (fun _ z => z.elim)⟩
  · cases ev
end T3

end
section
set_option linter.all false
set_option autoImplicit false
set_option Elab.async false
namespace T3
open PySem L2
variable [TabL]

def zipD (xs ys : List PyData) : List PyData := List.zipWith (fun x y => .tuple [x, y]) xs ys
theorem wk_zt {K : PySem.W.Frag} {a b : Addr} {xs ys : List PyData} : Wk K (RZ.ItzT K a b) (fun _ => False) (fun B H => Rp K B H (.ref a) (.tuple xs) ∧ Rp K B H (.ref b) (.tuple ys)) (zipD xs ys) where
  go i B H g hi := by
    obtain ⟨g1, g2⟩ := g
    obtain ⟨_, us, e, h1, h2⟩ := Cn.tuple (.rp g1)
    cases e
    obtain ⟨_, ws, e, h3, h4⟩ := Cn.tuple (.rp g2)
    cases e
    simp only [zipD, List.length_zipWith] at hi
    have l1 := h2.length
    have l2 := h4.length
    exact ⟨us, ws, us[i]'(by omega), ws[i]'(by omega), h1, h3, by simp, by simp⟩
  stop B H g := by
    obtain ⟨g1, g2⟩ := g
    obtain ⟨_, us, e, h1, h2⟩ := Cn.tuple (.rp g1)
    cases e
    obtain ⟨_, ws, e, h3, h4⟩ := Cn.tuple (.rp g2)
    cases e
    refine ⟨us, ws, h1, h3, ?_⟩
    simp only [zipD, List.length_zipWith]
    have l1 := h2.length
    have l2 := h4.length
    omega
  yld i B H x H' d g hd hy := by
    obtain ⟨g1, g2⟩ := g
    obtain ⟨_, us, e, h1, h2⟩ := Cn.tuple (.rp g1)
    cases e
    obtain ⟨_, ws, e, h3, h4⟩ := Cn.tuple (.rp g2)
    cases e
    obtain ⟨T, u, w, rfl, nT, rfl, f1, f2⟩ := hy
    refine ⟨.inr (.inl ⟨T, _, nT, rfl⟩), ?_⟩
    simp only [zipD, List.getElem?_zipWith] at hd
    have k1 := f1 us h1
    have k2 := f2 ws h3
    obtain ⟨x, m1, m2⟩ := h2.getV k1
    obtain ⟨y, m3, m4⟩ := h4.getV k2
    rw [m1, m3] at hd
    cases hd
    have gr : Grow B H B (upd H T (.tup [u, w])) := ⟨fun q o h _ => keep_upd nT q o h, fun q h => .inl h⟩
    exact .tup (.inl (.inl upd_same)) (.cons (m2.grow gr) (.cons (m4.grow gr) .nil))
  keep W B H W' B' H' g s wb _ := ⟨g.1.grow (s.grow wb), g.2.grow (s.grow wb)⟩
def tupOf : R → Option (List PyData)
  | .pd (.tuple xs) => some xs
  | .nt xs => some xs
  | _ => none
theorem tupOf_at {K : PySem.W.Frag} {H₀ : Hp} {B : Mset} {H : Hp} {σ : St} {env : Sl} {v : V} {d : R} {xs : List PyData} (h : RA K H₀ B H σ env v d) (c : tupOf d = some xs) : Rp K B H v (.tuple xs) := by
  unfold tupOf at c
  split at c
  · cases c; exact h
  · cases c; obtain ⟨a, rfl, h⟩ := h; exact h.rp
  · cases c
def iZt (f : EA) : EI := fun env => match f env with
  | some ([d1, d2], e) => match tupOf d1 with
    | none => none
    | some xs => match tupOf d2 with
      | none => none
      | some ys => some (zipD xs ys, none, e)
  | _ => none
theorem i_zip {X : Cx} {e e2 : Expr} {f : EA} {p pos tpos : Pos} {elts : List Expr} {kk : Nat} (hg : Gl X "zip") (hm : X.mg "zip" = none) (ha : PA X [e, e2] (tA X.K f))
    (hs : starEach [e, e2] X.env = (false, eval e X.env) :: starEach [e2] X.env := by rfl) (hpl : (backTo pos (starEach [e2] X.env)).any (·.1) = false := by rfl) :
    PI X (.Tuple elts kk tpos) (.Call (.Name "zip" p) [e, e2] [] pos) (tI X.K (iZt f)) := PI.imp (RZ.pi_zipA hg hm ha hs hpl) fun σ H R h => by
  obtain ⟨B, env, xs, lk, env', en, ev, q⟩ := h
  unfold iZt at ev
  split at ev
  · rename_i d1 d2 e1 h1
    split at ev
    · cases ev
    rename_i xs h2
    split at ev
    · cases ev
    rename_i ys h3
    cases ev
    refine ⟨B, env, _, _, en, h1, fun B1 H1 vs a1 rr => ?_⟩
    match vs, rr with
    | [v, w], rr =>
      have r1 := tupOf_at (rr.each 0 v d1 rfl rfl) h2
      have r2 := tupOf_at (rr.each 1 w d2 rfl rfl) h3
      obtain ⟨a, us, rfl, g1, _⟩ := Cn.tuple (.rp r1)
      obtain ⟨b, ws, rfl, g3, _⟩ := Cn.tuple (.rp r2)
      exact ⟨a, b, us, ws, rfl, .inr ⟨g1, g3, q B1 H1 _ _ _ _ a1 rfl wk_zt ⟨r1, r2⟩ (fun _ z => z.elim)⟩⟩
    | [], rr => have := rr.len; simp at this
    | [_], rr => have := rr.len; simp at this
    | _ :: _ :: _ :: _, rr => have := rr.len; simp at this
  · cases ev
def KdOk (K : PySem.W.Frag) (w : World) (d : Addr) (kvs : List (Str × PyData)) : Prop := ∀ z x, kvs.lookup z = some x → ∃ v0, KDct K w d z v0 ∧ ∀ B H, Rp K B H v0 x
def eKd (kvs : List (Str × PyData)) (f : EE) : EE := fun env => match f env with
  | some (.pd (.str z), e) => match kvs.lookup z with
    | some x => some (.pd x, e)
    | none => none
  | _ => none
theorem e_kd {X : Cx} {a b : Expr} {d : Addr} {kvs : List (Str × PyData)} {f : EE} {pos : Pos} (D : KdOk X.K X.w d kvs) (ha : PE X a (tC (.ref d))) (hb : PE X b (tE X.K f)) (hs : PlainIx b := by exact fun _ _ => rfl) : PE X (.Subscript a b pos) (tE X.K (eKd kvs f)) := by
  refine PE.imp (pe_ix ix_kdict ha hb hs) fun σ H Q t => ?_
  obtain ⟨B, env, r, env', en, ev, q⟩ := t
  unfold eKd at ev
  split at ev
  · rename_i z e1 h1
    split at ev
    · rename_i x hx
      cases ev
      refine ⟨B, env, _, _, en, h1, fun B1 H1 v a1 r1 => ?_⟩
      have r1 : Rp X.K B1 H1 v (.str z) := r1
      cases r1
      obtain ⟨v0, g1, g3⟩ := D z x hx
      exact ⟨d, z, v0, rfl, rfl, g1, q B1 H1 v0 a1 (g3 B1 H1)⟩
    · cases ev
  · cases ev
end T3

end
section
set_option linter.all false
set_option autoImplicit false
set_option Elab.async false
namespace T3
open PySem L2
variable [TabL]

theorem u65 {k : Nat} {A : Around} (r : Room k A) : A.units + 65 < cLine := by have := r.un; omega
theorem u64 {k : Nat} {A : Around} (r : Room k A) : A.units + 64 < cLine := by have := r.un; omega
theorem u0 {k : Nat} {A : Around} (r : Room k A) : A.units < cLine := by have := r.un; omega
theorem u1 {k : Nat} {A : Around} (r : Room k A) : A.units + 1 < cLine := by have := r.un; omega
def At0 (K : PySem.W.Frag) (mg : Str → Option Value) (x : Str) (st : Stmt) (ps : List Str) : Prop := ∃ f fd, Fun K x x st f fd ∧ mg x = some (.ref f) ∧ Binds K fd ps []
def Has (P : Program) (w : World) (K : PySem.W.Frag) (mg : Str → Option Value) (base : Heap) (x : Str) (n : Nat) (F : FnD) (k : Nat) : Prop := ∃ f fd ps, FnOk P w K mg base CX0 k f fd ps (spF K F n) ∧ mg x = some (.ref f) ∧ PySem.W.keepIn K (.ref f) = true ∧ Binds K fd ps []
theorem has_of {P : Program} {w : World} {K : PySem.W.Frag} {mg : Str → Option Value} {base : Heap} {x : Str} {st : Stmt} {N ps : List Str} {k n : Nat} {b : SS} (h : At0 K mg x st ps) (Sc : FnScope N ps (defScope st)) (hn : n = ps.length)
    (hbody : ∀ (f : Addr) (cdv : Value) (A : Around) (outer : List Env) (s : Shared) (H : Hp) (E : XK), Room k (A.deeper (PyProof.Rows.envOfC x (defScope st) s.heap.objs.size f cdv)) →
      PSs (cxOf CX0 P w K mg base N x (defScope st) f cdv A outer s H E).nox (defBody st) (tS K b)) : Has P w K mg base x n (runFn N.length b) (k + 1) := by
  obtain ⟨f, fd, h1, h2, h3⟩ := h
  exact ⟨f, fd, ps, fn_ok h1 Sc hn fun cdv A outer s H E hr => hbody f cdv A outer s H E hr, h2, h1.kp, h3⟩
section
variable {X : Cx} {k n : Nat} {F : FnD} {x : Str} {p pos : Pos} {e : Expr} {es : List Expr} {fa : EA}
theorem e_fn (h : Has X.prog X.w X.K X.mg X.base x n F k) (hr : Room k X.A) (hn : lenA fa n) (ha : PA X (e :: es) (tA X.K fa)) (hg : Gl X x := by rfl) (hdb : (x == ("__debug__" : Str)) = false := by decide) (he : starEach (e :: es) X.env = (false, eval e X.env) :: starEach es X.env := by rfl) (hpl : (backTo pos (starEach es X.env)).any (·.1) = false := by rfl) :
    PE X (.Call (.Name x p) (e :: es) [] pos) (tE X.K (eCall F fa)) := by
  obtain ⟨f, fd, ps, h1, h2, h3, h4⟩ := h
  exact e_call h1 hr hg h2 h3 h4 hn ha hdb he hpl
end
def KC (K : PySem.W.Frag) (mg : Str → Option Value) (x : Str) (d : PyData) : Prop := ∃ v u, mg x = some u ∧ RelV v u ∧ ∀ B H, Rp K B H v d
theorem e_glob {X : Cx} {x : Str} {d : PyData} {pos : Pos} (h : KC X.K X.mg x d) (hg : Gl X x := by rfl) (hd : (x == ("__debug__" : Str)) = false := by decide) : PE X (.Name x pos) (tE X.K (eC d)) := by
  obtain ⟨v, u, h1, h2, h3⟩ := h
  exact e_c (pe_glob hg h1 h2 hd) h3
def KD (K : PySem.W.Frag) (w : World) (mg : Str → Option Value) (x : Str) (kvs : List (Str × PyData)) : Prop := ∃ d, mg x = some (.ref d) ∧ KdOk K w d kvs
theorem e_kdn {X : Cx} {x : Str} {b : Expr} {kvs : List (Str × PyData)} {f : EE} {p pos : Pos} (h : KD X.K X.w X.mg x kvs) (hb : PE X b (tE X.K f)) (hg : Gl X x := by rfl) (hd : (x == ("__debug__" : Str)) = false := by decide) (hs : PlainIx b := by exact fun _ _ => rfl) : PE X (.Subscript (.Name x p) b pos) (tE X.K (eKd kvs f)) := by
  obtain ⟨d, h1, h2⟩ := h
  exact e_kd h2 (pe_glob (v := .ref d) hg h1 rfl hd) hb hs
section
variable {X : Cx} {pos : Pos}
theorem k_int {i : Int} {j : Nat} : PE X (.Constant (.int i) j pos) (tE X.K (eC (.int i))) := e_c pe_int fun _ _ => .int _
theorem k_str {i : Str} {j : Nat} : PE X (.Constant (.str i) j pos) (tE X.K (eC (.str i))) := e_c pe_str fun _ _ => .str _
theorem k_bl {i : Bool} {j : Nat} : PE X (.Constant (.bool i) j pos) (tE X.K (eC (.bool i))) := e_c pe_bl fun _ _ => .bl _
theorem k_non {j : Nat} : PE X (.Constant .none j pos) (tE X.K (eC .none)) := e_c pe_non fun _ _ => .non
variable {a b : Expr} {fa fb : EE}
def eAdd (fa fb : EE) : EE := eThen (eTwo fa fb) kAdd
def eSub (fa fb : EE) : EE := eThen (eTwo fa fb) kSub
noncomputable def eMul (fa fb : EE) : EE := eThen (eTwo fa fb) kMul
noncomputable def eFdiv (fa fb : EE) : EE := eThen (eTwo fa fb) kFdiv
def eMod (fa fb : EE) : EE := eThen (eTwo fa fb) kMod
noncomputable def ePow (fa fb : EE) : EE := eThen (eTwo fa fb) kPow
def eNeg (fa : EE) : EE := eThen (eOne fa) kNeg
def eEq (fa fb : EE) : EE := eThen (eTwo fa fb) (kE oEq)
def eNe (fa fb : EE) : EE := eThen (eTwo fa fb) (kE oNe)
def eLt (fa fb : EE) : EE := eThen (eTwo fa fb) kLt
def eGt (fa fb : EE) : EE := eThen (eTwo fa fb) kGt
def eIn (fa fb : EE) : EE := eThen (eTwo fa fb) (kE (oIn false))
def eNin (fa fb : EE) : EE := eThen (eTwo fa fb) (kE (oIn true))
def eIx (fa fb : EE) : EE := eThen (eTwo fa fb) (kE oIx)
theorem x_add (ha : PE X a (tE X.K fa)) (hb : PE X b (tE X.K fb)) : PE X (.BinOp a .Add b pos) (tE X.K (eAdd fa fb)) :=
  e_op (OpR.or op_add (OpR.or op_add_str (OpR.or op_catA op_cat))) (con_or2 (con_E ok_I0) (con_or2 (con_E ok_catS) (con_or2 (con_T ok_catT) c_catL))) ha hb
theorem x_sub (ha : PE X a (tE X.K fa)) (hb : PE X b (tE X.K fb)) : PE X (.BinOp a .Sub b pos) (tE X.K (eSub fa fb)) := e_op op_sub (con_E ok_I0) ha hb
theorem x_mul (ha : PE X a (tE X.K fa)) (hb : PE X b (tE X.K fb)) : PE X (.BinOp a .Mult b pos) (tE X.K (eMul fa fb)) := e_op (OpR.or op_mul op_repT) (con_or2 (con_E ok_I) (con_T ok_repT)) ha hb
theorem x_fdiv (ha : PE X a (tE X.K fa)) (hb : PE X b (tE X.K fb)) : PE X (.BinOp a .FloorDiv b pos) (tE X.K (eFdiv fa fb)) := e_op op_fdivW (con_E ok_I) ha hb
theorem x_mod (ha : PE X a (tE X.K fa)) (hb : PE X b (tE X.K fb)) : PE X (.BinOp a .Mod b pos) (tE X.K (eMod fa fb)) := e_op op_mod (con_E ok_I) ha hb
theorem x_pow (ha : PE X a (tE X.K fa)) (hb : PE X b (tE X.K fb)) : PE X (.BinOp a .Pow b pos) (tE X.K (ePow fa fb)) := e_op op_pow (con_E ok_I) ha hb
theorem x_neg (ha : PE X a (tE X.K fa)) : PE X (.UnaryOp .USub a pos) (tE X.K (eNeg fa)) := e_un un_neg c_neg ha
theorem x_ix (ha : PE X a (tE X.K fa)) (hb : PE X b (tE X.K fb)) (hs : PlainIx b := by exact fun _ _ => rfl) : PE X (.Subscript a b pos) (tE X.K (eIx fa fb)) := e_ix ix_seq (con_E ok_ix) ha hb hs
variable {k : Nat}
structure Cmp2 (X : Cx) (op : CmpOp) (kk : KK) : Prop where
  ex : ∃ r : R2, OpR X (compareOp op) r ∧ Con X.K kk (l2 r)
theorem q_eq (hr : Room k X.A) : Cmp2 X .Eq (kE oEq) := ⟨_, op_eqD (u64 hr), con_E ok_eq⟩
theorem q_ne (hr : Room k X.A) : Cmp2 X .NotEq (kE oNe) := ⟨_, op_neD (u64 hr), con_E ok_ne⟩
theorem q_lt (hr : Room k X.A) : Cmp2 X .Lt kLt := ⟨_, OpR.or op_lt (OpR.or (op_ltT (u0 hr)) (op_ltG (u64 hr))), con_or2 (con_E ok_B0) (con_or2 (con_E ok_ltT) (con_E ok_ltG))⟩
theorem q_gt (hr : Room k X.A) : Cmp2 X .Gt kGt := ⟨_, OpR.or op_gt (op_gtG (u64 hr)), con_or2 (con_E ok_B0) (con_E ok_gtG)⟩
theorem q_in (hr : Room k X.A) : Cmp2 X .In (kE (oIn false)) := ⟨_, OpR.or (op_inD (u65 hr)) (op_inT (u65 hr)), con_E ok_in⟩
theorem q_nin (hr : Room k X.A) : Cmp2 X .NotIn (kE (oIn true)) := ⟨_, OpR.or (op_notInD (u65 hr)) (op_notInT (u65 hr)), con_E ok_notin⟩
theorem x_cmp {op : CmpOp} {kk : KK} (q : Cmp2 X op kk) (ha : PE X a (tE X.K fa)) (hb : PE X b (tE X.K fb)) (hm : behindInMarks op b = false := by rfl) : PE X (.Compare a [op] [b] pos) (tE X.K (eThen (eTwo fa fb) kk)) := by
  obtain ⟨r, h1, h2⟩ := q.ex
  exact e_cmp h1 h2 ha hb hm
theorem y_cmp {op : CmpOp} {kk : KK} (q : Cmp2 X op kk) (ha : PE X a (tE X.K fa)) (hb : PE X b (tE X.K fb)) (hm : behindInMarks op b = false := by rfl) : PT X (.Compare a [op] [b] pos) (tT X.K (bT (eThen (eTwo fa fb) kk))) := by
  obtain ⟨r, h1, h2⟩ := q.ex
  exact b_cmp h1 h2 ha hb hm
end
section
variable {X : Cx} {p pos : Pos} {e : Expr} {es : List Expr} {f : EA} {k : Nat}
structure Blt (X : Cx) (x : Str) (kk : KK) : Prop where
  ex : ∃ (id : String) (r : List V → Hp → VK → Prop), CallR X (.builtin id) r ∧ Con X.K kk r ∧ bootBuiltins x = some (.builtin id)
structure Bty (X : Cx) (x : Str) (kk : KK) : Prop where
  ex : ∃ (id : String) (r : List V → Hp → VK → Prop), CallR X (.type id) r ∧ Con X.K kk r ∧ bootBuiltins x = some (.type id)
theorem x_blt {x : Str} {kk : KK} (B : Blt X x kk) (hm : X.mg x = none) (ha : PA X (e :: es) (tA X.K f)) (hg : Gl X x := by rfl) (hn : x ≠ "__name__" := by decide) (hdb : (x == ("__debug__" : Str)) = false := by decide) (he : starEach (e :: es) X.env = (false, eval e X.env) :: starEach es X.env := by rfl) (hpl : (backTo pos (starEach es X.env)).any (·.1) = false := by rfl) :
    PE X (.Call (.Name x p) (e :: es) [] pos) (tE X.K (eThen f kk)) := by
  obtain ⟨id, r, h1, h2, h3⟩ := B.ex
  exact e_callB h1 h2 hg hm h3 ha hn hdb he hpl
theorem x_bty {x : Str} {kk : KK} (B : Bty X x kk) (hm : X.mg x = none) (ha : PA X (e :: es) (tA X.K f)) (hg : Gl X x := by rfl) (hn : x ≠ "__name__" := by decide) (hdb : (x == ("__debug__" : Str)) = false := by decide) (he : starEach (e :: es) X.env = (false, eval e X.env) :: starEach es X.env := by rfl) (hpl : (backTo pos (starEach es X.env)).any (·.1) = false := by rfl) :
    PE X (.Call (.Name x p) (e :: es) [] pos) (tE X.K (eThen f kk)) := by
  obtain ⟨id, r, h1, h2, h3⟩ := B.ex
  exact e_callTy h1 h2 hg hm h3 ha hn hdb he hpl
theorem w_len (hc : X.calm = true) (hr : Room k X.A) : Blt X "len" (kE oLen) := ⟨_, _, cr_len, c_len, PySem.boot_len⟩
theorem w_all (hc : X.calm = true) (hr : Room k X.A) : Blt X "all" (kE oAll) := ⟨_, _, cr_all hc, c_all, by decide +kernel⟩
theorem w_max (hc : X.calm = true) (hr : Room k X.A) : Blt X "max" (kE oMax) := ⟨_, _, cr_mx hc (u64 hr), c_mx, by decide +kernel⟩
theorem w_min (hc : X.calm = true) (hr : Room k X.A) : Blt X "min" (kE oMin) := ⟨_, _, cr_mn hc (u64 hr), c_mn, by decide +kernel⟩
theorem w_tuple (hc : X.calm = true) (hr : Room k X.A) : Bty X "tuple" kTupN := ⟨_, _, cr_tupN, c_tupN, by decide +kernel⟩
theorem w_list (hc : X.calm = true) (hr : Room k X.A) : Bty X "list" (kL oList) := ⟨_, _, call_list_of, c_list, by decide +kernel⟩
end
section
variable {X : Cx} {o e : Expr} {es : List Expr} {fo : EE} {fa : EA} {apos cpos : Pos} {k : Nat}
theorem m_append (ho : PE X o (tE X.K fo)) (ha : PA X [e] (tA X.K fa)) (hbase : attributeBase o "append" X.env (eval o X.env) = eval o X.env := by rfl)
    (hfew : ((backTo cpos (starEach [e] X.env)).all (fun x => !x.1) && (backToKw cpos (keywordEach [] X.env)).all (fun x => x.1.isSome)
      && decide (([e] : List Expr).length + ([] : List Keyword).length + (if ([] : List Keyword).isEmpty then 0 else 1) < 30)) = true := by rfl)
    (hline : (apos.endLine == cpos.line) = true := by rfl) (hs : starEach [e] X.env = (false, eval e X.env) :: starEach [] X.env := by rfl) (hplain : (backTo cpos (starEach [] X.env)).any (·.1) = false := by rfl) :
    PE X (.Call (.Attribute o "append" apos) [e] [] cpos) (tE X.K (eBM isL fo fa kAppend)) :=
  PE.imp (pe_bm PySem.F.plainAttrs_list PySem.F.slot_list_append PySem.F.type_list_append mt_append ho ha hbase hfew hline hs hplain) fun _ _ _ t => rd_bm ty_L c_append t
end
section
variable {X : Cx}
theorem x_lc {elt tg iter : Expr} {ifs : List Expr} {scope : Scope} {pos : Pos} {it : EI} {g : GG} {t : EB} {f : EE} {vs : List Nat} (own : List (Str × Nat)) (hc : X.calm = true) (hN : X.N.Nodup) (hv : own.map (·.2) = vs) (hi : PI X tg iter (tI X.K it)) (ok : BlkOk X.N X.env.scope scope own) (ho : Only g vs)
    (hg : ∀ (s : Shared) (H : Hp) (C : Addr) (cl : List (Str × Addr)) (fp : List Addr), PG (X.blk s H scope (compEnvC scope cl C X.env) fp) tg (tGv X.K g vs)) (ht : ∀ (s : Shared) (H : Hp) (C : Addr) (cl : List (Str × Addr)) (fp : List Addr), PTs (X.blk s H scope (compEnvC scope cl C X.env) fp) ifs (tT X.K t))
    (he : ∀ (s : Shared) (H : Hp) (C : Addr) (cl : List (Str × Addr)) (fp : List Addr), PE (X.blk s H scope (compEnvC scope cl C X.env) fp) elt (tE X.K f)) (hs : ∀ x, foldedSetIterable iter X.env x = pure x := by intro _; rfl) :
    PE X (.ListComp elt [⟨tg, iter, ifs, 0⟩] scope pos) (tE X.K (eLc it g t f vs)) := by
  subst hv
  exact e_lc hc hN hi ok ho hg ht he hs
theorem x_setLc {i : Nat} {y : Str} {py : Pos} {elt tg iter : Expr} {ifs : List Expr} {scope : Scope} {pos spos : Pos} {it : EI} {g : GG} {t : EB} {f : EE} {vs : List Nat} (own : List (Str × Nat)) (hc : X.calm = true) (hN : X.N.Nodup) (hv : own.map (·.2) = vs) (hy : X.N[i]? = some y) (hyl : X.env.scope.names.lookup y = some .local)
    (hsw : swapsWith (.ListComp elt [⟨tg, iter, ifs, 0⟩] scope pos) (some (.Name y py)) spos.line X.env = pure true) (hi : PI X tg iter (tI X.K it)) (ok : BlkOk X.N X.env.scope scope own) (ho : Only g vs)
    (hg : ∀ (s : Shared) (H : Hp) (C : Addr) (cl : List (Str × Addr)) (fp : List Addr), PG (X.blk s H scope (compEnvC scope cl C X.env) fp) tg (tGv X.K g vs)) (ht : ∀ (s : Shared) (H : Hp) (C : Addr) (cl : List (Str × Addr)) (fp : List Addr), PTs (X.blk s H scope (compEnvC scope cl C X.env) fp) ifs (tT X.K t))
    (he : ∀ (s : Shared) (H : Hp) (C : Addr) (cl : List (Str × Addr)) (fp : List Addr), PE (X.blk s H scope (compEnvC scope cl C X.env) fp) elt (tE X.K f)) (hs : ∀ x, foldedSetIterable iter X.env x = pure x := by intro _; rfl) :
    PS X (.Assign [.Name y py] (.ListComp elt [⟨tg, iter, ifs, 0⟩] scope pos) spos) (tS X.K (sSet i (eLc it g t f vs))) := by
  subst hv
  exact s_setLc hc hN hy hyl hsw hi ok ho hg ht he hs
end
end T3

end
section
set_option linter.all false
set_option autoImplicit false
set_option Elab.async false
namespace T3
open PySem PyProof.Rows
variable [TabL]
theorem collect_tup {prog : Program} {w : World} {A : Around} {E : Value → Shared → Prop} {s : Shared} {l : Addr} {vs : List Value} {Q : List Value → Shared → Prop} (hl : IsTup s.heap l vs.toArray)
    (h : Q vs { s with heap := (s.heap.push (seqObj "list" #[] 0)).update s.heap.objs.size (Obj.mapSeq (· ++ vs.toArray)) }) (hsz : vs.length ≤ sizeLine) : wpAny (model prog w) A (collect (.ref l)) Q E s := by
  obtain ⟨o, ho, hc, n, hd⟩ := hl
  have eL : (s.heap.push (seqObj "list" #[] 0)).get? s.heap.objs.size = some (seqObj "list" #[] 0) := Heap.get?_push_size _ rfl
  have eO : (s.heap.push (seqObj "list" #[] 0)).get? l = some o := Heap.get?_push_of_some _ ho
  unfold collect
  refine wpAny_bind (wpAny_runValue (codeAny_builtin entry_proto_collect' ?_))
  show wpAny (model prog w) _ (do again (.builtin "list.__iadd__" ⟨[← newList [], .ref l], []⟩)) _ _ s
  refine wpAny_bind (wpAny_newList (wpAny_pure
    ⟨Code.quiet_builtin _ (by decide +kernel), codeAny_builtin entry_list_iadd' ?_⟩))
  show wpAny (model prog w) _ (Builtin.List.listExtendWith (.ref s.heap.objs.size) (.ref l) (.ref s.heap.objs.size)) _ _ { s with heap := s.heap.push (seqObj "list" #[] 0) }
  unfold Builtin.List.listExtendWith
  refine wpAny_bind (wpAny_typeOf (T := "tuple") ⟨o, eO, hc⟩ ?_)
  have ht : (Value.type "tuple" == Value.type "tuple") = true := rfl
  rw [if_pos (by rw [ht]; simp)]
  refine wpAny_bind (listItems_at eO hd (wpAny_bind (listItems_at (xs := #[]) (n := 0) eL rfl ?_)))
  have hsz' : ((#[] : Array Value) ++ vs.toArray).size ≤ sizeLine + 1 := by simp; omega
  rw [if_neg (by simp)]
  refine wpAny_bind (listUpdate_at (xs := #[]) (n := 0) eL rfl (wpAny_pure ?_) (Nat.zero_le _) hsz')
  refine wpAny_bind (wpAny_load (get?_update_seq eL _) ?_)
  show wpAny (model prog w) A (pure ((#[] : Array Value) ++ vs.toArray).toList) Q E _
  have e0 : ((#[] : Array Value) ++ vs.toArray).toList = vs := by simp
  rw [e0]
  exact wpAny_pure h
end T3
namespace T3
open PySem PyProof.Rows SrtO Srt
variable [TabL]
theorem sorted_tup {prog : Program} {w : World} {A : Around} {E : Value → Shared → Prop} {s : Shared} {l : Addr} {vs : List Value} {ltv : Value → Value → Bool} {Q : Value → Shared → Prop} (O : Swo ltv) (hl : IsTup s.heap l vs.toArray) (hz : vs.length ≤ sizeLine)
    (hS : 2 ≤ vs.length → ∀ (h₁ : Heap) (a : Addr), h₁.get? a = some (seqObj "list" vs.toArray 0) → (∀ b o, s.heap.get? b = some o → b ≠ a ∧ h₁.get? b = some o) → SortableO prog w A.in1.in1 { s with heap := h₁ } a vs ltv)
    (h : ∀ out : List Value, Srtd ltv out → Stb ltv out vs → Q (.ref (s.heap.objs.size + 1)) { s with heap := sortedAll s.heap vs out.toArray }) : wpAny (model prog w) A (call (.builtin "sorted") [.ref l]) Q E s := by
  refine Calls.call_function_entry kind_sorted plain_sorted entry_sorted (args_sorted1 _) ?_
  unfold Builtin.«sorted»
  refine wpAny_bind (m := checkCount "sorted" 1 1 _) (wpAny_pure (wpAny_bind (collect_tup hl (wpAny_bind (wpAny_newList ?_ hz)) hz)))
  generalize eg : (s.heap.push (seqObj "list" #[] 0)).update s.heap.objs.size (Obj.mapSeq (· ++ vs.toArray)) = g
  have hg : g.objs.size = s.heap.objs.size + 1 := by rw [← eg, Heap.size_update, size_push']
  have new : (g.push (seqObj "list" vs.toArray 0)).get? (s.heap.objs.size + 1) = some (seqObj "list" vs.toArray 0) := by rw [← hg]; exact Heap.get?_push_size _ rfl
  have keep : ∀ b o, s.heap.get? b = some o → b ≠ s.heap.objs.size + 1 ∧ (g.push (seqObj "list" vs.toArray 0)).get? b = some o := fun b o q => by
    have hb : b < s.heap.objs.size := Heap.lt_size q
    refine ⟨Nat.ne_of_lt (Nat.lt_succ_of_lt hb), Heap.get?_push_of_some _ ?_⟩
    rw [← eg, Heap.get?_update_ne _ _ _ _ (Nat.ne_of_lt hb)]
    exact Heap.get?_push_of_some _ q
  show wpAny (model prog w) _ _ _ _ { s with heap := g.push (seqObj "list" vs.toArray 0) }
  rw [hg]
  refine wpAny_bind (wpAny_holding (wpAny_call_entry slot_list_sort ⟨_, new, rfl⟩ entry_list_sort
    (list_sort_ord O new hz (fun h2 => hS h2 _ _ new keep) fun out a1 a2 => ⟨_, rfl, wpAny_pure ⟨_, rfl, ?_⟩⟩) (args_list_sort _)))
  subst eg
  exact h out a1 a2
end T3

namespace T3
open PySem L2
variable [TabL]
def rSrtT (K : PySem.W.Frag) : List V → Hp → VK → Prop := fun vs H Q => ∃ (a : Addr) (ns : List Int), vs = [V.ref a] ∧ SqT K H a (ns.map V.int) ∧
  ∀ (ns' : List Int) (p : Addr), ns'.Perm ns → ns'.Pairwise (· ≤ ·) → H p = none → Q (.ref p) (upd H p (.lst (ns'.map V.int)))
theorem cr_srtT {X : Cx} : CallR X (.builtin "sorted") (rSrtT X.K) := by
  intro pins s σ H vs us Q I r h
  obtain ⟨a, ns, rfl, hs, q⟩ := h
  obtain ⟨its, rv, hl, hz⟩ := I.tuple hs
  rw [Vals.ref1 r]
  have hi := rv.ints
  have hz' : its.length ≤ sizeLine := by rw [← rv.length]; exact hz
  refine sorted_tup SrtO.swo_int hl hz' (fun h2 h₁ a' _ _ => SrtO.ints_sortable hi h2) fun out h1 h2 => ?_
  obtain ⟨k1, k2, k3⟩ := SrtO.ints_out hi h1 h2
  obtain ⟨ep, he'⟩ := PyProof.Rows.sortedAll_at s.heap its out.toArray
  have hlen : ((out.map SrtO.iv).map V.int).length ≤ sizeLine := by
    rw [List.length_map] at hz ⊢
    rw [k2.length_eq]
    exact hz
  refine ⟨.ref _, upd H (s.heap.objs.size + 1) (.lst ((out.map SrtO.iv).map V.int)), ?_, rfl, q _ _ k2 k3 (I.hok.fresh (Nat.le_succ _))⟩
  exact I.laid (t' := s.toks) (fun _ _ => PyProof.Rows.sortedAll_old) (Nat.le_succ _)
    ⟨hlen, out, ep, vals_of_ints k1, he'⟩
def pair? : PyData → Option (Int × Int)
  | .tuple [.int i, .int j] => if 0 ≤ i ∧ i < 64 ∧ 0 ≤ j ∧ j < 64 then some (i, j) else none
  | _ => none
def pairs? : List PyData → Option (List (Int × Int))
  | [] => some []
  | x :: xs => match pair? x with
    | none => none
    | some p => match pairs? xs with
      | none => none
      | some ps => some (p :: ps)
def clD (p : Int × Int) : PyData := .tuple [.int p.1, .int p.2]
theorem pair_eq {x : PyData} {p : Int × Int} (h : pair? x = some p) : x = clD p ∧ 0 ≤ p.1 ∧ p.1 < 64 ∧ 0 ≤ p.2 ∧ p.2 < 64 := by
  unfold pair? at h
  split at h
  · split at h
    · rename_i hc; cases h; exact ⟨rfl, hc⟩
    · cases h
  · cases h
theorem pairs_eq : ∀ {xs : List PyData} {ps : List (Int × Int)}, pairs? xs = some ps → xs = ps.map clD ∧ ∀ p ∈ ps, 0 ≤ p.1 ∧ p.1 < 64 ∧ 0 ≤ p.2 ∧ p.2 < 64
  | [], ps, h => by cases h; exact ⟨rfl, fun p hp => by simp at hp⟩
  | x :: xs, ps, h => by
    unfold pairs? at h
    split at h
    · cases h
    rename_i p hp
    split at h
    · cases h
    rename_i qs hq
    cases h
    obtain ⟨h1, h2⟩ := pair_eq hp
    obtain ⟨h3, h4⟩ := pairs_eq hq
    refine ⟨by rw [h1, h3]; rfl, fun z hz => ?_⟩
    rcases List.mem_cons.mp hz with e | e
    · rw [e]; exact h2
    · exact h4 z e
def prLe (p q : Int × Int) : Bool := decide (p.1 * 64 + p.2 ≤ q.1 * 64 + q.2)
def kSorted : KK := fun ds env => match ds with
  | [d] => match ctn env d with
    | some (.list xs) => match ints? xs with
      | some ns => some (.tmp (.ls ((ns.mergeSort fun a b => decide (a ≤ b)).map .int)), env)
      | none => if xs.length < 64 then match pairs? xs with
          | some ps => some (.tmp (.ls ((ps.mergeSort prLe).map clD)), env)
          | none => none
        else none
    | some (.tuple xs) => match ints? xs with
      | some ns => some (.tmp (.ls ((ns.mergeSort fun a b => decide (a ≤ b)).map .int)), env)
      | none => none
    | _ => none
  | _ => none
def rSort3 (K : PySem.W.Frag) : List V → Hp → VK → Prop := cOr (rSortedI K) (cOr (rSrtT K) (rSortU K 2 64))
theorem cr_sort3 {X : Cx} : CallR X (.builtin "sorted") (rSort3 X.K) := CallR.or cr_sortedI (CallR.or cr_srtT (cr_sortT (by decide)))
theorem ms_int {ns ns' : List Int} (h1 : ns'.Perm ns) (h2 : ns'.Pairwise (· ≤ ·)) : ns' = ns.mergeSort fun a b => decide (a ≤ b) := by
  refine List.Perm.eq_of_pairwise (le := (· ≤ ·)) (fun a b _ _ x y => Int.le_antisymm x y) h2 ?_ (h1.trans (List.mergeSort_perm _ _).symm)
  have := List.pairwise_mergeSort (le := fun a b : Int => decide (a ≤ b)) (fun a b c h1 h2 => by simp at h1 h2 ⊢; omega) (fun a b => by simp; omega) ns
  exact this.imp (by intro a b h; simpa using h)
theorem RpA.perm {K : PySem.W.Frag} {B : Mset} {H : Hp} {us ys : List V} (h : ys.Perm us) : ∀ {xs : List PyData}, RpA K B H us xs → ∃ zs, RpA K B H ys zs ∧ zs.Perm xs := by
  induction h with
  | nil => intro xs r; cases r; exact ⟨[], .nil, .nil⟩
  | cons x _ ih =>
    intro xs r
    cases r with
    | cons r1 r2 => obtain ⟨zs, h1, h2⟩ := ih r2; exact ⟨_, .cons r1 h1, h2.cons _⟩
  | swap x y l =>
    intro xs r
    cases r with
    | cons r1 r2 =>
      cases r2 with
      | cons r3 r4 => exact ⟨_, .cons r3 (.cons r1 r4), .swap _ _ _⟩
  | trans _ _ ih1 ih2 =>
    intro xs r
    obtain ⟨zs, h1, h2⟩ := ih2 r
    obtain ⟨ws, h3, h4⟩ := ih1 h1
    exact ⟨ws, h3, h4.trans h2⟩
theorem code_pr (p : Int × Int) : TS.code 64 [p.1, p.2] = p.1 * 64 + p.2 := code_pair p.1 p.2
theorem tupI_of {K : PySem.W.Frag} {B : Mset} {H : Hp} {v : V} {p : Int × Int} (h : Rp K B H v (clD p)) : TupI K H v [p.1, p.2] := by
  cases h with
  | tup h r =>
    have e := RpA.ints (ns := [p.1, p.2]) r
    rw [e] at h
    exact ⟨_, rfl, h⟩
theorem clD_inj {p q : Int × Int} (h : clD p = clD q) : p = q := by
  unfold clD at h
  simp at h
  exact Prod.ext h.1 h.2
theorem map_perm_clD {zs : List PyData} {ps : List (Int × Int)} (h : zs.Perm (ps.map clD)) : ∃ qs : List (Int × Int), zs = qs.map clD ∧ qs.Perm ps := by
  have hz : ∀ z ∈ zs, ∃ p ∈ ps, clD p = z := fun z hz => List.mem_map.mp (h.mem_iff.mp hz)
  have : ∃ qs : List (Int × Int), zs = qs.map clD := by
    clear h
    induction zs with
    | nil => exact ⟨[], rfl⟩
    | cons z zs ih =>
      obtain ⟨p, _, e⟩ := hz z (by simp)
      obtain ⟨qs, e2⟩ := ih (fun y hy => hz y (by simp [hy]))
      exact ⟨p :: qs, by rw [e2, ← e]; rfl⟩
  obtain ⟨qs, rfl⟩ := this
  refine ⟨qs, rfl, ?_⟩
  let un : PyData → Int × Int := fun d => match d with
    | .tuple [.int i, .int j] => (i, j)
    | _ => (0, 0)
  have hu : ∀ l : List (Int × Int), (l.map clD).map un = l := fun l => by
    rw [List.map_map]
    exact List.map_id'' (fun p => rfl) l
  have := h.map un
  rw [hu, hu] at this
  exact this
theorem c_sorted {K : PySem.W.Frag} : Con K kSorted (rSort3 K) := by
  intro σ H B env B1 H1 env1 vs ds d e2 Q en a rr hk q
  unfold kSorted at hk
  split at hk
  · rename_i d1
    match vs, rr with
    | [v], rr =>
      split at hk
      · rename_i xs hx
        obtain ⟨p, us, rfl, h1, h2⟩ := (Cn.of a.en (rr.each 0 v d1 rfl rfl) hx).list
        split at hk
        · rename_i ns hn
          cases hk
          rw [ints_map hn] at h2
          have e := h2.ints
          subst e
          refine .inl ⟨p, ns, rfl, h1, fun ns' r k1 k2 nr => ?_⟩
          rw [ms_int k1 k2]
          exact con_new en a nr (RpA.of_ints _) q
        · split at hk
          · rename_i hl
            split at hk
            · rename_i ps hp
              cases hk
              obtain ⟨e, hb⟩ := pairs_eq hp
              subst e
              refine .inr (.inr ⟨p, us, rfl, h1, by rw [h2.length]; exact hl, fun x hx => ?_, fun ys r k1 k2 nr => ?_⟩)
              · obtain ⟨i, hi, e⟩ := List.getElem_of_mem hx
                obtain ⟨dd, g1, g2⟩ := h2.getV (i := i) (v := x) (by rw [← e]; exact List.getElem?_eq_getElem hi)
                rw [List.getElem?_map] at g1
                cases hpi : ps[i]? with
                | none => rw [hpi] at g1; cases g1
                | some pp =>
                  rw [hpi] at g1
                  cases g1
                  have hbb := hb pp (List.mem_of_getElem? hpi)
                  refine ⟨[pp.1, pp.2], tupI_of g2, rfl, fun m hm => ?_⟩
                  simp only [List.mem_cons, List.not_mem_nil, or_false] at hm
                  rcases hm with e | e
                  · rw [e]; exact ⟨hbb.1, hbb.2.1⟩
                  · rw [e]; exact hbb.2.2
              · obtain ⟨zs, g1, g2⟩ := h2.perm k1
                obtain ⟨qs, rfl, g3⟩ := map_perm_clD g2
                have ord : qs.Pairwise (fun x y => x.1 * 64 + x.2 ≤ y.1 * 64 + y.2) := by
                  have : ∀ {ys : List V} {qs : List (Int × Int)}, RpA K B1 H1 ys (qs.map clD) → ys.Pairwise (fun x y => ∀ n m, TupI K H1 x n → TupI K H1 y m → TS.code 64 n ≤ TS.code 64 m) → qs.Pairwise (fun x y => x.1 * 64 + x.2 ≤ y.1 * 64 + y.2) := by
                    intro ys qs
                    induction qs generalizing ys with
                    | nil => intro _ _; exact .nil
                    | cons c qs ih =>
                      intro r pw
                      cases r with
                      | cons r1 r2 =>
                        cases pw with
                        | cons w1 w2 =>
                          refine .cons (fun y hy => ?_) (ih r2 w2)
                          obtain ⟨j, hj, e⟩ := List.getElem_of_mem hy
                          obtain ⟨vv, z1, z2⟩ := r2.get (i := j) (d := clD y) (by rw [List.getElem?_map, List.getElem?_eq_getElem hj, e]; rfl)
                          have := w1 vv (List.mem_of_getElem? z1) _ _ (tupI_of r1) (tupI_of z2)
                          rw [code_pr, code_pr] at this
                          exact this
                  exact this g1 k2
                have eq : qs = ps.mergeSort prLe := by
                  have hbq : ∀ z : Int × Int, z ∈ qs → 0 ≤ z.1 ∧ z.1 < 64 ∧ 0 ≤ z.2 ∧ z.2 < 64 := fun z hz => hb z (g3.mem_iff.mp hz)
                  refine List.Perm.eq_of_pairwise (le := fun x y : Int × Int => x.1 * 64 + x.2 ≤ y.1 * 64 + y.2) (fun x y hx hy l1 l2 => ?_) ord ?_ (g3.trans (List.mergeSort_perm _ _).symm)
                  · have b1 := hbq x hx
                    have b2 := hb y ((List.mergeSort_perm ps prLe).mem_iff.mp hy)
                    exact Prod.ext (by omega) (by omega)
                  · have := List.pairwise_mergeSort (le := prLe) (fun a b c h1 h2 => by simp [prLe] at h1 h2 ⊢; omega) (fun a b => by simp [prLe]; omega) ps
                    exact this.imp (by intro a b h; simpa [prLe] using h)
                rw [← eq] at q
                exact con_new en a nr g1 q
            · cases hk
          · cases hk
      · rename_i xs hx
        obtain ⟨p, us, rfl, h1, h2⟩ := (Cn.of a.en (rr.each 0 v d1 rfl rfl) hx).tuple
        split at hk
        · rename_i ns hn
          cases hk
          rw [ints_map hn] at h2
          have e := h2.ints
          subst e
          refine .inr (.inl ⟨p, ns, rfl, h1, fun ns' r k1 k2 nr => ?_⟩)
          rw [ms_int k1 k2]
          exact con_new en a nr (RpA.of_ints _) q
        · cases hk
      · cases hk
    | [], rr => have := rr.len; simp at this
    | _ :: _ :: _, rr => have := rr.len; simp at this
  · cases hk
theorem w_sorted {X : Cx} {k : Nat} (hc : X.calm = true) (hr : Room k X.A) : Blt X "sorted" kSorted := ⟨_, _, cr_sort3, c_sorted, by decide +kernel⟩
end T3

end
section
set_option linter.all false
set_option autoImplicit false
set_option Elab.async false
namespace T3
open PySem L2
variable [TabL]

noncomputable instance (a b : Int) : Decidable (RgOk a b) := Classical.propDecidable _
def dnOk (i j : Int) : Prop := -(2 ^ 62) ≤ i ∧ i < 2 ^ 62 ∧ -(2 ^ 62) ≤ j ∧ j < 2 ^ 62 ∧ (i - j).toNat ≤ 1000000
noncomputable instance (a b : Int) : Decidable (dnOk a b) := Classical.propDecidable _
section
variable {X : Cx} {a b c : Expr} {fa fb fc : EE} {p p2 pos pos2 : Pos}
end
section
variable {X : Cx} {a b c : Expr} {ta tb tc : TE} {p p2 pos pos2 : Pos}
end
def key? : PyData → Option Key
  | .int i => some (.inl i)
  | .str s => some (.inr s)
  | _ => none
theorem key_v {K : PySem.W.Frag} {B : Mset} {H : Hp} {v : V} {x : PyData} {k : Key} (h : Rp K B H v x) (e : key? x = some k) : v = kV k := by
  cases h <;> cases e <;> rfl
def putD (kvs : List (Key × PyData)) (k : Key) (x : PyData) : List (Key × PyData) :=
  if (kvs.any fun kv => decide (kv.1 = k)) = true then kvs.map (fun kv => if kv.1 = k then (kv.1, x) else kv) else kvs ++ [(k, x)]
def valD (kvs : List (Key × PyData)) (k : Key) : Option PyData := (kvs.find? fun kv => decide (kv.1 = k)).map (·.2)
theorem KvR.len {K : PySem.W.Frag} {B : Mset} {H : Hp} {ws : List (Key × V)} {kvs : List (Key × PyData)} (h : KvR K B H ws kvs) : ws.length = kvs.length := Paired.length h
theorem KvR.any {K : PySem.W.Frag} {B : Mset} {H : Hp} {k : Key} : ∀ {ws : List (Key × V)} {kvs : List (Key × PyData)}, KvR K B H ws kvs → (ws.any fun kv => decide (kv.1 = k)) = (kvs.any fun kv => decide (kv.1 = k))
  | _, _, .nil => rfl
  | _, _, .cons r t => by
    simp only [List.any_cons, r.1, KvR.any t]
theorem KvR.val {K : PySem.W.Frag} {B : Mset} {H : Hp} {k : Key} : ∀ {ws : List (Key × V)} {kvs : List (Key × PyData)}, KvR K B H ws kvs → (∃ v x, valV ws k = some v ∧ valD kvs k = some x ∧ Rp K B H v x) ∨ (valV ws k = none ∧ valD kvs k = none)
  | _, _, .nil => .inr ⟨rfl, rfl⟩
  | _, _, .cons (a := p) (b := q) r t => by
    by_cases e : q.1 = k
    · refine .inl ⟨p.2, q.2, ?_, ?_, r.2⟩
      · simp [valV, r.1, e]
      · simp [valD, e]
    · have e' : ¬ p.1 = k := by rw [r.1]; exact e
      rcases KvR.val (k := k) t with ⟨v, x, h1, h2, h3⟩ | ⟨h1, h2⟩
      · exact .inl ⟨v, x, by simpa [valV, e'] using h1, by simpa [valD, e] using h2, h3⟩
      · exact .inr ⟨by simpa [valV, e'] using h1, by simpa [valD, e] using h2⟩
theorem KvR.mapPut {K : PySem.W.Frag} {B : Mset} {H : Hp} {k : Key} {v : V} {x : PyData} (r : Rp K B H v x) : ∀ {ws : List (Key × V)} {kvs : List (Key × PyData)}, KvR K B H ws kvs → KvR K B H (ws.map fun kv => if kv.1 = k then (kv.1, v) else kv) (kvs.map fun kv => if kv.1 = k then (kv.1, x) else kv)
  | _, _, .nil => .nil
  | _, _, .cons (a := p) (b := q) h t => by
    refine .cons ?_ (KvR.mapPut r t)
    by_cases e : q.1 = k
    · have e' : p.1 = k := by rw [h.1]; exact e
      dsimp only
      rw [if_pos e, if_pos e']
      exact ⟨h.1, r⟩
    · have e' : ¬ p.1 = k := by rw [h.1]; exact e
      dsimp only
      rw [if_neg e, if_neg e']
      exact h
theorem KvR.app {K : PySem.W.Frag} {B : Mset} {H : Hp} {k : Key} {v : V} {x : PyData} (r : Rp K B H v x) : ∀ {ws : List (Key × V)} {kvs : List (Key × PyData)}, KvR K B H ws kvs → KvR K B H (ws ++ [(k, v)]) (kvs ++ [(k, x)])
  | _, _, .nil => .cons ⟨rfl, r⟩ .nil
  | _, _, .cons h t => .cons h (KvR.app r t)
theorem KvR.put {K : PySem.W.Frag} {B : Mset} {H : Hp} {k : Key} {v : V} {x : PyData} {ws : List (Key × V)} {kvs : List (Key × PyData)} (h : KvR K B H ws kvs) (r : Rp K B H v x) : KvR K B H (putK ws k v) (putD kvs k x) := by
  unfold putK putD
  rw [h.any]
  split
  · exact h.mapPut r
  · exact h.app r
def eDnew : EE := fun env => some (.tmp (.dk []), env)
theorem x_dnew {X : Cx} {pos : Pos} : PE X (.Dict [] [] pos) (tE X.K eDnew) := PE.imp pe_dnewK fun σ H Q t => by
  obtain ⟨B, env, d, env', en, ev, q⟩ := t
  cases ev
  intro p np
  obtain ⟨g, a2⟩ := (At.refl en).alloc en np (.dK []) True (fun _ => False) (fun _ f => f.elim)
  refine q _ _ _ a2 ⟨p, rfl, np, .inr ⟨trivial, rfl⟩, ⟨[], upd_same, .nil⟩, fun i m d h1 h2 => ?_⟩
  obtain ⟨b, h3, h4, _⟩ := en.mu i m d h1
  rw [h3] at h2
  cases h2
  obtain ⟨o', ho⟩ := en.dom _ h4
  rw [np] at ho; cases ho
section
variable {X : Cx} {i o : Expr} {fk fd : EE} {pos : Pos}
end
end T3

end
section
set_option linter.all false
set_option autoImplicit false
set_option Elab.async false
namespace T3
open PySem L2
variable [TabL]
def l3 (r : V → V → V → Hp → VK → Prop) : List V → Hp → VK → Prop := fun vs H Q => ∀ x y z, vs = [x, y, z] → r x y z H Q
end T3

end
section
set_option linter.all false
set_option autoImplicit false
set_option Elab.async false
namespace T3
open PySem L2
variable [TabL]
theorem at0_mk {K : PySem.W.Frag} {h : Heap} {mg : Str → Option Value} {x : Str} {st : Stmt} {ps : List Str} {f : Addr} {oc : Value} {od an : Option Addr} {osl : Array (Option Value)} {kV doc pm cdv ct : Value} (X : K.In h) (G : h.Ns mainGlobals mg)
    (a : PySem.W.nsIn K mainGlobals x = some (some (.ref f))) (l : K.lookup f = some ⟨oc, od, .func (PySem.W.fnOf x x (defArgs st) (defBody st) (defScope st) .none kV doc pm an cdv ct), osl⟩) (c : PySem.W.codeIn K cdv x = true) (k : PySem.W.keepIn K (.ref f) = true)
    (hb : ∀ (kV doc pm : Value) (an : Option Addr) (cdv ct : Value) (us : List Value), us.length = ps.length → bindArgs (PySem.W.fnOf x x (defArgs st) (defBody st) (defScope st) .none kV doc pm an cdv ct) ⟨us, []⟩ = pure (ps.zip us)) : At0 K mg x st ps := by
  have F := fun_mk (st := st) l c k
  exact ⟨f, _, F, PySem.W.mg_of X G a, F.binds hb⟩
inductive KV1 (K : PySem.W.Frag) : Value → PyData → Prop
  | none : KV1 K .none .none
  | bool (b : Bool) : KV1 K (.bool b) (.bool b)
  | int (i : Int) (t : Tok) : KV1 K (.int i t) (.int i)
  | str (x : Str) (t : Tok) : KV1 K (.str x t) (.str x)
def kvB (K : PySem.W.Frag) : Nat → Value → PyData → Bool
  | 0, _, _ => false
  | _ + 1, .none, .none => true
  | _ + 1, .bool b, .bool c => b == c
  | _ + 1, .int i _, .int j => i == j
  | _ + 1, .str x _, .str y => decide (x = y)
  | n + 1, .ref a, .tuple ds => match K.lookup a with
    | some o => match o.cls, o.data with
      | .type t, .seq its _ => t == "tuple" && decide (its.size ≤ 1000) && decide (its.size = ds.length) && (its.toList.zip ds).all fun p => kvB K n p.1 p.2
      | _, _ => false
    | none => false
  | _ + 1, _, _ => false
theorem kv_rp {K : PySem.W.Frag} : ∀ (n : Nat) (u : Value) (d : PyData), kvB K n u d = true → ∃ v, RelV v u ∧ ∀ B H, Rp K B H v d
  | 0, _, _, h => by cases h
  | n + 1, u, d, h => by
    unfold kvB at h
    split at h
    · cases h
    · exact ⟨.non, rfl, fun _ _ => .non⟩
    · rename_i b c _
      have e : b = c := by simpa using h
      subst e
      exact ⟨.bl b, rfl, fun _ _ => .bl b⟩
    · rename_i i t j _
      have e : i = j := by simpa using h
      subst e
      exact ⟨.int i, ⟨t, rfl⟩, fun _ _ => .int i⟩
    · rename_i x t y _
      have e : x = y := by simpa using h
      subst e
      exact ⟨.str x, ⟨t, rfl⟩, fun _ _ => .str x⟩
    · rename_i m a ds hm
      cases hm
      split at h
      · rename_i o ho
        split at h
        · rename_i t its k hc hd
          simp only [Bool.and_eq_true, beq_iff_eq, decide_eq_true_eq, List.all_eq_true] at h
          obtain ⟨⟨⟨ht, hs⟩, hl⟩, ha⟩ := h
          have go : ∀ (us : List Value) (ds : List PyData), us.length = ds.length → (∀ p ∈ us.zip ds, kvB K n p.1 p.2 = true) → ∃ vs, Vals vs us ∧ ∀ B H, RpA K B H vs ds := by
            intro us
            induction us with
            | nil =>
              intro ds hl _
              cases ds with
              | nil => exact ⟨[], .nil, fun _ _ => .nil⟩
              | cons _ _ => simp at hl
            | cons u us ih =>
              intro ds hl hz
              cases ds with
              | nil => simp at hl
              | cons d ds =>
                obtain ⟨v, r1, r2⟩ := kv_rp n u d (hz (u, d) (by simp))
                obtain ⟨vs, q1, q2⟩ := ih ds (by simpa using hl) (fun p hp => hz p (by simp [hp]))
                exact ⟨v :: vs, .cons r1 q1, fun B H => .cons (r2 B H) (q2 B H)⟩
          obtain ⟨vs, q1, q2⟩ := go its.toList ds (by simpa using hl) ha
          subst ht
          exact ⟨.ref a, rfl, fun B H => .tup (.inr ⟨o, its, k, ho, hc, hd, Nat.le_of_lt (small1000 hs), q1⟩) (q2 B H)⟩
        · cases h
      · cases h
    · cases h
theorem kc_by {K : PySem.W.Frag} {h : Heap} {mg : Str → Option Value} {x : Str} {u : Value} {d : PyData} {n : Nat} (X : K.In h) (G : h.Ns mainGlobals mg) (a : PySem.W.nsIn K mainGlobals x = some (some u)) (q : kvB K n u d = true) : KC K mg x d := by
  obtain ⟨v, r, q⟩ := kv_rp n u d q
  exact ⟨v, u, PySem.W.mg_of X G a, r, q⟩
def kdB (K : PySem.W.Frag) (d : Addr) (kvs : List (Str × PyData)) : Bool := kvs.all fun p => match PySem.W.nsIn K d p.1 with
  | some (some u) => kvB K 9 u p.2
  | _ => false
theorem lookup_mem {α : Type} : ∀ {l : List (Str × α)} {z : Str} {x : α}, l.lookup z = some x → (z, x) ∈ l
  | [], z, x, h => by simp at h
  | (y, b) :: l, z, x, h => by
    rw [List.lookup_cons] at h
    split at h
    · rename_i e
      cases h
      have : z = y := by simpa using e
      subst this
      simp
    · simp [lookup_mem h]
theorem kd_mk {K : PySem.W.Frag} {w : World} {h : Heap} {mg : Str → Option Value} {x : Str} {d : Addr} {es : Array DictEntry} {n : Nat} {kvs : List (Str × PyData)} (X : K.In h) (G : h.Ns mainGlobals mg) (a : PySem.W.nsIn K mainGlobals x = some (some (.ref d)))
    (l : K.lookup d = some ⟨.type "dict", none, .dict es n, #[]⟩) (k : PySem.W.KeysLit w.params es.toList) (q : kdB K d kvs = true) : KD K w mg x kvs := by
  refine ⟨d, PySem.W.mg_of X G a, fun z y hz => ?_⟩
  have hm := lookup_mem hz
  have := List.all_eq_true.mp q _ hm
  dsimp only at this
  split at this
  · rename_i u hu
    obtain ⟨v, r, q⟩ := kv_rp 9 u y this
    exact ⟨v, ⟨es, n, u, l, k, hu, r⟩, q⟩
  · cases this
theorem law_spT {K : PySem.W.Frag} {F : FnD} {H : Hp} {a : Addr} {ns : List Int} (hF : ∃ as, F [.pd (.list (ns.map .int))] = some (.pd (.bool true), as)) (tb : TbB (fun _ => False) H) (hS : SqL K H a (ns.map V.int)) : spF K F 1 [.ref a] H (fun v _ => v = .bl true) fun _ _ _ => False := by
  obtain ⟨as, hF⟩ := hF
  have rp : Rp K (fun _ => False) H (.ref a) (.list (ns.map .int)) := by
    rcases hS with (h | ⟨o, h⟩) | ⟨o, its, n, h1, h2, h3, h4, h5, h6⟩
    · exact .lst h (fun z => z) (RpA.of_ints _)
    · exact .frz h (RpA.of_ints _)
    · exact .kls h1 h2 h3 h4 h5 h6 (RpA.of_ints _)
  refine ⟨rfl, fun _ => False, [.pd (.list (ns.map .int))], _, as, ⟨rfl, fun i x h => ?_, fun i x h => ?_, fun i m c h => ?_, fun i j m n c d b h => ?_, fun b h => h.elim, tb⟩, hF, fun B' H' v _ r _ => ?_⟩
  · cases i with
    | zero => simp at h; subst h; exact ⟨_, rfl, rp⟩
    | succ i => simp at h
  · cases i with
    | zero => simp at h
    | succ i => simp at h
  · cases i with
    | zero => simp at h
    | succ i => simp at h
  · cases i with
    | zero => simp at h
    | succ i => simp at h
  · have r : Rp K B' H' v (.bool true) := r
    cases r
    rfl
end T3
namespace T3
open PySem L2
theorem law_sp {K : PySem.W.Frag} {F : FnD} {H : Hp} {a : Addr} {ns : List Int} (hF : ∃ as, F [.pd (.list (ns.map .int))] = some (.pd (.bool true), as)) (O : L2.Only H) (hS : SqL K H a (ns.map V.int)) : spF K F 1 [.ref a] H (fun v _ => v = .bl true) fun _ _ _ => False :=
  law_spT hF (fun p hp => nomatch (show p ∈ ([] : List (Addr × (Nat → Nat → Str))) from hp)) hS
end T3

end
section
set_option linter.all false
set_option autoImplicit false
set_option Elab.async false
namespace T3
open PySem L2
variable [TabL]
section
variable (env : Sl) (i j n : Nat) (fa fb fc : EE) (f g : EA) (s1 s2 : SS) (b1 b2 : EB) (k k1 k2 : KK) (d : R) (ds : List R) (x : PyData) (xs : List PyData)
@[simp] theorem z_var : eVar i env = (match env[i]? with
  | some (some (.pd x)) => some (.pd x, env)
  | some (some (.nt x)) => some (.nt x, env)
  | some (some (.mu _ _)) => some (.var i, env)
  | _ => none) := rfl
@[simp] theorem z_c : eC x env = some (.pd x, env) := rfl
@[simp] theorem z_nil : eNil env = some ([], env) := rfl
@[simp] theorem z_cons : eCons fa f env = (match fa env with
  | none => none
  | some (d, e1) => match f e1 with
    | none => none
    | some (ds, e2) => some (d :: ds, e2)) := rfl
@[simp] theorem z_then : eThen f k env = (match f env with
  | none => none
  | some (ds, e1) => k ds e1) := rfl
@[simp] theorem z_two : eTwo fa fb = eCons fa (eCons fb eNil) := rfl
@[simp] theorem z_one : eOne fa = eCons fa eNil := rfl
@[simp] theorem z_ctn1 : ctn env (.pd x) = some x := rfl
@[simp] theorem z_ctn2 : ctn env (.nt xs) = some (.tuple xs) := rfl
@[simp] theorem z_ctn3 : ctn env (.tmp (.ls xs)) = some (.list xs) := rfl
@[simp] theorem z_ctn4 : ctn env (.var i) = (match env[i]? with
    | some (some (.mu _ (.ls xs))) => some (.list xs)
    | _ => none) := rfl
@[simp] theorem z_ctns0 : ctns env [] = some [] := rfl
@[simp] theorem z_ctns1 : ctns env (d :: ds) = (match ctn env d with
    | none => none
    | some x => match ctns env ds with
      | none => none
      | some xs => some (x :: xs)) := rfl
@[simp] theorem z_kE (o : List PyData → Option PyData) : kE o ds env = (match ctns env ds with
  | none => none
  | some xs => match o xs with
    | none => none
    | some z => some (.pd z, env)) := rfl
@[simp] theorem z_kT (o : List PyData → Option (List PyData)) : kT o ds env = (match ctns env ds with
  | none => none
  | some xs => match o xs with
    | none => none
    | some z => some (.pd (.tuple z), env)) := rfl
@[simp] theorem z_kL (o : List PyData → Option (List PyData)) : kL o ds env = (match ctns env ds with
  | none => none
  | some xs => match o xs with
    | none => none
    | some z => some (.tmp (.ls z), env)) := rfl
@[simp] theorem z_kOr : kOr k1 k2 ds env = (match k1 ds env with
  | some r => some r
  | none => k2 ds env) := rfl
@[simp] theorem z_bT : bT fa env = (match fa env with
  | some (.pd (.bool b), e) => some (b, e)
  | _ => none) := rfl
@[simp] theorem z_bAnd : bAnd b1 b2 env = (match b1 env with
  | none => none
  | some (b, e) => if b = true then b2 e else some (false, e)) := rfl
@[simp] theorem z_bOr : bOr b1 b2 env = (match b1 env with
  | none => none
  | some (b, e) => if b = true then some (true, e) else b2 e) := rfl
@[simp] theorem z_bNot : bNot b1 env = (match b1 env with
  | none => none
  | some (b, e) => some (!b, e)) := rfl
@[simp] theorem z_eB : eB b1 env = (match b1 env with
  | none => none
  | some (b, e) => some (.pd (.bool b), e)) := rfl
@[simp] theorem z_eIf : eIf b1 fa fb env = (match b1 env with
  | none => none
  | some (b, e) => if b = true then fa e else fb e) := rfl
@[simp] theorem z_pass : sPass env = some (.nx, env) := rfl
@[simp] theorem z_seq : sSeq s1 s2 env = (match s1 env with
  | none => none
  | some (.nx, e1) => s2 e1
  | some (fl, e1) => some (fl, e1)) := rfl
@[simp] theorem z_if : sIf b1 s1 s2 env = (match b1 env with
  | none => none
  | some (b, e) => if b = true then s1 e else s2 e) := rfl
@[simp] theorem z_ret : sRet fa env = (match fa env with
  | none => none
  | some (d, e) => some (.rt d, e)) := rfl
@[simp] theorem z_expr : sExpr fa env = (match fa env with
  | none => none
  | some (_, e) => some (.nx, e)) := rfl
@[simp] theorem z_never : sNever env = none := rfl
@[simp] theorem z_free : free env i = (match env[i]? with
  | some (some (.mu .own _)) => true
  | some (some (.pd _)) => true
  | some (some (.nt _)) => true
  | some none => true
  | _ => false) := rfl
@[simp] theorem z_setR : setR i d env = (if free env i = true then match d with
    | .pd x => some (env.set i (some (.pd x)))
    | .nt x => some (env.set i (some (.nt x)))
    | .tmp c => some (env.set i (some (.mu .own c)))
    | .var _ => none
  else none) := rfl
@[simp] theorem z_set : sSet i fa env = (match fa env with
  | none => none
  | some (d, e) => match setR i d e with
    | none => none
    | some e2 => some (.nx, e2)) := rfl
@[simp] theorem z_gN : gN i x env = setR i (.pd x) env := rfl
@[simp] theorem z_gNl : gNl [] env = some env := rfl
@[simp] theorem z_gCn (g1 : GG) (gs : GGs) : gCn g1 gs (x :: xs) env = (match g1 x env with
    | none => none
    | some e => gs xs e) := rfl
@[simp] theorem z_gT (gs : GGs) : gT n gs (.tuple xs) env = (if xs.length = n then gs xs env else none) := rfl
@[simp] theorem z_asg (g1 : GG) : sAsg fa g1 env = (match fa env with
  | some (.pd x, e) => match g1 x e with
    | none => none
    | some e2 => some (.nx, e2)
  | some (.nt xs, e) => match g1 (.tuple xs) e with
    | none => none
    | some e2 => some (.nx, e2)
  | _ => none) := rfl
@[simp] theorem z_data1 : data1 (.pd x) = some x := rfl
@[simp] theorem z_data2 : data1 (.nt xs) = some (.tuple xs) := rfl
@[simp] theorem z_data3 : data1 (.tmp (.ls xs)) = some (.list xs) := rfl
@[simp] theorem z_data4 : data1 (.var i) = none := rfl
@[simp] theorem z_datas0 : datas [] = some [] := rfl
@[simp] theorem z_datas1 : datas (d :: ds) = (match data1 d with
    | none => none
    | some x => match datas ds with
      | none => none
      | some xs => some (x :: xs)) := rfl
@[simp] theorem z_kTup : kTup ds env = (match datas ds with
  | none => none
  | some xs => if xs.length ≤ 1000 then some (.pd (.tuple xs), env) else none) := rfl
@[simp] theorem z_kLst : kLst ds env = (match datas ds with
  | none => none
  | some xs => if xs.length ≤ 1000 then some (.tmp (.ls xs), env) else none) := rfl
@[simp] theorem z_for (it : EI) (g1 : GG) : sFor it g1 s1 env = (match it env with
  | none => none
  | some (xs, lk, e1) => match forL g1 s1 xs e1 with
    | none => none
    | some (fl, e2) => some (fl, unlock lk e2)) := rfl
@[simp] theorem z_unl : unlock none env = env := rfl
@[simp] theorem z_call (F : FnD) : eCall F f env = (match f env with
  | none => none
  | some (ds, e1) => match toArgs e1 ds with
    | none => none
    | some as => if varsApart ds = true then match F as with
        | none => none
        | some (.var _, _) => none
        | some (d, as') => some (d, back ds as' e1)
      else none) := rfl
@[simp] theorem z_arg1 : toArg env (.pd x) = some (.pd x) := rfl
@[simp] theorem z_arg2 : toArg env (.nt xs) = some (.nt xs) := rfl
@[simp] theorem z_arg3 (c : Ct) : toArg env (.tmp c) = some (.mu .bor c) := rfl
@[simp] theorem z_arg4 : toArg env (.var i) = (match env[i]? with
    | some (some (.mu .fro c)) => some (.mu .fro c)
    | some (some (.mu _ c)) => some (.mu .bor c)
    | _ => none) := rfl
@[simp] theorem z_args0 : toArgs env [] = some [] := rfl
@[simp] theorem z_args1 : toArgs env (d :: ds) = (match toArg env d with
    | none => none
    | some a => match toArgs env ds with
      | none => none
      | some as => some (a :: as)) := rfl
@[simp] theorem z_va0 : varsApart [] = true := rfl
@[simp] theorem z_va1 : varsApart (.pd x :: ds) = varsApart ds := rfl
@[simp] theorem z_va2 : varsApart (.nt xs :: ds) = varsApart ds := rfl
@[simp] theorem z_va3 (c : Ct) : varsApart (.tmp c :: ds) = varsApart ds := rfl
@[simp] theorem z_va4 : varsApart (.var i :: ds) = (!hasVar i ds && varsApart ds) := rfl
@[simp] theorem z_hv0 : hasVar i [] = false := rfl
@[simp] theorem z_hv1 : hasVar i (.pd x :: ds) = hasVar i ds := rfl
@[simp] theorem z_hv2 : hasVar i (.nt xs :: ds) = hasVar i ds := rfl
@[simp] theorem z_hv3 (c : Ct) : hasVar i (.tmp c :: ds) = hasVar i ds := rfl
@[simp] theorem z_hv4 : hasVar i (.var j :: ds) = (decide (i = j) || hasVar i ds) := rfl
variable (s : S) (as : List S)
@[simp] theorem z_bk0 : back [] [] env = env := rfl
@[simp] theorem z_bk1 : back (.pd x :: ds) (s :: as) env = back ds as env := rfl
@[simp] theorem z_bk2 : back (.nt xs :: ds) (s :: as) env = back ds as env := rfl
@[simp] theorem z_bk3 (c : Ct) : back (.tmp c :: ds) (s :: as) env = back ds as env := rfl
@[simp] theorem z_bk4 (m : Md) (c : Ct) : back (.var i :: ds) (.mu m c :: as) env = (match env[i]? with
    | some (some (.mu m _)) => back ds as (env.set i (some (.mu m c)))
    | _ => back ds as env) := rfl
@[simp] theorem z_out1 : outR env (.pd x) = some (.pd x) := rfl
@[simp] theorem z_out2 : outR env (.nt xs) = some (.nt xs) := rfl
@[simp] theorem z_out3 (c : Ct) : outR env (.tmp c) = some (.tmp c) := rfl
@[simp] theorem z_out4 : outR env (.var i) = (match env[i]? with
    | some (some (.mu .own c)) => some (.tmp c)
    | _ => none) := rfl
variable (e0 : Option S)
@[simp] theorem z_fin0 : finals [] env = some [] := by cases env <;> rfl
@[simp] theorem z_fin1 : finals (.pd x :: as) (e0 :: env) = (match finals as env with
    | none => none
    | some l => some (.pd x :: l)) := rfl
@[simp] theorem z_fin2 : finals (.nt xs :: as) (e0 :: env) = (match finals as env with
    | none => none
    | some l => some (.nt xs :: l)) := rfl
@[simp] theorem z_fin3 (m m' : Md) (c c' : Ct) : finals (.mu m c :: as) (some (.mu m' c') :: env) = (if m = m' ∧ m ≠ .own then match finals as env with
      | none => none
      | some l => some (.mu m c' :: l)
    else none) := rfl
theorem run_of {n : Nat} {b : SS} {as : List S} {e : Sl} (h : startE n as = e) : runFn n b as = (match b e with
  | some (.rt d, e) => match outR e d with
    | none => none
    | some d' => match finals as e with
      | none => none
      | some as' => some (d', as')
  | some (.nx, e) => match finals as e with
    | none => none
    | some as' => some (.pd .none, as')
  | _ => none) := by rw [← h]; rfl
end
end T3

end
section
set_option linter.all false
set_option autoImplicit false
set_option Elab.async false
namespace T3
open PySem L2
variable [TabL]
section
variable (env : Sl) (fa fb fc : EE) (f : EA) (g : GG) (t : EB) (it : EI) (vs : List Nat) (x : PyData)
@[simp] theorem z_add : eAdd fa fb env = eThen (eCons fa (eCons fb eNil)) kAdd env := rfl
@[simp] theorem z_sub : eSub fa fb env = eThen (eCons fa (eCons fb eNil)) kSub env := rfl
@[simp] theorem z_mul : eMul fa fb env = eThen (eCons fa (eCons fb eNil)) kMul env := rfl
@[simp] theorem z_fdiv : eFdiv fa fb env = eThen (eCons fa (eCons fb eNil)) kFdiv env := rfl
@[simp] theorem z_mod : eMod fa fb env = eThen (eCons fa (eCons fb eNil)) kMod env := rfl
@[simp] theorem z_pow : ePow fa fb env = eThen (eCons fa (eCons fb eNil)) kPow env := rfl
@[simp] theorem z_neg : eNeg fa env = eThen (eCons fa eNil) kNeg env := rfl
@[simp] theorem z_eq : eEq fa fb env = eThen (eCons fa (eCons fb eNil)) (kE oEq) env := rfl
@[simp] theorem z_ne : eNe fa fb env = eThen (eCons fa (eCons fb eNil)) (kE oNe) env := rfl
@[simp] theorem z_lt : eLt fa fb env = eThen (eCons fa (eCons fb eNil)) kLt env := rfl
@[simp] theorem z_gt : eGt fa fb env = eThen (eCons fa (eCons fb eNil)) kGt env := rfl
@[simp] theorem z_in : eIn fa fb env = eThen (eCons fa (eCons fb eNil)) (kE (oIn false)) env := rfl
@[simp] theorem z_nin : eNin fa fb env = eThen (eCons fa (eCons fb eNil)) (kE (oIn true)) env := rfl
@[simp] theorem z_ix : eIx fa fb env = eThen (eCons fa (eCons fb eNil)) (kE oIx) env := rfl
@[simp] theorem z_lc : eLc it g t fa vs env = (match it env with
  | none => none
  | some (xs, lk, e1) => if xs.length ≤ 1000000 then match lcL g t fa vs xs e1 [] with
      | none => none
      | some (acc, e2) => some (.tmp (.ls acc), unlock lk e2)
    else none) := rfl
@[simp] theorem z_seqI : iSeq fa env = (match fa env with
  | some (.pd (.tuple xs), e) => some (xs, none, e)
  | some (.nt xs, e) => some (xs, none, e)
  | some (.pd (.list xs), e) => some (xs, none, e)
  | some (.pd (.str s), e) => some (signs s, none, e)
  | some (.tmp (.ls xs), e) => some (xs, none, e)
  | some (.var i, e) => match e[i]? with
    | some (some (.mu m (.ls xs))) => some (xs, some (i, m), e.set i (some (.mu .fro (.ls xs))))
    | _ => none
  | _ => none) := rfl
@[simp] theorem z_bm (ty : Sl → R → Bool) (k : KK) : eBM ty fa f k env = (match fa env with
  | none => none
  | some (d, e1) => if ty e1 d = true then match f e1 with
      | none => none
      | some (ds, e2) => k (d :: ds) e2
    else none) := rfl
@[simp] theorem z_dnew : eDnew env = some (.tmp (.dk []), env) := rfl
@[simp] theorem z_gS : gS fa fb x env = (match fa env with
  | some (.var j, e1) => match fb e1 with
    | some (.pd (.int k), e2) => putL j k x e2
    | _ => none
  | _ => none) := rfl
@[simp] theorem z_sl (lo hi : EO) : eSl fa lo hi env = (match fa env with
  | none => none
  | some (d, e1) => match lo e1 with
    | none => none
    | some (l, e2) => match hi e2 with
      | none => none
      | some (h, e3) => kSl l h [d] e3) := rfl
@[simp] theorem z_par (i j : Nat) : sPar i j f env = (match f env with
  | some ([d1, d2], e) => match setR i d1 e with
    | none => none
    | some e2 => match setR j d2 e2 with
      | none => none
      | some e3 => some (.nx, e3)
  | _ => none) := rfl
@[simp] theorem z_oNo : oNo env = some (none, env) := rfl
@[simp] theorem z_unl1 (i : Nat) (m : Md) : unlock (some (i, m)) env = (match env[i]? with
  | some (some (.mu _ c)) => env.set i (some (.mu m c))
  | _ => env) := by rfl
end
end T3

end
section
set_option linter.all false
set_option autoImplicit false
set_option Elab.async false
namespace T3
open PySem PySem.Spec PyProof.Rows L2
variable [TabL]
structure FnG (P : Program) (w : World) (K : PySem.W.Frag) (mg : Str → Option Value) (base : Heap) (k : Nat) (f : Addr) (fd : FuncData) (ps : List Str) (sp : Sp) : Prop where
  sizes : ∀ xs H Q E, sp xs H Q E → xs.length = ps.length
  go : ∀ (A : Around) (out : List Env) (s : Shared) (H : Hp) (ar : Args) (us : List Value) (xs : List V) (Q : VK) (E : XK), Room k A → A.guards = some [] → Env0 P w K mg base A out s H → BindsTo s fd ar (ps.zip us) → Vals xs us → sp xs H Q E →
    codeAny (model P w) A (.call (.ref f) ar) (CR CX0 out P w H s Q E) s
section
variable {P : Program} {w : World} {K : PySem.W.Frag} {mg : Str → Option Value} {base : Heap} {k : Nat} {f : Addr} {fd : FuncData} {ps : List Str} {sp : Sp}
theorem ce_of {X : Cx} {out : List Env} {H₀ : Hp} {s₀ : Shared} {Q : VK} {τ : L2.St} {H2 : Hp} {z : V} {u : Value} {s2 : Shared} (J : Inv X [] τ H2 s2) (ho : s2.os = s₀.os) (hu : Un (frs out) [] H₀ H2 s₀.heap s2.heap) (rv : RelV z u) (q : Q z H2) : CE out X.prog X.w H₀ s₀ Q u s2 := ⟨z, H2, ho, J.bare, hu, J.hok, rv, q⟩
theorem fnG_of {nm qu : Str} {pr : Arguments} {bd : List Stmt} {sc : Scope} {dV kV doc pm cdv ct oc : Value} {an od : Option Addr} {osl : Array (Option Value)} {N : List Str}
    (at_ : K.lookup f = some ⟨oc, od, .func (PySem.W.fnOf nm qu pr bd sc dV kV doc pm an cdv ct), osl⟩) (cod : PySem.W.codeIn K cdv qu = true) (Sc : FnScope N ps sc) (sizes : ∀ xs H Q E, sp xs H Q E → xs.length = ps.length)
    (hb : ∀ (A : Around) (out : List Env) (s : Shared) (H : Hp) (xs : List V) (Q : VK) (E : XK), Room k (A.deeper (envOfC qu sc s.heap.objs.size f cdv)) → A.guards = some [] → sp xs H Q E →
      ∃ t, PSs (cxOf CX0 P w K mg base N qu sc f cdv A out s H E) bd t ∧ t { nx := fun _ H' => Q .non H', rt := Q } (L2.start N xs) H) :
    FnG P w K mg base (k + 1) f (PySem.W.fnOf nm qu pr bd sc dV kV doc pm an cdv ct) ps sp := by
  constructor
  · exact sizes
  intro A out s H ar us xs Q E rm gd ev bi vl hs
  have kin : K.In s.heap := ev.mod.kin.keeps fun a o h => (ev.bs a o h).1
  have nolim : s.heap.NoLimit := ev.mod.nolimit.keeps fun a o h => (ev.bs a o h).1
  have kinds : ∀ y ∈ ps.zip us, sc.names.lookup y.1 = some .local ∨ (sc.names.lookup y.1 = some .cell ∧ ((cellsFrom (s.heap.objs.size + 1) sc.names []).lookup y.1).isSome = true) := by
    rintro ⟨a, b⟩ hy
    refine (Sc.par a (List.of_mem_zip hy).1).imp id fun q => ⟨q, ?_⟩
    exact PySem.W.cellsFrom_some _ _ _ (.inl q)
  refine codeAny_call_function rm.depth (kin _ _ at_) rfl Sc.co Sc.gen rfl (PySem.W.codeRec_of kin cod) ?_
  refine bi _ _ _ _ (wpAny_newFunctionEnv_cells Sc.kind kinds fun env ee s1 ic => ?_)
  subst ee
  refine ⟨nolim.keeps ic.toInCall.keep, codeAny_func ?_⟩
  obtain ⟨t, h1, h2⟩ := hb A out s H xs Q E (rm.deeper _) gd hs
  have J := inv_start (CX := CX0) (P := P) (w := w) (E := E) Sc rm.hd ev (sizes _ _ _ _ hs) vl ic
  refine wpAny_mono (h1.run [] s1 (L2.start N xs) H _ J h2) (fun fl s2 hf => ?_) fun _ _ hx => hx
  match fl, hf with
  | .ret u, ⟨z, τ, H2, J2, rv, q⟩ => exact ce_of J2 J2.os J2.base rv q
  | .next, ⟨τ, H2, J2, q⟩ => exact ce_of (z := .non) (u := .none) J2 J2.os J2.base rfl q
  | .brk, ⟨_, _, _, q⟩ => exact q.elim
  | .cont, ⟨_, _, _, q⟩ => exact q.elim
end
end T3

end
section
set_option linter.all false
set_option autoImplicit false
set_option Elab.async false
namespace T3
open PySem PySem.Spec PyProof.Rows L2
variable [TabL]
section
variable {X : Cx} {k n : Nat} {f : Addr} {fd : FuncData} {ps : List Str} {sp : Sp} {x : Str} {p pos : Pos} {e : Expr} {es : List Expr} {t : TA} {F : FnD} {fa : EA}
end
section
variable {X : Cx} {k n : Nat} {F : FnD} {x : Str} {p pos : Pos} {e : Expr} {es : List Expr} {fa : EA}
end
end T3

end
section
set_option linter.all false
set_option autoImplicit false
set_option Elab.async false
namespace T3
open PySem PySem.Spec PyProof.Rows L2
variable [TabL]
section
variable {P : Program} {w : World} {K : PySem.W.Frag} {mg mb : Str → Option Value} {k : Nat} {fa a : Addr} {fd : FuncData} {x : Str} {sp : Sp} {s : Shared} {vs : List Value} {ns : List Int}
structure Scr (K : PySem.W.Frag) (s : Shared) (a : Addr) (H : Hp) : Prop where
  only : L2.Only H
  one : ∀ b, H b ≠ none → b = a
  kn : H a ≠ none → K.lookup a = none
theorem Scr.nd {H : Hp} (c : Scr K s a H) (ha : s.heap.get? a = some { cls := .type "list", data := .seq vs.toArray }) {b : Addr} {o : Obj} {es : Array DictEntry} {m : Nat} (h : s.heap.get? b = some o) (d : o.data = .dict es m) : H b = none := by
  apply Classical.byContradiction
  intro z
  have e := c.one b z
  rw [e, ha] at h
  injection h with h
  rw [← h] at d
  cases d
theorem Scr.spc {H : Hp} (c : Scr K s a H) (ha : s.heap.get? a = some { cls := .type "list", data := .seq vs.toArray }) {b : Addr} {m : Str → Option Value} (h : s.heap.Ns b m) : (hidT s.heap H).Ns b m := by
  obtain ⟨o, es, n, h1, h2, h3⟩ := h
  exact ⟨o, es, n, hidT_get h1 (c.nd ha h1 h2), h2, h3⟩
theorem Scr.kin {H : Hp} (c : Scr K s a H) (KX : K.In s.heap) : K.In (hidT s.heap H) := by
  intro b o h
  refine hidT_get (KX b o h) (Classical.byContradiction fun z => ?_)
  have e := c.one b z
  subst e
  rw [c.kn z] at h
  cases h
theorem Scr.run {H : Hp} (c : Scr K s a H) (ha : s.heap.get? a = some { cls := .type "list", data := .seq vs.toArray }) (KX : K.In s.heap) (hm : s.heap.Ns mainGlobals mg) (hb : s.heap.Ns builtinsNs mb) (hbb : ∀ x : Str, x ≠ "__name__" → mb x = bootBuiltins x) (nl : s.heap.NoLimit) (hg : s.gens = #[])
    (hr : Room k callerA) (F : ∀ base : Heap, K.In base → base.Ns mainGlobals mg → FnG P w K mg base k fa fd [x] sp) (bi : ∀ (s : Shared) (u : Value), BindsTo s fd ⟨[u], []⟩ [(x, u)]) (hok : HOk P w H s.heap)
    (hs : sp [.ref a] H (fun v _ => v = .bl true) fun _ _ _ => False) :
    codeAny (model P w) callerA (.call (.ref fa) ⟨[.ref a], []⟩) (fun r s2 => r = .ok (.ret (.bool true)) ∧ OldK s.heap s2.heap ∧ s2.os = s.os ∧ AllBare s2.gens) s := by
  obtain ⟨mc, n1, n2⟩ := nl
  have md : Mod K mg (hidT s.heap H) := ⟨c.kin KX, c.spc ha hm, ⟨mb, c.spc ha hb, hbb⟩, mc, c.spc ha n1, n2⟩
  have ev : Env0 P w K mg (hidT s.heap H) callerA [] s H := {
    frames := rfl
    mod := md
    bs := fun b o h => of_hidT h
    bsz := Nat.le_of_eq (hidT_size _ _)
    funs := trivial
    frf := fun b h => nomatch (show b ∈ ([] : List Addr) from h)
    hok := hok
    bare := .of_eq hg }
  have cc := (F _ md.kin (c.spc ha hm)).go callerA [] s H ⟨[.ref a], []⟩ [.ref a] [.ref a] _ _ hr rfl ev (bi s (.ref a)) (.cons rfl .nil) hs
  refine codeAny_mono cc ?_
  intro r s2 h
  match r, h with
  | .ok .next, h => exact h.elim
  | .ok .brk, h => exact h.elim
  | .ok .cont, h => exact h.elim
  | .error _, h => exact h.elim
  | .ok (.ret u), ⟨v, H2, os, br, un, hok2, rv, q⟩ =>
    have q : v = .bl true := q
    subst q
    have eu : u = .bool true := rv
    subst eu
    refine ⟨rfl, OldK.of_keep ?_, os, br⟩
    intro b o h
    rcases c.only b with z | ⟨ob, ys, z⟩
    · exact un.keep b o h z (fun y => nomatch (show b ∈ ([] : List Addr) from y)) (by simp)
    · have h1 := (hok b _ z).1
      rw [h] at h1
      cases h1
      exact (hok2 b _ (un.frzs b o _ z)).1
theorem lawG (KX : K.In s.heap) (hm : s.heap.Ns mainGlobals mg) (hb : s.heap.Ns builtinsNs mb) (hbb : ∀ x : Str, x ≠ "__name__" → mb x = bootBuiltins x) (nl : s.heap.NoLimit) (hg : s.gens = #[])
    (ha : s.heap.get? a = some { cls := .type "list", data := .seq vs.toArray }) (hi : IntsAre vs ns) (hl : ns.length ≤ sizeLine) (hr : Room k callerA)
    (F : ∀ base : Heap, K.In base → base.Ns mainGlobals mg → FnG P w K mg base k fa fd [x] sp) (bi : ∀ (s : Shared) (u : Value), BindsTo s fd ⟨[u], []⟩ [(x, u)])
    (hs : ∀ H : Hp, L2.Only H → SqL K H a (ns.map V.int) → sp [.ref a] H (fun v _ => v = .bl true) fun _ _ _ => False) :
    codeAny (model P w) callerA (.call (.ref fa) ⟨[.ref a], []⟩) (fun r s2 => r = .ok (.ret (.bool true)) ∧ OldK s.heap s2.heap ∧ s2.os = s.os ∧ AllBare s2.gens) s := by
  have vi := vals_ints hi
  have vl := hi.length
  cases hk : K.lookup a with
  | some o =>
    have e := KX a o hk
    rw [ha] at e
    injection e with e
    subst e
    have hO : L2.Only (fun _ => none) := fun _ => .inl rfl
    refine Scr.run (H := fun _ => none) ⟨hO, fun b z => absurd rfl z, fun z => absurd rfl z⟩ ha KX hm hb hbb nl hg hr F bi ?_ (hs _ hO (.inr ⟨_, vs.toArray, 0, hk, rfl, rfl, rfl, ?_, by simpa using vi⟩))
    · intro b u z
      cases (show (none : Option HO) = some u from z)
    · rw [List.size_toArray, vl]
      exact hl
  | none =>
    let Hs : Hp := fun b => if b = a then some (.frz { cls := .type "list", data := .seq vs.toArray } (.lst (ns.map V.int))) else none
    have at_a : Hs a = some (.frz { cls := .type "list", data := .seq vs.toArray } (.lst (ns.map V.int))) := if_pos rfl
    have off_a : ∀ b, b ≠ a → Hs b = none := fun b h => if_neg h
    have hO : L2.Only Hs := fun b => by
      by_cases e : b = a
      · subst e; exact .inr ⟨_, _, at_a⟩
      · exact .inl (off_a b e)
    refine Scr.run (H := Hs) ⟨hO, fun b z => Classical.byContradiction fun e => z (off_a b e), fun _ => hk⟩ ha KX hm hb hbb nl hg hr F bi ?_ (hs _ hO (.inl (.inr ⟨_, at_a⟩)))
    intro b u z
    by_cases e : b = a
    · subst e
      rw [at_a] at z
      cases z
      exact ⟨ha, by rw [List.length_map]; exact hl, vs, 0, vi, ha⟩
    · rw [off_a b e] at z
      cases z
end
theorem walkG {l : PySem.W.OpenLaw} {n k : Nat} {q : Program} {loose : List Str} {XP : (Str → Option Value) → Heap → Prop} {YP : World → Heap → Prop} {d : DefRec} {K : Params → PySem.W.Frag} {sp : World → Sp} {x : Str}
    (hn : l.most = some n) (hn2 : n ≤ sizeLine) (nd : d.params.defaults = []) (hr : Room k callerA) (hY : ∀ (w : World) (h : Heap), YP w h → (K w.params).In h)
    (F : ∀ (w : World) (mg : Str → Option Value) (fa : Addr) (h : Heap), (K w.params).In h → h.Ns mainGlobals mg → mg d.name = some (.ref fa) →
      ∃ fd : FuncData, (∀ (s : Shared) (u : Value), BindsTo s fd ⟨[u], []⟩ [(x, u)]) ∧ ∀ base : Heap, (K w.params).In base → base.Ns mainGlobals mg → FnG l.prog w (K w.params) mg base k fa fd [x] (sp w))
    (hs : ∀ (w : World) (H : Hp) (a : Addr) (ns : List Int), ns.length ≤ n → L2.Only H → SqL (K w.params) H a (ns.map V.int) → sp w [.ref a] H (fun v _ => v = .bl true) fun _ _ _ => False) :
    PySem.W.WalkO q loose XP YP l.row.toRowW d [] (fun f vs => PySem.call f vs) := by
  refine Att.attach_call hn nd ?_
  intro w s₀ s mg mb fa o pm cd doc a vs ns G Y _ _ _ em ho hi hl hg
  have kx := hY w _ Y
  obtain ⟨fd, b, f⟩ := F w mg fa _ kx G.T.g em
  exact lawG kx G.T.g G.T.b G.T.builtins G.T.nolimit hg ho hi (Nat.le_trans hl hn2) hr f b fun H h1 h2 => hs w H a ns hl h1 h2
end T3

end
section
set_option linter.all false
set_option autoImplicit false
set_option Elab.async false
namespace T3
open PySem PySem.Spec PyProof.Rows L2
variable [TabL]
def ShOk (d : PyData) : Prop := SeqAt.shaped d = true ∧ d.showable = true ∧ d.shown.length ≤ 1000000
noncomputable instance (d : PyData) : Decidable (ShOk d) := Classical.propDecidable _
noncomputable def oRepr : List PyData → Option PyData
  | [.tuple xs] => if ShOk (.tuple xs) then some (.str (PyData.tuple xs).shown) else none
  | [.list xs] => if ShOk (.list xs) then some (.str (PyData.list xs).shown) else none
  | _ => none
def rRepr (K : PySem.W.Frag) : List V → Hp → VK → Prop := fun vs H Q => ∃ (a : Addr) (d : PyData), vs = [V.ref a] ∧ Dp K H (.ref a) d ∧ ShOk d ∧ Q (.str d.shown) H
theorem cr_repr {X : Cx} (gd : X.A.guards = some []) (hu : X.A.units + 66 < cLine) : CallR X (.builtin "repr") (rRepr X.K) := by
  intro pins s σ H xs us Q J r h
  obtain ⟨a, d, rfl, dp, ⟨sh, sw, sz⟩, q⟩ := h
  obtain ⟨u, rfl, rv⟩ := vals1 r
  have eu : u = .ref a := rv
  subst eu
  obtain ⟨as, rd⟩ := Dp.reads J d _ _ dp rfl
  have cl : d.canLay0 = true := SeqAt.canLay_of_shaped sh
  have dd := SeqAt.depth_of_shaped sh
  refine repr_of_reads' rd sw (PyData.noDict_hsm (PyData.hasDict_of_canLay d cl)) gd (by omega) (fun _ _ e => e) (fun h' t tk hk => ?_) (Nat.le_of_lt (small sz))
  exact ⟨.str d.shown, H, Inv.turnedL (ch := []) J (fun b o _ e => hk b o e) (fun b z => nomatch z), ⟨t, rfl⟩, q⟩
def oEqS : List PyData → Option PyData
  | [.str a, .str b] => some (.bool (decide (a = b)))
  | _ => none
def oNeS : List PyData → Option PyData
  | [.str a, .str b] => some (.bool (!decide (a = b)))
  | _ => none
def kNex : KK := kOr (kE oNeS) (kE oNe)
theorem ok_neS {K : PySem.W.Frag} : OkE K oNeS (l2 rNe) := by
  intro B H vs xs z Q cn ho q x y e
  unfold oNeS at ho
  split at ho
  · rename_i a b
    cases ho
    obtain ⟨v, w, e2, c1, c2⟩ := cn.two
    rw [e] at e2
    cases e2
    have e1 := c1.str
    have e3 := c2.str
    subst e1 e3
    refine ⟨rfl, ?_⟩
    have : decide (V.str a = V.str b) = decide (a = b) := by by_cases h : a = b <;> simp [h]
    rw [this]
    exact q _ (.bl _)
  · cases ho
section
variable {X : Cx} {k : Nat}
theorem q_nex (hr : Room k X.A) : Cmp2 X .NotEq kNex := ⟨_, OpR.or op_ne (op_neD (u64 hr)), con_or2 (con_E ok_neS) (con_E ok_ne)⟩
end
end T3
namespace T3
open PySem PySem.Spec PyProof.Rows L2
variable [TabL]
def eNex (fa fb : EE) : EE := eThen (eTwo fa fb) kNex
@[simp] theorem z_nex (env : Sl) (fa fb : EE) : eNex fa fb env = eThen (eCons fa (eCons fb eNil)) kNex env := rfl
theorem fn_okG {P : Program} {w : World} {K : PySem.W.Frag} {mg : Str → Option Value} {base : Heap} {x : Str} {st : Stmt} {f : Addr} {fd : FuncData} {N ps : List Str} {k n : Nat} {b : SS} (Fn : Fun K x x st f fd) (Sc : FnScope N ps (defScope st)) (hn : n = ps.length)
    (hb : ∀ (cdv : Value) (A : Around) (out : List Env) (s : Shared) (H : Hp) (E : XK), Room k (A.deeper (envOfC x (defScope st) s.heap.objs.size f cdv)) → (A.deeper (envOfC x (defScope st) s.heap.objs.size f cdv)).guards = some [] →
      PSs (cxOf CX0 P w K mg base N x (defScope st) f cdv A out s H E).nox (defBody st) (tS K b)) : FnG P w K mg base (k + 1) f fd ps (spF K (runFn N.length b) n) := by
  obtain ⟨oc, od, kV, doc, pm, an, cdv, ct, osl, rfl, lk, hcd⟩ := Fn.ex
  exact fnG_of lk hcd Sc (spF_len hn) fun A out s H xs Q E rm gd hs => ⟨_, (hb cdv A out s H E rm gd).nox, fn_body hs⟩
end T3

end
section
set_option linter.all false
set_option autoImplicit false
set_option Elab.async false
namespace T3
open PySem PySem.Spec PyProof.Rows L2
variable [TabL]
def revS (z : Str) : Str := ⟨z.cps.toList.reverse.toArray⟩
theorem rev_len (z : Str) : (revS z).length = z.length := by
  show (revS z).cps.size = z.cps.size
  simp [revS]
theorem rev_pick (z : Str) : (⟨((Builtin.Str.strSliceIndices none none (-1) z.length).filterMap (z.cps[·]?)).toArray⟩ : Str) = revS z := by
  have h : Builtin.Str.strSliceIndices none none (-1) z.length = (List.range z.cps.size).reverse := by
    show sliceRange ((z.cps.size : Int) - 1) (-1) (-1) = _
    rw [PySem.W.krv_sliceRange, PySem.W.krv_range]
  rw [h, List.filterMap_reverse, PySem.W.krv_all]
  rfl
theorem pe_revS {X : Cx} {e : Expr} {te : TE} {k : Nat} {p1 p2 p3 pos : Pos} (he : PE X e te) : PE X (.Subscript e (.Slice none none (some (.UnaryOp .USub (.Constant (.int 1) k p1) p2)) p3) pos) (fun σ H Q => te σ H fun x H1 => ∃ z : Str, x = .str z ∧ z.length ≤ 1000000 ∧ Q (.str (revS z)) H1) := by
  constructor
  intro pins s σ H Q J h
  refine Subscript_ (thn (he.run pins s σ H _ J h) ?_)
  rintro v s1 ⟨x, H1, J1, rx, z, rfl, hz, q⟩
  obtain ⟨t, rfl⟩ := rx
  have step : PO X (some (.UnaryOp .USub (.Constant (.int 1) k p1) p2)) (tPart (tUn (rU fun i => .int (-i)) (tC (.int 1)))) := po_some (pe_un un_neg pe_int)
  refine wpAny_Slice (thn (po_none.run pins s1 σ H1 (fun a Ha => a = none ∧ Ha = H1) J1 ⟨rfl, rfl⟩) ?_)
  rintro va sa ⟨a, Ha, Ja, pa, ea, eb⟩
  subst ea eb
  refine thn (po_none.run pins sa σ Ha (fun b Hb => b = none ∧ Hb = Ha) Ja ⟨rfl, rfl⟩) ?_
  rintro vb sb ⟨b, Hb, Jb, pb, ec, ed⟩
  subst ec ed
  refine thn (step.run pins sb σ Hb (fun c Hc => c = some (-1) ∧ Hc = Hb) Jb ⟨1, rfl, -1, rfl, rfl, rfl⟩) ?_
  rintro vc sc ⟨c, Hc, Jc, pc, ee, ef⟩
  subst ee ef
  obtain ⟨la, rfl, ga⟩ := IsPart.raw pa
  obtain ⟨lb, rfl, gb⟩ := IsPart.raw pb
  obtain ⟨lc, rfl, gc⟩ := IsPart.raw pc
  have J5 := Jc.kept (h' := sc.heap.push { cls := .type "slice", data := .fields #[partValue la, partValue lb, partValue lc] }) (t' := sc.toks) fun b ob q => Heap.get?_push_of_some _ q
  show wpAny (model X.prog X.w) X.A (subscriptTail e (.Slice none none (some (.UnaryOp .USub (.Constant (.int 1) k p1) p2)) p3) (.str z t) (.ref sc.heap.objs.size)) (EP X pins σ Q) X.xe { sc with heap := sc.heap.push { cls := .type "slice", data := .fields #[partValue la, partValue lb, partValue lc] } }
  refine tail_any (ops := [.str z t, .ref sc.heap.objs.size]) (typeIs_str _ z t) F.slot_str_getitem.lookup ?_ (by with_unfolding_all rfl)
  have ea : la = none := by cases la with | none => rfl | some _ => cases ga
  have eb : lb = none := by cases lb with | none => rfl | some _ => cases gb
  obtain ⟨tc, ec⟩ : ∃ tc, lc = some (-1, tc) := by
    cases lc with
    | none => cases gc
    | some y =>
      obtain ⟨y1, y2⟩ := y
      cases gc
      exact ⟨y2, rfl⟩
  subst ea eb ec
  refine wpAny_getItem_str_slice (l := none) (u := none) (st := some (-1, tc)) ⟨_, Heap.get?_push_size _ rfl, rfl, rfl⟩ rfl ?_
  show Made.post (if ((-1 : Int) == 1 && (Builtin.Str.strSliceIndices none none (-1) z.length).length == z.length) = true then Made.val (.str z t) else Made.str ⟨((Builtin.Str.strSliceIndices none none (-1) z.length).filterMap (z.cps[·]?)).toArray⟩) (EP X pins σ Q) _
  rw [if_neg (by simp), rev_pick]
  exact ⟨by rw [rev_len]; exact Nat.le_of_lt (small hz), .str _, _, J5.tok _, ⟨_, rfl⟩, q⟩
def eRevS (f : EE) : EE := fun env => match f env with
  | some (.pd (.str z), e) => if z.length ≤ 1000000 then some (.pd (.str (revS z)), e) else none
  | _ => none
theorem e_revS {X : Cx} {e : Expr} {f : EE} {k : Nat} {p1 p2 p3 pos : Pos} (he : PE X e (tE X.K f)) : PE X (.Subscript e (.Slice none none (some (.UnaryOp .USub (.Constant (.int 1) k p1) p2)) p3) pos) (tE X.K (eRevS f)) := PE.imp (pe_revS he) fun σ H Q t => by
  obtain ⟨B, env, d, env', en, ev, q⟩ := t
  unfold eRevS at ev
  split at ev
  · rename_i z e1 h1
    split at ev
    · rename_i hz
      cases ev
      refine ⟨B, env, _, _, en, h1, fun B1 H1 v a1 r1 => ?_⟩
      have r1 : Rp X.K B1 H1 v (.str z) := r1
      cases r1
      exact ⟨z, rfl, hz, q _ _ _ a1 (.str _)⟩
    · cases ev
  · cases ev
end T3

end
section
set_option linter.all false
set_option autoImplicit false
set_option Elab.async false
namespace T3
open PySem PySem.Spec PyProof.Rows L2
variable [TabL]
def strs? : List PyData → Option (List Str)
  | [] => some []
  | .str s :: xs => match strs? xs with
    | none => none
    | some ys => some (s :: ys)
  | _ => none
theorem strs_map : ∀ {xs : List PyData} {ys : List Str}, strs? xs = some ys → xs = ys.map .str
  | [], ys, h => by cases h; rfl
  | .str s :: xs, ys, h => by
    unfold strs? at h
    split at h
    · cases h
    · rename_i zs hz
      cases h
      rw [strs_map hz]
      rfl
  | .int _ :: _, _, h => by cases h
  | .bool _ :: _, _, h => by cases h
  | .none :: _, _, h => by cases h
  | .list _ :: _, _, h => by cases h
  | .tuple _ :: _, _, h => by cases h
  | .dict _ :: _, _, h => by cases h
def JoOk (a : Str) (ys : List Str) : Prop := (ys.map (·.length)).sum + ys.length * a.length ≤ 16777216
noncomputable instance (a : Str) (ys : List Str) : Decidable (JoOk a ys) := Classical.propDecidable _
noncomputable def oJoin : List PyData → Option PyData
  | [.str a, .list xs] => match strs? xs with
    | some ys => if JoOk a ys then some (.str (Txt.join a ys)) else none
    | none => none
  | _ => none
theorem c_join {K : PySem.W.Frag} : Con K (kE oJoin) (lm fun x xs H Q => ∃ a p, ∃ ys : List Str, x = .str a ∧ xs = [.ref p] ∧ (SqL K H p (ys.map V.str) ∨ SqT K H p (ys.map V.str)) ∧
    (ys.map (·.length)).sum + ys.length * a.length ≤ 16777216 ∧ Q (.str (Txt.join a ys)) H) := con_E <| by
  intro B H vs xs z Q cn ho q x us e
  unfold oJoin at ho
  split at ho
  · rename_i a zs
    split at ho
    · rename_i ys hy
      split at ho
      · rename_i hj
        cases ho
        obtain ⟨v, w, e2, c1, c2⟩ := cn.two
        rw [e] at e2
        cases e2
        have e1 := c1.str
        subst e1
        obtain ⟨p, ws, rfl, h1, h2⟩ := c2.list
        rw [strs_map hy] at h2
        have := h2.strs
        subst this
        exact ⟨a, p, ys, rfl, rfl, .inl h1, hj, q _ (.str _)⟩
      · cases ho
    · cases ho
  · cases ho
section
variable {X : Cx} {o e : Expr} {fo : EE} {fa : EA} {apos cpos : Pos}
theorem m_join (ho : PE X o (tE X.K fo)) (ha : PA X [e] (tA X.K fa)) (hbase : attributeBase o "join" X.env (eval o X.env) = eval o X.env := by rfl)
    (hfew : ((backTo cpos (starEach [e] X.env)).all (fun x => !x.1) && (backToKw cpos (keywordEach [] X.env)).all (fun x => x.1.isSome)
      && decide (([e] : List Expr).length + ([] : List Keyword).length + (if ([] : List Keyword).isEmpty then 0 else 1) < 30)) = true := by rfl)
    (hline : (apos.endLine == cpos.line) = true := by rfl) (hs : starEach [e] X.env = (false, eval e X.env) :: starEach [] X.env := by rfl) (hplain : (backTo cpos (starEach [] X.env)).any (·.1) = false := by rfl) :
    PE X (.Call (.Attribute o "join" apos) [e] [] cpos) (tE X.K (eBM isS fo fa (kE oJoin))) :=
  PE.imp (pe_bm PySem.F.plainAttrs_str PySem.F.slot_str_join PySem.F.type_str_join mt_join ho ha hbase hfew hline hs hplain) fun _ _ _ t => rd_bm ty_S c_join t
end
end T3

end
section
set_option linter.all false
set_option autoImplicit false
set_option Elab.async false
namespace T3
open PySem L2
variable [TabL]

mutual
def nk? : PyData → Option NestedKey
  | .none => some .none
  | .int i => some (.num i)
  | .tuple xs => match nks? xs with
    | some ks => some (.tup ks)
    | none => none
  | .bool _ => none
  | .str _ => none
  | .list _ => none
  | .dict _ => none
def nks? : List PyData → Option (List NestedKey)
  | [] => some []
  | x :: xs => match nk? x with
    | some k => match nks? xs with
      | some ks => some (k :: ks)
      | none => none
    | none => none
end
mutual
theorem nk_ok : ∀ (x : PyData) (k : NestedKey), nk? x = some k → k.data = x ∧ ∀ w w', NestedKey.hash w k = NestedKey.hash w' k
  | .none, k, h => by simp only [nk?, Option.some.injEq] at h; subst h; exact ⟨by simp only [NestedKey.data], fun _ _ => by simp only [NestedKey.hash]⟩
  | .int i, k, h => by simp only [nk?, Option.some.injEq] at h; subst h; exact ⟨by simp only [NestedKey.data], fun _ _ => by simp only [NestedKey.hash]⟩
  | .tuple xs, k, h => by
    rw [nk?] at h
    cases e : nks? xs with
    | none => rw [e] at h; cases h
    | some ks =>
      rw [e] at h
      cases h
      obtain ⟨h1, h2⟩ := nks_ok xs ks e
      exact ⟨by rw [NestedKey.data, h1], fun w w' => by rw [NestedKey.hash, NestedKey.hash, h2 w w']⟩
  | .bool _, k, h => by simp [nk?] at h
  | .str _, k, h => by simp [nk?] at h
  | .list _, k, h => by simp [nk?] at h
  | .dict _, k, h => by simp [nk?] at h
theorem nks_ok : ∀ (xs : List PyData) (ks : List NestedKey), nks? xs = some ks → NestedKey.datas ks = xs ∧ ∀ w w', NestedKey.hashes w ks = NestedKey.hashes w' ks
  | [], ks, h => by simp only [nks?, Option.some.injEq] at h; subst h; exact ⟨by simp only [NestedKey.datas], fun _ _ => by simp only [NestedKey.hashes]⟩
  | x :: xs, ks, h => by
    rw [nks?] at h
    cases e : nk? x with
    | none => rw [e] at h; cases h
    | some k =>
      cases e2 : nks? xs with
      | none => rw [e, e2] at h; cases h
      | some ks' =>
        rw [e, e2] at h
        cases h
        obtain ⟨h1, h2⟩ := nk_ok x k e
        obtain ⟨h3, h4⟩ := nks_ok xs ks' e2
        exact ⟨by rw [NestedKey.datas, h1, h3], fun w w' => by rw [NestedKey.hashes, NestedKey.hashes, h2 w w', h4 w w']⟩
end
def tk? (x : PyData) : Option NestedKey := match nk? x with
  | some (.tup ks) => if (NestedKey.tup ks).depth ≤ 8 then some (.tup ks) else none
  | _ => none
theorem tk_ok {x : PyData} {k : NestedKey} (h : tk? x = some k) : NkOk k ∧ k.data = x := by
  unfold tk? at h
  split at h
  · rename_i ks e
    split at h
    · rename_i hd
      cases h
      obtain ⟨h1, h2⟩ := nk_ok _ _ e
      exact ⟨⟨hd, h2, ks, rfl⟩, h1⟩
    · cases h
  · cases h

def valN (kvs : List (NestedKey × PyData)) (k : NestedKey) : Option PyData := (kvs.find? fun q => decide (q.1 = k)).map (·.2)
def putN (kvs : List (NestedKey × PyData)) (k : NestedKey) (x : PyData) : List (NestedKey × PyData) :=
  if (valN kvs k).isSome = true then kvs.map (fun q => if q.1 = k then (q.1, x) else q) else kvs ++ [(k, x)]

def DnAt (K : PySem.W.Frag) (B : Mset) (H : Hp) (a : Addr) (kvs : List (NestedKey × PyData)) : Prop :=
  (kvs = [] ∧ H a = some (.dK [])) ∨ ∃ es, H a = some (DnO a es) ∧ DnR K B H es kvs

def KnE (K : PySem.W.Frag) (B : Mset) (H : Hp) (q : NestedKey × PyData) (x : NestedKey × Addr × Value) : Prop :=
  x.1 = q.1 ∧ NkOk q.1 ∧ Rp K B H (.ref x.2.1) q.1.data ∧ ∃ v, RelV v x.2.2 ∧ Rp K B H v q.2
abbrev Kn (K : PySem.W.Frag) (B : Mset) (H : Hp) : List (NestedKey × PyData) → List (NestedKey × Addr × Value) → Prop := Paired (KnE K B H)

section
variable {K : PySem.W.Frag} {B : Mset} {H : Hp}
theorem Kn.val {k : NestedKey} : ∀ {kvs : List (NestedKey × PyData)} {xs : List (NestedKey × Addr × Value)}, Kn K B H kvs xs → (∃ p v z, atKey xs k = some p ∧ valN kvs k = some z ∧ RelV v p.2 ∧ Rp K B H v z) ∨ (atKey xs k = none ∧ valN kvs k = none)
  | _, _, .nil => .inr ⟨rfl, rfl⟩
  | _, _, .cons (a := q) (b := x) r t => by
    obtain ⟨e1, _, _, v, rv, rp⟩ := r
    by_cases e : q.1 = k
    · have e' : x.1 = k := by rw [e1]; exact e
      exact .inl ⟨x.2, v, q.2, by simp [atKey, e'], by simp [valN, e], rv, rp⟩
    · have e' : ¬ x.1 = k := by rw [e1]; exact e
      rcases Kn.val (k := k) t with ⟨p, v, z, h1, h2, h3⟩ | ⟨h1, h2⟩
      · exact .inl ⟨p, v, z, by simpa [atKey, e'] using h1, by simpa [valN, e] using h2, h3⟩
      · exact .inr ⟨by simpa [atKey, e'] using h1, by simpa [valN, e] using h2⟩
theorem Kn.map {k : NestedKey} {v : V} {u : Value} {z : PyData} (rv : RelV v u) (rp : Rp K B H v z) : ∀ {kvs : List (NestedKey × PyData)} {xs : List (NestedKey × Addr × Value)}, Kn K B H kvs xs → Kn K B H (kvs.map fun q => if q.1 = k then (q.1, z) else q) (xs.map (putAt k u))
  | _, _, .nil => .nil
  | _, _, .cons (a := q) (b := x) r t => by
    refine .cons ?_ (Kn.map rv rp t)
    obtain ⟨e1, e2, e3, e4⟩ := r
    by_cases e : q.1 = k
    · have e' : x.1 = k := by rw [e1]; exact e
      unfold putAt
      dsimp only
      rw [if_pos e, if_pos e']
      exact ⟨e1, e2, e3, v, rv, rp⟩
    · have e' : ¬ x.1 = k := by rw [e1]; exact e
      unfold putAt
      dsimp only
      rw [if_neg e, if_neg e']
      exact ⟨e1, e2, e3, e4⟩
theorem Kn.snoc {q : NestedKey × PyData} {x : NestedKey × Addr × Value} (r : KnE K B H q x) : ∀ {kvs : List (NestedKey × PyData)} {xs : List (NestedKey × Addr × Value)}, Kn K B H kvs xs → Kn K B H (kvs ++ [q]) (xs ++ [x])
  | _, _, .nil => .cons r .nil
  | _, _, .cons h t => .cons h (Kn.snoc r t)
theorem Kn.put {k : NestedKey} {b : Addr} {v : V} {u : Value} {z : PyData} {kvs : List (NestedKey × PyData)} {xs : List (NestedKey × Addr × Value)} (h : Kn K B H kvs xs) (hk : NkOk k) (rk : Rp K B H (.ref b) k.data) (rv : RelV v u) (rp : Rp K B H v z) : Kn K B H (putN kvs k z) (storedH xs k b u) := by
  unfold putN storedH
  rcases h.val (k := k) with ⟨p, v', z', h1, h2, _⟩ | ⟨h1, h2⟩
  · rw [h1, h2]
    exact h.map rv rp
  · rw [h1, h2]
    exact h.snoc ⟨rfl, hk, rk, v, rv, rp⟩
theorem Kn.dn {P : Program} {w : World} : ∀ {kvs : List (NestedKey × PyData)} {xs : List (NestedKey × Addr × Value)}, Kn K B H kvs xs → Paired (DnE K B H) (xs.map (entryOfKey (nestedKind P w))) kvs
  | _, _, .nil => .nil
  | _, _, .cons (a := q) (b := x) r t => by
    obtain ⟨e1, e2, e3, e4⟩ := r
    refine .cons ⟨e2, fun w' => ?_, ⟨x.2.1, rfl, e3⟩, e4⟩ (Kn.dn t)
    show _ = NestedKey.hash w x.1
    rw [e1]
    exact e2.2.1 w' w
theorem Kn.of {P : Program} {w : World} : ∀ {es : List DictEntry} {kvs : List (NestedKey × PyData)}, Paired (DnE K B H) es kvs → ∃ xs, Kn K B H kvs xs ∧ es = xs.map (entryOfKey (nestedKind P w))
  | _, _, .nil => ⟨[], .nil, rfl⟩
  | _, _, .cons (a := e) (b := q) r t => by
    obtain ⟨xs, h1, h2⟩ := Kn.of (P := P) (w := w) t
    obtain ⟨e1, e2, ⟨b, e3, e4⟩, e5⟩ := r
    refine ⟨(q.1, b, e.val) :: xs, .cons ⟨rfl, e1, e4, e5⟩ h1, ?_⟩
    rw [List.map_cons, ← h2]
    congr 1
    show e = ⟨NestedKey.hash w q.1, .ref b, e.val⟩
    rw [e2 w, ← e3]
theorem Kn.len {kvs : List (NestedKey × PyData)} {xs : List (NestedKey × Addr × Value)} (h : Kn K B H kvs xs) : kvs.length = xs.length := Paired.length h
theorem Kn.keys : ∀ {kvs : List (NestedKey × PyData)} {xs : List (NestedKey × Addr × Value)}, Kn K B H kvs xs → xs.map (·.1) = kvs.map (·.1)
  | _, _, .nil => rfl
  | _, _, .cons r t => by rw [List.map_cons, List.map_cons, r.1, Kn.keys t]
end

mutual
theorem nk_is {P : Program} {w : World} {K : PySem.W.Frag} {B : Mset} {H : Hp} {h : Heap} (hok : HOk P w H h) (KX : K.In h) : ∀ (k : NestedKey) (v : V) (u : Value), Rp K B H v k.data → RelV v u → NestedIs h k u
  | .none, v, u, r, q => by
    rw [NestedKey.data] at r
    cases r
    cases (show u = Value.none from q)
    exact .none
  | .num i, v, u, r, q => by
    rw [NestedKey.data] at r
    cases r
    obtain ⟨t, rfl⟩ := (show ∃ t, u = Value.int i t from q)
    exact .int i t
  | .text x, v, u, r, q => by
    rw [NestedKey.data] at r
    cases r
    obtain ⟨t, rfl⟩ := (show ∃ t, u = Value.str x t from q)
    exact .text x t
  | .tup ks, v, u, r, q => by
    rw [NestedKey.data] at r
    cases r with
    | @tup a xs ds h1 h2 =>
      cases (show u = Value.ref a from q)
      obtain ⟨its, o, n, rv, ho, hc, hd⟩ := sqT_at hok KX h1
      exact .tup ho hc hd (nks_is hok KX ks xs its h2 rv)
theorem nks_is {P : Program} {w : World} {K : PySem.W.Frag} {B : Mset} {H : Hp} {h : Heap} (hok : HOk P w H h) (KX : K.In h) : ∀ (ks : List NestedKey) (vs : List V) (us : List Value), RpA K B H vs (NestedKey.datas ks) → Vals vs us → NestedAll h ks us
  | [], vs, us, r, q => by
    rw [NestedKey.datas] at r
    cases r
    cases q
    exact .nil
  | k :: ks, vs, us, r, q => by
    rw [NestedKey.datas] at r
    cases r with
    | cons r1 r2 =>
      cases q with
      | cons q1 q2 => exact .cons (nk_is hok KX k _ _ r1 q1) (nks_is hok KX ks _ _ r2 q2)
end

section
variable {X : Cx} {pins : List (Addr × Obj)} {σ : St} {H : Hp} {s : Shared} {a : Addr} {A : Around} {E : Value → Shared → Prop} {B : Mset} {kvs : List (NestedKey × PyData)} {k : NestedKey}
theorem room9 (hu : A.units + 9 < cLine) : (nestedKind X.prog X.w).room A.in1 := by
  show A.units + 1 + 8 < cLine
  omega
theorem nk_key (I : Inv X pins σ H s) (hk : NkOk k) {b : Addr} (r : Rp X.K B H (.ref b) k.data) : (nestedKind X.prog X.w).is s.heap k b := ⟨nk_is I.hok I.kIn k _ _ r rfl, hk.1⟩
theorem nk_ref (hk : NkOk k) {y : V} {K : PySem.W.Frag} (r : Rp K B H y k.data) : ∃ b, y = .ref b := by
  obtain ⟨_, _, ks, rfl⟩ := hk
  rw [NestedKey.data] at r
  cases r
  exact ⟨_, rfl⟩
theorem dn_open (I : Inv X pins σ H s) (d : DnAt X.K B H a kvs) : (a == sysModules) = false ∧ kvs.length ≤ sizeLine ∧ (kvs.map (·.1)).Nodup ∧ ∃ xs, s.heap.DictOfH (nestedKind X.prog X.w) a xs ∧ Kn X.K B H kvs xs := by
  rcases d with ⟨rfl, d⟩ | ⟨es, d, r⟩
  · obtain ⟨z, y, vs, r, o, es, ep, e1, e2, e3, e4, e5, e6⟩ := dk_of I.hok d
    refine ⟨y, Nat.zero_le _, List.nodup_nil, [], ⟨o, es, ep, e1, e2, e3, ?_, fun _ h => by simp at h, List.nodup_nil⟩, .nil⟩
    cases r
    cases h : es.toList with
    | nil => rfl
    | cons a b => rw [h] at e5; cases e5
  · obtain ⟨⟨y, z, e1, e2, e3⟩, _⟩ := I.hok a _ d
    obtain ⟨xs, x1, x2⟩ := Kn.of (P := X.prog) (w := X.w) r.ent
    refine ⟨y, by rw [← Paired.length r.ent]; exact z, r.nd, xs, ⟨es.o, es.es.toArray, es.ep, e1, e2, e3, by simpa using x2, ?_, by rw [x1.keys]; exact r.nd⟩, x1⟩
    intro x hx
    have all : ∀ {kvs : List (NestedKey × PyData)} {xs : List (NestedKey × Addr × Value)}, Kn X.K B H kvs xs → ∀ x ∈ xs, NkOk x.1 ∧ Rp X.K B H (.ref x.2.1) x.1.data := by
      intro kvs xs h
      induction h with
      | nil => intro x hx; simp at hx
      | cons r t ih =>
        intro x hx
        rcases List.mem_cons.mp hx with rfl | hx
        · obtain ⟨e1, e2, e3, _⟩ := r
          rw [e1]; exact ⟨e2, e3⟩
        · exact ih x hx
    obtain ⟨h1, h2⟩ := all x1 x hx
    exact nk_key I h1 h2
end

def DGt (K : PySem.W.Frag) (B : Mset) (H : Hp) (a : Addr) (y : V) (o : Option PyData) : Prop :=
  (∃ kvs ws k, H a = some (.dK ws) ∧ KvR K B H ws kvs ∧ y = kV k ∧ o = valD kvs k) ∨ ∃ kvs k, DnAt K B H a kvs ∧ NkOk k ∧ Rp K B H y k.data ∧ o = valN kvs k
section
variable {X : Cx} {pins : List (Addr × Obj)} {σ : St} {H : Hp} {s : Shared} {a : Addr} {A : Around} {E : Value → Shared → Prop} {B : Mset} {y : V} {u : Value} {o : Option PyData}
theorem dg_type (I : Inv X pins σ H s) (g : DGt X.K B H a y o) : s.TypeIs (.ref a) "dict" := by
  rcases g with ⟨kvs, ws, k, e, _⟩ | ⟨kvs, k, e, _⟩
  · obtain ⟨_, _, vs, _, dd⟩ := dk_of I.hok e
    exact dd.typeIs
  · obtain ⟨_, _, _, xs, dd, _⟩ := dn_open I e
    exact dd.typeIs
theorem dg_getItem {z : PyData} {Q : Value → Shared → Prop} (hu : A.units + 9 < cLine) (I : Inv X pins σ H s) (g : DGt X.K B H a y (some z)) (ry : RelV y u)
    (h : ∀ w' s' v, Inv X pins σ H s' → RelV v w' → Rp X.K B H v z → Q w' s') : wpAny (model X.prog X.w) A (getItem (.ref a) u) Q E s := by
  rcases g with ⟨kvs, ws, k, e, r, rfl, l⟩ | ⟨kvs, k, e, hk, rk, l⟩
  · rcases r.val (k := k) with ⟨v, x, h1, h2, h3⟩ | ⟨h1, h2⟩
    · rw [h2] at l; cases l
      exact d_getItem (by omega) I (.inl ⟨ws, k, .inl e, rfl, h1.symm⟩) ry fun w' s' I' rv => h w' s' v I' rv h3
    · rw [h2] at l; cases l
  · obtain ⟨b, rfl⟩ := nk_ref hk rk
    cases (show u = Value.ref b from ry)
    obtain ⟨_, _, _, xs, dd, kn⟩ := dn_open I e
    rcases kn.val (k := k) with ⟨p, v, z', h1, h2, h3, h4⟩ | ⟨h1, h2⟩
    · rw [h2] at l; cases l
      exact wpAny_getItem_heap (room9 hu) (nk_key I hk rk) dd h1 (h _ _ v (I.tok _) h3 h4)
    · rw [h2] at l; cases l
end
end T3

end
section
set_option linter.all false
set_option autoImplicit false
set_option Elab.async false
namespace T3
open PySem L2
variable [TabL]

def pdOf : R → Option PyData
  | .pd x => some x
  | .nt xs => some (.tuple xs)
  | .tmp _ => none
  | .var _ => none
theorem pdOf_rp {K : PySem.W.Frag} {H₀ : Hp} {B : Mset} {H : Hp} {σ : St} {env : Sl} {v : V} {d : R} {x : PyData} (h : RR K H₀ B H σ env v d) (e : pdOf d = some x) : Rp K B H v x := by
  cases d with
  | pd y => cases e; exact h
  | nt y => cases e; obtain ⟨a, rfl, h⟩ := h; exact h.rp
  | tmp t => cases e
  | var i => cases e
def cGet : Ct → PyData → Option (Option PyData)
  | .dk kvs, y => match key? y with
    | some k => some (valD kvs k)
    | none => match tk? y with
      | some _ => match kvs with
        | [] => some none
        | _ :: _ => none
      | none => none
  | .dn kvs, y => match tk? y with
    | some k => some (valN kvs k)
    | none => none
  | .ls _, _ => none
theorem cGet_ok {K : PySem.W.Frag} {B : Mset} {H : Hp} {a : Addr} {c : Ct} {v : V} {y : PyData} {o : Option PyData} (hc : CtR K B H a c) (r : Rp K B H v y) (e : cGet c y = some o) : DGt K B H a v o := by
  cases c with
  | ls xs => cases e
  | dk kvs =>
    obtain ⟨ws, h1, h2⟩ := hc
    dsimp only [cGet] at e
    split at e
    · rename_i k hk
      cases e
      exact .inl ⟨kvs, ws, k, h1, h2, key_v r hk, rfl⟩
    · split at e
      · rename_i k hk
        split at e
        · cases e
          obtain ⟨k1, k2⟩ := tk_ok hk
          refine .inr ⟨[], k, .inl ⟨rfl, ?_⟩, k1, by rw [k2]; exact r, rfl⟩
          cases h2
          exact h1
        · cases e
      · cases e
  | dn kvs =>
    obtain ⟨es, h1, h2⟩ := hc
    dsimp only [cGet] at e
    split at e
    · rename_i k hk
      cases e
      obtain ⟨k1, k2⟩ := tk_ok hk
      exact .inr ⟨kvs, k, .inr ⟨es, h1, h2⟩, k1, by rw [k2]; exact r, rfl⟩
    · cases e
def dGet (env : Sl) (j : Nat) (y : PyData) : Option (Option PyData) := match env[j]? with
  | some (some (.mu _ c)) => cGet c y
  | _ => none
theorem dGet_ok {K : PySem.W.Frag} {B : Mset} {H : Hp} {σ : St} {env : Sl} {j : Nat} {w v : V} {y : PyData} {o : Option PyData} (en : EnvR K B H σ env) (hx : σ[j]? = some (some w)) (r : Rp K B H v y) (e : dGet env j y = some o) : ∃ a, w = .ref a ∧ DGt K B H a v o := by
  unfold dGet at e
  split at e
  · rename_i m c hm
    obtain ⟨p, g1, g2, g3⟩ := en.mu j _ _ hm
    rw [hx] at g1
    cases g1
    exact ⟨p, rfl, cGet_ok g3 r e⟩
  · cases e
def eDg (fd fk : EE) : EE := fun env => match fd env with
  | some (.var j, e1) => match fk e1 with
    | some (d, e2) => match pdOf d with
      | some y => match dGet e2 j y with
        | some (some z) => some (.pd z, e2)
        | _ => none
      | none => none
    | none => none
  | _ => none
def tDg (K : PySem.W.Frag) (td ty : TE) : TE := fun σ H Q => td σ H fun x H1 => ty σ H1 fun y H2 => ∃ B a z, x = .ref a ∧ DGt K B H2 a y (some z) ∧ ∀ v, Rp K B H2 v z → Q v H2
theorem pe_dg {X : Cx} {o i : Expr} {pos : Pos} {td ty : TE} (hu : X.A.units + 9 < cLine) (ho : PE X o td) (hi : PE X i ty) (hs : NoSl i) : PE X (.Subscript o i pos) (tDg X.K td ty) := by
  refine ⟨fun pins s σ H Q I h => ?_⟩
  refine subD_of PySem.F.slot_dict_getitem.lookup hs (thn (ho.run pins s σ H _ I h) fun u s1 ⟨x, H1, I1, rx, q1⟩ => thn (hi.run pins s1 σ H1 _ I1 q1) fun iv s2 ⟨y, H2, I2, ry, B, a, z, ex, g, q2⟩ => ?_)
  subst ex
  obtain rfl : u = Value.ref a := rx
  exact ⟨dg_type I2 g, dg_getItem hu I2 g ry fun w' s3 v I3 rw' rz => ⟨v, H2, I3, rw', q2 v rz⟩⟩
theorem e_dg {X : Cx} {o i : Expr} {pos : Pos} {fd fk : EE} (hu : X.A.units + 9 < cLine) (ho : PE X o (tE X.K fd)) (hi : PE X i (tE X.K fk)) (hs : NoSl i := by intro _ _; rfl) : PE X (.Subscript o i pos) (tE X.K (eDg fd fk)) := PE.imp (pe_dg hu ho hi hs) fun σ H Q t => by
  obtain ⟨B, env, d, env', en, ev, q⟩ := t
  unfold eDg at ev
  split at ev
  · rename_i j e1 h1
    split at ev
    · rename_i d' e2 h2
      split at ev
      · rename_i y hy
        split at ev
        · rename_i z hz
          cases ev
          refine ⟨B, env, _, _, en, h1, fun B1 H1 w a1 r1 => ⟨B1, e1, _, _, a1.en, h2, fun B2 H2 v a2 r2 => ?_⟩⟩
          obtain ⟨a, rfl, g⟩ := dGet_ok a2.en r1.1 (pdOf_rp r2 hy) hz
          exact ⟨B2, a, z, rfl, g, fun v r => q B2 H2 v (a1.trans en a2) r⟩
        · cases ev
      · cases ev
    · cases ev
  · cases ev
section
variable {X : Cx} {i o : Expr} {fk fd : EE} {pos : Pos}
end

def cPut : Ct → PyData → PyData → Option Ct
  | .dk kvs, y, x => if kvs.length ≤ 1000000 then match key? y with
    | some k => some (.dk (putD kvs k x))
    | none => match tk? y with
      | some k => match kvs with
        | [] => some (.dn [(k, x)])
        | _ :: _ => none
      | none => none
    else none
  | .dn kvs, y, x => if kvs.length ≤ 1000000 then match tk? y with
    | some k => some (.dn (putN kvs k x))
    | none => none
    else none
  | .ls _, _, _ => none
def rSetD (K : PySem.W.Frag) : TSet := fun o i v H Q => ∃ B a x, o = .ref a ∧ Rp K B H v x ∧
  ((∃ kvs ws k, H a = some (.dK ws) ∧ KvR K B H ws kvs ∧ ws.length < sizeLine ∧ i = kV k ∧ Q (upd H a (.dK (putK ws k v)))) ∨
   ∃ kvs k, DnAt K B H a kvs ∧ NkOk k ∧ Rp K B H i k.data ∧ kvs.length < sizeLine ∧ ∀ es, DnR K B H es (putN kvs k x) → Q (upd H a (DnO a es)))
theorem valN_nd {kvs : List (NestedKey × PyData)} {k : NestedKey} (h : valN kvs k = none) : k ∉ kvs.map (·.1) := by
  unfold valN at h
  rw [Option.map_eq_none_iff, List.find?_eq_none] at h
  intro hm
  obtain ⟨q, h1, h2⟩ := List.mem_map.mp hm
  exact h q h1 (by simp [h2])
theorem putN_nd {kvs : List (NestedKey × PyData)} {k : NestedKey} {x : PyData} (h : (kvs.map (·.1)).Nodup) : ((putN kvs k x).map (·.1)).Nodup := by
  unfold putN
  split
  · have e : (kvs.map fun q => if q.1 = k then (q.1, x) else q).map (·.1) = kvs.map (·.1) := by
      rw [List.map_map]
      refine List.map_congr_left fun q _ => ?_
      show (if q.1 = k then (q.1, x) else q).1 = q.1
      split <;> rfl
    rw [e]; exact h
  · rename_i hn
    have hn' : valN kvs k = none := by
      cases e : valN kvs k with
      | none => rfl
      | some z => rw [e] at hn; exact absurd rfl hn
    rw [List.map_append, List.nodup_append]
    refine ⟨h, by simp, fun a ha b hb => ?_⟩
    simp only [List.map_cons, List.map_nil, List.mem_singleton] at hb
    subst hb
    intro e
    subst e
    exact valN_nd hn' ha
theorem putN_len (kvs : List (NestedKey × PyData)) (k : NestedKey) (x : PyData) : (putN kvs k x).length ≤ kvs.length + 1 := by
  unfold putN
  split <;> simp
theorem dn_put {X : Cx} {pins : List (Addr × Obj)} {σ : St} {H : Hp} {s : Shared} {a : Addr} {A : Around} {E : Value → Shared → Prop} {B : Mset} {kvs : List (NestedKey × PyData)} {k : NestedKey} {i v : V} {iv u : Value} {x : PyData} {Q : Unit → Shared → Prop}
    (hu : A.units + 9 < cLine) (I : Inv X pins σ H s) (d : DnAt X.K B H a kvs) (hk : NkOk k) (rk : Rp X.K B H i k.data) (hl : kvs.length < sizeLine) (ri : RelV i iv) (rv : RelV v u) (rp : Rp X.K B H v x)
    (h : ∀ es s', DnR X.K B H es (putN kvs k x) → Inv X pins σ (upd H a (DnO a es)) s' → Q () s') : wpAny (model X.prog X.w) A (setItem (.ref a) iv u) Q E s := by
  obtain ⟨b, rfl⟩ := nk_ref hk rk
  cases (show iv = Value.ref b from ri)
  obtain ⟨ns, _, nd, xs, dd, kn⟩ := dn_open I d
  have mu : Mut (H a) := by
    rcases d with ⟨_, d⟩ | ⟨es, d, _⟩
    · rw [d]; exact True.intro
    · rw [d]; exact True.intro
  refine wpAny_setItem_heap (hsz := by rw [← kn.len]; omega) (room9 hu) (nk_key I hk rk) dd fun h' dd' hs => ?_
  have kn' := kn.put hk rk rv rp
  obtain ⟨q, es, ep, hq, h2, h3, h4, _, h5⟩ := dd'
  refine h ⟨q, ep, (storedH xs k b u).map (entryOfKey (nestedKind X.prog X.w))⟩ _ ⟨kn'.dn, putN_nd nd⟩ (d_write I mu hs ⟨q, hq⟩ ⟨⟨ns, ?_, hq, h2, ?_⟩, ⟨q, hq⟩, fun h1 h2 ⟨z1, z2, z3, z4, z5⟩ st => ⟨z1, z2, st _ z3, z4, z5⟩⟩)
  · dsimp only
    rw [List.length_map, ← kn'.len]
    have := putN_len kvs k x
    omega
  · dsimp only
    rw [← h4, Array.toArray_toList]; exact h3
theorem set_dict {X : Cx} (hu : X.A.units + 9 < cLine) : PSet X (rSetD X.K) := by
  intro pins s σ H o i v ov iv u Q I ro ri rv h
  obtain ⟨B, a, x, rfl, rp, h⟩ := h
  cases (show ov = Value.ref a from ro)
  rcases h with ⟨kvs, ws, k, h1, h2, h3, rfl, q⟩ | ⟨kvs, k, h1, h2, h3, h4, q⟩
  · exact d_setItem (by omega) I (.inl ⟨ws, k, h1, rfl, h3, rfl⟩) ri rv fun s4 I4 => ⟨_, I4, q⟩
  · exact dn_put hu I h1 h2 h3 h4 ri rv rp fun es s' r I' => ⟨_, I', q es r⟩
def dPut (env : Sl) (j : Nat) (y x : PyData) : Option Sl := match env[j]? with
  | some (some (.mu m c)) => if m = .fro then none else match cPut c y x with
    | some c' => some (env.set j (some (.mu m c')))
    | none => none
  | _ => none
theorem lt_line {n : Nat} (h : n ≤ 1000000) : n < sizeLine := small h
theorem dPut_ok {K : PySem.W.Frag} {B : Mset} {H : Hp} {σ : St} {env env' : Sl} {j : Nat} {w v i : V} {y x : PyData} {Q : Hp → Prop} (en : EnvR K B H σ env) (hx : σ[j]? = some (some w)) (ry : Rp K B H i y) (rx : Rp K B H v x) (e : dPut env j y x = some env')
    (q : ∀ B' H', At K σ B H env B' H' env' → Q H') : rSetD K w i v H Q := by
  unfold dPut at e
  split at e
  · rename_i m c hm
    split at e
    · cases e
    rename_i hf
    split at e
    · rename_i c' hc
      cases e
      obtain ⟨p, g1, g2, g3⟩ := en.mu j _ _ hm
      rw [hx] at g1
      cases g1
      refine ⟨B, p, x, rfl, rx, ?_⟩
      cases c with
      | ls xs => cases hc
      | dk kvs =>
        obtain ⟨ws, g4, g5⟩ := g3
        dsimp only [cPut] at hc
        split at hc
        · rename_i hl
          split at hc
          · rename_i k hk
            cases hc
            refine .inl ⟨kvs, ws, k, g4, g5, by rw [g5.len]; exact lt_line hl, key_v ry hk, ?_⟩
            obtain ⟨gw, aw⟩ := AtS.write (o := .dK (putK ws k v)) (c' := .dk (putD kvs k x)) en hm hf hx (fun o' h' im => by rw [g4] at h'; cases h'; exact im) (fun H' _ h1 g' => ⟨_, h1, (g5.put rx).grow g'⟩)
            exact q _ _ aw
          · split at hc
            · rename_i k hk
              split at hc
              · cases hc
                cases g5
                obtain ⟨k1, k2⟩ := tk_ok hk
                refine .inr ⟨[], k, .inl ⟨rfl, g4⟩, k1, by rw [k2]; exact ry, by simpa using lt_line (n := 0) (by omega), fun es r => ?_⟩
                obtain ⟨gw, aw⟩ := AtS.write (o := DnO p es) (c' := .dn [(k, x)]) en hm hf hx (fun o' h' im => by rw [g4] at h'; cases h'; exact im) (fun H' _ h1 g' => ⟨es, h1, DnR.grow g' r⟩)
                exact q _ _ aw
              · cases hc
            · cases hc
        · cases hc
      | dn kvs =>
        obtain ⟨es, g4, g5⟩ := g3
        dsimp only [cPut] at hc
        split at hc
        · rename_i hl
          split at hc
          · rename_i k hk
            cases hc
            obtain ⟨k1, k2⟩ := tk_ok hk
            refine .inr ⟨kvs, k, .inr ⟨es, g4, g5⟩, k1, by rw [k2]; exact ry, lt_line hl, fun es' r => ?_⟩
            obtain ⟨gw, aw⟩ := AtS.write (o := DnO p es') (c' := .dn (putN kvs k x)) en hm hf hx (fun o' h' im => by rw [g4] at h'; cases h'; exact im) (fun H' _ h1 g' => ⟨es', h1, DnR.grow g' r⟩)
            exact q _ _ aw
          · cases hc
        · cases hc
    · cases e
  · cases e
def gDs (fo fi : EE) : GG := fun x env => match fo env with
  | some (.var j, e1) => match fi e1 with
    | some (d, e2) => match pdOf d with
      | some y => dPut e2 j y x
      | none => none
    | none => none
  | _ => none
theorem rd_gDs {K : PySem.W.Frag} {fo fi : EE} {v : V} {σ : St} {H : Hp} {Q : St → Hp → Prop} (h : tG K (gDs fo fi) v σ H Q) : gSub (tE K fo) (tE K fi) (rSetD K) v σ H Q := by
  obtain ⟨B, env, x, env', en, r, ev, q⟩ := h
  unfold gDs at ev
  split at ev
  · rename_i j e1 h1
    split at ev
    · rename_i d e2 h2
      split at ev
      · rename_i y hy
        refine ⟨B, env, _, _, en, h1, fun B1 H1 o a1 r1 => ⟨B1, e1, _, _, a1.en, h2, fun B2 H2 w a2 r2 => ?_⟩⟩
        have a12 := a1.trans en a2
        exact dPut_ok a2.en r1.1 (pdOf_rp r2 hy) (r.grow (a12.grow en)) ev fun B' H' a => q _ _ _ ((a12.trans en a).s)
      · cases ev
    · cases ev
  · cases ev
theorem g_dsub {X : Cx} {o i : Expr} {pos : Pos} {fo fi : EE} (hu : X.A.units + 9 < cLine) (ho : PE X o (tE X.K fo)) (hi : PE X i (tE X.K fi))
    (ha : ∀ v, assign (.Subscript o i pos) X.env v = (do
      let ov ← holding [v] (eval o X.env)
      let iv ← holding [v, ov] (eval i X.env)
      standAt pos
      holding [v, ov, iv] (setItem ov iv v)
      release [v, ov, iv] []) := by intro _; rfl) : PG X (.Subscript o i pos) (tG X.K (gDs fo fi)) := PG.imp (pg_sub ho hi (set_dict hu) ha) fun _ _ _ _ t => rd_gDs t
theorem u9 {k : Nat} {A : Around} (r : Room k A) : A.units + 9 < cLine := by have := r.un; omega
end T3

end
section
set_option linter.all false
set_option autoImplicit false
set_option Elab.async false
set_option maxRecDepth 100000
set_option maxHeartbeats 2000000
namespace ZL
open PySem
section
variable {P : Program} {w : World} {A : Around} {E : Value → Shared → Prop} {s : Shared} {z TI TO T i1 i2 l1 l2 : Addr} {f : Bool} {oT : Obj} {m n : Nat} {xs ys : Array Value} {x y : Value}
def ZS (z TI TO i1 i2 l1 l2 S : Addr) (xs ys : Array Value) (k : Nat) (h : Heap) : Prop := IsPair h TI (.ref i1) (.ref i2) ∧ h.IsTupleIter i1 l1 k ∧ h.IsTupleIter i2 l2 k ∧ h.IsTuple l1 xs ∧ h.IsTuple l2 ys ∧
  ((IsZip h z TI TO .none ∧ ∃ a b, IsPair h TO a b) ∨ ∃ T f oT, IsZipHeld h z TI TO T f ∧ h.get? T = some oT ∧ T ≠ z ∧ T ≠ i1 ∧ T ≠ i2 ∧ T ≠ S)
theorem ZS.keep {k : Nat} {S : Addr} {h h' : Heap} (g : ZS z TI TO i1 i2 l1 l2 S xs ys k h) (d : S ≠ z ∧ S ≠ TI ∧ S ≠ TO ∧ S ≠ i1 ∧ S ≠ i2 ∧ S ≠ l1 ∧ S ≠ l2) (kp : ∀ b o, b ≠ S → h.get? b = some o → h'.get? b = some o) : ZS z TI TO i1 i2 l1 l2 S xs ys k h' := by
  obtain ⟨g1, g2, g3, g4, g5, g6⟩ := g
  obtain ⟨d1, d2, d3, d4, d5, d6, d7⟩ := d
  refine ⟨kp _ _ d2.symm g1, g2.at fun o e => kp _ o d4.symm e, g3.at fun o e => kp _ o d5.symm e, g4.at fun o e => kp _ o d6.symm e, g5.at fun o e => kp _ o d7.symm e, ?_⟩
  rcases g6 with ⟨h1, a, b, h2⟩ | ⟨T, f, oT, h1, h2, r1, r2, r3, r4⟩
  · exact .inl ⟨kp _ _ d1.symm h1, a, b, kp _ _ d3.symm h2⟩
  · exact .inr ⟨T, f, oT, kp _ _ d1.symm h1, kp _ _ r4 h2, r1, r2, r3, r4⟩
end

structure Mk (xs ys : Array Value) (lo : Addr) (h : Heap) (as : List Addr) : Prop where
  rise : as.Pairwise (· < ·)
  above : ∀ a ∈ as, lo < a
  pairs : ∀ (j : Nat) (a : Addr), as[j]? = some a → ∃ x y, xs[j]? = some x ∧ ys[j]? = some y ∧ IsPair h a x y
section
variable {P : Program} {w : World} {A : Around} {s : Shared} {R : Result → Shared → Prop} {z TI TO i1 i2 l1 l2 S : Addr} {xs ys : Array Value}
end
section
variable {P : Program} {w : World} {A : Around} {E : Value → Shared → Prop} {s : Shared} {z TI TO i1 i2 l1 l2 : Addr} {xs ys : Array Value}
end
end ZL

end
section
set_option linter.all false
set_option autoImplicit false
set_option Elab.async false
set_option maxRecDepth 100000
namespace T3
open PySem L2
variable [TabL]
def ovr (H New : Hp) : Hp := fun b => match New b with
  | some o => some o
  | none => H b
theorem ovr_new {H New : Hp} {b : Addr} {o : HO} (h : New b = some o) : ovr H New b = some o := by unfold ovr; rw [h]
theorem ovr_old {H New : Hp} {b : Addr} (h : New b = none) : ovr H New b = H b := by unfold ovr; rw [h]
theorem newMany {X : Cx} {pins : List (Addr × Obj)} {σ : St} {H New : Hp} {s : Shared} {h' : Heap} {t' : Nat} {ch : List Addr} (I : Inv X pins σ H s) (k : ∀ b o, b ∉ ch → s.heap.get? b = some o → h'.get? b = some o) (hf : ∀ b ∈ ch, FpOk X pins H b)
    (hN : ∀ b o, New b = some o → s.heap.objs.size ≤ b) (ok : ∀ b o, New b = some o → ObjOk X.prog X.w (ovr H New) h' b o) : Inv X pins σ (ovr H New) { s with heap := h', toks := t' } := by
  have old : ∀ b o, H b = some o → ovr H New b = some o := fun b o e => by
    cases q : New b with
    | none => rw [ovr_old q]; exact e
    | some u => rw [I.hok.fresh (hN b u q)] at e; cases e
  have nit : ∀ b u, H b = some u → b ∉ ch := fun b u e z => by
    have q := (hf b z).1
    rw [q] at e; cases e
  refine I.step (g' := s.gens) (d' := s.drawn) (ch := ch) (fun b hb => ⟨(hf b hb).2.2.2.1, (hf b hb).2.1, (hf b hb).2.2.2.2.1, (hf b hb).2.2.2.2.2⟩) (fun b o _ _ hc e _ => k b o hc e) (fun b o _ _ hc e _ => ⟨o.slots, k b o hc e⟩)
    (fun b o _ e n => ?_) (fun b o hc e => ⟨o, k b o hc e⟩) (fun b xs e => old _ _ e) (fun b o u e => old _ _ e) (fun b ps e => ⟨#[], by rw [old _ _ e]; simp⟩) (fun m hm => ?_) (fun b u e => ?_) I.bare
  · cases q : New b with
    | none => rw [ovr_old q]; exact n
    | some u => exact absurd (Nat.lt_of_lt_of_le (Heap.lt_size e) (hN b u q)) (Nat.lt_irrefl _)
  · obtain ⟨o, es, ep, ho, r⟩ := hm
    exact ⟨o, es, ep, k _ o (fun z => (hf _ z).2.1 rfl) ho, r⟩
  · cases q : New b with
    | some v => rw [ovr_new q] at e; cases e; exact ok b _ q
    | none =>
      rw [ovr_old q] at e
      refine (I.hok b u e).stay (fun c v hc q => k c v ?_ q) (fun c q => old _ _ q) fun c xs q => old _ _ q
      rcases hc with z | z
      · rw [z]; exact nit b u e
      · exact nit c _ z
theorem At.allocN {K : PySem.W.Frag} {σ : St} {B B1 : Mset} {H H1 New : Hp} {env env1 : Sl} {p : Addr} (en : EnvR K B H σ env) (a : At K σ B H env B1 H1 env1) (hN : ∀ b o, New b = some o → H1 b = none) (hp : ∃ o, New p = some o) :
    Grow B1 H1 (fun q => B1 q ∨ q = p) (ovr H1 New) ∧ At K σ B H env (fun q => B1 q ∨ q = p) (ovr H1 New) env1 := by
  have old : ∀ {q o'}, H1 q = some o' → ovr H1 New q = some o' := fun {q o'} h => by
    cases e : New q with
    | none => rw [ovr_old e]; exact h
    | some u => rw [hN q u e] at h; cases h
  obtain ⟨op, hop⟩ := hp
  have np : H1 p = none := hN p op hop
  have g : Grow B1 H1 (fun q => B1 q ∨ q = p) (ovr H1 New) := ⟨fun q o' h _ => old h, fun q h => by
    rcases h with h | h
    · exact .inl h
    · rw [h]; exact .inr np⟩
  refine ⟨g, ⟨fun q o' h c => old (a.st.keep q o' h c), fun q h => ?_, fun q h w => .inl (a.st.old q h w), a.st.sub, fun q h => ?_⟩, ⟨a.en.len, fun i x h => ?_, fun i x h => ?_, fun i m c h => ?_, a.en.inj, fun q h => ?_, a.en.tb.on (fun q o' h _ => old h) g.new⟩, a.sm, a.ks⟩
  · rcases h with h | h
    · exact a.st.new q h
    · rw [h]; exact .inr (a.st.liv _ np)
  · cases e : New q with
    | none => rw [ovr_old e] at h; exact a.st.liv _ h
    | some u => rw [ovr_new e] at h; cases h
  · obtain ⟨v, h1, h2⟩ := a.en.pd i x h
    exact ⟨v, h1, h2.grow g⟩
  · obtain ⟨v, h1, h2⟩ := a.en.nt i x h
    exact ⟨v, h1, h2.grow g⟩
  · obtain ⟨q, h1, h2, h3⟩ := a.en.mu i m c h
    refine ⟨q, h1, .inl h2, ?_⟩
    cases c with
    | ls xs => obtain ⟨vs, h4, h5⟩ := h3; exact ⟨vs, old h4, h5.grow g⟩
    | dk xs => obtain ⟨vs, h4, h5⟩ := h3; exact ⟨vs, old h4, h5.grow g⟩
    | dn xs => obtain ⟨vs, h4, h5⟩ := h3; exact ⟨vs, old h4, h5.grow g⟩
  · rcases h with h | h
    · obtain ⟨o', ho⟩ := a.en.dom q h
      exact ⟨o', old ho⟩
    · rw [h]; exact ⟨op, ovr_new hop⟩

def newZ (p : Addr) (as : List Addr) (vs : List (V × V)) : Hp := fun b => if b = p then some (.lst (as.map V.ref)) else match (as.zip vs).lookup b with
  | some q => some (.tup [q.1, q.2])
  | none => none
theorem lookup_zip {α β : Type} [BEq α] [LawfulBEq α] : ∀ {as : List α} {bs : List β} {j : Nat} {a : α} {b : β}, as.Nodup → as[j]? = some a → bs[j]? = some b → (as.zip bs).lookup a = some b
  | [], _, _, _, _, _, h, _ => by simp at h
  | _ :: _, [], _, _, _, _, _, h => by simp at h
  | x :: as, y :: bs, 0, a, b, _, h1, h2 => by
    simp at h1 h2
    subst h1 h2
    simp
  | x :: as, y :: bs, j + 1, a, b, nd, h1, h2 => by
    have nd' := List.nodup_cons.mp nd
    have h1 : as[j]? = some a := by simpa using h1
    have ne : (a == x) = false := by
      rw [beq_eq_false_iff_ne]
      intro e
      subst e
      exact nd'.1 (List.mem_of_getElem? h1)
    rw [List.zip_cons_cons, List.lookup_cons, ne]
    exact lookup_zip nd'.2 h1 (by simpa using h2)
theorem lk_mem {α β : Type} [BEq α] [LawfulBEq α] : ∀ {ps : List (α × β)} {a : α} {b : β}, ps.lookup a = some b → (a, b) ∈ ps
  | [], _, _, h => by simp at h
  | (x, y) :: ps, a, b, h => by
    rw [List.lookup_cons] at h
    split at h
    · rename_i e
      cases h
      rw [eq_of_beq e]
      exact List.mem_cons_self
    · exact List.mem_cons_of_mem _ (lk_mem h)
def pairD : List PyData → List PyData → List PyData
  | x :: xs, y :: ys => .tuple [x, y] :: pairD xs ys
  | _, _ => []
theorem rp_zip {K : PySem.W.Frag} {B : Mset} {H : Hp} : ∀ {as : List Addr} {vs ws : List V} {xs ys : List PyData}, as.length = vs.length → vs.length = ws.length → RpA K B H vs xs → RpA K B H ws ys →
    (∀ (j : Nat) t v w, as[j]? = some t → vs[j]? = some v → ws[j]? = some w → H t = some (.tup [v, w])) → RpA K B H (as.map V.ref) (pairD xs ys)
  | [], [], [], _, _, _, _, .nil, .nil, _ => .nil
  | [], [], _ :: _, _, _, _, h, _, _, _ => by cases h
  | [], _ :: _, _, _, _, h, _, _, _, _ => by cases h
  | _ :: _, [], _, _, _, h, _, _, _, _ => by cases h
  | _ :: _, _ :: _, [], _, _, _, h, _, _, _ => by cases h
  | a :: as, v :: vs, w :: ws, _, _, h1, h2, .cons r rr, .cons q qq, h => by
    refine .cons (.tup (.inl (.inl (h 0 a v w rfl rfl rfl))) (.cons r (.cons q .nil))) (rp_zip (by simpa using h1) (by simpa using h2) rr qq fun j t v w e1 e2 e3 => h (j + 1) t v w (by simpa using e1) (by simpa using e2) (by simpa using e3))
end T3

end
section
set_option linter.all false
set_option autoImplicit false
set_option Elab.async false
set_option maxRecDepth 100000
namespace T3
open PySem L2
variable [TabL]
def pairsN : List PyData → Option (List (NestedKey × PyData))
  | [] => some []
  | .tuple [k, v] :: ps => match tk? k with
    | some k' => match pairsN ps with
      | some r => some ((k', v) :: r)
      | none => none
    | none => none
  | _ :: _ => none
def allN (kvs : List (NestedKey × PyData)) : List (NestedKey × PyData) := kvs.foldl (fun acc q => putN acc q.1 q.2) []
def PrE (K : PySem.W.Frag) (B : Mset) (H : Hp) (p : Addr) (q : NestedKey × PyData) : Prop := ∃ b v, SqT K H p [.ref b, v] ∧ NkOk q.1 ∧ Rp K B H (.ref b) q.1.data ∧ Rp K B H v q.2
theorem pairsN_ok {K : PySem.W.Frag} {B : Mset} {H : Hp} : ∀ {vs : List V} {ps : List PyData} {kvs : List (NestedKey × PyData)}, RpA K B H vs ps → pairsN ps = some kvs → ∃ as : List Addr, vs = as.map V.ref ∧ Paired (PrE K B H) as kvs
  | _, _, kvs, .nil, e => by cases e; exact ⟨[], rfl, .nil⟩
  | _, _, kvs, .cons (v := v) (d := d) r t, e => by
    unfold pairsN at e
    split at e
    · rename_i e'; cases e'
    · rename_i k x ps e'
      cases e'
      split at e
      · rename_i k' hk
        split at e
        · rename_i r' hr
          cases e
          obtain ⟨as, h1, h2⟩ := pairsN_ok t hr
          obtain ⟨k1, k2⟩ := tk_ok hk
          obtain ⟨a, ws, rfl, h3, h4⟩ := Cn.tuple (.rp r)
          cases h4 with
          | cons q1 q2 =>
            cases q2 with
            | cons q2 q3 =>
              cases q3
              have q1' := q1
              rw [← k2] at q1
              obtain ⟨b, rfl⟩ := nk_ref k1 q1
              exact ⟨a :: as, by rw [h1]; rfl, .cons ⟨b, _, h3, k1, q1, q2⟩ h2⟩
        · cases e
      · cases e
    · cases e
def rDn (K : PySem.W.Frag) : List V → Hp → VK → Prop := fun xs H Q => ∃ B a as kvs, xs = [.ref a] ∧ SqL K H a (as.map V.ref) ∧ Paired (PrE K B H) as kvs ∧
  ∀ p es, H p = none → DnR K B H es (allN kvs) → Q (.ref p) (upd H p (DnO p es))
theorem prs_of {X : Cx} {pins : List (Addr × Obj)} {σ : St} {H : Hp} {s : Shared} {B : Mset} (I : Inv X pins σ H s) : ∀ {as : List Addr} {kvs : List (NestedKey × PyData)}, Paired (PrE X.K B H) as kvs →
    ∃ xs : List (NestedKey × Addr × Value), Kn X.K B H kvs xs ∧ xs.length = as.length ∧ ∀ (j : Nat) q, xs[j]? = some q → ∃ a, as[j]? = some a ∧ s.heap.IsTuple a #[.ref q.2.1, q.2.2]
  | _, _, .nil => ⟨[], .nil, rfl, fun j q e => by simp at e⟩
  | _, _, .cons (a := p) (b := kv) h t => by
    obtain ⟨xs, k, hl, hx⟩ := prs_of I t
    obtain ⟨b, v, h1, h2, h3, h4⟩ := h
    obtain ⟨its, rv, ht, _⟩ := I.tuple h1
    cases rv with
    | cons r1 rr =>
      cases rr with
      | cons r2 rr =>
        cases rr
        cases r1
        rename_i u
        refine ⟨(kv.1, b, u) :: xs, .cons ⟨rfl, h2, h3, v, r2, h4⟩ k, by simp [hl], fun j q e => ?_⟩
        cases j with
        | zero =>
          simp at e
          subst e
          exact ⟨p, rfl, ht⟩
        | succ j =>
          obtain ⟨a, e1, e2⟩ := hx j q (by simpa using e)
          exact ⟨a, by simpa using e1, e2⟩
theorem Kn.all {K : PySem.W.Frag} {B : Mset} {H : Hp} : ∀ {more : List (NestedKey × PyData)} {rs : List (NestedKey × Addr × Value)} {kvs : List (NestedKey × PyData)} {xs : List (NestedKey × Addr × Value)}, Kn K B H more rs → Kn K B H kvs xs → (kvs.map (·.1)).Nodup →
    Kn K B H (more.foldl (fun acc q => putN acc q.1 q.2) kvs) (storedAllH xs rs) ∧ ((more.foldl (fun acc q => putN acc q.1 q.2) kvs).map (·.1)).Nodup
  | _, _, _, _, .nil, k, nd => ⟨k, nd⟩
  | _, _, _, _, .cons (a := q) (b := x) r t, k, nd => by
    obtain ⟨e1, e2, e3, v, e4, e5⟩ := r
    have k' := k.put e2 e3 e4 e5
    rw [← e1] at k'
    have := Kn.all t (by rw [e1] at k'; exact k') (putN_nd (k := q.1) (x := q.2) nd)
    unfold storedAllH at this ⊢
    rw [List.foldl_cons, List.foldl_cons, e1]
    exact this
theorem putAll_len : ∀ (more kvs : List (NestedKey × PyData)), (more.foldl (fun acc q => putN acc q.1 q.2) kvs).length ≤ kvs.length + more.length
  | [], kvs => by simp
  | q :: more, kvs => by
    have h1 := putAll_len more (putN kvs q.1 q.2)
    have h2 := putN_len kvs q.1 q.2
    rw [List.foldl_cons, List.length_cons]
    omega
theorem cr_dn {X : Cx} (hc : X.calm = true) (hu : X.A.units + 12 < cLine) : CallR X (.type "dict") (rDn X.K) := by
  intro pins s σ H vs us Q I r q
  obtain ⟨B, a, as, kvs, ex, hq, hp, q⟩ := q
  subst ex
  cases r with
  | cons r rr =>
    cases rr
    cases r
    obtain ⟨its, rv, ⟨o, n, ho, hcl, hd, hdat⟩, hz⟩ := I.list hq
    have ei := refs_at rv
    subst ei
    obtain ⟨xs, k, hl, hx⟩ := prs_of I hp
    rw [List.length_map] at hz
    have hkl : kvs.length = as.length := (Paired.length hp).symm
    let Ts : Nat → Addr := fun j => as.getD j 0
    have allk : ∀ {kvs : List (NestedKey × PyData)} {xs : List (NestedKey × Addr × Value)}, Kn X.K B H kvs xs → ∀ x ∈ xs, NkOk x.1 ∧ Rp X.K B H (.ref x.2.1) x.1.data := by
      intro kvs xs h
      induction h with
      | nil => intro x hx; simp at hx
      | cons r t ih =>
        intro x hx
        rcases List.mem_cons.mp hx with rfl | hx
        · obtain ⟨e1, e2, e3, _⟩ := r
          rw [e1]; exact ⟨e2, e3⟩
        · exact ih x hx
    have items : PairItems s.heap (as.map Value.ref).toArray Ts (xs.map fun x => (Value.ref x.2.1, x.2.2)) := by
      refine ⟨by simp [hl], fun j kk v e => ?_⟩
      rw [List.getElem?_map] at e
      cases e' : xs[j]? with
      | none => rw [e'] at e; cases e
      | some x =>
        rw [e'] at e
        cases e
        obtain ⟨p, e1, e2⟩ := hx j x e'
        have : Ts j = p := by show as.getD j 0 = p; rw [List.getD_eq_getElem?_getD, e1]; rfl
        rw [this]
        exact ⟨by simp [e1], .inl e2⟩
    have mm : (s.heap.objs.size == sysModules) = false := beq_eq_false_iff_ne.mpr (Nat.ne_of_gt I.big)
    refine call_dict_pairsH (knd := nestedKind X.prog X.w) (ps := xs) (PairArg.list a (as.map Value.ref).toArray Ts (xs.map fun x => (Value.ref x.2.1, x.2.2))) (I.ok.hd hc) ?_ ⟨⟨o, n, ho, hcl, hd, hdat⟩, items⟩ ⟨by simp, fun i key v e => ?_⟩ (fun h' hk x hxm => ?_) (by rw [List.length_map, hl]; exact hz) fun h' tk dd hk => ?_
    · show X.A.units + 1 + 1 + 8 < cLine
      omega
    · have e : (xs.map fun x => (Value.ref x.2.1, x.2.2))[i]? = some (key, v) := e
      rw [List.getElem?_map] at e
      cases e' : xs[i]? with
      | none => rw [e'] at e; cases e
      | some x => rw [e'] at e; cases e; exact ⟨x.1, x.2.1, rfl, rfl⟩
    · obtain ⟨k1, k2⟩ := allk k x hxm
      have I' : Inv X pins σ H { s with heap := s.heap } := I
      refine ⟨NestedIs.at (fun b ob vs' n' hb _ => ?_) _ _ (nk_key I k1 k2).1, k1.1⟩
      exact hk b ob (Nat.ne_of_lt (Heap.lt_size hb)) (by simp) hb
    · obtain ⟨kn, nd⟩ := Kn.all k (.nil : Kn X.K B H [] []) (by simp)
      obtain ⟨q', es, ep, hq', h2, h3, h4, _, h5⟩ := dd
      refine ⟨.ref s.heap.objs.size, upd H s.heap.objs.size (DnO s.heap.objs.size ⟨q', ep, (storedAllH [] xs).map (entryOfKey (nestedKind X.prog X.w))⟩), I.laid (t' := tk) (fun b u e => hk b u (by simp) e) (Nat.le_refl _) ⟨⟨mm, ?_, hq', h2, ?_⟩, ⟨q', hq'⟩, fun g1 g2 ⟨z1, z2, z3, z4, z5⟩ st => ⟨z1, z2, st _ z3, z4, z5⟩⟩, rfl, q _ _ (I.hok.fresh (Nat.le_refl _)) ⟨kn.dn, nd⟩⟩
      · dsimp only
        rw [List.length_map, ← kn.len]
        have := putAll_len kvs []
        simp only [List.length_nil, Nat.zero_add] at this
        omega
      · dsimp only
        rw [← h4, Array.toArray_toList]; exact h3
def kDict : KK := fun ds env => match ctns env ds with
  | some [.list ps] => match pairsN ps with
    | some kvs => some (.tmp (.dn (allN kvs)), env)
    | none => none
  | _ => none
theorem c_dict {K : PySem.W.Frag} : Con K kDict (rDn K) := by
  intro σ H B env B1 H1 env1 vs ds d e2 Q en a rr hk q
  unfold kDict at hk
  split at hk
  · rename_i ps hps
    split at hk
    · rename_i kvs hkv
      cases hk
      have c := CnA.of a.en rr hps
      cases c with
      | cons c cc =>
        cases cc
        obtain ⟨p, us, rfl, h1, h2⟩ := c.list
        obtain ⟨as, rfl, h3⟩ := pairsN_ok h2 hkv
        refine ⟨B1, p, as, kvs, rfl, h1, h3, fun p es np r => ?_⟩
        obtain ⟨g, a2⟩ := a.alloc en np (DnO p es) True (fun _ => False) (fun _ f => f.elim)
        refine q _ _ _ a2 ⟨p, rfl, a.st.liv _ np, .inr ⟨trivial, rfl⟩, ⟨es, upd_same, DnR.grow g r⟩, fun i m d h1 h2 => ?_⟩
        obtain ⟨b, h3, h4, _⟩ := a.en.mu i m d h1
        rw [h3] at h2
        cases h2
        obtain ⟨o', ho⟩ := a.en.dom _ h4
        rw [np] at ho; cases ho
    · cases hk
  · cases hk
theorem w_dict {X : Cx} {k : Nat} (hc : X.calm = true) (hr : Room k X.A) : Bty X "dict" kDict := ⟨_, _, cr_dn hc (by have := hr.un; omega), c_dict, by decide +kernel⟩
end T3

end
section
set_option linter.all false
set_option autoImplicit false
set_option Elab.async false
namespace T3
open PySem L2
variable [TabL]
def setAll : List Nat → List R → Sl → Option Sl
  | [], [], e => some e
  | i :: is, d :: ds, e => match setR i d e with
    | none => none
    | some e2 => setAll is ds e2
  | _, _, _ => none
def sParN (is : List Nat) (f : EA) : SS := fun env => match f env with
  | none => none
  | some (ds, e) => if ds.length ≤ 1000 then match setAll is ds e with
      | none => none
      | some e2 => some (.nx, e2)
    else none
@[simp] theorem z_setAll0 (e : Sl) : setAll [] [] e = some e := rfl
@[simp] theorem z_setAll1 (i : Nat) (is : List Nat) (d : R) (ds : List R) (e : Sl) : setAll (i :: is) (d :: ds) e = (match setR i d e with
    | none => none
    | some e2 => setAll is ds e2) := rfl
@[simp] theorem z_parN (is : List Nat) (f : EA) (env : Sl) : sParN is f env = (match f env with
  | none => none
  | some (ds, e) => if ds.length ≤ 1000 then match setAll is ds e with
      | none => none
      | some e2 => some (.nx, e2)
    else none) := rfl
def gNs : List Nat → TGs
  | [] => gNil
  | i :: is => gCons (gName i) (gNs is)
theorem setAll_nv : ∀ {is : List Nat} {ds : List R} {e e' : Sl}, setAll is ds e = some e' → ds.length = is.length ∧ ∀ d ∈ ds, ∀ k, d ≠ .var k
  | [], [], _, _, _ => ⟨rfl, fun d h => by simp at h⟩
  | [], _ :: _, _, _, h => by cases h
  | _ :: _, [], _, _, h => by cases h
  | i :: is, d :: ds, e, e', h => by
    rw [z_setAll1] at h
    split at h
    · cases h
    rename_i e2 h2
    obtain ⟨l, n⟩ := setAll_nv h
    refine ⟨by simp [l], fun x hx k => ?_⟩
    rcases List.mem_cons.mp hx with rfl | hx
    · exact setR_nv h2 k
    · exact n x hx k
theorem rd_names {K : PySem.W.Frag} {σ₀ : St} {B₀ B1 : Mset} {H₀ H1 : Hp} {env e' : Sl} {Q : St → Hp → Prop} (en : EnvR K B₀ H₀ σ₀ env) : ∀ {is : List Nat} {ds : List R} {vs : List V} {e : Sl} {σ : St}, AtS K σ₀ B₀ H₀ env σ B1 H1 e → RRA K H₀ B1 H1 σ e vs ds → setAll is ds e = some e' →
    (∀ σ', AtS K σ₀ B₀ H₀ env σ' B1 H1 e' → Q σ' H1) → gNs is vs σ H1 Q
  | [], [], vs, e, σ, a, r, h, q => by
    cases h
    have := r.len
    cases vs with
    | nil => exact ⟨rfl, q σ a⟩
    | cons _ _ => simp at this
  | [], _ :: _, _, _, _, _, _, h, _ => by cases h
  | _ :: _, [], _, _, _, _, _, h, _ => by cases h
  | i :: is, d :: ds, vs, e, σ, a, r, h, q => by
    rw [z_setAll1] at h
    split at h
    · cases h
    rename_i e2 h2
    have nv := (setAll_nv h).2
    cases vs with
    | nil => have := r.len; simp at this
    | cons v vs =>
      have hl : i < σ.length := by rw [← a.en.len]; exact setR_lt h2
      refine ⟨v, vs, rfl, ?_⟩
      show gNs is vs (σ.set i (some v)) H1 Q
      refine rd_names en (AtS.set en a (r.each 0 v d rfl rfl) h2) ⟨by have := r.len; simpa using this, fun k w d' hw hd => ?_, fun k l c c' w h0 h1 h2 h3 h4 => r.apart (k + 1) (l + 1) c c' w (by omega) (by simpa using h1) (by simpa using h2) (by simpa using h3) (by simpa using h4)⟩ h q
      refine RA.set h2 hl (r.each (k + 1) w d' (by simpa using hw) (by simpa using hd)) (fun c c' z1 z2 z3 => ?_) (nv d' (List.mem_of_getElem? hd))
      subst z1 z2 z3
      exact r.apart 0 (k + 1) c c' v (by omega) rfl (by simpa using hd) rfl (by simpa using hw)
theorem rd_parN {K : PySem.W.Frag} {is : List Nat} {f : EA} {D : Ends} {σ : St} {H : Hp} (h : tS K (sParN is f) D σ H) : tAsg (tTup (tA K f)) (gTup K is.length (gNs is)) D σ H := by
  obtain ⟨B, env, fl, env', en, ev, q⟩ := h
  unfold sParN at ev
  split at ev
  · cases ev
  rename_i ds e1 h1
  split at ev
  · rename_i hl
    split at ev
    · cases ev
    rename_i e2 h2
    cases ev
    refine ⟨B, env, ds, e1, en, h1, fun B1 H1 vs a1 r1 => ⟨by rw [r1.len]; exact Nat.le_of_lt (small1000 hl), fun p np => ?_⟩⟩
    obtain ⟨g, a2⟩ := a1.alloc en np (.tup vs) False (fun _ => False) (fun _ f => f.elim)
    obtain ⟨_, a3⟩ := (At.refl a1.en).alloc a1.en np (.tup vs) False (fun _ => False) (fun _ f => f.elim)
    refine ⟨p, vs, rfl, .inl (.inl upd_same), by rw [r1.len]; exact (setAll_nv h2).1, ?_⟩
    refine rd_names en a2.s ⟨r1.len, fun k v d hv hd => (r1.each k v d hv hd).later a1.en a3, r1.apart⟩ h2 fun σ' a' => q _ _ _ a'
  · cases ev
section
variable {X : Cx} {es : List Expr} {pos : Pos}
theorem ns_nil : PGs X [] (gNs []) := pgs_nil
theorem ns_cons {e : Expr} {i : Nat} {is : List Nat} (h1 : PG X e (gName i)) (h2 : PGs X es (gNs is)) (hs : (assignEach (e :: es) X.env).map (·.2) = assign e X.env :: (assignEach es X.env).map (·.2) := by rfl) : PGs X (e :: es) (gNs (i :: is)) := pgs_cons h1 h2 hs
theorem s_parN {ts : List Expr} {k k2 : Nat} {p p2 : Pos} {is : List Nat} {f : EA} (hc : X.calm = true) (ha : PA X es (tA X.K f)) (hg : PGs X ts (gNs is)) (hn : (assignEach ts X.env).length = is.length := by rfl) (hst : (assignEach ts X.env).findIdx? (·.1) = none := by rfl)
    (hs : swapsWithSole [.Tuple ts k p] (.Tuple es k2 p2) pos.line X.env = pure false := by rfl) (hw : swappedStores [.Tuple ts k p] (.Tuple es k2 p2) X.env = pure none := by rfl)
    (h1 : (assignEach [.Tuple ts k p] X.env).map (·.2) = [assign (.Tuple ts k p) X.env] := by rfl) : PS X (.Assign [.Tuple ts k p] (.Tuple es k2 p2) pos) (tS X.K (sParN is f)) :=
  PS.imp (ps_asg (pe_tup ha) (pg_tup hc hg hn hst) hs hw h1) fun _ _ _ t => rd_parN t
end
end T3

end
section
set_option linter.all false
set_option autoImplicit false
set_option Elab.async false
set_option maxRecDepth 100000
namespace T3
open PySem L2
variable [TabL]
abbrev EPs := List (EE × EE)
def ePairs : EPs → Sl → Option (List (PyData × PyData) × Sl)
  | [], env => some ([], env)
  | p :: r, env => match p.1 env with
    | none => none
    | some (dk, e1) => match pdOf dk with
      | none => none
      | some k => match p.2 e1 with
        | none => none
        | some (dv, e2) => match pdOf dv with
          | none => none
          | some v => match ePairs r e2 with
            | none => none
            | some (ps, e3) => some ((k, v) :: ps, e3)
@[simp] theorem z_ePairs0 (env : Sl) : ePairs [] env = some ([], env) := rfl
@[simp] theorem z_ePairs1 (p : EE × EE) (r : EPs) (env : Sl) : ePairs (p :: r) env = (match p.1 env with
    | none => none
    | some (dk, e1) => match pdOf dk with
      | none => none
      | some k => match p.2 e1 with
        | none => none
        | some (dv, e2) => match pdOf dv with
          | none => none
          | some v => match ePairs r e2 with
            | none => none
            | some (ps, e3) => some ((k, v) :: ps, e3)) := rfl
def PrR (K : PySem.W.Frag) (B : Mset) (H : Hp) : List (V × V) → List (PyData × PyData) → Prop := Paired fun p q => Rp K B H p.1 q.1 ∧ Rp K B H p.2 q.2
def trsOf (K : PySem.W.Frag) (ps : EPs) : List (TE × TE) := ps.map fun p => (tE K p.1, tE K p.2)
theorem rd_pairs {K : PySem.W.Frag} : ∀ {ps : EPs} {σ : St} {H : Hp} {B : Mset} {env env' : Sl} {ds : List (PyData × PyData)} {Q : List (V × V) → Hp → Prop}, EnvR K B H σ env → ePairs ps env = some (ds, env') →
    (∀ B' H' vs, At K σ B H env B' H' env' → PrR K B' H' vs ds → Q vs H') → tPairs (trsOf K ps) σ H Q
  | [], σ, H, B, env, env', ds, Q, en, ev, q => by
    cases ev
    exact q B H [] (.refl en) .nil
  | p :: r, σ, H, B, env, env', ds, Q, en, ev, q => by
    rw [z_ePairs1] at ev
    split at ev
    · cases ev
    rename_i dk e1 h1
    split at ev
    · cases ev
    rename_i k hk
    split at ev
    · cases ev
    rename_i dv e2 h2
    split at ev
    · cases ev
    rename_i v hv
    split at ev
    · cases ev
    rename_i ps' e3 h3
    cases ev
    refine ⟨B, env, dk, e1, en, h1, fun B1 H1 x a1 r1 => ⟨B1, e1, dv, e2, a1.en, h2, fun B2 H2 y a2 r2 => ?_⟩⟩
    have a12 := a1.trans en a2
    refine rd_pairs a2.en h3 fun B3 H3 vs a3 r3 => q B3 H3 _ (a12.trans en a3) (.cons ⟨?_, ?_⟩ r3)
    · exact ((pdOf_rp r1 hk).grow (a2.grow a1.en)).grow (a3.grow a2.en)
    · exact (pdOf_rp r2 hv).grow (a3.grow a2.en)
theorem At.put {K : PySem.W.Frag} {σ : St} {B B2 : Mset} {H H2 : Hp} {env env2 : Sl} {p : Addr} {o0 o : HO} (en : EnvR K B H σ env) (a : At K σ B H env B2 H2 env2) (hp : H p = none) (bp : B2 p) (h0 : H2 p = some o0) (ni : ¬ Imm o0)
    (ns : ∀ (i : Nat) m d, env2[i]? = some (some (S.mu m d)) → σ[i]? ≠ some (some (V.ref p))) : Grow B2 H2 B2 (upd H2 p o) ∧ At K σ B H env B2 (upd H2 p o) env2 := by
  have g : Grow B2 H2 B2 (upd H2 p o) := ⟨fun q o' h n => by
    by_cases e : q = p
    · subst e
      rcases n with n | n
      · exact absurd bp n.1
      · rw [h0] at h; cases h; exact absurd n ni
    · rw [upd_ne e]; exact h, fun q h => .inl h⟩
  refine ⟨g, ⟨fun q o' h n => ?_, a.st.new, a.st.old, a.st.sub, fun q h => ?_⟩, ⟨a.en.len, fun i x h => ?_, fun i x h => ?_, fun i m d h => ?_, a.en.inj, fun q h => ?_, a.en.tb.on (fun q o' h n => by rw [upd_ne (fun e => n (by rw [e]; exact bp))]; exact h) g.new⟩, a.sm, a.ks⟩
  · have e : q ≠ p := fun z => by rw [z, hp] at h; cases h
    rw [upd_ne e]; exact a.st.keep q o' h n
  · by_cases e : q = p
    · rw [e]; exact hp
    · rw [upd_ne e] at h; exact a.st.liv q h
  · obtain ⟨v, h1, h2⟩ := a.en.pd i x h
    exact ⟨v, h1, h2.grow g⟩
  · obtain ⟨v, h1, h2⟩ := a.en.nt i x h
    exact ⟨v, h1, h2.grow g⟩
  · obtain ⟨b, h1, h2, h3⟩ := a.en.mu i m d h
    have nb : b ≠ p := fun z => ns i m d h (z ▸ h1)
    refine ⟨b, h1, h2, ?_⟩
    cases d with
    | ls xs => obtain ⟨vs, h4, h5⟩ := h3; exact ⟨vs, by rw [upd_ne nb]; exact h4, h5.grow g⟩
    | dk xs => obtain ⟨vs, h4, h5⟩ := h3; exact ⟨vs, by rw [upd_ne nb]; exact h4, h5.grow g⟩
    | dn xs => obtain ⟨vs, h4, h5⟩ := h3; exact ⟨vs, by rw [upd_ne nb]; exact h4, h5.grow g⟩
  · by_cases e : q = p
    · subst e; exact ⟨o, upd_same⟩
    · rw [upd_ne e]; exact a.en.dom q h
def keysK : List (PyData × PyData) → Option (List (Key × PyData))
  | [] => some []
  | p :: ps => match key? p.1 with
    | none => none
    | some k => match keysK ps with
      | none => none
      | some r => some ((k, p.2) :: r)
def keysN : List (PyData × PyData) → Option (List (NestedKey × PyData))
  | [] => some []
  | p :: ps => match tk? p.1 with
    | none => none
    | some k => match keysN ps with
      | none => none
      | some r => some ((k, p.2) :: r)
def allK (kvs : List (Key × PyData)) : List (Key × PyData) := kvs.foldl (fun acc q => putD acc q.1 q.2) []
theorem KvR.merge {K : PySem.W.Frag} {B : Mset} {H : Hp} : ∀ {more : List (Key × V)} {ms : List (Key × PyData)} {ws : List (Key × V)} {kvs : List (Key × PyData)}, KvR K B H more ms → KvR K B H ws kvs → KvR K B H (mergeK ws more) (ms.foldl (fun acc q => putD acc q.1 q.2) kvs)
  | _, _, _, _, .nil, r => r
  | _, _, _, _, .cons (a := p) (b := q) h t, r => by
    have := r.put (k := q.1) h.2
    unfold mergeK
    rw [List.foldl_cons, List.foldl_cons, h.1]
    exact KvR.merge t this
theorem keysK_ok {K : PySem.W.Frag} {B : Mset} {H : Hp} : ∀ {vs : List (V × V)} {ds : List (PyData × PyData)} {kvs : List (Key × PyData)}, PrR K B H vs ds → keysK ds = some kvs → ∃ ws : List (Key × V), vs = ws.map (fun kv => (kV kv.1, kv.2)) ∧ KvR K B H ws kvs
  | _, _, kvs, .nil, e => by cases e; exact ⟨[], rfl, .nil⟩
  | _, _, kvs, .cons (a := p) (b := q) r t, e => by
    unfold keysK at e
    split at e
    · cases e
    rename_i k hk
    split at e
    · cases e
    rename_i r' hr
    cases e
    obtain ⟨ws, h1, h2⟩ := keysK_ok t hr
    refine ⟨(k, p.2) :: ws, ?_, .cons ⟨rfl, r.2⟩ h2⟩
    rw [List.map_cons, ← h1, ← key_v r.1 hk]
theorem keysN_ok {K : PySem.W.Frag} {B : Mset} {H : Hp} : ∀ {vs : List (V × V)} {ds : List (PyData × PyData)} {kvs : List (NestedKey × PyData)}, PrR K B H vs ds → keysN ds = some kvs → Paired (fun (p : V × V) (q : NestedKey × PyData) => NkOk q.1 ∧ Rp K B H p.1 q.1.data ∧ Rp K B H p.2 q.2) vs kvs
  | _, _, kvs, .nil, e => by cases e; exact .nil
  | _, _, kvs, .cons (a := p) (b := q) r t, e => by
    unfold keysN at e
    split at e
    · cases e
    rename_i k hk
    split at e
    · cases e
    rename_i r' hr
    cases e
    obtain ⟨h1, h2⟩ := tk_ok hk
    exact .cons ⟨h1, by rw [h2]; exact r.1, r.2⟩ (keysN_ok t hr)
def tDispN (K : PySem.W.Frag) (trs : List (TE × TE)) : TE := fun σ H Q => ∀ p, H p = none → tPairs trs σ (upd H p (.dK [])) fun ps H2 => H2 p = some (.dK []) ∧ ∃ B kvs, Paired (fun (p : V × V) (q : NestedKey × PyData) => NkOk q.1 ∧ Rp K B H2 p.1 q.1.data ∧ Rp K B H2 p.2 q.2) ps kvs ∧ kvs.length ≤ 15 ∧
  ∀ es, DnR K B H2 es (allN kvs) → Q (.ref p) (upd H2 p (DnO p es))
theorem carr_of {X : Cx} {pins : List (Addr × Obj)} {σ : St} {H : Hp} {s : Shared} {B : Mset} (I : Inv X pins σ H s) : ∀ {ps : List (V × V)} {ws : List (Value × Value)} {kvs : List (NestedKey × PyData)}, VV ps ws → Paired (fun (p : V × V) (q : NestedKey × PyData) => NkOk q.1 ∧ Rp X.K B H p.1 q.1.data ∧ Rp X.K B H p.2 q.2) ps kvs →
    ∃ xs, CarriesH (nestedKind X.prog X.w) s.heap ws xs ∧ Kn X.K B H kvs xs
  | _, _, _, .nil, .nil => ⟨[], True.intro, .nil⟩
  | _, _, _, .cons (a := p) (b := u) r t, .cons (b := q) h t' => by
    obtain ⟨xs, h1, h2⟩ := carr_of I t t'
    obtain ⟨k1, k2, k3⟩ := h
    obtain ⟨b, eb⟩ := nk_ref k1 k2
    obtain ⟨u1, u2⟩ := u
    have e1 : u1 = Value.ref b := by have := r.1; rw [eb] at this; exact this
    subst e1
    rw [eb] at k2
    exact ⟨(q.1, b, u2) :: xs, ⟨rfl, rfl, nk_key I k1 k2, h1⟩, .cons ⟨rfl, k1, k2, p.2, r.2, k3⟩ h2⟩
theorem pe_dispN {X : Cx} {pos : Pos} {keys : List (Option Expr)} {values : List Expr} {trs : List (TE × TE)} (hu : X.A.units + 9 < cLine) (h : PPs X pos keys values trs) (hall : keys.all (·.isSome) = true) (hl : keys.length = values.length) (h0 : keys ≠ [])
    (h15 : keys.length ≤ 15) : PE X (.Dict keys values pos) (tDispN X.K trs) := by
  refine ⟨fun pins s σ H Q I q => ?_⟩
  have hn := I.hok.fresh (Nat.le_refl s.heap.objs.size)
  have I1 := I.laid (a := s.heap.objs.size) (o := .dK []) (h' := s.heap.push { cls := .type "dict", data := .dict #[] }) (t' := s.toks) (fun _ _ q => Heap.get?_push_of_some _ q) (Nat.le_refl _) (dk_empty s.heap I.big)
  have hlen := pairTrees_length keys values X.env pos hall hl
  have hne : pairTrees keys values X.env pos ≠ [] := fun he => by
    rw [he] at hlen
    exact h0 (List.length_eq_zero_iff.mp hlen.symm)
  rw [arm_eval_Dict, zip_pairTrees keys values X.env pos hall hl, dictDisplay_pairs _ hne (by rw [hlen]; omega)]
  refine wpAny_bind (wpAny_standAt (wpAny_bind (wpAny_subDictH (knd := nestedKind X.prog X.w) (show X.A.units + 8 < cLine by omega) (by rw [hlen]; exact h15) (thn (h.run pins _ σ _ _ I1 (q _ hn)) fun ws s2 ⟨ps, H2, I2, rel, e, B, kvs, hp, h16, q2⟩ => ?_))))
  obtain ⟨xs, hc, hk⟩ := carr_of I2 rel hp
  obtain ⟨ns, _, _, xs0, dd, kn0⟩ := dn_open I2 (.inl ⟨rfl, e⟩ : DnAt X.K B H2 s.heap.objs.size [])
  cases kn0
  refine ⟨xs, hc, dd, fun h' tk dd' hs => wpAny_pure ?_⟩
  obtain ⟨kn, nd⟩ := Kn.all hk (.nil : Kn X.K B H2 [] []) (by simp)
  obtain ⟨q', es, ep, hq', h2, h3, h4, _, h5⟩ := dd'
  refine ⟨.ref s.heap.objs.size, _, d_write (t' := tk) (ob := DnO s.heap.objs.size ⟨q', ep, (storedAllH [] xs).map (entryOfKey (nestedKind X.prog X.w))⟩) I2 (by rw [e]; exact True.intro) hs ⟨q', hq'⟩ ⟨⟨ns, ?_, hq', h2, ?_⟩, ⟨q', hq'⟩, fun g1 g2 ⟨z1, z2, z3, z4, z5⟩ st => ⟨z1, z2, st _ z3, z4, z5⟩⟩, rfl, q2 _ ⟨kn.dn, nd⟩⟩
  · dsimp only
    rw [List.length_map, ← kn.len]
    have h1 := putAll_len kvs []
    simp only [List.length_nil, Nat.zero_add] at h1
    rw [sizeLine_eq]
    omega
  · dsimp only
    rw [← h4, Array.toArray_toList]; exact h3
def eDisp (ps : EPs) : EE := fun env => match ePairs ps env with
  | none => none
  | some (ds, e1) => if ds.length ≤ 15 then match keysK ds with
      | some kvs => some (.tmp (.dk (allK kvs)), e1)
      | none => match keysN ds with
        | some kvs => some (.tmp (.dn (allN kvs)), e1)
        | none => none
    else none
@[simp] theorem z_disp (ps : EPs) (env : Sl) : eDisp ps env = (match ePairs ps env with
  | none => none
  | some (ds, e1) => if ds.length ≤ 15 then match keysK ds with
      | some kvs => some (.tmp (.dk (allK kvs)), e1)
      | none => match keysN ds with
        | some kvs => some (.tmp (.dn (allN kvs)), e1)
        | none => none
    else none) := rfl
theorem keysK_len : ∀ {ds : List (PyData × PyData)} {kvs : List (Key × PyData)}, keysK ds = some kvs → kvs.length = ds.length
  | [], _, e => by cases e; rfl
  | p :: ds, kvs, e => by
    unfold keysK at e
    split at e
    · cases e
    split at e
    · cases e
    rename_i r hr
    cases e
    simp [keysK_len hr]
theorem keysN_len : ∀ {ds : List (PyData × PyData)} {kvs : List (NestedKey × PyData)}, keysN ds = some kvs → kvs.length = ds.length
  | [], _, e => by cases e; rfl
  | p :: ds, kvs, e => by
    unfold keysN at e
    split at e
    · cases e
    split at e
    · cases e
    rename_i r hr
    cases e
    simp [keysN_len hr]
theorem e_disp {X : Cx} {pos : Pos} {keys : List (Option Expr)} {values : List Expr} {ps : EPs} (hu : X.A.units + 9 < cLine) (h : PPs X pos keys values (trsOf X.K ps)) (hall : keys.all (·.isSome) = true := by rfl) (hl : keys.length = values.length := by rfl) (h0 : keys ≠ [] := by decide)
    (h15 : keys.length ≤ 15 := by decide) : PE X (.Dict keys values pos) (tE X.K (eDisp ps)) := by
  refine ⟨fun pins s σ H Q I t => ?_⟩
  obtain ⟨B, env, d, env', en, ev, q⟩ := t
  unfold eDisp at ev
  split at ev
  · cases ev
  rename_i ds e1 h1
  split at ev
  · rename_i hl15
    split at ev
    · rename_i kvs hk
      cases ev
      refine (pe_disp h hall hl h0 h15).run pins s σ H Q I fun p np => ?_
      obtain ⟨g, a1⟩ := (At.refl en).alloc en np (.dK []) True (fun _ => False) (fun _ f => f.elim)
      refine rd_pairs a1.en h1 fun B2 H2 vs a2 r2 => ?_
      have a12 := a1.trans en a2
      have wp : ¬ Wof σ env p := fun w => by
        obtain ⟨o, ho⟩ := en.dom p (en.wb p w)
        rw [np] at ho; cases ho
      have k2 : H2 p = some (.dK []) := a2.st.keep p _ upd_same (.inl ⟨wp, fun _ z => nomatch z⟩)
      have b2 : B2 p := a2.st.old p (.inr ⟨trivial, rfl⟩) wp
      have ns : ∀ (i : Nat) m d, env'[i]? = some (some (S.mu m d)) → σ[i]? ≠ some (some (V.ref p)) := fun i m d z1 z2 => by
        obtain ⟨c', z3⟩ := a2.sm i m d z1
        obtain ⟨b, z4, z5, _⟩ := en.mu i m c' z3
        rw [z4] at z2
        cases z2
        obtain ⟨o, ho⟩ := en.dom _ z5
        rw [np] at ho; cases ho
      obtain ⟨ws, e1, r3⟩ := keysK_ok r2 hk
      refine ⟨k2, ws, e1, by rw [Paired.length r3, keysK_len hk]; exact hl15, ?_⟩
      obtain ⟨g3, a3⟩ := At.put (o := .dK (mergeK [] ws)) en a12 np b2 k2 (fun z => z) ns
      exact q _ _ _ a3 ⟨p, rfl, np, b2, ⟨_, upd_same, (KvR.merge r3 (.nil : KvR X.K B2 H2 [] [])).grow g3⟩, ns⟩
    · split at ev
      · rename_i kvs hk
        cases ev
        refine (pe_dispN hu h hall hl h0 h15).run pins s σ H Q I fun p np => ?_
        obtain ⟨g, a1⟩ := (At.refl en).alloc en np (.dK []) True (fun _ => False) (fun _ f => f.elim)
        refine rd_pairs a1.en h1 fun B2 H2 vs a2 r2 => ?_
        have a12 := a1.trans en a2
        have wp : ¬ Wof σ env p := fun w => by
          obtain ⟨o, ho⟩ := en.dom p (en.wb p w)
          rw [np] at ho; cases ho
        have k2 : H2 p = some (.dK []) := a2.st.keep p _ upd_same (.inl ⟨wp, fun _ z => nomatch z⟩)
        have b2 : B2 p := a2.st.old p (.inr ⟨trivial, rfl⟩) wp
        have ns : ∀ (i : Nat) m d, env'[i]? = some (some (S.mu m d)) → σ[i]? ≠ some (some (V.ref p)) := fun i m d z1 z2 => by
          obtain ⟨c', z3⟩ := a2.sm i m d z1
          obtain ⟨b, z4, z5, _⟩ := en.mu i m c' z3
          rw [z4] at z2
          cases z2
          obtain ⟨o, ho⟩ := en.dom _ z5
          rw [np] at ho; cases ho
        refine ⟨k2, B2, kvs, keysN_ok r2 hk, by rw [keysN_len hk]; exact hl15, fun es r => ?_⟩
        obtain ⟨g3, a3⟩ := At.put (o := DnO p es) en a12 np b2 k2 (fun z => z) ns
        exact q _ _ _ a3 ⟨p, rfl, np, b2, ⟨es, upd_same, DnR.grow g3 r⟩, ns⟩
      · cases ev
  · cases ev
section
variable {X : Cx} {pos : Pos}
theorem ds_nil : PPs X pos [] [] (trsOf X.K []) := pps_nil
theorem ds_cons {k v : Expr} {ks : List (Option Expr)} {vs : List Expr} {fk fv : EE} {ps : EPs} (hk : PE X k (tE X.K fk)) (hv : PE X v (tE X.K fv)) (hr : PPs X pos ks vs (trsOf X.K ps)) : PPs X pos (some k :: ks) (v :: vs) (trsOf X.K ((fk, fv) :: ps)) := pps_cons hk hv hr
end
mutual
def unK : PyData → Option NestedKey
  | .none => some .none
  | .int i => some (.num i)
  | .str x => some (.text x)
  | .tuple xs => match unKs xs with
    | some ks => some (.tup ks)
    | none => none
  | .bool _ => none
  | .list _ => none
  | .dict _ => none
def unKs : List PyData → Option (List NestedKey)
  | [] => some []
  | x :: xs => match unK x with
    | some k => match unKs xs with
      | some ks => some (k :: ks)
      | none => none
    | none => none
end
mutual
theorem unK_data : ∀ k : NestedKey, unK k.data = some k
  | .none => by rw [NestedKey.data, unK]
  | .num i => by rw [NestedKey.data, unK]
  | .text x => by rw [NestedKey.data, unK]
  | .tup ks => by rw [NestedKey.data, unK, unKs_datas ks]
theorem unKs_datas : ∀ ks : List NestedKey, unKs (NestedKey.datas ks) = some ks
  | [] => by rw [NestedKey.datas, unKs]
  | k :: ks => by rw [NestedKey.datas, unKs, unK_data k, unKs_datas ks]
end
def decN : List (PyData × PyData) → Option (List (NestedKey × PyData))
  | [] => some []
  | q :: r => match unK q.1 with
    | some n => match decN r with
      | some t => some ((n, q.2) :: t)
      | none => none
    | none => none
theorem decN_of : ∀ kvs : List (NestedKey × PyData), decN (kvs.map fun q => (q.1.data, q.2)) = some kvs
  | [] => rfl
  | q :: r => by
    simp only [List.map_cons, decN, unK_data, decN_of r]
def decK : List (PyData × PyData) → Option (List (Key × PyData))
  | [] => some []
  | q :: r => match key? q.1 with
    | some n => match decK r with
      | some t => some ((n, q.2) :: t)
      | none => none
    | none => none
theorem key_data : ∀ k : Key, key? (keyD k) = some k
  | .inl _ => rfl
  | .inr _ => rfl
theorem decK_of : ∀ kvs : List (Key × PyData), decK (kvs.map fun q => (keyD q.1, q.2)) = some kvs
  | [] => rfl
  | q :: r => by
    simp only [List.map_cons, decK, key_data, decK_of r]
def dcOf : PyData → Option Ct
  | .dict ((.list [], .none) :: r) => match decN r with
    | some kvs => some (.dn kvs)
    | none => none
  | .dict ((.list [.none], .none) :: r) => match decK r with
    | some kvs => some (.dk kvs)
    | none => none
  | _ => none
theorem dcOf_dn (kvs : List (NestedKey × PyData)) : dcOf (ctD (.dn kvs)) = some (.dn kvs) := by
  show (match decN (kvs.map fun q => (q.1.data, q.2)) with
    | some kvs => some (Ct.dn kvs)
    | none => none) = _
  rw [decN_of]
theorem dcOf_dk (kvs : List (Key × PyData)) : dcOf (ctD (.dk kvs)) = some (.dk kvs) := by
  show (match decK (kvs.map fun q => (keyD q.1, q.2)) with
    | some kvs => some (Ct.dk kvs)
    | none => none) = _
  rw [decK_of]
theorem dcOf_ok {K : PySem.W.Frag} {B : Mset} {H : Hp} {v : V} {x : PyData} {c : Ct} (r : Rp K B H v x) (e : dcOf x = some c) : ∃ a, v = .ref a ∧ CtR K B H a c := by
  cases r with
  | dct h nb h4 nd r1 r2 =>
    have e := (dcOf_dn _).symm.trans e
    cases e
    exact ⟨_, rfl, _, h, dn_join h4 r1 r2, nd⟩
  | dck h nb hk r =>
    have e := (dcOf_dk _).symm.trans e
    cases e
    exact ⟨_, rfl, _, h, kv_join hk r⟩
  | _ => simp [dcOf] at e
def rGet (env : Sl) : R → PyData → Option (Option PyData)
  | .var j, y => dGet env j y
  | .tmp c, y => cGet c y
  | .pd x, y => match dcOf x with
    | some c => cGet c y
    | none => none
  | .nt _, _ => none
theorem rGet_ok {K : PySem.W.Frag} {H₀ : Hp} {B : Mset} {H : Hp} {σ : St} {env : Sl} {w v : V} {d : R} {y : PyData} {o : Option PyData} (en : EnvR K B H σ env) (h : RA K H₀ B H σ env w d) (r : Rp K B H v y) (e : rGet env d y = some o) : ∃ a, w = .ref a ∧ DGt K B H a v o := by
  cases d with
  | pd x =>
    have e : (match dcOf x with
      | some c => cGet c y
      | none => none) = some o := e
    split at e
    · rename_i c hc
      obtain ⟨a, rfl, hc⟩ := dcOf_ok h hc
      exact ⟨a, rfl, cGet_ok hc r e⟩
    · cases e
  | nt x => cases e
  | var j => exact dGet_ok en h r e
  | tmp c =>
    obtain ⟨a, rfl, _, _, hc, _⟩ := h
    exact ⟨a, rfl, cGet_ok hc r e⟩
def eDx (fd fk : EE) : EE := fun env => match fd env with
  | none => none
  | some (d0, e1) => match fk e1 with
    | none => none
    | some (d, e2) => match pdOf d with
      | none => none
      | some y => match rGet e2 d0 y with
        | some (some z) => some (.pd z, e2)
        | _ => none
@[simp] theorem z_dx (fd fk : EE) (env : Sl) : eDx fd fk env = (match fd env with
  | none => none
  | some (d0, e1) => match fk e1 with
    | none => none
    | some (d, e2) => match pdOf d with
      | none => none
      | some y => match rGet e2 d0 y with
        | some (some z) => some (.pd z, e2)
        | _ => none) := rfl
@[simp] theorem z_rGet1 (env : Sl) (j : Nat) (y : PyData) : rGet env (.var j) y = dGet env j y := rfl
@[simp] theorem z_rGet3 (env : Sl) (x : PyData) (y : PyData) : rGet env (.pd x) y = (match dcOf x with
    | some c => cGet c y
    | none => none) := rfl
@[simp] theorem z_rGet2 (env : Sl) (c : Ct) (y : PyData) : rGet env (.tmp c) y = cGet c y := rfl
theorem e_dx {X : Cx} {o i : Expr} {pos : Pos} {fd fk : EE} (hu : X.A.units + 9 < cLine) (ho : PE X o (tE X.K fd)) (hi : PE X i (tE X.K fk)) (hs : NoSl i := by intro _ _; rfl) : PE X (.Subscript o i pos) (tE X.K (eDx fd fk)) := PE.imp (pe_dg hu ho hi hs) fun σ H Q t => by
  obtain ⟨B, env, d, env', en, ev, q⟩ := t
  unfold eDx at ev
  split at ev
  · cases ev
  rename_i d0 e1 h1
  split at ev
  · cases ev
  rename_i d' e2 h2
  split at ev
  · cases ev
  rename_i y hy
  split at ev
  · rename_i z hz
    cases ev
    refine ⟨B, env, _, _, en, h1, fun B1 H1 w a1 r1 => ⟨B1, e1, _, _, a1.en, h2, fun B2 H2 v a2 r2 => ?_⟩⟩
    obtain ⟨a, rfl, g⟩ := rGet_ok a2.en (r1.ra.later a1.en a2) (pdOf_rp r2 hy) hz
    exact ⟨B2, a, z, rfl, g, fun v r => q B2 H2 v (a1.trans en a2) r⟩
  · cases ev
end T3

end
section
set_option linter.all false
set_option autoImplicit false
set_option Elab.async false
set_option maxRecDepth 100000
namespace T3
open PySem L2
variable [TabL]
def IsDD (H : Hp) (a : Addr) : Prop := (∃ ws, H a = some (.dK ws)) ∨ ∃ es, H a = some (DnO a es)
theorem isDD_at {X : Cx} {pins : List (Addr × Obj)} {σ : St} {H : Hp} {s : Shared} {a : Addr} (I : Inv X pins σ H s) (d : IsDD H a) :
    s.TypeIs (.ref a) "dict" ∧ (∀ b, Value.ref a = .ref b → ∃ ob, s.heap.get? b = some ob ∧ ob.dict = none) := by
  rcases d with ⟨kvs, e⟩ | ⟨es, e⟩
  · obtain ⟨t1, t2, _⟩ := isD_at I (.inl ⟨kvs, .inl e⟩)
    exact ⟨t1, t2⟩
  · obtain ⟨⟨y, z, e1, e2, e3⟩, _⟩ := I.hok a _ e
    exact ⟨⟨_, e1, e2.1⟩, fun b q => by cases q; exact ⟨_, e1, e2.2.1⟩⟩
section
variable {X : Cx} {pins : List (Addr × Obj)} {σ : St} {H : Hp} {s : Shared} {a : Addr} {A : Around} {E : Value → Shared → Prop} {B : Mset} {y d : V} {u r : Value} {o : Option PyData} {x : PyData}
theorem dg_get2 {Q : Value → Shared → Prop} (hu : A.units + 9 < cLine) (I : Inv X pins σ H s) (g : DGt X.K B H a y o) (ry : RelV y u) (rd : RelV d r) (rp : Rp X.K B H d x)
    (h : ∀ w' s' v, Inv X pins σ H s' → RelV v w' → Rp X.K B H v (o.getD x) → Q w' s') : wpAny (model X.prog X.w) A (call (.builtin "dict.get") [.ref a, u, r]) Q E s := by
  rcases g with ⟨kvs, ws, k, e, rr, rfl, l⟩ | ⟨kvs, k, e, hk, rk, l⟩
  · refine d_get2 (o := valV ws k) (by omega) I (.inl ⟨ws, k, .inl e, rfl, rfl⟩) ry rd fun w' s' I' rv => h w' s' _ I' rv ?_
    rcases rr.val (k := k) with ⟨v, z, h1, h2, h3⟩ | ⟨h1, h2⟩
    · rw [l, h1, h2]; exact h3
    · rw [l, h1, h2]; exact rp
  · obtain ⟨b, rfl⟩ := nk_ref hk rk
    cases (show u = Value.ref b from ry)
    obtain ⟨ns, _, _, xs, dd, kn⟩ := dn_open I e
    refine call_meetsIn PySem.F.slot_dict_get dd.typeIs PySem.F.entry_dict_get (PySem.F.args_dict_get_3 _ _ _) (meetsH_dict_get_default (nestedKind X.prog X.w) a b ns r) ⟨room9 hu, k, xs, nk_key I hk rk, dd, ?_⟩
    rcases kn.val (k := k) with ⟨p, v, z, h1, h2, h3, h4⟩ | ⟨h1, h2⟩
    · rw [h1]
      exact h _ _ v (I.tok _) h3 (by rw [l, h2]; exact h4)
    · rw [h1]
      exact h _ _ d (I.tok _) rd (by rw [l, h2]; exact rp)
end
def tGt2 (K : PySem.W.Frag) (td ty tx : TE) : TE := fun σ H Q => td σ H fun v H1 => ∃ a, v = .ref a ∧ IsDD H1 a ∧ ty σ H1 fun y H2 => tx σ H2 fun z H3 => ∃ B o x, DGt K B H3 a y o ∧ Rp K B H3 z x ∧ ∀ w, Rp K B H3 w (o.getD x) → Q w H3
section
variable {X : Cx} {o e f : Expr} {apos cpos : Pos} {td ty tx : TE}
theorem pe_gt2 (hu : X.A.units + 9 < cLine) (ho : PE X o td) (he : PE X e ty) (hf : PE X f tx) (m : M2 X o "get" apos e f cpos) : PE X (.Call (.Attribute o "get" apos) [e, f] [] cpos) (tGt2 X.K td ty tx) := by
  refine ⟨fun pins s σ H Q I h => ?_⟩
  refine wpAny_Call_method m.base m.few m.line PySem.F.plainAttrs_dict PySem.F.slot_dict_get PySem.F.type_dict_get (thn (ho.run pins s σ H _ I h) fun u s1 ⟨x, H1, I1, rx, a, ex, d, q1⟩ => ?_)
  subst ex
  obtain rfl : u = Value.ref a := rx
  obtain ⟨t1, t2⟩ := isDD_at I1 d
  refine ⟨t1, t2, ?_⟩
  rw [m.trees]
  refine Calls.callWith_builtin rfl (Calls.evalArgs_plain (Calls.spliced_cons (thn (he.run pins s1 σ H1 _ I1 q1) fun iv s2 ⟨y, H2, I2, ry, q2⟩ => Calls.spliced_cons (thn (hf.run pins s2 σ H2 _ I2 q2) fun fv s3 ⟨z, H3, I3, rz, B, ov, xx, g, rp, q3⟩ => Calls.spliced_nil ?_))))
  exact dg_get2 hu I3 g ry rz rp fun w' s4 v I4 rw' rpv => ⟨v, H3, I4, rw', q3 v rpv⟩
end
def isDc (env : Sl) : R → Bool
  | .var j => match env[j]? with
    | some (some (.mu _ (.dk _))) => true
    | some (some (.mu _ (.dn _))) => true
    | _ => false
  | .tmp (.dk _) => true
  | .tmp (.dn _) => true
  | _ => false
theorem isDc_ok {K : PySem.W.Frag} {H₀ : Hp} {B : Mset} {H : Hp} {σ : St} {env : Sl} {w : V} {d : R} (en : EnvR K B H σ env) (h : RA K H₀ B H σ env w d) (e : isDc env d = true) : ∃ a, w = .ref a ∧ IsDD H a := by
  cases d with
  | pd x => cases e
  | nt x => cases e
  | var j =>
    dsimp only [isDc] at e
    split at e
    · rename_i m kvs hm
      obtain ⟨a, h1, _, ws, h2, _⟩ := en.mu _ _ _ hm
      have h : σ[j]? = some (some w) := h
      rw [h] at h1
      cases h1
      exact ⟨a, rfl, .inl ⟨ws, h2⟩⟩
    · rename_i m kvs hm
      obtain ⟨a, h1, _, es, h2, _⟩ := en.mu _ _ _ hm
      have h : σ[j]? = some (some w) := h
      rw [h] at h1
      cases h1
      exact ⟨a, rfl, .inr ⟨es, h2⟩⟩
    · cases e
  | tmp c =>
    obtain ⟨a, rfl, _, _, hc, _⟩ := h
    cases c with
    | ls xs => cases e
    | dk kvs => obtain ⟨ws, h2, _⟩ := hc; exact ⟨a, rfl, .inl ⟨ws, h2⟩⟩
    | dn kvs => obtain ⟨es, h2, _⟩ := hc; exact ⟨a, rfl, .inr ⟨es, h2⟩⟩
def eGt2 (fd fk fx : EE) : EE := fun env => match fd env with
  | none => none
  | some (d0, e1) => if isDc e1 d0 = true then match fk e1 with
      | none => none
      | some (d, e2) => match pdOf d with
        | none => none
        | some y => match fx e2 with
          | none => none
          | some (d', e3) => match pdOf d' with
            | none => none
            | some x => match rGet e3 d0 y with
              | some o => some (.pd (o.getD x), e3)
              | none => none
    else none
@[simp] theorem z_gt2 (fd fk fx : EE) (env : Sl) : eGt2 fd fk fx env = (match fd env with
  | none => none
  | some (d0, e1) => if isDc e1 d0 = true then match fk e1 with
      | none => none
      | some (d, e2) => match pdOf d with
        | none => none
        | some y => match fx e2 with
          | none => none
          | some (d', e3) => match pdOf d' with
            | none => none
            | some x => match rGet e3 d0 y with
              | some o => some (.pd (o.getD x), e3)
              | none => none
    else none) := rfl
section
variable {X : Cx} {o e f : Expr} {apos cpos : Pos} {fd fk fx : EE}
theorem e_gt2 (hu : X.A.units + 9 < cLine) (ho : PE X o (tE X.K fd)) (he : PE X e (tE X.K fk)) (hf : PE X f (tE X.K fx)) (m : M2 X o "get" apos e f cpos := by exact ⟨by rfl, by rfl, by rfl, by rfl⟩) : PE X (.Call (.Attribute o "get" apos) [e, f] [] cpos) (tE X.K (eGt2 fd fk fx)) := PE.imp (pe_gt2 hu ho he hf m) fun σ H Q t => by
  obtain ⟨B, env, d, env', en, ev, q⟩ := t
  unfold eGt2 at ev
  split at ev
  · cases ev
  rename_i d0 e1 h1
  split at ev
  · rename_i hd
    split at ev
    · cases ev
    rename_i d1 e2 h2
    split at ev
    · cases ev
    rename_i y hy
    split at ev
    · cases ev
    rename_i d2 e3 h3
    split at ev
    · cases ev
    rename_i x hx
    split at ev
    · rename_i ov hg
      cases ev
      refine ⟨B, env, _, _, en, h1, fun B1 H1 w a1 r1 => ?_⟩
      obtain ⟨a, rfl, dd⟩ := isDc_ok a1.en r1.ra hd
      refine ⟨a, rfl, dd, B1, e1, _, _, a1.en, h2, fun B2 H2 v a2 r2 => ⟨B2, e2, _, _, a2.en, h3, fun B3 H3 z a3 r3 => ?_⟩⟩
      have a23 := a2.trans a1.en a3
      obtain ⟨a', e', g⟩ := rGet_ok a3.en (r1.ra.later a1.en a23) ((pdOf_rp r2 hy).grow (a3.grow a2.en)) hg
      cases e'
      exact ⟨B3, ov, x, g, pdOf_rp r3 hx, fun w r => q B3 H3 w ((a1.trans en a2).trans en a3) r⟩
    · cases ev
  · cases ev
end
end T3

end
section
set_option linter.all false
set_option autoImplicit false
set_option Elab.async false
set_option maxRecDepth 100000
namespace T3
open PySem L2
variable [TabL]
section
variable {X : Cx} {a b : Expr} {fa fb : EE} {p p2 pos pos2 : Pos}
end
def ddp : List (Int × Int) → List (Int × Int)
  | [] => []
  | p :: r => if p ∈ r then ddp r else p :: ddp r
end T3

end
section
set_option linter.all false
set_option autoImplicit false
set_option Elab.async false
set_option maxRecDepth 100000
namespace T3
open PySem L2
variable [TabL]
def kRepL : KK := fun ds env => match ds with
  | [d, .pd (.int k)] => match lsOf env d with
    | none => none
    | some xs => if 0 ≤ k ∧ k ≤ 1000 ∧ xs.length ≤ 1000 then some (.tmp (.ls (List.replicate k.toNat xs).flatten), env) else none
  | _ => none
theorem c_repL {K : PySem.W.Frag} : Con K kRepL (l2 rRep) := by
  intro σ H B env B1 H1 env1 vs ds d e2 Q en a rr hk q x y e
  unfold kRepL at hk
  split at hk
  · rename_i d1 k
    split at hk
    · cases hk
    rename_i xs hx
    split at hk
    · rename_i hl
      cases hk
      subst e
      obtain ⟨p, us, rfl, h1, h2⟩ := lsOf_at a.en (rr.each 0 x d1 rfl rfl) hx
      have h3 : Rp K B1 H1 y (.int k) := rr.each 1 y (.pd (.int k)) rfl rfl
      cases h3
      have hm : xs.length * k.toNat ≤ 1000 * 1000 := Nat.mul_le_mul hl.2.2 (by omega)
      exact ⟨p, k, us, rfl, rfl, h1, by omega, by omega, by rw [h2.length]; exact Nat.le_of_lt (small hm), fun r nr => con_new en a nr (h2.rep _) q⟩
    · cases hk
  · cases hk
def oRepS : List PyData → Option PyData
  | [.str s, .int k] => if 0 ≤ k ∧ k ≤ 1000 ∧ s.length ≤ 1000 then some (.str (Txt.mul s k)) else none
  | _ => none
def rRepS : R2 := fun x y H Q => ∃ s k, x = .str s ∧ y = .int k ∧ 0 ≤ k ∧ k ≤ 1000 ∧ s.length ≤ 1000 ∧ Q (.str (Txt.mul s k)) H
theorem mulOk_of {s : Str} {k : Int} (h1 : 0 ≤ k) (h2 : k ≤ 1000) (h3 : s.length ≤ 1000) : MulOk s k := by
  have hm : s.length * k.toNat ≤ 1000 * 1000 := Nat.mul_le_mul h3 (by omega)
  refine ⟨?_, fun h4 _ => ?_, fun h4 _ => ?_⟩
  · rw [Bool.or_eq_false_iff, decide_eq_false_iff_not, decide_eq_false_iff_not]
    omega
  · have : ((2 : Int) ^ 63 - 1) / 1000 ≤ (2 ^ 63 - 1) / k := by
      refine Int.le_ediv_of_mul_le (by omega) ?_
      have : ((2 : Int) ^ 63 - 1) / 1000 * k ≤ ((2 : Int) ^ 63 - 1) / 1000 * 1000 := Int.mul_le_mul_of_nonneg_left h2 (by decide)
      have h5 : ((2 : Int) ^ 63 - 1) / 1000 * 1000 ≤ 2 ^ 63 - 1 := by decide
      omega
    have h6 : (1000 : Int) ≤ (2 ^ 63 - 1) / 1000 := by decide
    omega
  · show decide (s.length * k.toNat > sizeLine) = false
    rw [decide_eq_false_iff_not]
    have := small hm
    omega
theorem op_repS {X : Cx} : OpR X (binaryOp .Mult) rRepS := by
  intro pins s σ H x y v u Q I rx ry h
  obtain ⟨i, k, rfl, rfl, h1, h2, h3, q⟩ := h
  obtain ⟨t, rfl⟩ := rx
  obtain ⟨t', rfl⟩ := ry
  exact SB.mul (mulOk_of h1 h2 h3) (fun t' tk => ⟨.str _, H, I.tok _, ⟨_, rfl⟩, q⟩)
theorem ok_repS {K : PySem.W.Frag} : OkE K oRepS (l2 rRepS) := by
  intro B H vs xs z Q cn ho q x y e
  unfold oRepS at ho
  split at ho
  · split at ho
    · rename_i hl
      cases ho
      obtain ⟨v, w, e2, c1, c2⟩ := cn.two
      rw [e] at e2
      cases e2
      exact ⟨_, _, c1.str, c2.int, hl.1, hl.2.1, hl.2.2, q _ (Rp.str _)⟩
    · cases ho
  · cases ho
noncomputable def kMul2 : KK := kOr kRepL (kE oRepS)
noncomputable def eMul2 (fa fb : EE) : EE := eThen (eTwo fa fb) kMul2
@[simp] theorem z_mul2 (fa fb : EE) (env : Sl) : eMul2 fa fb env = eThen (eCons fa (eCons fb eNil)) kMul2 env := rfl
theorem x_mul2 {X : Cx} {a b : Expr} {fa fb : EE} {pos : Pos} (ha : PE X a (tE X.K fa)) (hb : PE X b (tE X.K fb)) : PE X (.BinOp a .Mult b pos) (tE X.K (eMul2 fa fb)) := e_op (OpR.or op_rep op_repS) (con_or2 c_repL (con_E ok_repS)) ha hb
end T3

end
section
set_option linter.all false
set_option autoImplicit false
set_option Elab.async false
set_option maxRecDepth 100000
namespace T3
open PySem L2
variable [TabL]
end T3

end
section
set_option linter.all false
set_option autoImplicit false
set_option Elab.async false
namespace T3
open PySem L2
variable [TabL]
end T3

end
section
set_option linter.all false
set_option autoImplicit false
set_option Elab.async false
set_option maxRecDepth 100000
namespace T3
open PySem L2
open Sem (wp)
open AutoSeq1 (wpAny_loadPart')
variable [TabL]
end T3

end
section
set_option linter.all false
set_option autoImplicit false
set_option Elab.async false
namespace T3
open PySem L2 PyProof.Rows
variable [TabL]
theorem len_same {a b : List Int} (h1 : a.Nodup) (h2 : b.Nodup) (h : ∀ x, x ∈ a ↔ x ∈ b) : a.length = b.length :=
  Nat.le_antisymm (h1.length_le_of_subset fun x hx => (h x).mp hx) (h2.length_le_of_subset fun x hx => (h x).mpr hx)
def tLST (K : PySem.W.Frag) (ta : TE) : TE := fun σ H Q => ta σ H fun x H1 => ∃ (t : Addr) (ns : List Int), x = V.ref t ∧ SqT K H1 t (ns.map V.int) ∧ ns.length < 64 ∧ ns.Nodup ∧ Q (.int ns.length) H1
theorem pe_lst {X : Cx} {a : Expr} {ta : TE} {p p2 q pos : Pos} (hc : X.calm = true) (hg : Gl X "len") (hm : X.mg "len" = none) (hg2 : Gl X "set") (hm2 : X.mg "set" = none) (ha : PE X a ta)
    (na : starEach [a] X.env = (false, eval a X.env) :: starEach [] X.env := by rfl) : PE X (.Call (.Name "len" p) [.Call (.Name "set" p2) [a] [] q] [] pos) (tLST X.K ta) := by
  refine ⟨fun pins s σ H Q I h => Call_ (ld_blt I hg hm PySem.boot_len ?_)⟩
  refine PyProof.Rows.callWith_builtin1 (PyProof.Rows.args_cons (Call_ (ld_blt I hg2 hm2 PyProof.Rows.boot_set ?_)) rfl) rfl rfl
  refine PyProof.Rows.callWith_type1 (PyProof.Rows.args_cons (thn (ha.run pins s σ H _ I h) fun v s1 ⟨x, H1, I1, r1, k1⟩ => PyProof.Rows.args_nil ?_) na) na rfl
  obtain ⟨t, ns, rfl, hq, b, nd, k1⟩ := k1
  cases r1
  obtain ⟨its, r, pt, hz⟩ := I1.tuple hq
  refine call_set_tupI ns (I1.ok.hd hc) (show s1.heap.IsTuple t its.toArray from pt) (by simpa using r.ints) (by unfold scanBound; omega) fun h' tk c R1 hcn hk => ?_
  obtain ⟨o, es, ep, z, ho, hex, hd, g, nk, hm3, hb, hf, hn, _, _⟩ := R1
  have ec : c = ns.length := by
    have := len_same nk nd fun x => by rw [← hm3 x]; simp
    rw [List.length_map, Array.length_toList, hn] at this
    exact this
  subst ec
  refine PyProof.Rows.args_nil ?_
  have I2 : Inv X pins σ H1 { s1 with heap := h', toks := tk } := I1.kept fun b o e => hk b o e
  exact call_len_set ho hex hd hf (by rw [hn]; omega) ⟨.int ns.length, H1, I2.tok _, ⟨_, by rw [hn]⟩, k1⟩
end T3

end
section
set_option linter.all false
set_option autoImplicit false
set_option Elab.async false
namespace T3
open PySem L2
variable [TabL]
end T3

end
section
set_option linter.all false
set_option autoImplicit false
set_option Elab.async false
namespace T3
open PySem PyProof.Rows
variable [TabL]
end T3
namespace T3
open PySem L2
variable [TabL]
end T3

end
section
set_option linter.all false
set_option autoImplicit false
set_option Elab.async false
namespace T3
open PySem L2
variable [TabL]
end T3

end
section
set_option linter.all false
set_option autoImplicit false
set_option Elab.async false
namespace T3
open PySem PyProof.Rows TS
variable [TabL]
end T3
namespace T3
open PySem L2
variable [TabL]
end T3

end
section
set_option linter.all false
set_option autoImplicit false
set_option Elab.async false
namespace T3
open PySem L2
variable [TabL]
def sMov (i j : Nat) : SS := fun env => match env[j]? with
  | some (some (.mu .own c)) => if free env i = true ∧ i ≠ j then some (.nx, (env.set j none).set i (some (.mu .own c))) else none
  | _ => none
theorem rd_mov {K : PySem.W.Frag} {i j : Nat} {D : Ends} {σ : St} {H : Hp} (h : tS K (sMov i j) D σ H) : tAsg (tVar j) (gName i) D σ H := by
  obtain ⟨B, env, fl, env', en, ev, q⟩ := h
  unfold sMov at ev
  split at ev
  · rename_i c hj
    split at ev
    · rename_i hc
      obtain ⟨hf, ne⟩ := hc
      cases ev
      obtain ⟨a, ha, hB, hC⟩ := en.mu j .own c hj
      obtain ⟨hi, hm⟩ := free_ne hf
      have hiσ : i < σ.length := by rw [← en.len]; exact hi
      have ne' : j ≠ i := fun z => ne z.symm
      have out : ∀ (k : Nat) x, ((env.set j none).set i (some (.mu .own c)))[k]? = some (some x) → (k = i ∧ x = .mu .own c) ∨ (i ≠ k ∧ j ≠ k ∧ env[k]? = some (some x)) := fun k x e => by
        rcases get_set e with ⟨z, z'⟩ | ⟨z, e⟩
        · exact .inl ⟨z.symm, by cases z'; rfl⟩
        · rcases get_set e with ⟨y, y'⟩ | ⟨y, e⟩
          · cases y'
          · exact .inr ⟨z, y, e⟩
      have wsub : ∀ b, Wof (σ.set i (some (.ref a))) ((env.set j none).set i (some (.mu .own c))) b → Wof σ env b := by
        rintro b ⟨k, m, c', h1, h2, h3⟩
        rcases out k _ h1 with ⟨rfl, _⟩ | ⟨z, y, e⟩
        · rw [List.getElem?_set_self hiσ] at h3
          cases h3
          exact ⟨j, .own, c, hj, by decide, ha⟩
        · rw [List.getElem?_set_ne z] at h3
          exact ⟨k, m, c', e, h2, h3⟩
      refine ⟨_, ha, q B _ H ⟨⟨fun _ _ h _ => h, fun _ h => .inl h, fun _ h _ => h, fun b w => .inl (wsub b w), fun _ h => h⟩, ⟨by simp [en.len], fun k x h => ?_, fun k x h => ?_, fun k m c' h => ?_, fun k l m n c1 c2 b h1 h2 h3 h4 => ?_, en.dom, en.tb⟩, fun k m c' h hn => ?_⟩⟩
      · rcases out k _ h with ⟨_, z⟩ | ⟨z, y, e⟩
        · cases z
        · obtain ⟨v, h1, h2⟩ := en.pd k x e
          exact ⟨v, by rw [List.getElem?_set_ne z]; exact h1, h2⟩
      · rcases out k _ h with ⟨_, z⟩ | ⟨z, y, e⟩
        · cases z
        · obtain ⟨v, h1, h2⟩ := en.nt k x e
          exact ⟨v, by rw [List.getElem?_set_ne z]; exact h1, h2⟩
      · rcases out k _ h with ⟨rfl, z⟩ | ⟨z, y, e⟩
        · cases z
          exact ⟨a, by rw [List.getElem?_set_self hiσ], hB, hC⟩
        · obtain ⟨v, h1, h2⟩ := en.mu k m c' e
          exact ⟨v, by rw [List.getElem?_set_ne z]; exact h1, h2⟩
      · rcases out k _ h1 with ⟨rfl, _⟩ | ⟨z, y, e⟩
        · rcases out l _ h2 with ⟨rfl, _⟩ | ⟨z2, y2, e2⟩
          · rfl
          · rw [List.getElem?_set_self hiσ] at h3
            cases h3
            rw [List.getElem?_set_ne z2] at h4
            exact absurd (en.inj j l _ _ _ _ a hj e2 ha h4) y2
        · rcases out l _ h2 with ⟨rfl, _⟩ | ⟨z2, y2, e2⟩
          · rw [List.getElem?_set_self hiσ] at h4
            cases h4
            rw [List.getElem?_set_ne z] at h3
            exact absurd (en.inj j k _ _ _ _ a hj e ha h3) y
          · rw [List.getElem?_set_ne z] at h3
            rw [List.getElem?_set_ne z2] at h4
            exact en.inj k l _ _ _ _ b e e2 h3 h4
      · have k1 : i ≠ k := fun z => by subst z; exact hn (hm _ _ h)
        have k2 : j ≠ k := fun z => by subst z; rw [hj] at h; cases h; exact hn rfl
        exact ⟨by rw [List.getElem?_set_ne k1], c', by rw [List.getElem?_set_ne k1, List.getElem?_set_ne k2]; exact h⟩
    · cases ev
  · cases ev
theorem s_mov {X : Cx} {pos : Pos} {e : Expr} {i j : Nat} {x : Str} {pos' : Pos} (hN : X.N.Nodup) (hi : X.N[i]? = some x) (hx : Loc X.env.scope x) (he : PE X e (tVar j)) (hs : swapsWith e (some (.Name x pos')) pos.line X.env = pure false := by rfl) (hf : X.fn x = true ∨ X.env.scope.names.lookup x = some .local := by first | exact .inl rfl | exact .inr rfl | assumption) :
    PS X (.Assign [.Name x pos'] e pos) (tS X.K (sMov i j)) := PS.imp (ps_set hN hi hx he hs hf) fun _ _ _ t => rd_mov t
@[simp] theorem z_mov (i j : Nat) (env : Sl) : sMov i j env = (match env[j]? with
  | some (some (.mu .own c)) => if free env i = true ∧ i ≠ j then some (.nx, (env.set j none).set i (some (.mu .own c))) else none
  | _ => none) := rfl
end T3

end
section
set_option linter.all false
set_option autoImplicit false
set_option Elab.async false
namespace T3
open PySem PySem.Spec PySem.W L2 PyProof.Rows
variable [TabL]
end T3
namespace T3
open PySem L2
variable [TabL]
end T3

end
section
set_option linter.all false
set_option autoImplicit false
set_option Elab.async false
set_option maxRecDepth 100000
set_option maxHeartbeats 1000000
namespace ZM
open PySem RZ
open PySem.Sem (wp)
def Fin (prog : Program) (w : World) (it : Addr) (P : Heap → Prop) : Prop :=
  ∀ {A : Around} {E : Value → Shared → Prop} {Q : Value → Shared → Prop} {s : Shared}, A.handled = none → P s.heap → (∀ h' e, Heap.ExtBut it s.heap h' → (∃ o, h'.get? e = some o ∧ o.cls = .type "StopIteration") → E (.ref e) { s with heap := h' }) → wpAny (model prog w) A (Builtin.SmallTypes.nextOf (.ref it)) Q E s
section
variable {prog : Program} {w : World} {A : Around} {E : Value → Shared → Prop} {s : Shared}
end
end ZM

end
section
set_option linter.all false
set_option autoImplicit false
set_option Elab.async false
set_option maxRecDepth 100000
set_option maxHeartbeats 1000000
namespace ZM
open PySem PySem.Spec PyProof.Rows L2 RZ
end ZM
namespace T3
open PySem L2
variable [TabL]
end T3

end
section
set_option linter.all false
set_option autoImplicit false
set_option Elab.async false
namespace T3
open PySem L2
variable [TabL]
end T3

end
section
set_option linter.all false
set_option autoImplicit false
set_option Elab.async false
namespace T3
open PySem L2
variable [TabL]
def wS (f : SS) (env : Sl) (P : Fl → Sl → Prop) : Prop := match f env with
  | none => False
  | some p => P p.1 p.2
theorem wS_ex {f : SS} {env : Sl} {P : Fl → Sl → Prop} : wS f env P ↔ ∃ fl e, f env = some (fl, e) ∧ P fl e := by
  unfold wS
  constructor
  · intro h
    split at h
    · exact h.elim
    · rename_i p hp
      exact ⟨p.1, p.2, hp, h⟩
  · rintro ⟨fl, e, h1, h2⟩
    rw [h1]
    exact h2
def Go (g : SS) (P : Fl → Sl → Prop) (e : Sl) : Prop := wS g e P
def nxt (K : Sl → Prop) (P : Fl → Sl → Prop) : Fl → Sl → Prop
  | .nx, e => K e
  | .bk, e => P .bk e
  | .ct, e => P .ct e
  | .rt d, e => P (.rt d) e
def wF (F : FnD) (as : List S) (Q : R → List S → Prop) : Prop := ∃ r as', F as = some (r, as') ∧ Q r as'
def retP (as : List S) (Q : R → List S → Prop) : Fl → Sl → Prop
  | .rt d, e => ∃ d' as', outR e d = some d' ∧ finals as e = some as' ∧ Q d' as'
  | .nx, e => ∃ as', finals as e = some as' ∧ Q (.pd .none) as'
  | .bk, _ => False
  | .ct, _ => False
def lpP (I : Sl → Prop) (P : Fl → Sl → Prop) : Fl → Sl → Prop
  | .nx, e => I e
  | .ct, e => I e
  | .bk, e => P .nx e
  | .rt d, e => P (.rt d) e
section
variable {f g : SS} {env : Sl} {P P' : Fl → Sl → Prop} {K : Sl → Prop} {e : Sl}
theorem go : Go g P e ↔ wS g e P := Iff.rfl
@[simp] theorem nxt_nx : nxt K P .nx e = K e := rfl
@[simp] theorem nxt_rt {d : R} : nxt K P (.rt d) e = P (.rt d) e := rfl
@[simp] theorem lpP_nx : lpP K P .nx e = K e := rfl
@[simp] theorem lpP_ct : lpP K P .ct e = K e := rfl
@[simp] theorem lpP_bk : lpP K P .bk e = P .nx e := rfl
@[simp] theorem lpP_rt {d : R} : lpP K P (.rt d) e = P (.rt d) e := rfl
@[simp] theorem retP_rt {as : List S} {Q : R → List S → Prop} {d : R} : retP as Q (.rt d) e = ∃ d' as', outR e d = some d' ∧ finals as e = some as' ∧ Q d' as' := rfl
@[simp] theorem retP_nx {as : List S} {Q : R → List S → Prop} : retP as Q .nx e = ∃ as', finals as e = some as' ∧ Q (.pd .none) as' := rfl
theorem wS.imp (h : wS f env P) (i : ∀ fl e, P fl e → P' fl e) : wS f env P' := let ⟨fl, e, a, b⟩ := wS_ex.mp h; wS_ex.mpr ⟨fl, e, a, i fl e b⟩
theorem wS_of {fl : Fl} (h : f env = some (fl, e)) (q : P fl e) : wS f env P := wS_ex.mpr ⟨fl, e, h, q⟩
theorem wS_seq (h : wS f env (nxt (Go g P) P)) : wS (sSeq f g) env P := by
  rw [wS_ex] at h ⊢
  obtain ⟨fl, e, h1, h2⟩ := h
  cases fl with
  | nx =>
    obtain ⟨fl, e', h3, h4⟩ := wS_ex.mp h2
    exact ⟨fl, e', by simp [h1, h3], h4⟩
  | bk => exact ⟨_, _, by simp [h1], h2⟩
  | ct => exact ⟨_, _, by simp [h1], h2⟩
  | rt d => exact ⟨_, _, by simp [h1], h2⟩
theorem wS_ifW {c : EB} (h : match c env with
  | none => False
  | some p => if p.1 = true then Go f P p.2 else Go g P p.2) : wS (sIf c f g) env P := by
  split at h
  · exact h.elim
  · rename_i p h1
    unfold wS
    rw [z_if, h1]
    split at h
    · rename_i hb
      simp only [hb, if_true]
      exact h
    · rename_i hb
      simp only [hb]
      exact h
def gW (g : GG) (x : PyData) (e : Sl) (K : Sl → Prop) : Prop := match g x e with
  | none => False
  | some e1 => K e1
theorem gW_ex {g : GG} {x : PyData} {e : Sl} {K : Sl → Prop} (h : gW g x e K) : ∃ e1, g x e = some e1 ∧ K e1 := by
  unfold gW at h
  split at h
  · exact h.elim
  · rename_i e1 h1
    exact ⟨e1, h1, h⟩
theorem wS_forL {g : GG} {body : SS} (I : List PyData → Sl → Prop) (hs : ∀ x rest e, I (x :: rest) e → gW g x e (Go body (lpP (I rest) P))) (he : ∀ e, I [] e → P .nx e) : ∀ xs e, I xs e → wS (forL g body xs) e P
  | [], e, h => wS_of (fl := .nx) rfl (he e h)
  | x :: xs, e, h => by
    obtain ⟨e1, h1, hw⟩ := gW_ex (hs x xs e h)
    obtain ⟨fl, e2, h2, h3⟩ := wS_ex.mp hw
    cases fl with
    | nx =>
      obtain ⟨fl, e3, h4, h5⟩ := wS_ex.mp (wS_forL I hs he xs e2 h3)
      exact wS_of (by simp only [forL, h1, h2, h4]) h5
    | ct =>
      obtain ⟨fl, e3, h4, h5⟩ := wS_ex.mp (wS_forL I hs he xs e2 h3)
      exact wS_of (by simp only [forL, h1, h2, h4]) h5
    | bk => exact wS_of (fl := .nx) (by simp only [forL, h1, h2]) h3
    | rt d => exact wS_of (fl := .rt d) (by simp only [forL, h1, h2]) h3
theorem wS_for {it : EI} {g : GG} {body : SS} {xs : List PyData} {lk : Lk} (hi : it env = some (xs, lk, e)) (I : List PyData → Sl → Prop) (h0 : I xs e)
    (hs : ∀ x rest e, I (x :: rest) e → gW g x e (Go body (lpP (I rest) fun fl e => P fl (unlock lk e)))) (he : ∀ e, I [] e → P .nx (unlock lk e)) : wS (sFor it g body) env P := by
  obtain ⟨fl, e', h1, h2⟩ := wS_ex.mp (wS_forL (P := fun fl e => P fl (unlock lk e)) I hs he xs e h0)
  exact wS_of (by simp only [z_for, hi, h1]) h2
theorem wF_run {n : Nat} {b : SS} {as : List S} {Q : R → List S → Prop} (h : startE n as = e) (q : wS b e (retP as Q)) : wF (runFn n b) as Q := by
  obtain ⟨fl, e', h1, h2⟩ := wS_ex.mp q
  cases fl with
  | nx =>
    obtain ⟨as', h3, h4⟩ := h2
    exact ⟨_, _, by rw [run_of h, h1]; simp only [h3], h4⟩
  | rt d =>
    obtain ⟨d', as', h3, h4, h5⟩ := h2
    exact ⟨_, _, by rw [run_of h, h1]; simp only [h3, h4], h5⟩
  | bk => exact h2.elim
  | ct => exact h2.elim
end
end T3

end
section
set_option linter.all false
set_option autoImplicit false
set_option Elab.async false
namespace T3
open PySem L2
variable [TabL]
section
variable (env : Sl) (fa fb : EE) (f : EA) (x y : PyData) (j : Nat) (ds : List R) (neg : Bool)
@[simp] theorem z_dg : eDg fa fb env = (match fa env with
  | some (.var j, e1) => match fb e1 with
    | some (d, e2) => match pdOf d with
      | some y => match dGet e2 j y with
        | some (some z) => some (.pd z, e2)
        | _ => none
      | none => none
    | none => none
  | _ => none) := rfl
@[simp] theorem z_pdOf1 : pdOf (.pd x) = some x := rfl
@[simp] theorem z_pdOf2 (xs : List PyData) : pdOf (.nt xs) = some (.tuple xs) := rfl
@[simp] theorem z_dGet : dGet env j y = (match env[j]? with
  | some (some (.mu _ c)) => cGet c y
  | _ => none) := rfl
@[simp] theorem z_dPut : dPut env j y x = (match env[j]? with
  | some (some (.mu m c)) => if m = .fro then none else match cPut c y x with
    | some c' => some (env.set j (some (.mu m c')))
    | none => none
  | _ => none) := rfl
@[simp] theorem z_gDs : gDs fa fb x env = (match fa env with
  | some (.var j, e1) => match fb e1 with
    | some (d, e2) => match pdOf d with
      | some y => dPut e2 j y x
      | none => none
    | none => none
  | _ => none) := rfl
@[simp] theorem z_kDict : kDict ds env = (match ctns env ds with
  | some [.list ps] => match pairsN ps with
    | some kvs => some (.tmp (.dn (allN kvs)), env)
    | none => none
  | _ => none) := rfl
end
end T3

end
section
set_option linter.all false
set_option autoImplicit false
set_option Elab.async false
namespace MM
open PySem L2 T3
abbrev Cell := Int × Int
abbrev Ly := Int × Int × Int
inductive Dir where | n | e | s | w
  deriving DecidableEq
def Dir.code : Dir → Nat
  | .n => 110
  | .e => 101
  | .s => 115
  | .w => 119
def chS (d : Dir) : Str := ⟨#[d.code]⟩
def rowS (ds : List Dir) : Str := ⟨(ds.map Dir.code).toArray⟩
def stepC (c : Cell) : Dir → Cell
  | .n => (c.1, c.2 + 1)
  | .e => (c.1 + 1, c.2)
  | .s => (c.1, c.2 - 1)
  | .w => (c.1 - 1, c.2)
def lyings : List Ly := [(0, 1, 2), (0, 2, 4), (0, 3, 1), (0, 4, 3), (1, 0, 3), (1, 2, 0), (1, 3, 5), (1, 5, 2), (2, 0, 1), (2, 1, 5), (2, 4, 0), (2, 5, 4), (3, 0, 4), (3, 1, 0), (3, 4, 5), (3, 5, 1), (4, 0, 2), (4, 2, 5), (4, 3, 0), (4, 5, 3), (5, 1, 3), (5, 2, 1), (5, 3, 4), (5, 4, 2)]
theorem signs_row (ds : List Dir) : signs (rowS ds) = ds.map fun d => .str (chS d) := by
  simp [signs, rowS, chS]
theorem chS_n : chS .n = "n" := by decide
theorem chS_e : chS .e = "e" := by decide
theorem chS_s : chS .s = "s" := by decide
theorem chS_w : chS .w = "w" := by decide
theorem chS_inj {a b : Dir} (h : chS a = chS b) : a = b := by
  cases a <;> cases b <;> first | rfl | (exfalso; revert h; decide)
theorem eqv_int (i j : Int) : PyData.eqv (.int i) (.int j) = decide (i = j) := by
  simp only [PyData.eqv]; by_cases h : i = j <;> simp [h]
theorem eqv_cell (c d : Cell) : PyData.eqv (clD c) (clD d) = decide (c = d) := by
  simp only [clD, PyData.eqv, PyData.eqvAll]
  by_cases h1 : c.1 = d.1 <;> by_cases h2 : c.2 = d.2 <;> simp [h1, h2, Prod.ext_iff]
theorem eqv_ch (a b : Dir) : PyData.eqv (.str (chS a)) (.str (chS b)) = decide (a = b) := by
  simp only [PyData.eqv]
  by_cases h : a = b
  · simp [h]
  · simp [h]
    intro z
    exact h (chS_inj z)
theorem sh_int (i : Int) : SeqAt.shaped (.int i) = true := by simp [SeqAt.shaped, PyData.canLay0, PyData.depth]
theorem sh_ch (d : Dir) : SeqAt.shaped (.str (chS d)) = true := by cases d <;> simp [SeqAt.shaped, PyData.canLay0, PyData.depth, PyData.strOk, chS, Dir.code]
theorem sh_cell (c : Cell) : SeqAt.shaped (clD c) = true := by simp [clD, SeqAt.shaped, PyData.canLay0, PyData.canLayAll0, PyData.depth, PyData.depthAll]
theorem lay_map {α : Type} (f : α → PyData) (h : ∀ a, (f a).canLay0 = true) : ∀ l : List α, PyData.canLayAll0 (l.map f) = true
  | [] => by simp [PyData.canLayAll0]
  | a :: l => by simp [PyData.canLayAll0, h a, lay_map f h l]
theorem depth_map {α : Type} (f : α → PyData) (k : Nat) (h : ∀ a, (f a).depth ≤ k) : ∀ l : List α, PyData.depthAll (l.map f) ≤ k
  | [] => by simp [PyData.depthAll]
  | a :: l => by
    have h1 := h a
    have h2 := depth_map f k h l
    simp only [List.map_cons, PyData.depthAll]
    omega
theorem sh_tup {α : Type} (f : α → PyData) (h1 : ∀ a, (f a).canLay0 = true) (h2 : ∀ a, (f a).depth ≤ 60) (l : List α) : SeqAt.shaped (.tuple (l.map f)) = true := by
  have a := lay_map f h1 l
  have b := depth_map f 60 h2 l
  simp only [SeqAt.shaped, PyData.canLay0, PyData.depth, a, Bool.true_and, decide_eq_true_eq]
  exact decide_eq_true (by omega)
theorem sh_cells (l : List Cell) : SeqAt.shaped (.tuple (l.map clD)) = true := sh_tup clD (fun c => by simp [clD, PyData.canLay0, PyData.canLayAll0]) (fun c => by simp [clD, PyData.depth, PyData.depthAll]) l
theorem any_cell (c : Cell) (l : List Cell) : ((l.map clD).any fun z => PyData.eqv z (clD c)) = decide (c ∈ l) := by
  induction l with
  | nil => simp
  | cons a l ih =>
    rw [List.map_cons, List.any_cons, ih, eqv_cell]
    by_cases h : a = c
    · simp [h]
    · have h' : ¬ c = a := fun z => h z.symm
      simp [h, h']
theorem lcL_pure {g : GG} {t : EB} {f : EE} {vs : List Nat} {env : Sl} {α : Type} {p : α → Bool} {y : α → PyData} {q : α → PyData} : ∀ (as : List α) (acc : List PyData),
    (∀ a ∈ as, ∃ e1 e2, g (q a) (wipeE env vs) = some e1 ∧ t e1 = some (p a, e2) ∧ (p a = true → ∃ d e3, f e2 = some (d, e3) ∧ data1 d = some (y a) ∧ unwipe env e3 vs = env) ∧ (p a = false → unwipe env e2 vs = env)) →
    lcL g t f vs (as.map q) env acc = some (acc ++ (as.filter p).map y, env)
  | [], acc, _ => by simp [lcL]
  | a :: as, acc, h => by
    obtain ⟨e1, e2, h1, h2, h3, h4⟩ := h a (by simp)
    have ih := fun acc => lcL_pure (g := g) (t := t) (f := f) (vs := vs) (env := env) (p := p) (y := y) (q := q) as acc (fun b hb => h b (by simp [hb]))
    rw [List.map_cons]
    unfold lcL
    rw [h1]
    simp only [h2]
    cases hp : p a with
    | true =>
      obtain ⟨d, e3, k1, k2, k3⟩ := h3 hp
      simp only [k1, k2, k3, if_true, ih, List.filter_cons, hp, List.map_cons, List.append_assoc, List.cons_append, List.nil_append]
    | false =>
      simp only [h4 hp, ih, List.filter_cons, hp]
      simp
theorem lcL_all {g : GG} {f : EE} {vs : List Nat} {env : Sl} {α : Type} {y : α → PyData} {q : α → PyData} (as : List α) 
    (h : ∀ a ∈ as, ∃ e1 d e3, g (q a) (wipeE env vs) = some e1 ∧ f e1 = some (d, e3) ∧ data1 d = some (y a) ∧ unwipe env e3 vs = env) :
    lcL g bYes f vs (as.map q) env [] = some (as.map y, env) := by
  have := lcL_pure (g := g) (t := bYes) (f := f) (vs := vs) (env := env) (p := fun _ => true) (y := y) (q := q) as [] (fun a ha => by
    obtain ⟨e1, d, e3, h1, h2, h3, h4⟩ := h a ha
    exact ⟨e1, e1, h1, rfl, fun _ => ⟨d, e3, h2, h3, h4⟩, fun z => by simp at z⟩)
  rw [this, List.filter_eq_self.mpr (fun _ _ => rfl)]
  rfl
theorem bools_of {α : Type} (f : α → Bool) : ∀ l : List α, bools? (l.map fun a => .bool (f a)) = some (l.map f)
  | [] => rfl
  | a :: l => by simp [bools?, bools_of f l]
theorem ints_of : ∀ l : List Int, ints? (l.map .int) = some l
  | [] => rfl
  | a :: l => by simp [ints?, ints_of l]
end MM

end
section
set_option linter.all false
set_option autoImplicit false
set_option Elab.async false
namespace MM
open PySem L2 T3
structure RD (p k : Nat) (d : PyData) : Prop where
  lay : d.canLay0 = true
  dep : d.depth ≤ p
  shw : d.showable = true
  lvs : d.leavesShort 13 = true
  wt : d.weight ≤ k
theorem RD.int {i : Int} (h1 : -999999999999 ≤ i) (h2 : i ≤ 999999999999) : RD 0 40 (.int i) := by
  have hl : i.natAbs.log2 ≤ 39 := by
    by_cases h0 : i.natAbs = 0
    · rw [h0]; decide
    · have : i.natAbs.log2 < 40 := (Nat.log2_lt h0).mpr (by omega)
      omega
  refine ⟨by simp [PyData.canLay0], by simp [PyData.depth], ?_, ?_, ?_⟩
  · simp only [PyData.showable, decide_eq_true_eq]; omega
  · simp only [PyData.leavesShort, decide_eq_true_eq]; exact PyData.shown_int_le2 h1 h2
  · simp only [PyData.weight]; split <;> omega
theorem RD.none : RD 0 40 .none := ⟨by simp [PyData.canLay0], by simp [PyData.depth], by simp [PyData.showable], by simp [PyData.leavesShort], by simp [PyData.weight]⟩
theorem RD.bool (b : Bool) : RD 0 40 (.bool b) := ⟨by simp [PyData.canLay0], by simp [PyData.depth], by simp [PyData.showable], by simp [PyData.leavesShort], by simp [PyData.weight]⟩
theorem RD.all {p k : Nat} : ∀ {xs : List PyData}, (∀ x ∈ xs, RD p k x) → PyData.canLayAll0 xs = true ∧ PyData.depthAll xs ≤ p ∧ PyData.showableAll xs = true ∧ PyData.leavesShortAll 13 xs = true ∧ PyData.weightAll xs ≤ (k + 1) * xs.length
  | [], _ => by simp [PyData.canLayAll0, PyData.depthAll, PyData.showableAll, PyData.leavesShortAll, PyData.weightAll]
  | x :: xs, h => by
    obtain ⟨a1, a2, a3, a4, a5⟩ := h x (by simp)
    obtain ⟨b1, b2, b3, b4, b5⟩ := RD.all (xs := xs) fun y hy => h y (by simp [hy])
    refine ⟨by simp [PyData.canLayAll0, a1, b1], ?_, by simp [PyData.showableAll, a3, b3], by simp [PyData.leavesShortAll, a4, b4], ?_⟩
    · simp only [PyData.depthAll]; omega
    · simp only [PyData.weightAll, List.length_cons]
      rw [Nat.mul_add]
      omega
theorem RD.tup {p k n : Nat} {xs : List PyData} (h : ∀ x ∈ xs, RD p k x) (hn : xs.length ≤ n) : RD (p + 1) ((k + 1) * n) (.tuple xs) := by
  obtain ⟨b1, b2, b3, b4, b5⟩ := RD.all h
  refine ⟨by simp [PyData.canLay0, b1], ?_, by simp [PyData.showable, b3], by simp [PyData.leavesShort, b4], ?_⟩
  · simp only [PyData.depth]; omega
  · simp only [PyData.weight]
    exact Nat.le_trans b5 (Nat.mul_le_mul_left _ hn)
theorem RD.lst {p k n : Nat} {xs : List PyData} (h : ∀ x ∈ xs, RD p k x) (hn : xs.length ≤ n) : RD (p + 1) ((k + 1) * n) (.list xs) := by
  obtain ⟨b1, b2, b3, b4, b5⟩ := RD.all h
  refine ⟨by simp [PyData.canLay0, b1], ?_, by simp [PyData.showable, b3], by simp [PyData.leavesShort, b4], ?_⟩
  · simp only [PyData.depth]; omega
  · simp only [PyData.weight]
    exact Nat.le_trans b5 (Nat.mul_le_mul_left _ hn)
theorem RD.mono {p k p' k' : Nat} {d : PyData} (h : RD p k d) (h1 : p ≤ p') (h2 : k ≤ k') : RD p' k' d := ⟨h.lay, Nat.le_trans h.dep h1, h.shw, h.lvs, Nat.le_trans h.wt h2⟩
theorem RD.ok {p k : Nat} {d : PyData} (h : RD p k d) (h1 : p ≤ 60) (h2 : k ≤ 60000) : ShOk d := by
  have := h.dep
  have hw := h.wt
  refine ⟨?_, h.shw, ?_⟩
  · unfold SeqAt.shaped
    rw [h.lay, Bool.true_and]
    exact decide_eq_true (by omega)
  · have := PyData.shown_le 13 (by omega) d h.lvs
    omega
theorem RD.cell {c : Cell} (h : -9 ≤ c.1 ∧ c.1 ≤ 9 ∧ -9 ≤ c.2 ∧ c.2 ≤ 9) : RD 1 82 (clD c) := RD.tup (k := 40) (n := 2) (by
  intro x hx
  simp only [List.mem_cons, List.not_mem_nil, or_false] at hx
  rcases hx with rfl | rfl
  · exact RD.int (by omega) (by omega)
  · exact RD.int (by omega) (by omega)) (by simp)
theorem repr_t {xs : List PyData} (h : ShOk (.tuple xs)) : oRepr [.tuple xs] = some (.str (PyData.tuple xs).shown) := by
  show (if ShOk (.tuple xs) then some (PyData.str (PyData.tuple xs).shown) else none) = _
  exact if_pos h
end MM

end
section
set_option linter.all false
set_option autoImplicit false
set_option Elab.async false
namespace MM
open PySem L2 T3
def itr (m : Nat → Nat) : Nat → Nat → Nat
  | 0, x => x
  | k + 1, x => itr m k (m x)
theorem itr_succ (m : Nat → Nat) : ∀ k x, itr m (k + 1) x = m (itr m k x)
  | 0, x => rfl
  | k + 1, x => by
    show itr m (k + 1) (m x) = m (itr m (k + 1) x)
    rw [itr_succ m k (m x)]
    rfl
theorem itr_add (m : Nat → Nat) : ∀ a b x, itr m (a + b) x = itr m a (itr m b x)
  | a, 0, x => rfl
  | a, b + 1, x => by
    show itr m (a + b) (m x) = itr m a (itr m b (m x))
    exact itr_add m a b (m x)
theorem itr_lt {n : Nat} {m : Nat → Nat} (hm : ∀ j, j < n → m j < n) : ∀ k x, x < n → itr m k x < n
  | 0, x, h => h
  | k + 1, x, h => itr_lt hm k (m x) (hm x h)
theorem itr_inj {n : Nat} {m : Nat → Nat} (hm : ∀ j, j < n → m j < n) (hi : ∀ i j, i < n → j < n → m i = m j → i = j) : ∀ k x y, x < n → y < n → itr m k x = itr m k y → x = y
  | 0, _, _, _, _, h => h
  | k + 1, x, y, hx, hy, h => hi x y hx hy (itr_inj hm hi k (m x) (m y) (hm x hx) (hm y hy) h)
theorem home {n : Nat} {m : Nat → Nat} (hm : ∀ j, j < n → m j < n) (hi : ∀ i j, i < n → j < n → m i = m j → i = j) (x : Nat) (hx : x < n) : ∃ k, 1 ≤ k ∧ k ≤ n ∧ itr m k x = x := by
  apply Classical.byContradiction
  intro hno
  have hno' : ∀ k, 1 ≤ k → k ≤ n → itr m k x ≠ x := fun k h1 h2 h3 => hno ⟨k, h1, h2, h3⟩
  have nd : ((List.range (n + 1)).map fun k => itr m k x).Nodup := by
    rw [List.Nodup, List.pairwise_map]
    have := List.pairwise_lt_range (n := n + 1)
    refine List.Pairwise.imp_of_mem ?_ this
    intro a b ha hb hab he
    have hb' : b ≤ n := by have := List.mem_range.mp hb; omega
    have e1 : itr m a (itr m (b - a) x) = itr m b x := by rw [← itr_add]; congr 1; omega
    have e2 := itr_inj hm hi a x (itr m (b - a) x) hx (itr_lt hm _ x hx) (by rw [e1]; exact he)
    exact hno' (b - a) (by omega) (by omega) e2.symm
  have sub : ((List.range (n + 1)).map fun k => itr m k x) ⊆ List.range n := by
    intro y hy
    obtain ⟨k, _, rfl⟩ := List.mem_map.mp hy
    exact List.mem_range.mpr (itr_lt hm k x hx)
  have := nd.length_le_of_subset sub
  simp at this
  omega
theorem period {n : Nat} {m : Nat → Nat} (hm : ∀ j, j < n → m j < n) (hi : ∀ i j, i < n → j < n → m i = m j → i = j) (x : Nat) (hx : x < n) : ∃ k, 1 ≤ k ∧ k ≤ n ∧ itr m k x = x ∧ ∀ j, 1 ≤ j → j < k → itr m j x ≠ x := by
  obtain ⟨k, h1, h2, h3⟩ := home hm hi x hx
  have : ∀ k, 1 ≤ k → itr m k x = x → ∃ k', 1 ≤ k' ∧ k' ≤ k ∧ itr m k' x = x ∧ ∀ j, 1 ≤ j → j < k' → itr m j x ≠ x := by
    intro k
    induction k using Nat.strongRecOn with
    | ind k ih =>
      intro h1 h3
      by_cases h : ∃ j, 1 ≤ j ∧ j < k ∧ itr m j x = x
      · obtain ⟨j, a, b, c⟩ := h
        obtain ⟨k', p1, p2, p3, p4⟩ := ih j b a c
        exact ⟨k', p1, by omega, p3, p4⟩
      · exact ⟨k, h1, Nat.le_refl _, h3, fun j a b c => h ⟨j, a, b, c⟩⟩
  obtain ⟨k', p1, p2, p3, p4⟩ := this k h1 h3
  exact ⟨k', p1, by omega, p3, p4⟩
end MM

end
section
set_option linter.all false
set_option autoImplicit false
set_option Elab.async false
namespace MM
open PySem L2 T3
def orb (m : Nat → Nat) (k x : Nat) : List Nat := (List.range k).map fun t => itr m t x
def PerP (n : Nat) (m : Nat → Nat) (x k : Nat) : Prop := 1 ≤ k ∧ k ≤ n ∧ itr m k x = x ∧ ∀ j, 1 ≤ j → j < k → itr m j x ≠ x
noncomputable def per (n : Nat) (m : Nat → Nat) (x : Nat) : Nat := Classical.epsilon (PerP n m x)
theorem per_spec {n : Nat} {m : Nat → Nat} (hm : ∀ j, j < n → m j < n) (hi : ∀ i j, i < n → j < n → m i = m j → i = j) {x : Nat} (hx : x < n) : PerP n m x (per n m x) := Classical.epsilon_spec (period hm hi x hx)
theorem orb_mem {m : Nat → Nat} {k x y : Nat} : y ∈ orb m k x ↔ ∃ t, t < k ∧ itr m t x = y := by
  simp [orb]
theorem orb_all {n : Nat} {m : Nat → Nat} {x k : Nat} (h : PerP n m x k) : ∀ t, itr m t x ∈ orb m k x := by
  have : ∀ t, ∃ s, s < k ∧ itr m s x = itr m t x := by
    intro t
    induction t with
    | zero => exact ⟨0, h.1, rfl⟩
    | succ t ih =>
      obtain ⟨s, h1, h2⟩ := ih
      by_cases e : s + 1 = k
      · exact ⟨0, h.1, by rw [itr_succ, ← h2, ← itr_succ m s x, e, h.2.2.1]; rfl⟩
      · exact ⟨s + 1, by omega, by rw [itr_succ, itr_succ, h2]⟩
  intro t
  exact orb_mem.mpr (this t)
end MM

end
section
set_option linter.all false
set_option autoImplicit false
set_option Elab.async false
namespace MM
open PySem L2 T3
end MM

end
section
set_option linter.all false
set_option autoImplicit false
set_option Elab.async false
namespace MM
open PySem L2 T3
end MM

end
section
set_option linter.all false
set_option autoImplicit false
set_option Elab.async false
set_option maxRecDepth 10000
namespace MM
open PySem L2 T3
def ck (c : Cell) : NestedKey := .tup [.num c.1, .num c.2]
theorem ck_inj {a b : Cell} (h : ck a = ck b) : a = b := by
  obtain ⟨a1, a2⟩ := a
  obtain ⟨b1, b2⟩ := b
  simp [ck] at h
  simp [h]
theorem tk_cell (c : Cell) : tk? (clD c) = some (ck c) := by
  simp [tk?, clD, nk?, nks?, ck, NestedKey.depth, NestedKey.depthAll]
def lcOk (g : GG) (f : EE) (vs : List Nat) (e : Sl) (x y : PyData) : Prop := match g x (wipeE e vs) with
  | none => False
  | some e1 => match f e1 with
    | none => False
    | some p => data1 p.1 = some y ∧ unwipe e p.2 vs = e
theorem lcOk_ex {g : GG} {f : EE} {vs : List Nat} {e : Sl} {x y : PyData} (h : lcOk g f vs e x y) : ∃ e1, g x (wipeE e vs) = some e1 ∧ ∃ p, f e1 = some p ∧ data1 p.1 = some y ∧ unwipe e p.2 vs = e := by
  unfold lcOk at h
  split at h
  · exact h.elim
  · rename_i e1 h1
    split at h
    · exact h.elim
    · rename_i p h2
      exact ⟨e1, h1, p, h2, h⟩
theorem lc_all {it : EI} {g : GG} {f : EE} {vs : List Nat} {env e : Sl} {lk : Lk} {α : Type} {q y : α → PyData} (as : List α) (hi : it env = some (as.map q, lk, e)) (hl : as.length ≤ 1000000) (h : ∀ a ∈ as, lcOk g f vs e (q a) (y a)) :
    eLc it g bYes f vs env = some (.tmp (.ls (as.map y)), unlock lk e) := by
  have := lcL_all (g := g) (f := f) (vs := vs) (env := e) (y := y) (q := q) as fun a ha => by
    obtain ⟨e1, h1, p, h2, h3, h4⟩ := lcOk_ex (h a ha)
    exact ⟨e1, p.1, p.2, h1, h2, h3, h4⟩
  rw [z_lc, hi]
  simp only [List.length_map, hl, if_true, this]
def lcIf (g : GG) (t : EB) (f : EE) (vs : List Nat) (e : Sl) (x : PyData) (b : Bool) (y : PyData) : Prop := match g x (wipeE e vs) with
  | none => False
  | some e1 => match t e1 with
    | none => False
    | some r => r.1 = b ∧ if b = true then match f r.2 with
        | none => False
        | some p => data1 p.1 = some y ∧ unwipe e p.2 vs = e
      else unwipe e r.2 vs = e
theorem lcIf_ex {g : GG} {t : EB} {f : EE} {vs : List Nat} {e : Sl} {x y : PyData} {b : Bool} (h : lcIf g t f vs e x b y) : ∃ e1, g x (wipeE e vs) = some e1 ∧ ∃ r, t e1 = some r ∧ r.1 = b ∧ if b = true then ∃ q, f r.2 = some q ∧ data1 q.1 = some y ∧ unwipe e q.2 vs = e else unwipe e r.2 vs = e := by
  unfold lcIf at h
  split at h
  · exact h.elim
  · rename_i e1 h1
    split at h
    · exact h.elim
    · rename_i r h2
      refine ⟨e1, h1, r, h2, h.1, ?_⟩
      have h3 := h.2
      split at h3
      · rename_i hb
        rw [if_pos hb]
        split at h3
        · exact h3.elim
        · rename_i p hp
          exact ⟨p, hp, h3⟩
      · rename_i hb
        rw [if_neg hb]
        exact h3
theorem lc_if {it : EI} {g : GG} {t : EB} {f : EE} {vs : List Nat} {env e : Sl} {lk : Lk} {α : Type} {q y : α → PyData} {p : α → Bool} (as : List α) (hi : it env = some (as.map q, lk, e)) (hl : as.length ≤ 1000000) (h : ∀ a ∈ as, lcIf g t f vs e (q a) (p a) (y a)) :
    eLc it g t f vs env = some (.tmp (.ls ((as.filter p).map y)), unlock lk e) := by
  have := lcL_pure (g := g) (t := t) (f := f) (vs := vs) (env := e) (p := p) (y := y) (q := q) as [] fun a ha => by
    obtain ⟨e1, h1, ⟨b, e2⟩, h2, rfl, h3⟩ := lcIf_ex (h a ha)
    refine ⟨e1, e2, h1, h2, fun z => ?_, fun z => ?_⟩
    · rw [if_pos z] at h3
      obtain ⟨q, h4, h5, h6⟩ := h3
      exact ⟨q.1, q.2, h4, h5, h6⟩
    · rw [if_neg (by rw [z]; decide)] at h3; exact h3
  rw [z_lc, hi]
  simp only [List.length_map, hl, if_true, this, List.nil_append]
end MM

end
section
set_option linter.all false
set_option autoImplicit false
set_option Elab.async false
namespace T3
open PySem L2
variable [TabL]
theorem relabel_cf {env : Env} {x : Str} : ∀ {names : List (Str × NameKind)}, (names.lookup x = some .cell ∨ names.lookup x = some .free) →
    ((names.map fun (n, k) => if (k == NameKind.free && env.scope.kind == .function && env.kindOf n == some .cell) then (n, NameKind.cell) else (n, k)).lookup x = some .cell ∨ (names.map fun (n, k) => if (k == NameKind.free && env.scope.kind == .function && env.kindOf n == some .cell) then (n, NameKind.cell) else (n, k)).lookup x = some .free)
  | [], h => by simp at h
  | (n, k) :: r, h => by
    have ih := @relabel_cf env x r
    simp only [List.map_cons]
    cases hx : x == n with
    | true =>
      have h' : k = .cell ∨ k = .free := by simpa [List.lookup_cons, hx] using h
      split
      · left; simp [List.lookup_cons, hx]
      · rcases h' with rfl | rfl
        · left; simp [List.lookup_cons, hx]
        · right; simp [List.lookup_cons, hx]
    | false =>
      have h' : r.lookup x = some .cell ∨ r.lookup x = some .free := by simpa [List.lookup_cons, hx] using h
      split <;> simpa [List.lookup_cons, hx] using ih h'
theorem blk2 {N : List Str} {sc0 scope : Scope} {own : List (Str × Nat)} {a : List (Str × Addr)} {b : Addr} {d : Env} (h : blkC N sc0 scope own = true) : BlkOk N (compEnvC sc0 a b d).scope scope own := by
  have q := blkOk_by h
  exact ⟨q.kind, q.uniq, q.ix, fun y hy e => relabel_cf (q.free y hy e), q.own⟩
def frS : Option S → Bool
  | some (.mu .own _) => true
  | some (.pd _) => true
  | some (.nt _) => true
  | none => true
  | _ => false
@[simp] theorem frS_n : frS none = true := rfl
@[simp] theorem frS_p (x : PyData) : frS (some (.pd x)) = true := rfl
@[simp] theorem frS_t (x : List PyData) : frS (some (.nt x)) = true := rfl
@[simp] theorem frS_o (c : Ct) : frS (some (.mu .own c)) = true := rfl
theorem free_frS {e : Sl} {i : Nat} {s : Option S} (h : e[i]? = some s) : free e i = frS s := by
  unfold free frS
  rw [h]
  rcases s with _ | s
  · rfl
  · cases s with
    | pd x => rfl
    | nt x => rfl
    | mu m c => cases m <;> rfl
theorem free_ne_set {e : Sl} {i j : Nat} {s : Option S} (h : i ≠ j) : free (e.set i s) j = free e j := by
  unfold free
  rw [List.getElem?_set_ne h]
theorem free_eq_set {e : Sl} {i : Nat} {s : Option S} (h : i < e.length) : free (e.set i s) i = frS s := free_frS (by simp [h])
structure Al (k n : Nat) (e : Sl) : Prop where
  len : e.length = n
  fre : ∀ i, k ≤ i → i < n → free e i = true
theorem Al.set {k n i : Nat} {e : Sl} {s : Option S} (h : Al k n e) (q : frS s = true) : Al k n (e.set i s) := by
  refine ⟨by rw [List.length_set, h.len], fun j h1 h2 => ?_⟩
  by_cases z : i = j
  · subst z
    rw [free_eq_set (by rw [h.len]; exact h2)]
    exact q
  · rw [free_ne_set z]
    exact h.fre j h1 h2
theorem Al.low {k n i : Nat} {e : Sl} {s : Option S} (h : Al k n e) (q : i < k) : Al k n (e.set i s) := by
  refine ⟨by rw [List.length_set, h.len], fun j h1 h2 => ?_⟩
  rw [free_ne_set (by omega)]
  exact h.fre j h1 h2
theorem Al.start {n : Nat} (as : List S) (h : as.length ≤ n) : Al as.length n (startE n as) := by
  refine ⟨by simp [startE]; omega, fun i h1 h2 => ?_⟩
  have : (startE n as)[i]? = some none := by
    unfold startE
    rw [List.getElem?_append_right (by simpa using h1), List.length_map, List.getElem?_replicate, if_pos (by omega)]
  rw [free_frS this]
  rfl
structure Kp (e e' : Sl) (vs : List Nat) : Prop where
  len : e'.length = e.length
  at_ : ∀ i, i ∉ vs → e'[i]? = e[i]?
@[simp] theorem Kp.refl (e : Sl) (vs : List Nat) : Kp e e vs := ⟨rfl, fun _ _ => rfl⟩
theorem Kp.set {e e' : Sl} {vs : List Nat} {v : Nat} {s : Option S} (h : Kp e e' vs) (m : v ∈ vs) : Kp e (e'.set v s) vs :=
  ⟨by rw [List.length_set, h.len], fun i hi => by
    have ne : v ≠ i := fun z => hi (by rw [← z]; exact m)
    rw [List.getElem?_set_ne ne, h.at_ i hi]⟩
@[simp] theorem Kp.wipe (e : Sl) (vs : List Nat) : Kp e (wipeE e vs) vs := ⟨wipeE_len, fun i hi => wipeE_out hi⟩
theorem Kp.un {e e' : Sl} {vs : List Nat} (h : Kp e e' vs) : unwipe e e' vs = e := by
  have key : ∀ ws, unwipe e e' ws = unwipe e e' ws ∧ ∀ i, (unwipe e e' ws)[i]? = if i ∈ ws then e[i]? else e'[i]? := by
    intro ws
    induction ws with
    | nil => exact ⟨rfl, fun i => by simp [unwipe]⟩
    | cons v ws ih =>
      refine ⟨rfl, fun i => ?_⟩
      have l : (unwipe e e' ws).length = e.length := by rw [unwipe_len, h.len]
      unfold unwipe
      rw [List.getElem?_set]
      by_cases z : v = i
      · subst z
        rw [if_pos rfl, l]
        by_cases y : v < e.length
        · simp [y]
        · simp [y, List.getElem?_eq_none (Nat.le_of_not_lt y)]
      · rw [if_neg z, ih.2 i]
        simp only [List.mem_cons]
        by_cases y : i ∈ ws
        · simp [y]
        · rw [if_neg y, if_neg (by simp [y]; exact fun q => z q.symm)]
  refine List.ext_getElem? fun i => ?_
  rw [(key vs).2 i]
  split
  · rfl
  · rename_i q
    exact h.at_ i q
theorem wipe_at (e : Sl) (i : Nat) : ∀ vs : List Nat, (wipeE e vs)[i]? = if i ∈ vs then (if i < e.length then some none else none) else e[i]?
  | [] => by simp [wipeE]
  | v :: vs => by
    unfold wipeE
    rw [List.getElem?_set, wipe_at e i vs, wipeE_len]
    by_cases z : v = i
    · subst z; simp
    · rw [if_neg z]
      have : i ∈ v :: vs ↔ i ∈ vs := ⟨fun q => (List.mem_cons.mp q).elim (fun y => absurd y.symm z) id, List.mem_cons_of_mem _⟩
      simp [this]
theorem wipe_free {e : Sl} {i : Nat} {vs : List Nat} (h : i ∈ vs) (l : i < e.length) : free (wipeE e vs) i = true := by
  rw [free_frS (s := none) (by rw [wipe_at]; simp [h, l])]
  rfl
def lcO (g : GG) (f : EE) (vs : List Nat) (e : Sl) (x y : PyData) : Prop := match g x (wipeE e vs) with
  | none => False
  | some e1 => match f e1 with
    | none => False
    | some p => data1 p.1 = some y ∧ Kp e p.2 vs
def lcI (g : GG) (t : EB) (f : EE) (vs : List Nat) (e : Sl) (x : PyData) (b : Bool) (y : PyData) : Prop := match g x (wipeE e vs) with
  | none => False
  | some e1 => match t e1 with
    | none => False
    | some r => r.1 = b ∧ if b = true then match f r.2 with
        | none => False
        | some p => data1 p.1 = some y ∧ Kp e p.2 vs
      else Kp e r.2 vs
theorem lcA {it : EI} {g : GG} {f : EE} {vs : List Nat} {env e : Sl} {lk : Lk} {α : Type} {q : α → PyData} {as : List α} (y : α → PyData) (hi : it env = some (as.map q, lk, e)) (hl : as.length ≤ 1000000) (h : ∀ a ∈ as, lcO g f vs e (q a) (y a)) :
    eLc it g bYes f vs env = some (.tmp (.ls (as.map y)), unlock lk e) :=
  MM.lc_all as hi hl fun a ha => by
    have := h a ha
    unfold lcO at this
    unfold MM.lcOk
    split
    · rename_i z; rw [z] at this; exact this
    · rename_i e1 z
      rw [z] at this
      simp only at this
      split
      · rename_i z2; rw [z2] at this; exact this
      · rename_i p z2
        rw [z2] at this
        exact ⟨this.1, this.2.un⟩
theorem lcF {it : EI} {g : GG} {t : EB} {f : EE} {vs : List Nat} {env e : Sl} {lk : Lk} {α : Type} {q : α → PyData} {as : List α} (p : α → Bool) (y : α → PyData) (hi : it env = some (as.map q, lk, e)) (hl : as.length ≤ 1000000) (h : ∀ a ∈ as, lcI g t f vs e (q a) (p a) (y a)) :
    eLc it g t f vs env = some (.tmp (.ls ((as.filter p).map y)), unlock lk e) :=
  MM.lc_if as hi hl fun a ha => by
    have := h a ha
    unfold lcI at this
    unfold MM.lcIf
    split
    · rename_i z; rw [z] at this; exact this
    · rename_i e1 z
      rw [z] at this
      simp only at this
      split
      · rename_i z2; rw [z2] at this; exact this
      · rename_i r z2
        rw [z2] at this
        simp only at this
        refine ⟨this.1, ?_⟩
        have t2 := this.2
        split
        · rename_i hb
          rw [if_pos hb] at t2
          split
          · rename_i z3; rw [z3] at t2; exact t2
          · rename_i p z3
            rw [z3] at t2
            exact ⟨t2.1, t2.2.un⟩
        · rename_i hb
          rw [if_neg hb] at t2
          exact t2.un
end T3

end
section
set_option linter.all false
set_option autoImplicit false
set_option Elab.async false
set_option maxRecDepth 10000
namespace MM
open PySem L2 T3
structure Pm (n : Nat) (m : Nat → Nat) : Prop where
  lt : ∀ j, j < n → m j < n
  inj : ∀ i j, i < n → j < n → m i = m j → i = j
section
variable {n : Nat} {m : Nat → Nat}
theorem Pm.prd (h : Pm n m) {x : Nat} (hx : x < n) : PerP n m x (per n m x) := per_spec h.lt h.inj hx
theorem Pm.mem (h : Pm n m) {x y : Nat} (hx : x < n) : y ∈ orb m (per n m x) x ↔ ∃ t, itr m t x = y := by
  constructor
  · intro e
    obtain ⟨t, _, e⟩ := orb_mem.mp e
    exact ⟨t, e⟩
  · rintro ⟨t, rfl⟩
    exact orb_all (h.prd hx) t
theorem itr_fix {x : Nat} (h : m x = x) : ∀ t, itr m t x = x
  | 0 => rfl
  | t + 1 => by rw [itr_succ, itr_fix h t, h]
def Fst (n : Nat) (m : Nat → Nat) (x : Nat) : Prop := x < n ∧ 1 < per n m x ∧ ∀ y ∈ orb m (per n m x) x, x ≤ y
open Classical in
noncomputable def fsts (n : Nat) (m : Nat → Nat) : List Nat := (List.range n).filter fun x => decide (Fst n m x)
open Classical in
noncomputable def left (n : Nat) (m : Nat → Nat) (F : List Nat) : List Nat := (List.range n).filter fun j => decide (∃ x ∈ F, j ∈ orb m (per n m x) x)
noncomputable def ord (n : Nat) (m : Nat → Nat) : Nat := ((fsts n m).map (per n m)).foldl Nat.lcm 1
end
end MM

end
section
set_option linter.all false
set_option autoImplicit false
set_option Elab.async false
set_option maxRecDepth 10000
namespace MM
open PySem L2 T3
section
variable {n : Nat} {m : Nat → Nat}
end
end MM

end
section
set_option linter.all false
set_option autoImplicit false
set_option Elab.async false
namespace MM
end MM

end
section
set_option linter.all false
set_option autoImplicit false
set_option Elab.async false
namespace MM
open PySem L2 T3
section
variable {n : Nat} {m : Nat → Nat}
end
structure Cj (n : Nat) (m : Nat → Nat) (n' : Nat) (m' : Nat → Nat) (A : Nat → Nat) : Prop where
  p : Pm n m
  p' : Pm n' m'
  lt : ∀ j, j < n → A j < n'
  inj : ∀ i j, i < n → j < n → A i = A j → i = j
  cm : ∀ j, j < n → m' (A j) = A (m j)
  fx : ∀ y, y < n' → (∀ j, j < n → A j ≠ y) → m' y = y
section
variable {n n' : Nat} {m m' A : Nat → Nat}
theorem Cj.itr (h : Cj n m n' m' A) {j : Nat} (hj : j < n) : ∀ t, MM.itr m' t (A j) = A (MM.itr m t j)
  | 0 => rfl
  | t + 1 => by rw [itr_succ, itr_succ, h.itr hj t, h.cm _ (itr_lt h.p.lt t j hj)]
theorem Cj.iff (h : Cj n m n' m' A) {j : Nat} (hj : j < n) (t : Nat) : MM.itr m' t (A j) = A j ↔ MM.itr m t j = j := by
  rw [h.itr hj]
  exact ⟨fun e => h.inj _ _ (itr_lt h.p.lt t j hj) hj e, fun e => by rw [e]⟩
theorem Cj.all (h : Cj n m n' m' A) (t : Nat) : (∀ y, y < n' → MM.itr m' t y = y) ↔ ∀ j, j < n → MM.itr m t j = j := by
  constructor
  · exact fun z j hj => (h.iff hj t).mp (z _ (h.lt j hj))
  · intro z y hy
    by_cases e : ∃ j, j < n ∧ A j = y
    · obtain ⟨j, hj, rfl⟩ := e
      exact (h.iff hj t).mpr (z j hj)
    · exact itr_fix (h.fx y hy fun j hj q => e ⟨j, hj, q⟩) t
end
end MM

end
section
set_option linter.all false
set_option autoImplicit false
set_option Elab.async false
namespace T3
open PySem L2
variable [TabL]
structure Pk where
  a : Int
  b : Int
  t : Nat
def penK (p : Pk) : Ct := .ls [.int p.a, .int p.b, .int (p.t : Nat)]
theorem Kp.un2 {e e' e3 : Sl} {vs : List Nat} (h : Kp e' e3 vs) (l : e'.length = e.length) (q : ∀ i ∈ vs, e'[i]? = e[i]?) : unwipe e e3 vs = e' := by
  have : unwipe e e3 vs = unwipe e' e3 vs := by
    have go : ∀ ws, (∀ i ∈ ws, i ∈ vs) → unwipe e e3 ws = unwipe e' e3 ws := by
      intro ws
      induction ws with
      | nil => intro _; rfl
      | cons v ws ih =>
        intro hw
        unfold unwipe
        rw [ih fun i hi => hw i (List.mem_cons_of_mem _ hi)]
        congr 1
        rw [List.getD_eq_getElem?_getD, List.getD_eq_getElem?_getD, q v (hw v (List.mem_cons_self))]
    exact go vs fun _ h => h
  rw [this, h.un]
def lcP (g : GG) (f : EE) (vs : List Nat) (e : Sl) (x y : PyData) (e' : Sl) : Prop := match g x (wipeE e vs) with
  | none => False
  | some e1 => match f e1 with
    | none => False
    | some p => data1 p.1 = some y ∧ Kp e' p.2 vs
theorem lc_pen {it : EI} {g : GG} {f : EE} {vs : List Nat} {env e : Sl} {j : Nat} {m : Md} {p0 : Pk} {as : List PyData} (Q : PyData → Prop) (c B : Nat) (hi : it env = some (as, none, e)) (hl : as.length ≤ 1000000) (hj : j ∉ vs) (he : e[j]? = some (some (.mu m (penK p0)))) (hb : p0.t + c * as.length ≤ B)
    (step : ∀ x ∈ as, ∀ p : Pk, p.t + c ≤ B → ∃ (q : Pk) (y : PyData), q.t ≤ p.t + c ∧ Q y ∧ lcP g f vs (e.set j (some (.mu m (penK p)))) x y (e.set j (some (.mu m (penK q))))) :
    ∃ (ys : List PyData) (q : Pk), eLc it g bYes f vs env = some (.tmp (.ls ys), e.set j (some (.mu m (penK q)))) ∧ ys.length = as.length ∧ (∀ y ∈ ys, Q y) ∧ q.t ≤ p0.t + c * as.length := by
  have hjl : j < e.length := (List.getElem?_eq_some_iff.mp he).1
  have e0 : e.set j (some (.mu m (penK p0))) = e := by
    refine List.ext_getElem? fun i => ?_
    rw [List.getElem?_set]
    split
    · rename_i z; subst z; exact he.symm
    · rfl
  have go : ∀ (bs : List PyData) (p : Pk) (acc : List PyData), (∀ b ∈ bs, b ∈ as) → p.t + c * bs.length ≤ B → (∀ y ∈ acc, Q y) → ∃ (ys : List PyData) (q : Pk), lcL g bYes f vs bs (e.set j (some (.mu m (penK p)))) acc = some (ys, e.set j (some (.mu m (penK q)))) ∧ ys.length = acc.length + bs.length ∧ (∀ y ∈ ys, Q y) ∧ q.t ≤ p.t + c * bs.length := by
    intro bs
    induction bs with
    | nil => intro p acc _ _ ha; exact ⟨acc, p, rfl, rfl, ha, by omega⟩
    | cons x bs ih =>
      intro p acc hm hB ha
      simp only [List.length_cons, Nat.mul_add, Nat.mul_one] at hB
      obtain ⟨q, y, h1, h2, h3⟩ := step x (hm x (by simp)) p (by omega)
      unfold lcP at h3
      split at h3
      · exact h3.elim
      rename_i e1 g1
      split at h3
      · exact h3.elim
      rename_i r f1
      obtain ⟨d1, kp⟩ := h3
      have u := kp.un2 (e := e.set j (some (.mu m (penK p)))) (by simp) (fun i hi => by
        have : j ≠ i := fun z => hj (by rw [z]; exact hi)
        rw [List.getElem?_set_ne this, List.getElem?_set_ne this])
      obtain ⟨ys, q2, h4, h5, h6, h7⟩ := ih q (acc ++ [y]) (fun b hb => hm b (by simp [hb])) (by omega) (by
        intro z hz
        rcases List.mem_append.mp hz with hz | hz
        · exact ha z hz
        · rw [List.mem_singleton.mp hz]; exact h2)
      refine ⟨ys, q2, ?_, by simp at h5 ⊢; omega, h6, by simp only [List.length_cons, Nat.mul_add, Nat.mul_one]; omega⟩
      simp only [lcL, g1, bYes, if_true, f1, d1, u, h4]
  obtain ⟨ys, q, h1, h2, h3, h4⟩ := go as p0 [] (fun _ h => h) hb (by simp)
  rw [e0] at h1
  refine ⟨ys, q, ?_, by simpa using h2, h3, h4⟩
  rw [z_lc, hi]
  simp only [hl, if_true, h1, z_unl]
def upD (n : Nat) : List PyData := (List.range n).map fun j => .int ((j : Nat) : Int)
theorem upD_len (n : Nat) : (upD n).length = n := by simp [upD]
theorem rg1_up {f : EA} {env e : Sl} {n : Nat} (h : f env = some ([.pd (.int (n : Nat))], e)) (hn : n ≤ 1000) : iRg1 f env = some (upD n, none, e) := by
  have b : RgI1 (n : Int) := by
    unfold RgI1
    have h1 : (-(2 ^ 62) : Int) ≤ 0 := by decide
    have h2 : (1000 : Int) < 2 ^ 62 := by decide
    omega
  have u : rgD 0 n 1 = upD n := by simp [rgD, upD]
  unfold iRg1
  rw [h]
  show (if RgI1 (n : Int) then some (rgD 0 (n : Int).toNat 1, none, e) else none) = _
  rw [if_pos b, Int.toNat_natCast, u]
theorem rg1_max {N : Nat} {e : Sl} (ns : List Int) (hN : 1 ≤ N) (hN2 : N ≤ 1000) (h0 : e[0]? = some (some (.pd (.list (ns.map .int))))) :
    iRg1 (eCons (eThen (eCons (eC (.int 1)) (eCons (eThen (eCons (eThen (eCons (eVar 0) eNil) (kE oLen)) (eCons (eC (.int (N : Int))) eNil)) (kE oMin)) eNil)) (kE oMax)) eNil) e = some (upD (max 1 (min ns.length N)), none, e) := by
  have h1 : (if (N : Int) < ns.length then (N : Int) else ns.length) = ((min ns.length N : Nat) : Int) := by split <;> omega
  have h2 : (if ((min ns.length N : Nat) : Int) > 1 then ((min ns.length N : Nat) : Int) else 1) = ((max 1 (min ns.length N) : Nat) : Int) := by split <;> omega
  refine rg1_up (n := max 1 (min ns.length N)) ?_ (by omega)
  simp only [z_cons, z_then, z_c, z_var, h0, z_nil, z_kE, z_ctns1, z_ctns0, z_ctn1, oLen, List.length_map, oMin, h1, oMax, h2]
def TurnP (n C : Nat) (s : PyData) (p : Pk) (fl : Fl) (e : Sl) : Prop := (fl = .nx ∨ fl = .ct) ∧ Al 0 n e ∧ e[0]? = some (some (.pd s)) ∧ ∃ q : Pk, e[2]? = some (some (.mu .own (penK q))) ∧ q.t ≤ p.t + C
theorem fin1 {x : PyData} {e : Sl} (h : e[0]? ≠ none) : finals [.pd x] e = some [.pd x] := by
  cases e with
  | nil => simp at h
  | cons a e => simp
def OutI (n : Nat) (s : PyData) (e : Sl) : Prop := Al 0 n e ∧ e[0]? = some (some (.pd s))
def InI (n C M : Nat) (s : PyData) (rest : List PyData) (e : Sl) : Prop := Al 0 n e ∧ e[0]? = some (some (.pd s)) ∧ ∃ q : Pk, e[2]? = some (some (.mu .own (penK q))) ∧ q.t + C * rest.length ≤ C * M
theorem outer {n N M C : Nat} {fcell fpen : FnD} {BODY : SS} (ns : List Int) (hn4 : 4 ≤ n) (hN : 1 ≤ N) (hN2 : N ≤ 1000) (hM : M ≤ 1000)
    (hcell : ∀ k : Nat, ∃ i, fcell [.pd (.list (ns.map .int)), .pd (.int (k : Nat))] = some (.pd (.int i), [.pd (.list (ns.map .int)), .pd (.int (k : Nat))]))
    (hpen : ∀ i : Int, ∃ p : Pk, p.t = 0 ∧ fpen [.pd (.int i)] = some (.tmp (penK p), [.pd (.int i)]))
    (hbody : ∀ (e : Sl) (p : Pk), Al 0 n e → e[0]? = some (some (.pd (.list (ns.map .int)))) → e[2]? = some (some (.mu .own (penK p))) → p.t ≤ C * M → wS BODY e (TurnP n C (.list (ns.map .int)) p)) :
    ∃ as, runFn n (sSeq (sFor (iRg1 (eCons (eThen (eCons (eC (.int 1)) (eCons (eThen (eCons (eThen (eCons (eVar 0) eNil) (kE oLen)) (eCons (eC (.int (N : Int))) eNil)) (kE oMin)) eNil)) (kE oMax)) eNil)) (gN 1) (sSeq (sSet 2 (eCall fpen (eCons (eCall fcell (eCons (eVar 0) (eCons (eVar 1) eNil))) eNil)))
      (sFor (iRg1 (eCons (eC (.int (M : Int))) eNil)) (gN 3) BODY))) (sRet (eC (.bool true)))) [.pd (.list (ns.map .int))] = some (.pd (.bool true), as) := by
  generalize hs : PyData.list (ns.map .int) = s at *
  have key : wF (runFn n (sSeq (sFor (iRg1 (eCons (eThen (eCons (eC (.int 1)) (eCons (eThen (eCons (eThen (eCons (eVar 0) eNil) (kE oLen)) (eCons (eC (.int (N : Int))) eNil)) (kE oMin)) eNil)) (kE oMax)) eNil)) (gN 1) (sSeq (sSet 2 (eCall fpen (eCons (eCall fcell (eCons (eVar 0) (eCons (eVar 1) eNil))) eNil)))
      (sFor (iRg1 (eCons (eC (.int (M : Int))) eNil)) (gN 3) BODY))) (sRet (eC (.bool true))))) [.pd s] (fun r _ => r = .pd (.bool true)) := by
    have A0 : Al 0 n (startE n [.pd s]) := by
      have a := Al.start (n := n) [.pd s] (by simp; omega)
      refine ⟨a.len, fun i h1 h2 => ?_⟩
      by_cases z : i = 0
      · subst z
        rw [free_frS (s := some (.pd s)) (by simp [startE])]
        rfl
      · exact a.fre i (by simp; omega) h2
    refine wF_run (e := startE n [.pd s]) rfl ?_
    have h0 : (startE n [.pd s])[0]? = some (some (.pd s)) := by simp [startE]
    generalize startE n [.pd s] = e0 at *
    refine wS_seq ?_
    refine wS_for (xs := upD (max 1 (min ns.length N))) (lk := none) (e := e0) (rg1_max ns hN hN2 (by rw [hs]; exact h0)) (fun rest e => (∀ x ∈ rest, ∃ k : Nat, x = .int (k : Nat)) ∧ OutI n s e) ⟨fun x hx => by
      obtain ⟨j, _, rfl⟩ := List.mem_map.mp hx; exact ⟨j, rfl⟩, A0, h0⟩ ?_ ?_
    · rintro x rest e ⟨hx, A, h0⟩
      obtain ⟨k, rfl⟩ := hx x (by simp)
      obtain ⟨i, ec⟩ := hcell k
      obtain ⟨p, pt, ep⟩ := hpen i
      have f1 := A.fre 1 (by omega) (by omega)
      have A1 := A.set (i := 1) (s := some (.pd (.int (k : Nat)))) rfl
      have g0 : (e.set 1 (some (.pd (.int (k : Nat)))))[0]? = some (some (.pd s)) := by rw [List.getElem?_set_ne (by decide)]; exact h0
      have g1 : (e.set 1 (some (.pd (.int (k : Nat)))))[1]? = some (some (.pd (.int (k : Nat)))) := by rw [List.getElem?_set_self (by rw [A.len]; omega)]
      simp only [gW, z_gN, z_setR, f1, if_true]
      rw [go]
      generalize e.set 1 (some (.pd (.int (k : Nat)))) = e1 at *
      have f2 := A1.fre 2 (by omega) (by omega)
      refine wS_seq ?_
      have A2 := A1.set (i := 2) (s := some (.mu .own (penK p))) rfl
      have b0 : (e1.set 2 (some (.mu .own (penK p))))[0]? = some (some (.pd s)) := by rw [List.getElem?_set_ne (by decide)]; exact g0
      have b2 : (e1.set 2 (some (.mu .own (penK p))))[2]? = some (some (.mu .own (penK p))) := by rw [List.getElem?_set_self (by rw [A1.len]; omega)]
      refine wS_of (fl := .nx) (e := e1.set 2 (some (.mu .own (penK p)))) ?_ ?_
      · simp only [z_set, z_call, z_cons, z_var, g0, g1, z_nil, z_args1, z_arg1, z_args0, z_va1, z_va0, if_true, ec, z_bk1, z_bk0, ep, z_setR, f2]
      rw [nxt_nx, go]
      generalize e1.set 2 (some (.mu .own (penK p))) = e2 at *
      refine wS_for (xs := upD M) (lk := none) (e := e2) (rg1_up (by simp) hM) (InI n C M s) ⟨A2, b0, p, b2, by rw [pt, upD_len]; omega⟩ ?_ ?_
      · rintro y rest' e ⟨A, h0, q, h2, hq⟩
        rw [List.length_cons, Nat.mul_add, Nat.mul_one] at hq
        have f3 := A.fre 3 (by omega) (by omega)
        simp only [gW, z_gN, z_setR, f3, if_true]
        rw [go]
        refine (hbody _ q (A.set rfl) (by rw [List.getElem?_set_ne (by decide)]; exact h0) (by rw [List.getElem?_set_ne (by decide)]; exact h2) (by omega)).imp ?_
        rintro fl e' ⟨hf, A', h0', q', h2', hq'⟩
        have : InI n C M s rest' e' := ⟨A', h0', q', h2', by omega⟩
        rcases hf with rfl | rfl <;> exact this
      · rintro e ⟨A, h0, _⟩
        exact ⟨fun x hx => by
          obtain ⟨k, hk⟩ := ‹∀ x ∈ _ :: rest, ∃ k : Nat, x = .int (k : Nat)› x (List.mem_cons_of_mem _ hx)
          exact ⟨k, hk⟩, A, h0⟩
    · rintro e ⟨_, A, h0⟩
      simp only [z_unl, nxt_nx]
      rw [go]
      have f := fin1 (x := s) (e := e) (by rw [h0]; simp)
      refine wS_of (fl := .rt (.pd (.bool true))) (e := e) (by simp) ?_
      exact ⟨.pd (.bool true), _, rfl, f, rfl⟩
  obtain ⟨r, as, e, rfl⟩ := key
  exact ⟨as, e⟩
end T3

end
section
set_option linter.all false
set_option autoImplicit false
set_option Elab.async false
namespace T3
open PySem L2
variable [TabL]
def pl : Nat → PyData → Bool
  | _, .none => true
  | _, .int _ => true
  | _, .str s => PyData.strOk s
  | n + 1, .tuple xs => xs.all (pl n)
  | n + 1, .list xs => xs.all (pl n)
  | _, _ => false
mutual
theorem pl_lay : ∀ (x : PyData) (n : Nat), pl n x = true → x.canLay0 = true ∧ x.depth ≤ n + 1
  | .none, n, h => ⟨by simp [PyData.canLay0], by simp [PyData.depth]⟩
  | .int i, n, h => ⟨by simp [PyData.canLay0], by simp [PyData.depth]⟩
  | .str s, n, h => ⟨by unfold pl at h; simpa [PyData.canLay0] using h, by simp [PyData.depth]⟩
  | .bool b, n, h => by cases n <;> simp [pl] at h
  | .dict d, n, h => by cases n <;> simp [pl] at h
  | .tuple xs, 0, h => by simp [pl] at h
  | .tuple xs, n + 1, h => by
    obtain ⟨h1, h2⟩ := pl_layA xs n (by simpa [pl] using h)
    exact ⟨by simpa [PyData.canLay0] using h1, by simp only [PyData.depth]; omega⟩
  | .list xs, 0, h => by simp [pl] at h
  | .list xs, n + 1, h => by
    obtain ⟨h1, h2⟩ := pl_layA xs n (by simpa [pl] using h)
    exact ⟨by simpa [PyData.canLay0] using h1, by simp only [PyData.depth]; omega⟩
theorem pl_layA : ∀ (xs : List PyData) (n : Nat), (∀ x ∈ xs, pl n x = true) → PyData.canLayAll0 xs = true ∧ PyData.depthAll xs ≤ n + 1
  | [], n, h => ⟨by simp [PyData.canLayAll0], by simp [PyData.depthAll]⟩
  | x :: xs, n, h => by
    obtain ⟨h1, h2⟩ := pl_lay x n (h x (by simp))
    obtain ⟨h3, h4⟩ := pl_layA xs n fun y hy => h y (by simp [hy])
    exact ⟨by simp [PyData.canLayAll0, h1, h3], by simp only [PyData.depthAll]; omega⟩
end
theorem pl_sh {x : PyData} {n : Nat} (h : pl n x = true) (hn : n ≤ 60) : SeqAt.shaped x = true := by
  obtain ⟨h1, h2⟩ := pl_lay x n h
  unfold SeqAt.shaped
  rw [h1]
  simp
  omega
mutual
theorem pl_eqv : ∀ (x y : PyData) (n m : Nat), pl n x = true → pl m y = true → (PyData.eqv x y = true ↔ x = y)
  | .none, y, n, m, h, h' => by cases y <;> simp [PyData.eqv]
  | .int i, y, n, m, h, h' => by
    cases y <;> simp [PyData.eqv]
    · rename_i b; cases m <;> simp [pl] at h'
  | .str s, y, n, m, h, h' => by cases y <;> simp [PyData.eqv]
  | .bool b, y, n, m, h, h' => by cases n <;> simp [pl] at h
  | .dict d, y, n, m, h, h' => by cases n <;> simp [pl] at h
  | .tuple xs, y, n, m, h, h' => by
    cases y <;> simp [PyData.eqv]
    rename_i ys
    cases n with
    | zero => simp [pl] at h
    | succ n =>
      cases m with
      | zero => simp [pl] at h'
      | succ m => exact pl_eqvA xs ys n m (by simpa [pl] using h) (by simpa [pl] using h')
  | .list xs, y, n, m, h, h' => by
    cases y <;> simp [PyData.eqv]
    rename_i ys
    cases n with
    | zero => simp [pl] at h
    | succ n =>
      cases m with
      | zero => simp [pl] at h'
      | succ m => exact pl_eqvA xs ys n m (by simpa [pl] using h) (by simpa [pl] using h')
theorem pl_eqvA : ∀ (xs ys : List PyData) (n m : Nat), (∀ x ∈ xs, pl n x = true) → (∀ x ∈ ys, pl m x = true) → (PyData.eqvAll xs ys = true ↔ xs = ys)
  | [], [], n, m, _, _ => by simp [PyData.eqvAll]
  | [], y :: ys, n, m, _, _ => by simp [PyData.eqvAll]
  | x :: xs, [], n, m, _, _ => by simp [PyData.eqvAll]
  | x :: xs, y :: ys, n, m, h, h' => by
    simp only [PyData.eqvAll, Bool.and_eq_true]
    rw [pl_eqv x y n m (h x (by simp)) (h' y (by simp)), pl_eqvA xs ys n m (fun z hz => h z (by simp [hz])) (fun z hz => h' z (by simp [hz]))]
    simp
end
theorem pl_ne {x y : PyData} {n m : Nat} (h : pl n x = true) (h' : pl m y = true) (hn : n ≤ 60) (hm : m ≤ 60) (e : x = y) : oNe [x, y] = some (.bool false) := by
  subst e
  simp [oNe, pl_sh h hn, (pl_eqv x x n n h h).mpr rfl]
theorem pl_ne' {x y : PyData} {n m : Nat} (h : pl n x = true) (h' : pl m y = true) (hn : n ≤ 60) (hm : m ≤ 60) (e : x ≠ y) : oNe [x, y] = some (.bool true) := by
  have : PyData.eqv x y = false := by
    cases z : PyData.eqv x y with
    | false => rfl
    | true => exact absurd ((pl_eqv x y n m h h').mp z) e
  simp [oNe, pl_sh h hn, pl_sh h' hm, this]
theorem pl_eq {x y : PyData} {n m : Nat} (h : pl n x = true) (h' : pl m y = true) (hn : n ≤ 60) (hm : m ≤ 60) (e : x = y) : oEq [x, y] = some (.bool true) := by
  subst e
  simp [oEq, pl_sh h hn, (pl_eqv x x n n h h).mpr rfl]
theorem pl_eq' {x y : PyData} {n m : Nat} (h : pl n x = true) (h' : pl m y = true) (hn : n ≤ 60) (hm : m ≤ 60) (e : x ≠ y) : oEq [x, y] = some (.bool false) := by
  have : PyData.eqv x y = false := by
    cases z : PyData.eqv x y with
    | false => rfl
    | true => exact absurd ((pl_eqv x y n m h h').mp z) e
  simp [oEq, pl_sh h hn, pl_sh h' hm, this]
theorem pl_in {x : PyData} {xs : List PyData} {n m : Nat} (h : pl n x = true) (h' : ∀ y ∈ xs, pl m y = true) (hn : n ≤ 50) (hm : m ≤ 50) (neg : Bool) (c : PyData) (hc : c = .tuple xs ∨ c = .list xs) [Decidable (x ∈ xs)] : oIn neg [x, c] = some (.bool (if neg = true then !decide (x ∈ xs) else decide (x ∈ xs))) := by
  have a : (xs.any fun z => PyData.eqv z x) = decide (x ∈ xs) := by
    rw [Bool.eq_iff_iff, List.any_eq_true, decide_eq_true_eq]
    constructor
    · rintro ⟨z, hz, e⟩
      rw [(pl_eqv z x m n (h' z hz) h).mp e] at hz
      exact hz
    · intro hx
      exact ⟨x, hx, (pl_eqv x x n n h h).mpr rfl⟩
  have s1 : SeqAt.shaped (.tuple xs) = true := pl_sh (n := m + 1) (by simpa [pl] using h') (by omega)
  have s2 : SeqAt.shaped (.list xs) = true := pl_sh (n := m + 1) (by simpa [pl] using h') (by omega)
  rcases hc with rfl | rfl <;> simp [oIn, pl_sh h (by omega), s1, s2, a, -List.any_eq_true]
def nmu : S → Bool
  | .mu _ _ => false
  | _ => true
theorem fin_pd : ∀ {as : List S} {e : Sl}, as.all nmu = true → as.length ≤ e.length → finals as e = some as
  | [], e, _, _ => by cases e <;> rfl
  | a :: as, [], _, l => by simp at l
  | a :: as, x :: e, h, l => by
    simp only [List.all_cons, Bool.and_eq_true] at h
    have ih := fin_pd (as := as) (e := e) h.2 (by simpa using l)
    cases a with
    | pd x => simp [ih]
    | nt x => simp [ih]
    | mu m c => simp [nmu] at h
theorem fin_mu {as : List S} {e : Sl} {m : Md} {c c' : Ct} (h : as.all nmu = true) (hm : m ≠ .own) (l : as.length + 1 ≤ e.length) (h0 : e[0]? = some (some (.mu m c'))) : finals (.mu m c :: as) e = some (.mu m c' :: as) := by
  cases e with
  | nil => simp at l
  | cons x e =>
    simp at h0
    subst h0
    have ih := fin_pd (as := as) (e := e) h (by simpa using l)
    simp [ih, hm]
end T3

end
section
set_option linter.all false
set_option autoImplicit false
set_option Elab.async false
namespace T3
open PySem L2
variable [TabL]
end T3

end
section
set_option linter.all false
set_option autoImplicit false
set_option Elab.async false
namespace T3
open PySem L2
variable [TabL]
def Rg3Ok (i j c : Int) : Prop := RgC i j c (Builtin.Range.rangeSize i j c).toNat
noncomputable instance (i j c : Int) : Decidable (Rg3Ok i j c) := Classical.propDecidable _
end T3

end
section
set_option linter.all false
set_option autoImplicit false
set_option Elab.async false
namespace T3
open PySem L2
variable [TabL]
end T3

end
section
set_option linter.all false
set_option autoImplicit false
set_option Elab.async false
namespace T3
open PySem L2
variable [TabL]
end T3

end
section
set_option linter.all false
set_option autoImplicit false
set_option Elab.async false
set_option maxRecDepth 100000
set_option maxHeartbeats 4000000
namespace T3
open PySem L2
open PyProof.Rows
variable [TabL]
end T3

end
section
set_option linter.all false
set_option autoImplicit false
set_option Elab.async false
set_option maxRecDepth 100000
set_option maxHeartbeats 4000000
namespace T3
open PySem L2
open PySem.Spec PyProof.Rows
variable [TabL]
section
variable {prog : Program} {w : World} {A : Around} {E : Value → Shared → Prop} {s : Shared}
end
def eRevT (f : EE) : EE := fun env => match f env with
  | some (d, e) => match tupOf d with
    | some xs => some (.pd (.tuple xs.reverse), e)
    | none => none
  | none => none
@[simp] theorem z_revT (f : EE) (env : Sl) : eRevT f env = (match f env with
  | some (d, e) => match tupOf d with
    | some xs => some (.pd (.tuple xs.reverse), e)
    | none => none
  | none => none) := rfl
def eRevL (f : EE) : EE := fun env => match f env with
  | some (d, e) => match ctn e d with
    | some (.list xs) => some (.tmp (.ls xs.reverse), e)
    | _ => none
  | none => none
theorem e_revL {X : Cx} {e : Expr} {f : EE} {k : Nat} {p1 p2 p3 pos : Pos} (he : PE X e (tE X.K f)) : PE X (.Subscript e (.Slice none none (some (.UnaryOp .USub (.Constant (.int 1) k p1) p2)) p3) pos) (tE X.K (eRevL f)) := PE.imp (pe_revL he) fun σ H Q t => by
  obtain ⟨B, env, d, env', en, ev, q⟩ := t
  unfold eRevL at ev
  split at ev
  · rename_i d1 e1 h1
    split at ev
    · rename_i xs h2
      cases ev
      refine ⟨B, env, d1, _, en, h1, fun B1 H1 v a1 r1 => ?_⟩
      have r2 := Cn.of a1.en r1.ra h2
      obtain ⟨a, us, rfl, g1, g2⟩ := Cn.list r2
      refine ⟨a, us, rfl, g1, fun p np => ?_⟩
      obtain ⟨g, a2⟩ := a1.alloc en np (.lst us.reverse) True (fun _ => False) (fun _ f => f.elim)
      refine q _ _ _ a2 ⟨p, rfl, a1.st.liv _ np, .inr ⟨trivial, rfl⟩, ⟨_, upd_same, g2.reverse.grow g⟩, fun i m dd z1 z2 => ?_⟩
      obtain ⟨b, k1, k2, _⟩ := a1.en.mu i m dd z1
      rw [z2] at k1
      cases k1
      obtain ⟨o, ho⟩ := a1.en.dom _ k2
      rw [np] at ho
      cases ho
    · cases ev
  · cases ev
@[simp] theorem z_revL (f : EE) (env : Sl) : eRevL f env = (match f env with
  | some (d, e) => match ctn e d with
    | some (.list xs) => some (.tmp (.ls xs.reverse), e)
    | _ => none
  | none => none) := rfl
end T3

end
section
set_option linter.all false
set_option autoImplicit false
set_option Elab.async false
namespace T3
open PySem L2
variable [TabL]
section
variable {K : PySem.W.Frag} {B B' : Mset} {H H' : Hp} {σ : St} {e e' : Sl}
end
section
variable {X : Cx} {k n : Nat} {F : FnD} {x : Str} {p pos : Pos} {e : Expr} {es : List Expr} {fa : EA}
end
end T3

end
section
set_option linter.all false
set_option autoImplicit false
set_option Elab.async false
namespace T3
open PySem L2
variable [TabL]
abbrev Tp := Int × Int × Int
def TpB (p : Tp) : Prop := (0 ≤ p.1 ∧ p.1 < 64) ∧ (0 ≤ p.2.1 ∧ p.2.1 < 64) ∧ 0 ≤ p.2.2 ∧ p.2.2 < 64
instance (p : Tp) : Decidable (TpB p) := by unfold TpB; infer_instance
end T3

end
section
set_option linter.all false
set_option autoImplicit false
set_option Elab.async false
namespace T3
open PySem L2 PySem.W PyProof.Rows PyProof.V
variable [TabL]
end T3

end
section
set_option linter.all false
set_option autoImplicit false
set_option Elab.async false
namespace T3
open PySem L2
variable [TabL]
end T3

end
section
set_option linter.all false
set_option autoImplicit false
set_option Elab.async false
set_option maxRecDepth 100000
set_option maxHeartbeats 1000000
namespace ZE
open PySem RZ ZM
open PySem.Sem (wp)
section
variable {prog : Program} {w : World} {A : Around} {E : Value → Shared → Prop} {s : Shared}
end
end ZE

end
section
set_option linter.all false
set_option autoImplicit false
set_option Elab.async false
set_option maxRecDepth 100000
set_option maxHeartbeats 1000000
namespace ZE
open PySem PySem.Spec PyProof.Rows L2 RZ ZM
end ZE
namespace T3
open PySem L2
variable [TabL]
end T3

end
section
set_option linter.all false
set_option autoImplicit false
set_option Elab.async false
set_option maxRecDepth 100000
namespace LamA
open PySem PySem.Spec PyProof.Rows L2 LamX NdefX
section
variable {Z : Cx} {F : NF} {f : Addr} {params : Arguments} {body : Expr} {pm ctv : Value} {N ps fr : List Str} {ws : List (Option V)} {k i : Nat} {x : Str} {p pos : Pos} {e : Expr} {es : List Expr} {ta : TA} {tb : TE}
structure LamAt (Z : Cx) (F : NF) (f : Addr) (params : Arguments) (body : Expr) (pm ctv : Value) (fr : List Str) (ws : List (Option V)) : Prop where
  obj : Z.s_0.heap.get? f = some (PySem.W.kla_obj "<lambda>" F.qual params body F.scope F.cl pm F.c ctv)
  free : Z.H_0 f = none
  nfs : f ∉ Z.fs
  nex : f ∉ Z.ex
  cells : CellsAt F.cl fr ws Z.s_0.heap Z.H_0
  cex : ∀ y c, F.cl.lookup y = some c → c ∉ Z.ex
end
end LamA

end
section
set_option linter.all false
set_option autoImplicit false
set_option Elab.async false
set_option maxRecDepth 100000
namespace T3
open PySem L2
variable [TabL]
section
open LamA NdefX
variable {Z : Cx} {F : NF} {f a : Addr} {params : Arguments} {body : Expr} {pm ctv : Value} {N ps : List Str} {capt : Str} {k i : Nat} {x : Str} {p pos : Pos} {e : Expr} {es : List Expr} {fa : EA} {fb : EE} {xs : List PyData}
end
end T3

end
section
set_option linter.all false
set_option autoImplicit false
set_option Elab.async false
set_option maxRecDepth 100000
namespace LamA
open PySem PySem.Spec PyProof.Rows L2 LamX NdefX
section
variable {X : Cx} {pins : List (Addr × Obj)} {σ : L2.St} {H : Hp} {s : Shared}
end
end LamA
namespace T3
open PySem L2 LamA
variable [TabL]
section
variable {K : PySem.W.Frag} {B : Mset} {H H1 : Hp} {P c : Addr} {q : Str} {pos : Pos}
end
end T3

end
section
set_option linter.all false
set_option autoImplicit false
set_option Elab.async false
set_option maxRecDepth 100000
namespace T3
open PySem PySem.Spec PyProof.Rows L2 LamA NdefX LamX
variable [TabL]
section
variable {X : Cx} {x : Str} {st : Stmt} {Ng psg : List Str} {k j : Nat} {q capt : Str} {params : Arguments} {body : Expr} {scope : Scope} {M : PyData → List PyData → SS} {p lpos pos : Pos} {e1 e2 : Expr} {f1 f2 : EE} {cX P : Addr}
end
end T3

end
section
set_option linter.all false
set_option autoImplicit false
set_option Elab.async false
set_option maxRecDepth 100000
namespace T3
open PySem PySem.Spec PyProof.Rows L2 LamA LamX
variable [TabL]
end T3

end
section
set_option linter.all false
set_option autoImplicit false
set_option Elab.async false
namespace T3
open PySem L2
variable [TabL]
abbrev EP := Sl → Option (Int × Nat)
section
variable {X : Cx}
end
end T3

end
section
set_option linter.all false
set_option autoImplicit false
set_option Elab.async false
namespace T3
open PySem L2
variable [TabL]
end T3

end
section
set_option linter.all false
set_option autoImplicit false
set_option Elab.async false
namespace T3
open PySem L2
variable [TabL]
end T3

end
section
set_option linter.all false
set_option autoImplicit false
set_option Elab.async false
set_option maxRecDepth 10000
namespace T3
open PySem L2
variable [TabL]
end T3

end
section
set_option linter.all false
set_option autoImplicit false
set_option Elab.async false
set_option maxRecDepth 100000
namespace T3
open PySem PySem.Spec PyProof.Rows L2
variable [TabL]
def ItDk (a : Addr) (z : DEs) : It := ⟨fun i H => H a = some (DnO a z) ∧ ∃ e b, z.es[i]? = some e ∧ e.key = .ref b, fun i H x H' => H' = H ∧ ∃ e b, z.es[i]? = some e ∧ e.key = .ref b ∧ x = .ref b, fun i H => H a = some (DnO a z) ∧ z.es.length ≤ i⟩
theorem turn_dk {P : Program} {w : World} {K : PySem.W.Frag} {tg : Expr} (a it : Addr) (z : DEs) : Turn P w K tg (ItDk a z) [it] it (fun i h => h.IsKeyIter it a i z.es.length z.ep) where
  mem := by simp
  obj := fun i h st b hb => by
    have e : b = it := by simpa using hb
    subst e
    obtain ⟨oi, e, c, dd⟩ := st
    exact ⟨oi, e, fun v z => by rw [dd] at z; cases z⟩
  keep := fun i h h' st k => st.at fun oi e => k it (by simp) oi e
  item := by
    intro X hP hw hK hc i pins s σ H E I hf st hg
    subst hP hw hK
    obtain ⟨hd, en, b, hen, hkey⟩ := hg
    obtain ⟨f0, f1, f2, f3, f4, f5⟩ := hf it (by simp)
    obtain ⟨⟨y1, y2, y3, y4, y5⟩, _⟩ := I.hok a _ hd
    refine next_key_item (es := z.es.toArray) (en := en) st y3 y5 (by simp) (by simpa using hen) fun h' st' sb => ?_
    have I1 : Inv X pins σ H { s with heap := h' } := I.turned (t' := s.toks) (fun b ob hb e => (sb.2 b hb).trans e) f0 f1 f3 f4 f5
    obtain ⟨oi, e, c, dd⟩ := id st'
    exact ⟨en.key, rfl, go_of (s := { s with heap := h' }) e c dd (by decide) ⟨.ref b, H, I1, hkey, ⟨rfl, en, b, hen, hkey, rfl⟩, st', fun b hb => (hf b hb).1⟩⟩
  done := by
    intro X hP hw hK hc i pins s σ H E I hf st hg
    subst hP hw hK
    obtain ⟨hd, hi⟩ := hg
    obtain ⟨f0, f1, f2, f3, f4, f5⟩ := hf it (by simp)
    obtain ⟨⟨y1, y2, y3, y4, y5⟩, _⟩ := I.hok a _ hd
    exact next_key_end (es := z.es.toArray) (I.ok.hd hc) st y3 y5 (by simp) hi fun h' eb => ⟨rfl, I.turned (t' := s.toks) (fun b ob hb e => eb b ob hb e) f0 f1 f3 f4 f5⟩
  self := fun A i s Q E st h => wpAny_pyIter_keyiter st h
def iDk (td : TE) : TI := fun σ H R => td σ H fun x H1 => ∃ a z, x = .ref a ∧ H1 a = some (DnO a z) ∧ R (ItDk a z) H1
section
variable {X : Cx} {tg e : Expr} {td : TE} {apos cpos : Pos}
theorem pi_dk (he : PE X e td) : PI X tg e (iDk td) := by
  refine ⟨fun pins s σ H R I h => ?_⟩
  refine thn (he.run pins s σ H _ I h) fun u s1 ⟨x, H1, I1, rx, a, z, ex, hd, q⟩ => ?_
  subst ex
  obtain rfl : u = Value.ref a := rx
  obtain ⟨⟨y1, y2, y3, y4, y5⟩, _⟩ := I1.hok a _ hd
  refine iter_keys y1 y3 y4 y5 (pi_one (tk := s1.toks) I1 _ (turn_dk a _ z) ⟨_, Heap.get?_push_size _ rfl, rfl, ?_⟩ q)
  simp
end
end T3
namespace T3
open PySem L2
variable [TabL]
def keysD (kvs : List (NestedKey × PyData)) : List PyData := kvs.map fun q => q.1.data
def itemsD (kvs : List (NestedKey × PyData)) : List PyData := kvs.map fun q => .tuple [q.1.data, q.2]
def iKeysN (f : EE) : EI := fun env => match f env with
  | some (.tmp (.dn kvs), e) => some (keysD kvs, none, e)
  | some (.var i, e) => match e[i]? with
    | some (some (.mu m (.dn kvs))) => some (keysD kvs, some (i, m), e.set i (some (.mu .fro (.dn kvs))))
    | _ => none
  | _ => none
@[simp] theorem z_keysN (f : EE) (env : Sl) : iKeysN f env = (match f env with
  | some (.tmp (.dn kvs), e) => some (keysD kvs, none, e)
  | some (.var i, e) => match e[i]? with
    | some (some (.mu m (.dn kvs))) => some (keysD kvs, some (i, m), e.set i (some (.mu .fro (.dn kvs))))
    | _ => none
  | _ => none) := rfl
theorem paired_at {α β : Type} {R : α → β → Prop} : ∀ {as : List α} {bs : List β} {i : Nat} {b : β}, Paired R as bs → bs[i]? = some b → ∃ a, as[i]? = some a ∧ R a b
  | _, _, 0, _, .cons r _, h => by simp at h; subst h; exact ⟨_, rfl, r⟩
  | _, _, i + 1, _, .cons _ t, h => by
    obtain ⟨a, h1, h2⟩ := paired_at (i := i) t (by simpa using h)
    exact ⟨a, by simpa using h1, h2⟩
theorem dnO_nt {a : Addr} {z : DEs} : NT (DnO a z) := fun _ q => nomatch q
theorem wk_dk {K : PySem.W.Frag} {a : Addr} {z : DEs} {kvs : List (NestedKey × PyData)} : Wk K (ItDk a z) (fun q => q = a) (fun B H => H a = some (DnO a z) ∧ DnR K B H z kvs) (keysD kvs) where
  go i B H g hi := by
    obtain ⟨g1, g2⟩ := g
    have hi : i < kvs.length := by simpa [keysD] using hi
    obtain ⟨e, h1, _, _, ⟨b, h2, _⟩, _⟩ := paired_at g2.ent (List.getElem?_eq_getElem hi)
    exact ⟨g1, e, b, h1, h2⟩
  stop B H g := by
    obtain ⟨g1, g2⟩ := g
    exact ⟨g1, by rw [Paired.length g2.ent]; simp [keysD]⟩
  yld i B H x H' d g hd hy := by
    obtain ⟨g1, g2⟩ := g
    obtain ⟨rfl, e, b, h1, h2, rfl⟩ := hy
    refine ⟨.inl rfl, ?_⟩
    simp only [keysD, List.getElem?_map] at hd
    cases hq : kvs[i]? with
    | none => rw [hq] at hd; cases hd
    | some q =>
      rw [hq] at hd
      cases hd
      obtain ⟨e', k1, _, _, ⟨b', k2, k3⟩, _⟩ := paired_at g2.ent hq
      rw [h1] at k1
      cases k1
      rw [h2] at k2
      cases k2
      exact k3
  keep W B H W' B' H' g s wb hp := by
    obtain ⟨g1, g2⟩ := g
    exact ⟨s.keep _ _ g1 (.inl ⟨hp a rfl, dnO_nt⟩), g2.grow (s.grow wb)⟩
theorem rd_keysN {K : PySem.W.Frag} {f : EE} {σ : St} {H : Hp} {R : It → Hp → Prop} (h : tI K (iKeysN f) σ H R) : iDk (tE K f) σ H R := by
  obtain ⟨B, env, xs, lk, env', en, ev, q⟩ := h
  unfold iKeysN at ev
  split at ev
  · rename_i kvs e h1
    cases ev
    refine ⟨B, env, _, _, en, h1, fun B1 H1 v a1 r1 => ?_⟩
    obtain ⟨a, rfl, k0, k1, ⟨z, k2, k3⟩, k4⟩ := r1
    refine ⟨a, z, rfl, k2, q B1 H1 _ _ _ _ a1 rfl wk_dk ⟨k2, k3⟩ (fun p w => ?_)⟩
    subst w
    exact ⟨fun ⟨i, m, c, g1, _, g3⟩ => k4 i m c g1 g3, _, k2⟩
  · rename_i i e h1
    split at ev
    · rename_i m kvs h2
      cases ev
      refine ⟨B, env, _, _, en, h1, fun B1 H1 v a1 r1 => ?_⟩
      obtain ⟨k1, _⟩ := r1
      obtain ⟨a, g1, g2, z, g3, g4⟩ := a1.en.mu i _ _ h2
      rw [k1] at g1
      cases g1
      refine ⟨a, z, rfl, g3, q B1 H1 _ _ _ _ a1 ⟨_, h2, rfl⟩ wk_dk ⟨g3, g4⟩ (fun p w => ?_)⟩
      subst w
      refine ⟨fun ⟨j, m', c, z1, z2, z3⟩ => ?_, _, g3⟩
      rcases get_set z1 with ⟨e1, e2⟩ | ⟨e1, z1⟩
      · cases e2; exact z2 rfl
      · exact e1 (a1.en.inj i j _ _ _ _ _ h2 z1 k1 z3)
    · cases ev
  · cases ev
theorem i_keysN {X : Cx} {tg l : Expr} {f : EE} (h : PE X l (tE X.K f)) : PI X tg l (tI X.K (iKeysN f)) := PI.imp (pi_dk h) fun _ _ _ t => rd_keysN t
end T3

end
section
set_option linter.all false
set_option autoImplicit false
set_option Elab.async false
set_option maxRecDepth 100000
namespace L2
open PySem PySem.Spec PyProof.Rows
section
variable {X : Cx}
end
end L2
namespace T3
open PySem L2
variable [TabL]
section
variable {X : Cx}
end
end T3

end
section
set_option linter.all false
set_option autoImplicit false
set_option Elab.async false
set_option maxRecDepth 100000
namespace T3
open PySem PySem.Spec PySem.W L2 PyProof.Rows
variable [TabL]
structure DSrc (K : PySem.W.Frag) (B : Mset) (H : Hp) (h : Heap) (a : Addr) (ds : List PyData) where
  es : List DictEntry
  o : Obj
  ep : Nat
  ns : (a == sysModules) = false
  sz : es.length ≤ sizeLine
  ho : h.get? a = some o
  hx : o.ExactDict
  hd : o.data = .dict es.toArray ep
  ks : Paired (fun (e : DictEntry) (d : PyData) => ∃ v, L2.RelV v e.key ∧ Rp K B H v d) es ds
theorem each_paired {α β : Type} {R : α → β → Prop} : ∀ {as : List α} {bs : List β}, Paired R as bs → PySem.W.EachIs R as bs
  | _, _, .nil => .nil
  | _, _, .cons r t => .cons r (each_paired t)
theorem paired_each {α β : Type} {R : α → β → Prop} : ∀ {as : List α} {bs : List β}, PySem.W.EachIs R as bs → Paired R as bs
  | _, _, .nil => .nil
  | _, _, .cons r t => .cons r (paired_each t)
theorem vals_of {K : PySem.W.Frag} {B : Mset} {H : Hp} : ∀ {us : List Value} {ds : List PyData}, Paired (fun (u : Value) (d : PyData) => ∃ v, L2.RelV v u ∧ Rp K B H v d) us ds → ∃ vs, L2.Vals vs us ∧ RpA K B H vs ds
  | _, _, .nil => ⟨[], .nil, .nil⟩
  | _, _, .cons ⟨v, h1, h2⟩ t => let ⟨vs, h3, h4⟩ := vals_of t; ⟨v :: vs, .cons h1 h3, .cons h2 h4⟩
theorem each_reads {h : Heap} : ∀ {us : List Value} {ds : List PyData} {as : List Addr}, ReadsAll h us ds as → PySem.W.EachIs (fun v d => ∃ as, Reads h v d as) us ds := fun {us ds as} r => by
  have := PySem.W.readsAll_each (h := h) (fun d : PyData => d) (vs := us) (bs := ds) (as := as) (by simpa using r)
  exact this
def PlainS (xs : List PyData) : Prop := PyData.canLayAll0 xs = true ∧ PySem.W.AllAlike xs ∧ PySem.W.Sortable xs ∧ ∀ d ∈ xs, d.depth ≤ 30
noncomputable instance (xs : List PyData) : Decidable (PlainS xs) := Classical.propDecidable _
def srtD (xs : List PyData) : List PyData := xs.mergeSort (PySem.W.dataLe false id)
end T3

end
section
set_option linter.all false
set_option autoImplicit false
set_option Elab.async false
set_option maxRecDepth 100000
namespace T3
open PySem L2
variable [TabL]
noncomputable def kSrtX : KK := fun ds env => match ds with
  | [d] => match lsOf env d with
    | some xs => if PlainS xs ∧ xs.length ≤ 1000000 then some (.tmp (.ls (srtD xs)), env) else none
    | none => none
  | _ => none
def rSrtX (K : PySem.W.Frag) : List V → Hp → VK → Prop := fun vs H Q => ∃ (a : Addr) (B : Mset) (us : List V) (xs : List PyData), vs = [V.ref a] ∧ PlainS xs ∧ xs.length ≤ 1000000 ∧ SqL K H a us ∧ RpA K B H us xs ∧
  ∀ (ys : List V) (p : Addr), RpA K B H ys (srtD xs) → H p = none → Q (.ref p) (upd H p (.lst ys))
theorem pair_of {K : PySem.W.Frag} {B : Mset} {H : Hp} : ∀ {ws : List V} {us : List Value} {ds : List PyData}, L2.Vals ws us → RpA K B H ws ds → Paired (fun (u : Value) (d : PyData) => ∃ v, L2.RelV v u ∧ Rp K B H v d) us ds
  | _, _, _, .nil, .nil => .nil
  | _, _, _, .cons h1 t1, .cons h2 t2 => .cons ⟨_, h1, h2⟩ (pair_of t1 t2)
theorem cr_srtX {X : Cx} (hu : X.A.units + 64 < cLine) : CallR X (.builtin "sorted") (rSrtX X.K) := by
  intro pins s σ H vs us Q I r h
  obtain ⟨a, B, ws, xs, rfl, ⟨p1, p2, p3, p4⟩, hl, sq, rp, q⟩ := h
  rw [Vals.ref1 r]
  obtain ⟨its, rv, pl, hlen⟩ := I.list sq
  obtain ⟨as, ra⟩ := Dp.readsAll I xs ws its (rp.dp0 p1) rv
  have e1 := each_paired (pair_of rv rp)
  refine PySem.W.sorted_data (vs := its) (bs := xs) (enc := fun d : PyData => d) pl.isList e1 (each_reads ra) (by simpa using p2) (by simpa using p3) (Nat.le_of_lt (small hl)) (fun d hd => by
    have := p4 d hd
    omega) fun out ho eo => ?_
  obtain ⟨ys, ry, rpy⟩ := vals_of (paired_each eo)
  obtain ⟨ep, he'⟩ := PyProof.Rows.sortedAll_at s.heap its out.toArray
  have hys : ys.length ≤ sizeLine := by rw [ry.length, ho]; exact Nat.le_of_lt (small hl)
  exact ⟨.ref _, upd H (s.heap.objs.size + 1) (.lst ys), I.laid (t' := s.toks) (fun _ _ => PyProof.Rows.sortedAll_old) (Nat.le_succ _) ⟨hys, out, ep, ry, he'⟩, rfl, q ys _ rpy (I.hok.fresh (Nat.le_succ _))⟩
theorem c_srtX {K : PySem.W.Frag} : Con K kSrtX (rSrtX K) := by
  intro σ H B env B1 H1 env1 vs ds d e2 Q en a rr hk q
  unfold kSrtX at hk
  split at hk
  · rename_i d1
    match vs, rr with
    | [v], rr =>
      split at hk
      · rename_i xs hx
        split at hk
        · rename_i hp
          cases hk
          obtain ⟨p, ws, rfl, h1, h2⟩ := lsOf_at a.en (rr.each 0 v d1 rfl rfl) hx
          exact ⟨p, B1, ws, xs, rfl, hp.1, hp.2, .inl (.inl h1), h2, fun ys r g1 nr => con_new en a nr g1 q⟩
        · cases hk
      · cases hk
    | [], rr => have := rr.len; simp at this
    | _ :: _ :: _, rr => have := rr.len; simp at this
  · cases hk
theorem w_srtX {X : Cx} {k : Nat} (hr : Room k X.A) : Blt X "sorted" kSrtX := ⟨_, _, cr_srtX (u64 hr), c_srtX, by decide +kernel⟩
end T3

end
section
set_option linter.all false
set_option autoImplicit false
set_option Elab.async false
set_option maxRecDepth 100000
namespace T3
open PySem L2
variable [TabL]
def MinOk (xs : List PyData) : Prop := PyData.canLayAll0 xs = true ∧ PySem.W.AlikeAll xs ∧ PyData.depthAll xs ≤ 30
noncomputable instance (xs : List PyData) : Decidable (MinOk xs) := Classical.propDecidable _
end T3

end
section
set_option linter.all false
set_option autoImplicit false
set_option Elab.async false
set_option maxRecDepth 100000
namespace L2
open PySem PySem.Spec PyProof.Rows
abbrev TLay := Addr → V → V → Hp → (Hp → Prop) → Prop
structure PLay (X : Cx) (l : TLay) : Prop where
  run : ∀ (pins : List (Addr × Obj)) (σ : St) (H : Hp) (s : Shared) (D : Addr) (y z : V) (u r : Value) (N : Hp → Prop) (Q : Unit → Shared → Prop) (E : Value → Shared → Prop),
    Inv X pins σ H s → RelV y u → RelV z r → l D y z H N → (∀ s' H', Inv X pins σ H' s' → N H' → Q () s') → wpAny (model X.prog X.w) X.A (dictSet D u r) Q E s
structure LayT (l : TLay) (D : Addr) (J : It) (g : TG) (tk tv : TE) (vs : List Nat) (σ : St) (W : Nat → Nat → Hp → Prop) (fin : Hp → Prop) : Prop where
  turn : ∀ (i m : Nat) (H : Hp), W i m H → (J.stop i H ∧ fin H) ∨ (J.go i H ∧ ∃ Nx : Hp → Prop, (∀ H', Nx H' → ∃ m', m' < m ∧ W (i + 1) m' H') ∧
    ∀ x H', J.yld i H x H' → g x (wipe σ vs) H' fun τ H2 => wipe τ vs = wipe σ vs ∧ tk τ H2 fun y H4 => tv τ H4 fun z H5 => l D y z H5 Nx)
def tDcL (l : TLay) (wi : TI) (g : TG) (tk tv : TE) (vs : List Nat) : TE := fun σ H Q => wi σ H fun J H1 => ∀ D, H1 D = none →
  ∃ W : Nat → Nat → Hp → Prop, (∃ m, W 0 m (upd H1 D (.dK []))) ∧ LayT l D J g tk tv vs σ W (fun H' => Q (.ref D) H')
section
variable {X : Cx}
theorem lay_free {s3 : Shared} {H3 : Hp} {scope : Scope} {ce : Env} {fp : List Addr} {τ : St} {H' : Hp} {s' : Shared} (I : Inv (X.blk s3 H3 scope ce fp) [] τ H' s') (nb : ∀ b ∈ fp, H' b = none) :
    ∀ b ∈ fp, FpOk (X.blk s3 H3 scope ce fp) [] H' b := by
  intro b hb
  have z := I.ok.exf b hb
  refine ⟨nb b hb, z.1, I.ok.exfs b hb, .inl hb, z.2, ?_⟩
  intro p hp
  cases (show p ∈ ([] : List (Addr × Obj)) from hp)
theorem lay_loop {s3 s0 : Shared} {H3 H0 : Hp} {scope : Scope} {ce : Env} {fp : List Addr} {tg kx vx iter : Expr} {pos : Pos} {l : TLay} {g : TG} {tk tv : TE} {J : It} {it D : Addr} {tn : Nat → Heap → Prop} {vs : List Nat} {σ : St} {W : Nat → Nat → Hp → Prop} {fin : Hp → Prop} {R : Result → Shared → Prop} {i0 m0 : Nat}
    (hc : X.calm = true) (T : Turn X.prog X.w X.K tg J fp it tn) (pl : PLay (X.blk s3 H3 scope ce fp) l) (pg : PG (X.blk s3 H3 scope ce fp) tg g) (pk : PE (X.blk s3 H3 scope ce fp) kx tk) (pv : PE (X.blk s3 H3 scope ce fp) vx tv)
    (lt : LayT l D J g tk tv vs σ W fin) (hR : ∀ H' s', Inv (X.blk s3 H3 scope ce fp) [] (wipe σ vs) H' s' → fin H' → R (.ok .next) s')
    (I0 : Inv (X.blk s3 H3 scope ce fp) [] (wipe σ vs) H0 s0) (st0 : tn i0 s0.heap) (nb0 : ∀ b ∈ fp, H0 b = none) (w0 : W i0 m0 H0) :
    codeAny (model X.prog X.w) X.A (.compLoop (.DictComp kx vx [⟨tg, iter, [], 0⟩] scope pos) 0 (.ref it) (.ref D) ce) R s0 := by
  refine compLoop_anyD (fun n s' => ∃ i H', Inv (X.blk s3 H3 scope ce fp) [] (wipe σ vs) H' s' ∧ tn i s'.heap ∧ (∀ b ∈ fp, H' b = none) ∧ W i n H') ?_ m0 ⟨i0, H0, I0, st0, nb0, w0⟩
  intro n sa ⟨i, Ha, Ia, sta, na, wa⟩
  rcases lt.turn i n Ha wa with ⟨sp, q⟩ | ⟨gg, Nx, toW, body⟩
  · refine thnF (T.done (X.blk s3 H3 scope ce fp) rfl rfl rfl hc i [] sa _ Ha (fun _ _ => False) Ia (lay_free Ia na) sta sp) ?_
    rintro r sb ⟨rfl, Ib⟩
    exact hR Ha sb Ib q
  · refine thnF (T.item (X.blk s3 H3 scope ce fp) rfl rfl rfl hc i [] sa _ Ha (fun _ _ => False) Ia (lay_free Ia na) sta gg) ?_
    rintro r sb ⟨u, rfl, hb⟩
    refine thnF hb ?_
    rintro _ sc ⟨x, Hc, Ic, rx, yx, stc, nc⟩
    refine thnF (pg.run _ sc _ Hc x u _ (Ic.pinned (lay_free Ic nc) (T.obj _ _ stc)) rx (body x Hc yx)) ?_
    rintro _ sd ⟨τ, Hd, Id, hτ, qd⟩
    refine wpAny_pure ?_
    simp only [if_true]
    refine thnF (pk.run _ sd τ Hd _ Id qd) ?_
    rintro kv se ⟨y, He, Ie, ry, qe⟩
    refine thnF (pv.run _ se τ He _ Ie qe) ?_
    rintro zv sf ⟨z, Hf, If, rz, qf⟩
    refine pl.run _ τ Hf sf D y z kv zv Nx _ _ If ry rz qf ?_
    intro sg Hg Ig nx
    obtain ⟨m', hm, w'⟩ := toW Hg nx
    have pin : ∀ b ∈ fp, ∀ o, sc.heap.get? b = some o → sg.heap.get? b = some o ∧ Hg b = none := by
      intro b hb o e
      have z := Ig.pin (b, o) (List.mem_append_right _ (List.mem_append_right _ (mem_pinsAt hb e)))
      exact ⟨z.1, z.2.1⟩
    refine ⟨m', hm, i + 1, Hg, (Ig.unpinned (pins := [])).weak (by rw [← hτ, wipe_length]) ?_, T.keep _ _ _ stc fun b hb o e => (pin b hb o e).1, ?_, w'⟩
    · intro j v e
      rw [← hτ] at e
      exact (wipe_some e).1
    · intro b hb
      obtain ⟨o, e, _⟩ := T.obj _ _ stc b hb
      exact (pin b hb o e).2
theorem lay_core {pins : List (Addr × Obj)} {s : Shared} {σ : St} {H : Hp} {Q : VK} {kx vx tg iter : Expr} {scope : Scope} {own : List (Str × Nat)} {pos pos' : Pos} {l : TLay} {wi : TI} {g : TG} {tk tv : TE} {use : Option (Value → Sem Unit)} {Qf : Value → Shared → Prop}
    (hc : X.calm = true) (hN : X.N.Nodup) (I : Inv X pins σ H s) (hi : PI X tg iter wi) (ok : BlkOk X.N X.env.scope scope own)
    (hl : ∀ s H C cl fp, PLay (X.blk s H scope (compEnvC scope cl C X.env) fp) l) (hg : ∀ s H C cl fp, PG (X.blk s H scope (compEnvC scope cl C X.env) fp) tg g)
    (hk : ∀ s H C cl fp, PE (X.blk s H scope (compEnvC scope cl C X.env) fp) kx tk) (hv : ∀ s H C cl fp, PE (X.blk s H scope (compEnvC scope cl C X.env) fp) vx tv)
    (hs : ∀ x, foldedSetIterable iter X.env x = pure x) (h : tDcL l wi g tk tv (own.map (·.2)) σ H Q)
    (after : ∀ D C s' m H', Inv X pins σ H' s' → Q (.ref D) H' → s'.heap.Ns C m → FpOk X pins H' C → compPost (model X.prog X.w) X.A X.xe use Qf (.ref D) C (.ok .next) s') :
    wpAny (model X.prog X.w) X.A (comprehension (.DictComp kx vx [⟨tg, iter, [], 0⟩] scope pos) scope X.env pos' newDict false (eval iter X.env) use) Qf X.xe s := by
  have free : ∀ y ∈ scope.names, y.2 = .free → ∃ c, X.env.cells.lookup y.1 = some c := by
    intro y hy e
    rcases ok.free y hy e with k | k
    · exact I.ok.has _ (.inl k)
    · exact I.ok.has _ (.inr k)
  refine wpAny_comprehension_free (use := use) rfl hs (closure_ok free) ok.kind (fun y hy e => (ok.uniq y hy).trans (congrArg some e)) (thn (hi.run pins s σ H _ I h) ?_)
  intro _ _ z
  refine thn z ?_
  rintro itv s2 ⟨it, fp, tn, J, H2, rfl, I2, T, st2, f2, q⟩
  refine wpAny_newObj_type (newEnv_comp ?_)
  obtain ⟨D, hD⟩ : ∃ D, D = s2.heap.objs.size := ⟨_, rfl⟩
  have hDn : H2 D = none := I2.hok.fresh (Nat.le_of_eq hD.symm)
  obtain ⟨W, ⟨m0, w0⟩, lt⟩ := q D hDn
  have hX : ∀ b ∈ fp, b < s2.heap.objs.size := by
    intro b hb
    obtain ⟨_, e, _⟩ := T.obj _ _ st2 b hb
    exact Heap.lt_size e
  obtain ⟨s3, hs3⟩ : ∃ s3 : Shared, s3 = { s2 with heap := s2.heap.push { cls := .type "dict", data := .dict #[] } } := ⟨_, rfl⟩
  have hh : s3.heap = s2.heap.push { cls := .type "dict", data := .dict #[] } := by rw [hs3]
  have I3 : Inv X pins σ (upd H2 D (.dK [])) s3 := by
    rw [hs3]
    refine I2.laid (t' := s2.toks) (fun b o e => Heap.get?_push_of_some _ e) (Nat.le_of_eq hD.symm) ?_
    rw [hD]
    exact dk_empty s2.heap I2.big
  have f3 : ∀ b ∈ fp, FpOk X pins (upd H2 D (.dK [])) b ∧ b < s3.heap.objs.size := by
    intro b hb
    have lt := hX b hb
    refine ⟨⟨?_, (f2 b hb).2⟩, ?_⟩
    · rw [upd_ne (by rw [hD]; exact Nat.ne_of_lt lt)]
      exact (f2 b hb).1
    · rw [hh, Heap.size_push]
      exact Nat.lt_succ_of_lt lt
  have st3 : tn 0 s3.heap := T.keep _ _ _ st2 fun b _ o e => by rw [hh]; exact Heap.get?_push_of_some _ e
  have I4 := block_start I3 ok hN f3
  have st4 : tn 0 (pushCells (s3.heap.push { cls := .type "dict", data := .dict #[] }) scope.names) := T.keep _ _ _ st3 fun b _ o e => pushCells_keeps _ _ _ _ (Heap.get?_push_of_some _ e)
  have lp := lay_loop (X := X) (ce := compEnvC scope (cellsFrom (s3.heap.objs.size + 1) scope.names (cloFrom X.env.cells scope.names [])) s3.heap.objs.size X.env) (iter := iter) (pos := pos) (i0 := 0)
    (R := compPost (model X.prog X.w) X.A X.xe use Qf (.ref D) s3.heap.objs.size) hc T (hl s3 _ _ _ fp) (hg s3 _ _ _ fp) (hk s3 _ _ _ fp) (hv s3 _ _ _ fp) lt (fun H' s' I' qq => ?_) I4 st4 (fun b hb => (f3 b hb).1.1) w0
  · rw [← hD, ← hs3]
    exact codeAny_compStart_dict lp (T.self X.A 0 _ _ _ st4 lp)
  · have Ib : Inv X pins σ H' s' := I3.call' (ch := fp) I'.os I'.base I'.hok I'.bare fun b hb => ⟨(f3 b hb).1.2.2.2.1, (f3 b hb).1.2.1, (f3 b hb).1.2.2.2.2.1, (f3 b hb).1.2.2.2.2.2⟩
    have nC : H' s3.heap.objs.size = none := I'.free
    obtain ⟨m, hn, _⟩ := I'.loc
    exact after D s3.heap.objs.size s' m H' Ib qq hn (I3.fpOk (Nat.le_refl _) nC)
theorem pe_lay {kx vx tg iter : Expr} {scope : Scope} {own : List (Str × Nat)} {pos : Pos} {l : TLay} {wi : TI} {g : TG} {tk tv : TE} (hc : X.calm = true) (hN : X.N.Nodup) (hi : PI X tg iter wi) (ok : BlkOk X.N X.env.scope scope own)
    (hl : ∀ s H C cl fp, PLay (X.blk s H scope (compEnvC scope cl C X.env) fp) l) (hg : ∀ s H C cl fp, PG (X.blk s H scope (compEnvC scope cl C X.env) fp) tg g)
    (hk : ∀ s H C cl fp, PE (X.blk s H scope (compEnvC scope cl C X.env) fp) kx tk) (hv : ∀ s H C cl fp, PE (X.blk s H scope (compEnvC scope cl C X.env) fp) vx tv)
    (hs : ∀ x, foldedSetIterable iter X.env x = pure x := by intro _; rfl) : PE X (.DictComp kx vx [⟨tg, iter, [], 0⟩] scope pos) (tDcL l wi g tk tv (own.map (·.2))) := by
  refine ⟨fun pins s σ H Q I h => ?_⟩
  rw [arm_eval_DictComp]
  refine lay_core hc hN I hi ok hl hg hk hv hs h ?_
  intro D C s' m H' I' q hn f
  refine ⟨m, hn, ?_⟩
  intro h'' sb
  exact ⟨.ref D, H', I'.turned (t' := s'.toks) (fun b o hb e => (sb.2 b hb).trans e) f.1 f.2.1 f.2.2.2.1 f.2.2.2.2.1 f.2.2.2.2.2, rfl, q⟩
end
end L2
namespace T3
open PySem L2
variable [TabL]
def layC (K : PySem.W.Frag) : TLay := fun D y z H N => rSetD K (.ref D) y z H N
theorem dn_lay {X : Cx} {pins : List (Addr × Obj)} {σ : St} {H : Hp} {s : Shared} {a : Addr} {A : Around} {E : Value → Shared → Prop} {B : Mset} {kvs : List (NestedKey × PyData)} {k : NestedKey} {i v : V} {iv u : Value} {x : PyData} {Q : Unit → Shared → Prop}
    (hu : A.units + 9 < cLine) (I : Inv X pins σ H s) (d : DnAt X.K B H a kvs) (hk : NkOk k) (rk : Rp X.K B H i k.data) (hl : kvs.length < sizeLine) (ri : RelV i iv) (rv : RelV v u) (rp : Rp X.K B H v x)
    (h : ∀ es s', DnR X.K B H es (putN kvs k x) → Inv X pins σ (upd H a (DnO a es)) s' → Q () s') : wpAny (model X.prog X.w) A (dictSet a iv u) Q E s := by
  obtain ⟨b, rfl⟩ := nk_ref hk rk
  cases (show iv = Value.ref b from ri)
  obtain ⟨ns, _, nd, xs, dd, kn⟩ := dn_open I d
  have mu : Mut (H a) := by
    rcases d with ⟨_, d⟩ | ⟨es, d, _⟩
    · rw [d]; exact True.intro
    · rw [d]; exact True.intro
  refine wpAny_dictSet_heap (hsz := by rw [← kn.len]; omega) (show A.units + 8 < cLine by omega) (nk_key I hk rk) dd fun h' dd' hs => ?_
  have kn' := kn.put hk rk rv rp
  obtain ⟨q, es, ep, hq, h2, h3, h4, _, h5⟩ := dd'
  refine h ⟨q, ep, (storedH xs k b u).map (entryOfKey (nestedKind X.prog X.w))⟩ _ ⟨kn'.dn, putN_nd nd⟩ (d_write I mu hs ⟨q, hq⟩ ⟨⟨ns, ?_, hq, h2, ?_⟩, ⟨q, hq⟩, fun h1 h2 ⟨z1, z2, z3, z4, z5⟩ st => ⟨z1, z2, st _ z3, z4, z5⟩⟩)
  · dsimp only
    rw [List.length_map, ← kn'.len]
    have := putN_len kvs k x
    omega
  · dsimp only
    rw [← h4, Array.toArray_toList]; exact h3
theorem lay_pl {X : Cx} (hu : X.A.units + 9 < cLine) : PLay X (layC X.K) := by
  refine ⟨fun pins σ H s D y z u r N Q E I ry rz h hq => ?_⟩
  obtain ⟨B, a, x, e, rp, h⟩ := h
  cases e
  rcases h with ⟨kvs, ws, k, h1, h2, h3, rfl, q⟩ | ⟨kvs, k, h1, h2, h3, h4, q⟩
  · exact d_dictSet I h1 h3 ry rz fun s' I' => hq s' _ I' q
  · exact dn_lay hu I h1 h2 h3 h4 ry rz rp fun es s' r I' => hq s' _ I' (q es r)
theorem CtR.same {K : PySem.W.Frag} {B B' : Mset} {H H' : Hp} {D : Addr} {c : Ct} (h : CtR K B H D c) (g : Grow B H B' H') (e : H' D = H D) : CtR K B' H' D c := by
  cases c with
  | ls xs => obtain ⟨vs, h4, h5⟩ := h; exact ⟨vs, e.trans h4, h5.grow g⟩
  | dk xs => obtain ⟨vs, h4, h5⟩ := h; exact ⟨vs, e.trans h4, h5.grow g⟩
  | dn xs => obtain ⟨vs, h4, h5⟩ := h; exact ⟨vs, e.trans h4, h5.grow g⟩
theorem CtR.obj {K : PySem.W.Frag} {B : Mset} {H : Hp} {D : Addr} {c : Ct} (h : CtR K B H D c) : ∃ o, H D = some o ∧ ¬ Imm o := by
  cases c with
  | ls xs => obtain ⟨vs, h4, _⟩ := h; exact ⟨_, h4, fun z => z⟩
  | dk xs => obtain ⟨vs, h4, _⟩ := h; exact ⟨_, h4, fun z => z⟩
  | dn xs => obtain ⟨vs, h4, _⟩ := h; exact ⟨_, h4, fun z => z⟩
theorem lay_ok {K : PySem.W.Frag} {B : Mset} {H : Hp} {D : Addr} {c c' : Ct} {kx y : PyData} {vk vy : V} {N : Hp → Prop} (hc : CtR K B H D c) (rk : Rp K B H vk kx) (ry : Rp K B H vy y) (e : cPut c kx y = some c')
    (q : ∀ o, (∀ B', Grow B H B' (upd H D o) → CtR K B' (upd H D o) D c') → N (upd H D o)) : layC K D vk vy H N := by
  refine ⟨B, D, y, rfl, ry, ?_⟩
  cases c with
  | ls xs => cases e
  | dk kvs =>
    obtain ⟨ws, g4, g5⟩ := hc
    dsimp only [cPut] at e
    split at e
    · rename_i hl
      split at e
      · rename_i k hk
        cases e
        exact .inl ⟨kvs, ws, k, g4, g5, by rw [g5.len]; exact lt_line hl, key_v rk hk, q _ fun B' g => ⟨_, upd_same, (g5.put ry).grow g⟩⟩
      · split at e
        · rename_i k hk
          split at e
          · cases e
            cases g5
            obtain ⟨k1, k2⟩ := tk_ok hk
            exact .inr ⟨[], k, .inl ⟨rfl, g4⟩, k1, by rw [k2]; exact rk, by simpa using lt_line (n := 0) (by omega), fun es r => q _ fun B' g => ⟨es, upd_same, r.grow g⟩⟩
          · cases e
        · cases e
    · cases e
  | dn kvs =>
    obtain ⟨es, g4, g5⟩ := hc
    dsimp only [cPut] at e
    split at e
    · rename_i hl
      split at e
      · rename_i k hk
        cases e
        obtain ⟨k1, k2⟩ := tk_ok hk
        exact .inr ⟨kvs, k, .inr ⟨es, g4, g5⟩, k1, by rw [k2]; exact rk, lt_line hl, fun es' r => q _ fun B' g => ⟨es', upd_same, r.grow g⟩⟩
      · cases e
    · cases e
theorem At.putO {K : PySem.W.Frag} {σ : St} {B B4 : Mset} {H H4 : Hp} {e e4 : Sl} {D : Addr} {o' : HO} (en : EnvR K B H σ e) (a : At K σ B H e B4 H4 e4) (nD : H D = none) (bD : B4 D) (ni : ∀ o, H4 D = some o → ¬ Imm o) (sD : ∀ (i : Nat) m d, e4[i]? = some (some (S.mu m d)) → σ[i]? ≠ some (some (V.ref D))) :
    Grow B4 H4 B4 (upd H4 D o') ∧ At K σ B H e B4 (upd H4 D o') e4 := by
  have g : Grow B4 H4 B4 (upd H4 D o') := by
    refine ⟨fun q o h c => ?_, fun q h => .inl h⟩
    have : q ≠ D := fun z => by
      subst z
      rcases c with c | c
      · exact c.1 bD
      · exact ni o h c
    rw [upd_ne this]; exact h
  refine ⟨g, ⟨fun q o h c => ?_, fun q h => a.st.new q h, fun q h w => a.st.old q h w, a.st.sub, fun q h => ?_⟩, ⟨a.en.len, fun i x h => ?_, fun i x h => ?_, fun i m c h => ?_, a.en.inj, fun q h => ?_, a.en.tb.on (fun q o h n => by rw [upd_ne (fun z => n (by rw [z]; exact bD))]; exact h) g.new⟩, a.sm, a.ks⟩
  · have : q ≠ D := fun z => by rw [z, nD] at h; cases h
    rw [upd_ne this]; exact a.st.keep q o h c
  · by_cases z : q = D
    · rw [z]; exact nD
    · rw [upd_ne z] at h; exact a.st.liv q h
  · obtain ⟨v, k1, k2⟩ := a.en.pd i x h
    exact ⟨v, k1, k2.grow g⟩
  · obtain ⟨v, k1, k2⟩ := a.en.nt i x h
    exact ⟨v, k1, k2.grow g⟩
  · obtain ⟨p, k1, k2, k3⟩ := a.en.mu i m c h
    have np : p ≠ D := fun z => by subst z; exact sD i m c h k1
    exact ⟨p, k1, k2, k3.same g (upd_ne np)⟩
  · by_cases z : q = D
    · rw [z]; exact ⟨_, upd_same⟩
    · rw [upd_ne z]; exact a.en.dom q h
def dcC (g : GG) (fk fv : EE) (vs : List Nat) : List PyData → Sl → Ct → Option (Ct × Sl)
  | [], env, acc => some (acc, env)
  | x :: xs, env, acc => match g x (wipeE env vs) with
    | none => none
    | some e1 => match fk e1 with
      | some (.pd kx, e2) => match fv e2 with
        | some (.pd y, e3) => match cPut acc kx y with
          | some acc' => dcC g fk fv vs xs (unwipe env e3 vs) acc'
          | none => none
        | _ => none
      | _ => none
def eDcC (it : EI) (g : GG) (fk fv : EE) (vs : List Nat) : EE := fun env => match it env with
  | none => none
  | some (xs, lk, e1) => match dcC g fk fv vs xs e1 (.dk []) with
    | none => none
    | some (acc, e2) => some (.tmp acc, unlock lk e2)
@[simp] theorem z_dcC (it : EI) (g : GG) (fk fv : EE) (vs : List Nat) (env : Sl) : eDcC it g fk fv vs env = (match it env with
  | none => none
  | some (xs, lk, e1) => match dcC g fk fv vs xs e1 (.dk []) with
    | none => none
    | some (acc, e2) => some (.tmp acc, unlock lk e2)) := rfl
theorem rd_dcC {K : PySem.W.Frag} {it : EI} {g : GG} {fk fv : EE} {vs : List Nat} (hg : Only g vs) {σ : St} {H : Hp} {Q : VK} (h : tE K (eDcC it g fk fv vs) σ H Q) : tDcL (layC K) (tI K it) (tGv K g vs) (tE K fk) (tE K fv) vs σ H Q := by
  obtain ⟨B, env, d, env', en, ev, q⟩ := h
  unfold eDcC at ev
  split at ev
  · cases ev
  rename_i xs lk e1 h1
  split at ev
  · cases ev
  rename_i accF e2 h2
  cases ev
  refine ⟨B, env, xs, lk, e1, en, h1, fun B1 H1 J pr G e0 a1 lkd wk g0 hpr D nD => ?_⟩
  have en1 : EnvR K B1 H1 σ e1 := lkd.en a1.en
  have stays : ∀ {Bi Hi ei}, At K σ B1 H1 e1 Bi Hi ei → G Bi Hi := fun {Bi Hi ei} a => wk.keep _ _ _ _ _ _ g0 a.st en1.wb fun x hx => (hpr x hx).1
  have slotNone : ∀ {Bi Hi ei}, At K σ B1 H1 e1 Bi Hi ei → ∀ p, H1 p = none → ∀ (i : Nat) m d, ei[i]? = some (some (S.mu m d)) → σ[i]? ≠ some (some (V.ref p)) := fun {Bi Hi ei} a p np i m d h3 h4 => by
    obtain ⟨c0, k0⟩ := a.sm i m d h3
    obtain ⟨p', k1, k2, _⟩ := en1.mu i m c0 k0
    rw [h4] at k1
    cases k1
    obtain ⟨o, ho⟩ := en1.dom p k2
    rw [np] at ho; cases ho
  let Iv : Nat → Hp → Ct → Sl → Mset → Prop := fun i Hi acc ei Bi => At K σ B1 H1 e1 Bi Hi ei ∧ Bi D ∧ CtR K Bi Hi D acc ∧ dcC g fk fv vs (xs.drop i) ei acc = some (accF, e2)
  refine ⟨fun i m Hi => i ≤ xs.length ∧ m = xs.length - i ∧ ∃ acc ei Bi, Iv i Hi acc ei Bi, ⟨_, Nat.zero_le _, rfl, .dk [], e1, (fun q => (B1 q ∧ ¬ False) ∨ (True ∧ q = D)), ?_⟩, ⟨?_⟩⟩
  · obtain ⟨_, a2⟩ := (At.refl en1).alloc en1 nD (.dK []) True (fun _ => False) (fun _ z => z.elim)
    exact ⟨a2, .inr ⟨trivial, rfl⟩, ⟨[], upd_same, .nil⟩, h2⟩
  rintro i m Hi ⟨hi, rfl, acc, ei, Bi, ai, bD, cD, fi⟩
  have gi := stays ai
  obtain ⟨oD, hD, nI⟩ := cD.obj
  by_cases hlt : i < xs.length
  · have hd : xs.drop i = xs[i] :: xs.drop (i + 1) := List.drop_eq_getElem_cons hlt
    rw [hd] at fi
    unfold dcC at fi
    split at fi
    · cases fi
    rename_i e3 h3
    refine .inr ⟨wk.go i Bi Hi gi hlt, fun H' => ∃ acc ei Bi, Iv (i + 1) H' acc ei Bi, fun H' ⟨acc', e', B', z⟩ => ⟨xs.length - (i + 1), by omega, hlt, rfl, acc', e', B', z⟩, fun x H' hy => ?_⟩
    obtain ⟨hH, rx⟩ := wk.yld i Bi Hi x H' xs[i] gi (List.getElem?_eq_getElem hlt) hy
    have ay : At K σ Bi Hi ei Bi H' ei := by
      rcases hH with e | ⟨T, vs, nT, e⟩ | ⟨T, vs, T2, vs2, nT, nT2, e⟩
      · subst e; exact .refl ai.en
      · subst e; exact At.pair ai.en nT
      · subst e; exact (At.pair ai.en nT).trans ai.en (At.pair (At.pair ai.en nT).en nT2)
    have ai' : At K σ B1 H1 e1 Bi H' ei := ai.trans en1 ay
    have eD' : H' D = Hi D := by
      rcases hH with e | ⟨T, us, nT, e⟩ | ⟨T, us, T2, us2, nT, nT2, e⟩
      · rw [e]
      · rw [e, upd_ne (fun z => by rw [← z, hD] at nT; cases nT)]
      · have h1 : upd Hi T (.tup us) D = Hi D := upd_ne (fun z => by rw [← z, hD] at nT; cases nT)
        rw [e, upd_ne (fun z => by rw [← z, h1, hD] at nT2; cases nT2), h1]
    have cD' : CtR K Bi H' D acc := cD.same (ay.grow ai.en) eD'
    have hD' : H' D = some oD := eD'.trans hD
    refine ⟨Bi, wipeE ei vs, xs[i], e3, ay.en.wiped vs, rx, h3, fun B3 σ3 H3 a3 w3' => ?_⟩
    have w3 : wipe σ3 vs = wipe σ vs := w3'.trans wipe_idem
    refine ⟨w3, ?_⟩
    have ho : ∀ j, j ∉ vs → e3[j]? = (wipeE ei vs)[j]? := hg _ _ _ h3
    have out : ∀ {B4 H4 e4}, At K σ3 B3 H3 e3 B4 H4 e4 → At K σ B1 H1 e1 B4 H4 (unwipe ei e4 vs) ∧ B4 D ∧ CtR K B4 H4 D acc := fun {B4 H4 e4} b => by
      have u := At.unwiped ay.en a3 w3 ho b
      have nw : ¬ Wof σ ei D := by
        rintro ⟨j, m, c, k1, _, k3⟩
        exact slotNone ai' D nD j m c k1 k3
      exact ⟨ai'.trans en1 u, u.st.old D bD nw, cD'.same (u.grow ay.en) ((u.st.keep D _ hD' (.inl ⟨nw, fun p z => by
        cases acc with
        | ls xs => obtain ⟨_, k, _⟩ := cD'; rw [hD'] at k; cases k; cases z
        | dk xs => obtain ⟨_, k, _⟩ := cD'; rw [hD'] at k; cases k; cases z
        | dn xs => obtain ⟨_, k, _⟩ := cD'; rw [hD'] at k; cases k; cases z⟩)).trans hD'.symm)⟩
    split at fi
    · rename_i kx e4 h4
      split at fi
      · rename_i y e5 h5
        split at fi
        · rename_i acc' hp
          refine ⟨B3, e3, .pd kx, e4, a3.en, h4, fun B5 H5 v5 a5 r5 => ?_⟩
          refine ⟨B5, e4, .pd y, e5, a5.en, h5, fun B6 H6 v6 a6 r6 => ?_⟩
          obtain ⟨o1, o2, o3⟩ := out (a5.trans a3.en a6)
          refine lay_ok o3 (r5.grow (a6.grow a5.en)) r6 hp fun o ho => ?_
          obtain ⟨_, q2, q3⟩ := o3.obj
          obtain ⟨g7, a7⟩ := o1.putO (o' := o) en1 nD o2 (fun o h => by rw [q2] at h; cases h; exact q3) (slotNone o1 D nD)
          exact ⟨acc', _, B6, a7, o2, ho B6 g7, fi⟩
        · cases fi
      · cases fi
    · cases fi
  · have e : i = xs.length := by omega
    subst e
    rw [List.drop_length] at fi
    cases fi
    refine .inl ⟨wk.stop Bi Hi gi, q Bi Hi _ (At.through en a1 lkd ai) (RR.relock (d := .tmp accF) ⟨D, rfl, a1.st.liv D nD, bD, cD, slotNone ai D nD⟩)⟩
section
variable {X : Cx}
theorem x_dcC {kx vx tg iter : Expr} {scope : Scope} {pos : Pos} {it : EI} {g : GG} {fk fv : EE} {vs : List Nat} (hu : X.A.units + 9 < cLine) (own : List (Str × Nat)) (hc : X.calm = true) (hN : X.N.Nodup) (hv : own.map (·.2) = vs) (hi : PI X tg iter (tI X.K it)) (ok : BlkOk X.N X.env.scope scope own) (ho : Only g vs)
    (hg : ∀ (s : Shared) (H : Hp) (C : Addr) (cl : List (Str × Addr)) (fp : List Addr), PG (X.blk s H scope (compEnvC scope cl C X.env) fp) tg (tGv X.K g vs))
    (hk : ∀ (s : Shared) (H : Hp) (C : Addr) (cl : List (Str × Addr)) (fp : List Addr), PE (X.blk s H scope (compEnvC scope cl C X.env) fp) kx (tE X.K fk))
    (he : ∀ (s : Shared) (H : Hp) (C : Addr) (cl : List (Str × Addr)) (fp : List Addr), PE (X.blk s H scope (compEnvC scope cl C X.env) fp) vx (tE X.K fv)) (hs : ∀ x, foldedSetIterable iter X.env x = pure x := by intro _; rfl) :
    PE X (.DictComp kx vx [⟨tg, iter, [], 0⟩] scope pos) (tE X.K (eDcC it g fk fv vs)) := by
  subst hv
  exact PE.imp (pe_lay hc hN hi ok (fun s H C cl fp => lay_pl (X := X.blk s H scope (compEnvC scope cl C X.env) fp) hu) hg hk he hs) fun _ _ _ q => rd_dcC ho q
end
end T3

end
section
set_option linter.all false
set_option autoImplicit false
set_option Elab.async false
set_option maxRecDepth 100000
namespace T3
open PySem L2
variable [TabL]
def gM (i : Nat) : GG := fun x env => match x with
  | .dict [(.bool true, .tuple xs)] => setR i (.nt xs) env
  | _ => setR i (.pd x) env
@[simp] theorem z_gM (i : Nat) (xs : List PyData) (env : Sl) : gM i (ntD xs) env = setR i (.nt xs) env := rfl
@[simp] theorem z_gMp (i : Nat) (xs : List PyData) (env : Sl) : gM i (.tuple xs) env = setR i (.pd (.tuple xs)) env := rfl
@[simp] theorem z_gMl (i : Nat) (xs : List PyData) (env : Sl) : gM i (.list xs) env = setR i (.pd (.list xs)) env := rfl
@[simp] theorem z_gMi (i : Nat) (n : Int) (env : Sl) : gM i (.int n) env = setR i (.pd (.int n)) env := rfl
section
variable {X : Cx} {a b : Expr} {fa fb : EE} {p p2 pos pos2 : Pos}
end
end T3

end
section
set_option linter.all false
set_option autoImplicit false
set_option Elab.async false
set_option maxRecDepth 100000
namespace T3
open PySem PySem.Spec PyProof.Rows L2
variable [TabL]
section
variable {X : Cx}
end
end T3

end
section
set_option linter.all false
set_option autoImplicit false
set_option Elab.async false
set_option maxRecDepth 100000
namespace T3
open PySem PySem.Spec PyProof.Rows L2
variable [TabL]
section
variable {X : Cx} {o e : Expr} {fo : EE} {fa : EA} {apos cpos : Pos}
end
end T3

end
section
set_option linter.all false
set_option autoImplicit false
set_option Elab.async false
set_option maxRecDepth 100000
namespace L2
open PySem PySem.Spec PyProof.Rows
section
variable {P : Program} {w : World} {A : Around} {E : Value → Shared → Prop} {s : Shared}
end
section
variable {X : Cx}
end
end L2
namespace T3
open PySem PySem.Spec PyProof.Rows L2
variable [TabL]
def usI (ns : List Int) : List Int := ((List.range 60).filter fun i => decide (((i : Nat) : Int) ∈ ns)).map fun i => ((i : Nat) : Int)
theorem usI_mem {ns : List Int} (h : ∀ x ∈ ns, 0 ≤ x ∧ x < 60) {k : Int} : k ∈ usI ns ↔ k ∈ ns := by
  unfold usI
  simp only [List.mem_map, List.mem_filter, List.mem_range, decide_eq_true_eq]
  constructor
  · rintro ⟨i, ⟨_, h2⟩, rfl⟩
    exact h2
  · intro hk
    have := h k hk
    refine ⟨k.toNat, ⟨by omega, ?_⟩, by omega⟩
    rw [Int.toNat_of_nonneg this.1]
    exact hk
theorem usI_up (ns : List Int) : (usI ns).Pairwise (· < ·) := by
  unfold usI
  rw [List.pairwise_map]
  exact ((List.pairwise_lt_range (n := 60)).sublist List.filter_sublist).imp fun {a b} h => by omega
theorem up_ext : ∀ {xs ys : List Int}, xs.Pairwise (· < ·) → ys.Pairwise (· < ·) → (∀ s, s ∈ xs ↔ s ∈ ys) → xs = ys := by
  intro xs ys h1 h2 e
  refine List.Perm.eq_of_pairwise (le := fun a b : Int => a < b) (fun a b _ _ x y => by omega) h1 h2 ?_
  have n1 : xs.Nodup := h1.imp fun {a b} h => by omega
  have n2 : ys.Nodup := h2.imp fun {a b} h => by omega
  exact (List.perm_ext_iff_of_nodup n1 n2).mpr e
end T3

end
section
set_option linter.all false
set_option autoImplicit false
set_option Elab.async false
set_option maxRecDepth 100000
namespace T3
open PySem L2
variable [TabL]
theorem RpA.two {K : PySem.W.Frag} {B : Mset} {H : Hp} {us : List V} {x y : PyData} (h : RpA K B H us [x, y]) : ∃ w1 w2, us = [w1, w2] ∧ Rp K B H w1 x ∧ Rp K B H w2 y := by
  cases h with
  | cons u1 h =>
    cases h with
    | cons u2 h =>
      cases h
      exact ⟨_, _, rfl, u1, u2⟩
end T3

end
section
set_option linter.all false
set_option autoImplicit false
set_option Elab.async false
set_option maxRecDepth 100000
namespace T3
open PySem L2
variable [TabL]
end T3

end
section
set_option linter.all false
set_option autoImplicit false
set_option Elab.async false
set_option maxRecDepth 100000
namespace T3
open PySem PySem.Spec PyProof.Rows L2 LamA NdefX LamX
variable [TabL]
section
variable {X : Cx} {x : Str} {st : Stmt} {Ng psg : List Str} {k j : Nat} {q capt : Str} {params : Arguments} {body : Expr} {scope : Scope} {M : PyData → List PyData → SS} {p lpos pos : Pos} {e1 e2 : Expr} {f1 f2 : EE} {cX P : Addr} {y : Str} {x4 : PyData} {py : Pos}
end
end T3

end
section
set_option linter.all false
set_option autoImplicit false
set_option Elab.async false
set_option maxRecDepth 100000
namespace T3
open PySem L2
variable [TabL]
end T3

end
section
set_option linter.all false
set_option autoImplicit false
set_option Elab.async false
set_option maxRecDepth 100000
namespace T3
open PySem L2
variable [TabL]
noncomputable instance reprFits (x : Str) : Decidable ((reprText x).length ≤ sizeLine) := Classical.propDecidable _
noncomputable def oReprX : List PyData → Option PyData
  | [.str x] => if (reprText x).length ≤ sizeLine then some (.str (reprText x)) else none
  | [.bool b] => some (.str (if b then "True" else "False"))
  | [.none] => some (.str "None")
  | ds => oRepr ds
def rReprX (K : PySem.W.Frag) : List V → Hp → VK → Prop := fun vs H Q => rRepr K vs H Q ∨ (∃ x, vs = [V.str x] ∧ (reprText x).length ≤ sizeLine ∧ Q (.str (reprText x)) H) ∨ (∃ b, vs = [V.bl b] ∧ Q (.str (if b then "True" else "False")) H) ∨ (vs = [V.non] ∧ Q (.str "None") H)
theorem cr_reprX {X : Cx} (gd : X.A.guards = some []) (hu : X.A.units + 66 < cLine) : CallR X (.builtin "repr") (rReprX X.K) := by
  intro pins s σ H xs us Q J r h
  rcases h with h | ⟨x, rfl, hz, q⟩ | ⟨b, rfl, q⟩ | ⟨rfl, q⟩
  · exact cr_repr gd hu pins s σ H xs us Q J r h
  · obtain ⟨u, rfl, t, rfl⟩ := vals1 r
    exact PySem.P.repr_of_str ⟨.str _, H, J.tok _, ⟨_, rfl⟩, q⟩ hz
  · obtain ⟨u, rfl, e⟩ := vals1 r
    have e : u = .bool b := e
    subst e
    exact PySem.P.repr_of_bool ⟨.str _, H, J.tok _, ⟨_, rfl⟩, q⟩
  · obtain ⟨u, rfl, e⟩ := vals1 r
    have e : u = .none := e
    subst e
    exact PySem.P.repr_of_none ⟨.str _, H, J.tok _, ⟨_, rfl⟩, q⟩
end T3

end
section
set_option linter.all false
set_option autoImplicit false
set_option Elab.async false
set_option maxRecDepth 100000
namespace L2
open PySem PySem.Spec PyProof.Rows
end L2

end
section
set_option linter.all false
set_option autoImplicit false
set_option Elab.async false
set_option maxRecDepth 100000
namespace T3
open PySem L2
variable [TabL]
end T3

end
section
set_option linter.all false
set_option autoImplicit false
set_option Elab.async false
set_option maxRecDepth 100000
namespace L2
open PySem PySem.Spec PyProof.Rows
section
variable {prog : Program} {w : World} {A : Around}
variable {R : Result → Shared → Prop} {it : Addr} {fs ws : List Addr} {m : Nat} {Pv : Nat → Value → Prop} {Sv : Nat → Heap → Prop} {d : Value}
end
end L2

end
section
set_option linter.all false
set_option autoImplicit false
set_option Elab.async false
set_option maxRecDepth 100000
namespace T3
open PySem L2
variable [TabL]
structure Gw (H H' : Hp) : Prop where
  keep : ∀ a o, H a = some o → (NT o ∨ Imm o) → H' a = some o
  liv : ∀ a, H' a = none → H a = none
theorem Gw.grow {H H' : Hp} (g : Gw H H') (B : Mset) : Grow B H B H' := ⟨fun a o h q => g.keep a o h (q.imp (·.2) id), fun a h => .inl h⟩
theorem Gw.trans {H H1 H2 : Hp} (g : Gw H H1) (g' : Gw H1 H2) : Gw H H2 := ⟨fun a o h q => g'.keep a o (g.keep a o h q) q, fun a h => g.liv a (g'.liv a h)⟩
structure F4 where
  a : Addr
  b : Addr
  c : Addr
  d : Addr
def F4.has (q : F4) : Mset := fun x => x = q.a ∨ x = q.b ∨ x = q.c ∨ x = q.d
def F4.with (q : F4) (B : Mset) : Mset := fun x => B x ∨ q.has x
structure W4 where
  w0 : List Int
  w1 : List Int
  u0 : List PyData
  u1 : List PyData
structure WI (K : PySem.W.Frag) (B : Mset) (H₀ : Hp) (n : Nat) (T1 T2 C : Addr) (q : F4) (xs : List PyData) (s : W4) (σ : St) (H : Hp) : Prop where
  len : σ.length = n
  s2 : σ[2]? = some (some (.ref T1))
  s3 : σ[3]? = some (some (.ref T2))
  t1 : H T1 = some (.tup [.ref q.a, .ref q.b])
  t2 : H T2 = some (.tup [.ref q.c, .ref q.d])
  la : H q.a = some (.lst (s.w0.map V.int))
  lb : H q.b = some (.lst (s.w1.map V.int))
  lc : ∃ vs, H q.c = some (.lst vs) ∧ RpA K (q.with B) H vs s.u0
  ld : ∃ vs, H q.d = some (.lst vs) ∧ RpA K (q.with B) H vs s.u1
  lx : ∃ vs, H C = some (.lst vs) ∧ RpA K (q.with B) H vs xs
  gw : Gw H₀ H
  tb : TbB B H
structure Ap (B : Mset) (H₀ : Hp) (C : Addr) (q : F4) : Prop where
  ab : q.a ≠ q.b
  ac : q.a ≠ q.c
  ad : q.a ≠ q.d
  bc : q.b ≠ q.c
  bd : q.b ≠ q.d
  cd : q.c ≠ q.d
  ca : C ≠ q.a
  cb : C ≠ q.b
  cc : C ≠ q.c
  cdd : C ≠ q.d
  f : ∀ x, q.has x → H₀ x = none
  dom : ∀ x, B x → ∃ o, H₀ x = some o
variable {K : PySem.W.Frag} {B : Mset} {H₀ : Hp} {n : Nat} {T1 T2 C : Addr} {q : F4} {xs : List PyData} {s : W4} {σ : St} {H : Hp}
theorem nt_lst (vs : List V) : NT (.lst vs) := fun _ z => nomatch z
theorem WI.go (i : WI K B H₀ n T1 T2 C q xs s σ H) {H' : Hp} (g : Gw H H') (tb : TbB B H') : WI K B H₀ n T1 T2 C q xs s σ H' := by
  have l : ∀ {x : Addr} {ds : List PyData}, (∃ vs, H x = some (.lst vs) ∧ RpA K (q.with B) H vs ds) → ∃ vs, H' x = some (.lst vs) ∧ RpA K (q.with B) H' vs ds := fun ⟨vs, h1, h2⟩ => ⟨vs, g.keep _ _ h1 (.inl (nt_lst _)), h2.grow (g.grow _)⟩
  exact ⟨i.len, i.s2, i.s3, g.keep _ _ i.t1 (.inr trivial), g.keep _ _ i.t2 (.inr trivial), g.keep _ _ i.la (.inl (nt_lst _)), g.keep _ _ i.lb (.inl (nt_lst _)), l i.lc, l i.ld, l i.lx, i.gw.trans g, tb⟩
end T3

end
section
set_option linter.all false
set_option autoImplicit false
set_option Elab.async false
set_option maxRecDepth 100000
namespace T3
open PySem L2
variable [TabL]
section
variable {K : PySem.W.Frag} {B : Mset} {H₀ : Hp} {n : Nat} {T1 T2 C : Addr} {q : F4} {xs : List PyData} {s : W4} {σ : St} {H : Hp}
end
end T3

end
section
set_option linter.all false
set_option autoImplicit false
set_option Elab.async false
set_option maxRecDepth 100000
namespace T3
open PySem L2
variable [TabL]
section
variable {X : Cx} {fc fm : EE}
end
end T3

end
section
set_option linter.all false
set_option autoImplicit false
set_option Elab.async false
set_option maxRecDepth 100000
set_option maxHeartbeats 1000000
namespace ZM3
open PySem RZ ZM
open PySem.Sem (wp)
section
variable {prog : Program} {w : World} {A : Around} {E : Value → Shared → Prop} {s : Shared}
variable {I l1 l2 l3 : Nat}
end
end ZM3

end
section
set_option linter.all false
set_option autoImplicit false
set_option Elab.async false
set_option maxRecDepth 100000
set_option maxHeartbeats 1000000
namespace ZM3
open PySem PySem.Spec PyProof.Rows L2 RZ ZM
section
variable {prog : Program} {w : World} {A : Around} {E : Value → Shared → Prop} {s : Shared} {I l1 l2 l3 : Nat}
end
end ZM3

end
section
set_option linter.all false
set_option autoImplicit false
set_option Elab.async false
set_option maxRecDepth 100000
set_option maxHeartbeats 1000000
namespace ZM3
open PySem PySem.Spec PyProof.Rows L2 RZ ZM
end ZM3
namespace T3
open PySem L2
variable [TabL]
end T3

end
section
set_option linter.all false
set_option autoImplicit false
set_option Elab.async false
set_option maxRecDepth 100000
namespace T3
open PySem L2
variable [TabL]
end T3

end
section
set_option linter.all false
set_option autoImplicit false
set_option Elab.async false
set_option maxRecDepth 100000
namespace T3
open PySem L2 PySem.Spec PyProof.Rows
variable [TabL]
end T3

end
section
set_option linter.all false
set_option autoImplicit false
set_option Elab.async false
set_option maxRecDepth 100000
namespace T3
open PySem L2
variable [TabL]
end T3

end
section
set_option linter.all false
set_option autoImplicit false
set_option Elab.async false
set_option maxRecDepth 100000
namespace T3
open PySem L2
variable [TabL]
section
variable {X : Cx} {pins : List (Addr × Obj)} {σ : St} {H : Hp} {s : Shared} {a : Addr} {A : Around} {E : Value → Shared → Prop}
end
section
variable {X : Cx} {o e f : Expr} {apos cpos : Pos} {td ty tx : TE}
end
section
variable {X : Cx} {o e f : Expr} {apos cpos : Pos} {fd fk fx : EE}
end
end T3

end
section
set_option linter.all false
set_option autoImplicit false
set_option Elab.async false
set_option maxRecDepth 100000
namespace T3
open PySem L2
variable [TabL]
noncomputable def oReprY : List PyData → Option PyData
  | [.int i] => if i.natAbs.log2 < 1920 then some (.str (toString i)) else none
  | ds => oReprX ds
def rReprY (K : PySem.W.Frag) : List V → Hp → VK → Prop := fun vs H Q => rReprX K vs H Q ∨ ∃ i : Int, vs = [V.int i] ∧ i.natAbs.log2 < 1920 ∧ Q (.str (toString i)) H
theorem cr_reprY {X : Cx} (gd : X.A.guards = some []) (hu : X.A.units + 66 < cLine) : CallR X (.builtin "repr") (rReprY X.K) := by
  intro pins s σ H xs us Q J r h
  rcases h with h | ⟨i, rfl, hz, q⟩
  · exact cr_reprX gd hu pins s σ H xs us Q J r h
  · exact SkE.call_repr_int pins s σ H _ us Q J r ⟨i, rfl, hz, q⟩
theorem oReprY_t (xs : List PyData) : oReprY [.tuple xs] = oRepr [.tuple xs] := rfl
end T3

end
section
set_option linter.all false
set_option autoImplicit false
set_option Elab.async false
set_option maxRecDepth 100000
namespace L2
open PySem PySem.Spec PyProof.Rows
section
variable {P : Program} {w : World} {A : Around} {E : Value → Shared → Prop} {s : Shared}
end
section
variable {X : Cx}
def rSetTI (K : PySem.W.Frag) (w : World) : List V → Hp → VK → Prop := fun xs H Q => ∃ (l : Addr) (ns : List Int), xs = [V.ref l] ∧ SqT K H l (ns.map V.int) ∧ ns.length ≤ 4000 ∧
  ∀ p c, H p = none → (∃ ks : List Int, ks.Nodup ∧ ks.length = c ∧ ∀ k, k ∈ ks ↔ k ∈ ns) → Q (.ref p) (upd H p (SetO w p (fun j => decide (j ∈ ns)) c))
theorem cr_setTI (hc : X.calm = true) : CallR X (.type "set") (rSetTI X.K X.w) := by
  intro pins s σ H xs us Q I r h
  obtain ⟨l, ns, rfl, hl, hz, q⟩ := h
  rw [Vals.ref1 r]
  obtain ⟨its, rv, pl, _⟩ := I.tuple hl
  have hn : H s.heap.objs.size = none := I.hok.fresh (Nat.le_refl _)
  refine call_set_tupI (P := X.prog) (w := X.w) ns (I.ok.hd hc) (show s.heap.IsTuple l its.toArray from pl) (by simpa using rv.ints) (by unfold scanBound; omega) fun h' tk c R hle k => ?_
  refine ⟨.ref s.heap.objs.size, upd H s.heap.objs.size (SetO X.w s.heap.objs.size (fun j => decide (j ∈ ns)) c), I.laid (t' := tk) k (Nat.le_refl _) (setO_new R), rfl, q _ c hn ?_⟩
  obtain ⟨o, es, ep, t, _, _, _, _, nd, hm, _, _, hs, _, _⟩ := R
  refine ⟨es.toList.map keyOf, nd, by rw [List.length_map, Array.length_toList]; exact hs, fun k => ?_⟩
  rw [← hm k]
  simp
end
end L2

end
section
set_option linter.all false
set_option autoImplicit false
set_option Elab.async false
set_option maxRecDepth 100000
namespace T3
open PySem PySem.Spec PyProof.Rows L2
variable [TabL]
def kSrtST : KK := fun ds env => match ds with
  | [d] => match ctn env d with
    | some (.tuple xs) => if xs.length < 64 then match pairs? xs with
        | some ps => some (.tmp (.ls (((ddp ps).mergeSort prLe).map clD)), env)
        | none => none
      else none
    | _ => none
  | _ => none
def kSrtTI : KK := fun ds env => match ds with
  | [d] => match ctn env d with
    | some (.tuple xs) => match ints? xs with
      | some ns => if ns.length ≤ 4000 ∧ ∀ x ∈ ns, 0 ≤ x ∧ x < 60 then some (.tmp (.ls ((usI ns).map .int)), env) else none
      | none => none
    | _ => none
  | _ => none
theorem c_srtTI {K : PySem.W.Frag} {w : World} : Con K kSrtTI (fun vs H1 Q => rSetTI K w vs H1 (fun v H2 => rSortedSet w [v] H2 Q)) := by
  intro σ H B env B1 H1 env1 vs ds d e2 Q en a rr hk q
  unfold kSrtTI at hk
  split at hk
  · rename_i d1
    match vs, rr with
    | [v], rr =>
      split at hk
      · rename_i xs hx
        obtain ⟨p, us, rfl, h1, h2⟩ := (Cn.of a.en (rr.each 0 v d1 rfl rfl) hx).tuple
        split at hk
        · rename_i ns hn
          split at hk
          · rename_i hh
            cases hk
            rw [ints_map hn] at h2
            have e := h2.ints
            subst e
            refine ⟨p, ns, rfl, h1, hh.1, fun s c ns0 hc => ?_⟩
            obtain ⟨g, a2⟩ := a.alloc en ns0 (SetO w s (fun j => decide (j ∈ ns)) c) False (fun _ => False) (fun _ f => f.elim)
            obtain ⟨ks, k1, k2, k3⟩ := hc
            have c64 : c < 64 := by
              have := k1.length_le_of_subset (l₂ := usI ns) fun x hx => (usI_mem hh.2).mpr ((k3 x).mp hx)
              have l2 : (usI ns).length ≤ 60 := by
                unfold usI
                rw [List.length_map]
                have := List.length_filter_le (fun i : Nat => decide (((i : Nat) : Int) ∈ ns)) (List.range 60)
                rwa [List.length_range] at this
              omega
            refine ⟨s, _, c, rfl, upd_same, c64, fun ms r up mem _ nr => ?_⟩
            have eq : ms = usI ns := up_ext up (usI_up ns) fun k => by
              rw [mem, usI_mem hh.2]
              exact decide_eq_true_iff
            subst eq
            exact con_new en a2 nr (RpA.of_ints _) q
          · cases hk
        · cases hk
      · cases hk
  · cases hk
theorem x_srtTI {X : Cx} {e : Expr} {fe : EE} {p p2 pos pos2 : Pos} (hm : X.mg "sorted" = none) (hm2 : X.mg "set" = none) (ha : PE X e (tE X.K fe)) (hc : X.calm = true := by rfl) (hg : Gl X "sorted" := by rfl) (hg2 : Gl X "set" := by rfl)
    (he : starEach [e] X.env = (false, eval e X.env) :: starEach [] X.env := by rfl) (nt : starEach [.Call (.Name "set" p2) [e] [] pos2] X.env = (false, eval (.Call (.Name "set" p2) [e] [] pos2) X.env) :: starEach [] X.env := by rfl) :
    PE X (.Call (.Name "sorted" p) [.Call (.Name "set" p2) [e] [] pos2] [] pos) (tE X.K (eThen (eOne fe) kSrtTI)) := by
  have h1 := pe_callTy (pos := pos2) (p := p2) (L2.cr_setTI hc) hg2 hm2 (by decide +kernel) (a_cons ha a_nil he) (by decide) (by decide) he (by rfl)
  have h2 := pe_callB (pos := pos) (p := p) (L2.cr_sortedSet (X := X) hc) hg hm (by decide +kernel) (pa_cons h1 pa_nil nt) (by decide) (by decide) nt (by rfl)
  exact PE.imp h2 fun σ H Q t => rd_then c_srtTI t
end T3

end
section
set_option linter.all false
set_option autoImplicit false
set_option Elab.async false
namespace T3
open PySem PySem.Spec PyProof.Rows L2
variable [TabL]
theorem Vals.at {vs : List V} {us : List Value} (h : Vals vs us) (i : Nat) : (vs[i]? = none ∧ us[i]? = none) ∨ ∃ v u, vs[i]? = some v ∧ us[i]? = some u ∧ RelV v u := by
  induction h generalizing i with
  | nil => exact .inl ⟨by simp, by simp⟩
  | cons r _ ih => cases i with
    | zero => exact .inr ⟨_, _, rfl, rfl, r⟩
    | succ i => simpa using ih i
section
variable {X : Cx} {k n m : Nat} {F : FnD} {x : Str} {p pos kpos : Pos} {e : Expr} {es : List Expr} {kws : List Keyword} {fa : EA} {fe : EE} {ks : List Str} {is : List Nat} {nm : Option Str}
end
end T3

end
section
set_option linter.all false
set_option autoImplicit false
set_option Elab.async false
set_option maxRecDepth 100000
namespace T3
open PySem PySem.Spec PyProof.Rows L2 LamA LamX
variable [TabL]
end T3

end
section
set_option linter.all false
set_option autoImplicit false
set_option Elab.async false
set_option maxRecDepth 100000
namespace T3
open PySem PySem.Spec PyProof.Rows L2
variable [TabL]
mutual
/-- no list in it, and no dict but such as have numbers and texts for keys -/
def okZ : PyData → Bool
  | .none => true
  | .bool _ => true
  | .int _ => true
  | .str _ => true
  | .tuple xs => okZs xs
  | .dict ((.list [.none], .none) :: kvs) => okZk kvs
  | _ => false
def okZs : List PyData → Bool
  | [] => true
  | x :: xs => okZ x && okZs xs
def okZk : List (PyData × PyData) → Bool
  | [] => true
  | (_, x) :: kvs => okZ x && okZk kvs
end
mutual
/-- the datum as the repr tells it -/
def realZ : PyData → PyData
  | .tuple xs => .tuple (realZs xs)
  | .dict ((.list [.none], .none) :: kvs) => .dict (realZk kvs)
  | x => x
def realZs : List PyData → List PyData
  | [] => []
  | x :: xs => realZ x :: realZs xs
def realZk : List (PyData × PyData) → List (PyData × PyData)
  | [] => []
  | (k, x) :: kvs => (k, realZ x) :: realZk kvs
end
theorem realZk_fst : ∀ kvs : List (PyData × PyData), (realZk kvs).map (·.1) = kvs.map (·.1)
  | [] => rfl
  | (k, x) :: kvs => by simp [realZk, realZk_fst kvs]
theorem realZk_snd : ∀ kvs : List (PyData × PyData), (realZk kvs).map (·.2) = realZs (kvs.map (·.2))
  | [] => rfl
  | (k, x) :: kvs => by simp [realZk, realZs, realZk_snd kvs]
theorem okZk_snd : ∀ kvs : List (PyData × PyData), okZk kvs = okZs (kvs.map (·.2))
  | [] => rfl
  | (k, x) :: kvs => by simp [okZk, okZs, okZk_snd kvs]
theorem reads_keys {P : Program} {w : World} {h : Heap} : ∀ {es : List DictEntry} {vs : List (L2.Key × Value)}, Pairs (mixKind P w) es vs → ReadsAll h (es.map (·.key)) (vs.map fun q => keyD q.1) []
  | _, _, .nil => .nil
  | _, _, .cons (e := e) (kv := kv) h1 h2 r => by
    have ih := reads_keys (h := h) r
    obtain ⟨k, v⟩ := kv
    have k1 : keyIs k e.key = true := h1
    have one : Reads h e.key (keyD k) [] := by
      generalize e.key = u at *
      cases k with
      | inl i => cases u <;> simp [keyIs, Value.isInt] at k1; subst k1; exact .int _ _
      | inr x => cases u <;> simp [keyIs, Value.isStrOf] at k1; subst k1; exact .str _ _
    exact .cons (as := []) (bs := []) one ih
theorem pairs_val {P : Program} {w : World} : ∀ {es : List DictEntry} {vs : List (L2.Key × Value)}, Pairs (mixKind P w) es vs → es.map (·.val) = vs.map (·.2)
  | _, _, .nil => rfl
  | _, _, .cons h1 h2 r => by simp [h2, pairs_val r]
theorem kv_fst : ∀ {ws : List (L2.Key × V)} {vs : List (L2.Key × Value)}, KV ws vs → vs.map (·.1) = ws.map (·.1)
  | _, _, .nil => rfl
  | _, _, .cons h r => by simp [← h.1, kv_fst r]
theorem kv_snd : ∀ {ws : List (L2.Key × V)} {vs : List (L2.Key × Value)}, KV ws vs → Vals (ws.map (·.2)) (vs.map (·.2))
  | _, _, .nil => .nil
  | _, _, .cons h r => .cons h.2 (kv_snd r)
mutual
theorem Rp.readsZ {X : Cx} {pins : List (Addr × Obj)} {σ : L2.St} {B : Mset} {H : Hp} {s : Shared} (I : Inv X pins σ H s) : ∀ {v : V} {d : PyData}, Rp X.K B H v d → okZ d = true → ∀ u, RelV v u → ∃ as, Reads s.heap u (realZ d) as ∧ ¬ sysModules ∈ as
  | _, _, .non, _, u, e => by
    have e : u = .none := e
    subst e; exact ⟨[], .none, by simp⟩
  | _, _, .bl b, _, u, e => by
    have e : u = .bool b := e
    subst e; exact ⟨[], .bool b, by simp⟩
  | _, _, .int i, _, u, e => by
    obtain ⟨t, rfl⟩ : ∃ t, u = .int i t := e
    exact ⟨[], .int i t, by simp⟩
  | _, _, .str x, _, u, e => by
    obtain ⟨t, rfl⟩ : ∃ t, u = .str x t := e
    exact ⟨[], .str x t, by simp⟩
  | _, _, .tup h r, ok, u, e => by
    have e : u = .ref _ := e
    subst e
    obtain ⟨its, hv, ht, _⟩ := I.tuple h
    obtain ⟨as, h1, h2⟩ := RpA.readsZ I r (by unfold okZ at ok; exact ok) _ hv
    obtain ⟨o, g1, g2, n, g3⟩ := ht
    unfold realZ
    exact ⟨as, .tuple g1 g2 g3 (by simpa using h1), h2⟩
  | _, _, .dck (kvs := kvs) h nb hk r, ok, u, e => by
    have e : u = .ref _ := e
    subst e
    obtain ⟨_, na, vs, kv, o, es, ep, g1, g2, g3, g4, g5, g6⟩ := (I.hok _ _ h : ObjOk _ _ _ _ _ (.dK _))
    obtain ⟨as, h1, h2⟩ := RpA.readsZ I r (by unfold okZ at ok; rw [okZk_snd, List.map_map] at ok; exact ok) _ (kv_snd kv)
    have hk2 : vs.map (·.1) = kvs.map (·.1) := (kv_fst kv).trans hk
    have rk := reads_keys (h := s.heap) g5
    have rv := pairs_val g5
    unfold realZ
    refine ⟨_ :: [] ++ as, .dict g1 g2.1 g3 (as := []) (bs := as) ?_ ?_, ?_⟩
    · rw [realZk_fst, List.map_map]
      have : vs.map (fun q => keyD q.1) = kvs.map ((fun q : PyData × PyData => q.1) ∘ fun q => (keyD q.1, q.2)) := by
        have := congrArg (List.map keyD) hk2
        simpa [List.map_map, Function.comp_def] using this
      rw [← this]
      exact rk
    · rw [rv, realZk_snd, List.map_map]
      exact h1
    · simp only [List.cons_append, List.nil_append, List.mem_cons, not_or]
      exact ⟨fun z => by rw [← z] at na; simp at na, h2⟩
  | _, _, .lst _ _ _, ok, _, _ => by simp [okZ] at ok
  | _, _, .frz _ _, ok, _, _ => by simp [okZ] at ok
  | _, _, .kls _ _ _ _ _ _ _, ok, _, _ => by simp [okZ] at ok
  | _, _, .fn _, ok, _, _ => by simp [okZ] at ok
  | _, _, .exn, ok, _, _ => by simp [okZ] at ok
  | _, _, .ntp _ _ _, ok, _, _ => by simp [okZ] at ok
  | _, _, .lam _ _ _ _ _, ok, _, _ => by simp [okZ] at ok
  | _, _, .dct _ _ _ _ _ _, ok, _, _ => by simp [okZ] at ok
theorem RpA.readsZ {X : Cx} {pins : List (Addr × Obj)} {σ : L2.St} {B : Mset} {H : Hp} {s : Shared} (I : Inv X pins σ H s) : ∀ {vs : List V} {ds : List PyData}, RpA X.K B H vs ds → okZs ds = true → ∀ us, Vals vs us → ∃ as, ReadsAll s.heap us (realZs ds) as ∧ ¬ sysModules ∈ as
  | _, _, .nil, _, us, e => by
    cases e
    exact ⟨[], .nil, by simp⟩
  | _, _, .cons r1 r2, ok, us, e => by
    cases e with
    | cons e1 e2 =>
      simp only [okZs, Bool.and_eq_true] at ok
      obtain ⟨as, a1, a2⟩ := Rp.readsZ I r1 ok.1 _ e1
      obtain ⟨bs, b1, b2⟩ := RpA.readsZ I r2 ok.2 _ e2
      exact ⟨as ++ bs, .cons a1 b1, by simp [a2, b2]⟩
end
def ShZ (d : PyData) : Prop := okZ d = true ∧ (realZ d).showable = true ∧ (realZ d).depth ≤ 60 ∧ (realZ d).shown.length ≤ 1000000
noncomputable instance (d : PyData) : Decidable (ShZ d) := Classical.propDecidable _
noncomputable def oReprZ : List PyData → Option PyData
  | [.dict kvs] => if ShZ (.dict kvs) then some (.str (realZ (.dict kvs)).shown) else none
  | [.tuple xs] => if ShZ (.tuple xs) then some (.str (realZ (.tuple xs)).shown) else oReprY [.tuple xs]
  | ds => oReprY ds
def rReprZ (K : PySem.W.Frag) : List V → Hp → VK → Prop := fun vs H Q => rReprY K vs H Q ∨ ∃ (B : Mset) (a : Addr) (d : PyData), vs = [V.ref a] ∧ Rp K B H (.ref a) d ∧ ShZ d ∧ Q (.str (realZ d).shown) H
theorem cr_reprZ {X : Cx} (gd : X.A.guards = some []) (hu : X.A.units + 66 < cLine) : CallR X (.builtin "repr") (rReprZ X.K) := by
  intro pins s σ H xs us Q J r h
  rcases h with h | ⟨B, a, d, rfl, rp, ⟨ok, sw, dd, sz⟩, q⟩
  · exact cr_reprY gd hu pins s σ H xs us Q J r h
  · obtain ⟨u, rfl, rv⟩ := vals1 r
    have eu : u = .ref a := rv
    subst eu
    obtain ⟨as, rd, nm⟩ := Rp.readsZ J rp ok _ rfl
    refine repr_of_reads' rd sw (fun _ => nm) gd (by omega) (fun _ _ e => e) (fun h' t tk hk => ?_) (Nat.le_of_lt (small sz))
    exact ⟨.str (realZ d).shown, H, Inv.turnedL (ch := []) J (fun b o _ e => hk b o e) (fun b z => nomatch z), ⟨t, rfl⟩, q⟩
theorem ok_reprY {K : PySem.W.Frag} : OkE K oReprY (rReprY K) := by
  intro B H vs xs z Q cn ho q
  unfold oReprY at ho
  split at ho
  · split at ho
    · rename_i i hi
      cases ho
      obtain ⟨v, e2, c1⟩ := cn.one
      subst e2
      cases c1 with
      | rp r => cases r; exact .inr ⟨i, rfl, hi, q _ (.str _)⟩
    · cases ho
  · left
    unfold oReprX at ho
    split at ho
    · split at ho
      · rename_i x hx
        cases ho
        obtain ⟨v, e2, c1⟩ := cn.one
        subst e2
        cases c1 with
        | rp r => cases r; exact .inr (.inl ⟨_, rfl, by assumption, q _ (.str _)⟩)
      · cases ho
    · rename_i b
      cases ho
      obtain ⟨v, e2, c1⟩ := cn.one
      subst e2
      cases c1 with
      | rp r => cases r; exact .inr (.inr (.inl ⟨_, rfl, q _ (.str _)⟩))
    · cases ho
      obtain ⟨v, e2, c1⟩ := cn.one
      subst e2
      cases c1 with
      | rp r => cases r; exact .inr (.inr (.inr ⟨rfl, q _ (.str _)⟩))
    · left
      unfold oRepr at ho
      split at ho
      · split at ho
        · rename_i ys hs
          cases ho
          obtain ⟨v, e2, c1⟩ := cn.one
          obtain ⟨a, us, rfl, h1, h2⟩ := c1.tuple
          exact ⟨a, _, e2, c1.dp hs.1, hs, q _ (.str _)⟩
        · cases ho
      · split at ho
        · rename_i ys hs
          cases ho
          obtain ⟨v, e2, c1⟩ := cn.one
          obtain ⟨a, us, rfl, h1, h2⟩ := c1.list
          exact ⟨a, _, e2, c1.dp hs.1, hs, q _ (.str _)⟩
        · cases ho
      · cases ho
theorem c_reprZ {K : PySem.W.Frag} : Con K (kE oReprZ) (rReprZ K) := con_E <| by
  intro B H vs xs z Q cn ho q
  unfold oReprZ at ho
  split at ho
  · split at ho
    · rename_i kvs hs
      cases ho
      obtain ⟨v, e2, c1⟩ := cn.one
      subst e2
      cases c1 with
      | rp r =>
        obtain ⟨a, rfl⟩ : ∃ a, v = .ref a := by cases r <;> exact ⟨_, rfl⟩
        exact .inr ⟨_, _, _, rfl, r, hs, q _ (.str _)⟩
    · cases ho
  · split at ho
    · rename_i ys hs
      cases ho
      obtain ⟨v, e2, c1⟩ := cn.one
      subst e2
      cases c1 with
      | rp r =>
        obtain ⟨a, rfl⟩ : ∃ a, v = .ref a := by cases r; exact ⟨_, rfl⟩
        exact .inr ⟨_, _, _, rfl, r, hs, q _ (.str _)⟩
    · exact .inl (ok_reprY _ _ _ _ _ _ cn ho q)
  · exact .inl (ok_reprY _ _ _ _ _ _ cn ho q)
theorem w_reprZ {X : Cx} {k : Nat} (gd : X.A.guards = some []) (hr : Room k X.A) : Blt X "repr" (kE oReprZ) := ⟨_, _, cr_reprZ gd (by have := hr.un; omega), c_reprZ, by decide +kernel⟩
def oIsiZ (t : T5) : List PyData → Option PyData
  | [.dict ((.list [.none], .none) :: _)] => some (.bool false)
  | ds => oIsi t ds
theorem kitD {K : PySem.W.Frag} (t : T5) : PySem.W.kitOne K (.type "dict") (.type t.n) = some false := by
  have : kitB "dict" t.n = some false := by cases t <;> decide +kernel
  exact kit_ty this
theorem e_isiZ {X : Cx} {e : Expr} {f : EE} {x : Str} {p p2 pos : Pos} (t : T5) (h : PE X e (tE X.K f)) (hg : Gl X "isinstance") (hm : X.mg "isinstance" = none) (hg2 : Gl X x) (hm2 : X.mg x = none) (hv2 : bootBuiltins x = some (.type t.n)) (hn2 : x ≠ "__name__" := by decide) (hd2 : (x == ("__debug__" : Str)) = false := by decide)
    (hs1 : starEach [e, .Name x p2] X.env = (false, eval e X.env) :: starEach [.Name x p2] X.env := by rfl) (hs2 : starEach [.Name x p2] X.env = (false, eval (.Name x p2) X.env) :: starEach [] X.env := by rfl) (hpl : (backTo pos (starEach [.Name x p2] X.env)).any (·.1) = false := by rfl) :
    PE X (.Call (.Name "isinstance" p) [e, .Name x p2] [] pos) (tE X.K (eThen (eOne f) (kE (oIsiZ t)))) := by
  refine PE.imp (pe_callB call_isi hg hm PyProof.Rows.boot_isinstance (pa_cons h (pa_cons (pe_bltn (v := .ty t.n) hg2 hm2 hv2 rfl hn2 hd2) pa_nil hs2) hs1) (by decide) (by decide) hs1 hpl) fun σ H Q q => ?_
  have c : Con X.K (kE (oIsiZ t)) (l1 fun x H Q => rIsi X.K [x, .ty t.n] H Q) := con_E <| by
    intro B H vs xs z Q cn ho q x e
    unfold oIsiZ at ho
    split at ho
    · cases ho
      obtain ⟨v, e2, c1⟩ := cn.one
      rw [e] at e2
      cases e2
      cases c1 with
      | rp r =>
        cases r with
        | dck h1 h2 h3 h4 => exact ⟨_, .ty t.n, _, _, _, rfl, .ty _, .base (.dK h1), kitD t, q _ (.bl _)⟩
    · unfold oIsi at ho
      split at ho
      · cases ho
      · cases ho
        obtain ⟨v, e2, c1⟩ := cn.one
        rw [e] at e2
        cases e2
        exact ⟨x, .ty t.n, _, _, _, rfl, .ty _, c1.ty (by assumption), kit5 t _ (by assumption), q _ (.bl _)⟩
      · cases ho
  exact rd_one c q
@[simp] theorem oIsiZ_d (t : T5) (kvs : List (L2.Key × PyData)) : oIsiZ t [dkD kvs] = some (.bool false) := rfl
@[simp] theorem oIsiZ_i (t : T5) (i : Int) : oIsiZ t [.int i] = some (.bool (isi5 t (.int i))) := rfl
@[simp] theorem oIsiZ_b (t : T5) (i : Bool) : oIsiZ t [.bool i] = some (.bool (isi5 t (.bool i))) := rfl
@[simp] theorem oIsiZ_n (t : T5) : oIsiZ t [.none] = some (.bool (isi5 t .none)) := rfl
@[simp] theorem oIsiZ_s (t : T5) (i : Str) : oIsiZ t [.str i] = some (.bool (isi5 t (.str i))) := rfl
@[simp] theorem oIsiZ_t (t : T5) (i : List PyData) : oIsiZ t [.tuple i] = some (.bool (isi5 t (.tuple i))) := rfl
@[simp] theorem oIsiZ_l (t : T5) (i : List PyData) : oIsiZ t [.list i] = some (.bool (isi5 t (.list i))) := rfl
end T3

end
section
set_option linter.all false
set_option autoImplicit false
set_option Elab.async false
set_option maxRecDepth 100000
set_option maxHeartbeats 4000000
namespace T3
open PySem L2 MM
open PyProof.Rows
variable [TabL]
end T3

end
section
set_option linter.all false
set_option autoImplicit false
set_option Elab.async false
namespace T3
open PySem PySem.Spec PyProof.Rows L2 LamX
section
variable {P : Program} {w : World} {K : PySem.W.Frag} {mg mb : Str → Option Value} {k : Nat} {fa a t cc : Addr} {fd : FuncData} {x : Str} {sp : Sp} {s : Shared} {vs : List Value} {ns : List Int}
abbrev emT : Obj := { cls := .none, data := .fields #[] }
structure Sct (K : PySem.W.Frag) (a t : Addr) (H : Hp) : Prop where
  tb : H t = some (.tbl #[])
  kind : ∀ b, b ≠ t → H b = none ∨ ∃ o xs, H b = some (.frz o (.lst xs))
  two : ∀ b, H b ≠ none → b = a ∨ b = t
  free : H a ≠ none → K.lookup a = none
theorem Sct.off {H : Hp} (c : Sct K a t H) (ha : s.heap.get? a = some { cls := .type "list", data := .seq vs.toArray }) (ht : s.heap.get? t = some emT) {b : Addr} {o : Obj} (h : s.heap.get? b = some o) (n1 : ∀ xs m, o.data ≠ .seq xs m) (n2 : o.data ≠ .fields #[]) : H b = none := by
  apply Classical.byContradiction
  intro z
  rcases c.two b z with e | e
  · subst e
    rw [ha] at h
    injection h with h
    exact n1 _ _ (by rw [← h])
  · subst e
    rw [ht] at h
    injection h with h
    exact n2 (by rw [← h])
theorem Sct.off_d {H : Hp} (c : Sct K a t H) (ha : s.heap.get? a = some { cls := .type "list", data := .seq vs.toArray }) (ht : s.heap.get? t = some emT) {b : Addr} {o : Obj} {es : Array DictEntry} {m : Nat} (h : s.heap.get? b = some o) (d : o.data = .dict es m) : H b = none :=
  c.off ha ht h (fun xs n z => by rw [d] at z; cases z) (fun z => by rw [d] at z; cases z)
theorem Sct.spc {H : Hp} (c : Sct K a t H) (ha : s.heap.get? a = some { cls := .type "list", data := .seq vs.toArray }) (ht : s.heap.get? t = some emT) {b : Addr} {m : Str → Option Value} (h : s.heap.Ns b m) : (hidT s.heap H).Ns b m := by
  obtain ⟨o, es, n, h1, h2, h3⟩ := h
  exact ⟨o, es, n, hidT_get h1 (c.off_d ha ht h1 h2), h2, h3⟩
theorem Sct.kin {H : Hp} (c : Sct K a t H) (nT : K.lookup t = none) (KX : K.In s.heap) : K.In (hidT s.heap H) := by
  intro b o h
  refine hidT_get (KX b o h) (Classical.byContradiction fun z => ?_)
  rcases c.two b z with e | e
  · subst e
    rw [c.free z] at h
    cases h
  · subst e
    rw [nT] at h
    cases h
theorem Sct.tbB {H : Hp} (c : Sct K a t H) (ha : s.heap.get? a = some { cls := .type "list", data := .seq vs.toArray }) (ht : s.heap.get? t = some emT) (hd : PySem.W.CodeHd s.heap cc t) (hm : s.heap.Ns mainGlobals mg)
    (bm : ∃ (q : Addr) (ob : Obj), mg "__builtins__" = some (.ref q) ∧ q ≠ builtinsNs ∧ s.heap.get? q = some ob ∧ ob.cls = .type "module" ∧ ob.dict = some builtinsNs ∧ ob.data = .plain) : LamX.TabB (hidT s.heap H) mg cc t := by
  refine ⟨?_, ?_, ?_⟩
  · obtain ⟨o, us, file, tf, flags, tg, inF, text, tt, e1, r1, r2, r3, r4⟩ := hd
    exact ⟨o, us, file, tf, flags, tg, inF, text, tt, hidT_get e1 (c.off ha ht e1 (fun xs m z => by rw [r2] at z; cases z) (fun z => by rw [r2] at z; cases z; simp at r3)), r1, r2, r3, r4⟩
  · obtain ⟨q, ob, b1, b2, b3, b4, b5, b6⟩ := bm
    refine ⟨q, ob, b1, b2, fun z => ?_, fun z => ?_, hidT_get b3 (c.off ha ht b3 (fun xs m z => by rw [b6] at z; cases z) (fun z => by rw [b6] at z; cases z)), b4, b5, b6⟩
    · obtain ⟨o, es, ep, g1, g2, _⟩ := hm
      rw [z, g1] at b3
      cases b3
      rw [g2] at b6
      cases b6
    · rw [z, ht] at b3
      cases b3
      cases b6
  · intro z
    obtain ⟨o, es, ep, g1, g2, _⟩ := hm
    rw [z, ht] at g1
    cases g1
    cases g2
theorem Sct.run {H : Hp} (c : Sct K a t H) (nT : K.lookup t = none) (ha : s.heap.get? a = some { cls := .type "list", data := .seq vs.toArray }) (ht : s.heap.get? t = some emT) (hd : PySem.W.CodeHd s.heap cc t) (KX : K.In s.heap) (hm : s.heap.Ns mainGlobals mg) (hb : s.heap.Ns builtinsNs mb) (hbb : ∀ x : Str, x ≠ "__name__" → mb x = bootBuiltins x) (nl : s.heap.NoLimit) (hg : s.gens = #[])
    (bm : ∃ (q : Addr) (ob : Obj), mg "__builtins__" = some (.ref q) ∧ q ≠ builtinsNs ∧ s.heap.get? q = some ob ∧ ob.cls = .type "module" ∧ ob.dict = some builtinsNs ∧ ob.data = .plain)
    (hr : Room k callerA) (F : ∀ base : Heap, K.In base → base.Ns mainGlobals mg → LamX.TabB base mg cc t → FnG P w K mg base k fa fd [x] sp) (bi : ∀ (s : Shared) (u : Value), BindsTo s fd ⟨[u], []⟩ [(x, u)]) (hok : HOk P w H s.heap)
    (hs : sp [.ref a] H (fun v _ => v = .bl true) fun _ _ _ => False) :
    codeAny (model P w) callerA (.call (.ref fa) ⟨[.ref a], []⟩) (fun r s2 => r = .ok (.ret (.bool true)) ∧ OldK s.heap s2.heap ∧ s2.os = s.os ∧ AllBare s2.gens) s := by
  obtain ⟨mc, n1, n2⟩ := nl
  have md : Mod K mg (hidT s.heap H) := ⟨c.kin nT KX, c.spc ha ht hm, ⟨mb, c.spc ha ht hb, hbb⟩, mc, c.spc ha ht n1, n2⟩
  have ev : Env0 P w K mg (hidT s.heap H) callerA [] s H := {
    frames := rfl
    mod := md
    bs := fun b o h => of_hidT h
    bsz := Nat.le_of_eq (hidT_size _ _)
    funs := trivial
    frf := fun b h => nomatch (show b ∈ ([] : List Addr) from h)
    hok := hok
    bare := .of_eq hg }
  have tbl := c.tbB ha ht hd hm bm
  have cl := (F _ md.kin (c.spc ha ht hm) tbl).go callerA [] s H ⟨[.ref a], []⟩ [.ref a] [.ref a] _ _ hr rfl ev (bi s (.ref a)) (.cons rfl .nil) hs
  refine codeAny_mono cl ?_
  intro r s2 h
  match r, h with
  | .ok .next, h => exact h.elim
  | .ok .brk, h => exact h.elim
  | .ok .cont, h => exact h.elim
  | .error _, h => exact h.elim
  | .ok (.ret u), ⟨v, H2, os, br, un, hok2, rv, q⟩ =>
    have q : v = .bl true := q
    subst q
    have eu : u = .bool true := rv
    subst eu
    have old : ∀ b o, b ≠ t → s.heap.get? b = some o → s2.heap.get? b = some o := fun b o nt h => by
      rcases c.kind b nt with z | ⟨ob, ys, z⟩
      · exact un.keep b o h z (fun y => nomatch (show b ∈ ([] : List Addr) from y)) (by simp)
      · have h1 := (hok b _ z).1
        rw [h] at h1
        cases h1
        exact (hok2 b _ (un.frzs b o _ z)).1
    obtain ⟨mo, z⟩ := un.tbls t #[] c.tb
    have hz := hok2 t _ z
    rw [Array.empty_append] at hz
    refine ⟨rfl, ⟨fun b o h => ?_, fun b o h => ?_⟩, os, br⟩
    · by_cases e : b = t
      · subst e
        rw [ht] at h
        cases h
        exact .inr (.inl ⟨(hd.tab ht).isCodeTable, rfl, #[], mo, rfl, by rw [Array.empty_append]; exact hz⟩)
      · exact .inl (old b o e h)
    · by_cases e : b = t
      · subst e; exact ⟨_, hz⟩
      · exact ⟨o, old b o e h⟩
end
end T3

end
section
set_option linter.all false
set_option autoImplicit false
set_option Elab.async false
namespace T3
open PySem PySem.Spec PyProof.Rows L2
variable [TabL]
end T3

end
section
set_option linter.all false
set_option autoImplicit false
set_option Elab.async false
set_option maxRecDepth 100000
namespace T3
open PySem PySem.Spec PyProof.Rows L2
variable [TabL]
abbrev XS := Sl → Str → Sl → Prop
def tX (K : PySem.W.Frag) (mg : Str → Option Value) (W : WX) (x : XS) : TS := fun _ σ H => ∃ B env nm C env', EnvR K B H σ env ∧ x env nm env' ∧ mg nm = some (.ref C) ∧ ∀ B' σ' H', AtS K σ B H env σ' B' H' env' → W (.ref C) none σ' H'
def tXE (K : PySem.W.Frag) (mg : Str → Option Value) (W : WX) (x : XS) : TE := fun σ H _ => ∃ B env nm C env', EnvR K B H σ env ∧ x env nm env' ∧ mg nm = some (.ref C) ∧ ∀ B' H', At K σ B H env B' H' env' → W (.ref C) none σ H'
theorem tX.e {K : PySem.W.Frag} {mg : Str → Option Value} {W : WX} {x : XS} {D : Ends} {σ : L2.St} {H : Hp} {Q : VK} (h : tX K mg W x D σ H) : tXE K mg W x σ H Q := by
  obtain ⟨B, env, nm, C, env', en, hx, hm, q⟩ := h
  exact ⟨B, env, nm, C, env', en, hx, hm, fun B' H' a => q B' σ H' a.s⟩
abbrev FnX := List S → Str → Prop
section
variable {X : Cx} {W : WX} {st : Stmt} {rest : List Stmt} {f : SS} {x y : XS} {e : Expr} {pos : Pos}
end
end T3

end
section
set_option linter.all false
set_option autoImplicit false
set_option Elab.async false
set_option maxRecDepth 100000
namespace T3
open PySem PySem.Spec PyProof.Rows PySem.Calls L2
variable [TabL]
section
variable {X : Cx} {C : Addr} {bmB : List Value} {B newId initId : String}
end
structure ExK (K : PySem.W.Frag) (mg : Str → Option Value) (x : Str) (C : Addr) : Prop where
  g : mg x = some (.ref C)
  q : PySem.W.excIn K C [.type "ValueError", .type "Exception", .type "BaseException", .type "object"] "ValueError.__new__" = true
  kp : PySem.W.keepIn K (.ref C) = true
  bs : PySem.W.subIn K (.ref C) (.type "BaseException") = some true
  ty : PySem.W.typeIn K (.ref C) = some (.type "type")
section
variable {X : Cx} {W : WX} {p pos pos2 : Pos} {x : Str} {C : Addr}
end
end T3

end
section
set_option linter.all false
set_option autoImplicit false
set_option Elab.async false
set_option maxRecDepth 100000
namespace T3
open PySem PySem.Spec PyProof.Rows PySem.Calls L2
variable [TabL]
section
variable {X : Cx} {W : WX} {k n : Nat} {F : FnX} {x : Str} {p pos : Pos} {e : Expr} {es : List Expr} {fa : EA}
end
end T3

end
section
set_option linter.all false
set_option autoImplicit false
set_option Elab.async false
set_option maxRecDepth 100000
namespace LamA
open PySem PySem.Spec PyProof.Rows L2 LamX NdefX
section
variable {Z : Cx} {W : WX} {F : NF} {f : Addr} {params : Arguments} {body : Expr} {pm ctv : Value} {N fr : List Str} {ws : List (Option V)} {k i : Nat} {x : Str} {p pos : Pos} {tb : XK → TE}
end
end LamA

end
section
set_option linter.all false
set_option autoImplicit false
set_option Elab.async false
set_option maxRecDepth 100000
namespace T3
open PySem PySem.Spec PyProof.Rows L2
variable [TabL]
abbrev XF := Sl → Option (Str × Sl)
def rl (x : XF) : XS := fun env nm e' => x env = some (nm, e')
section
variable {X : Cx} {W : WX} {st : Stmt} {rest : List Stmt} {f : SS} {x y : XF} {e : Expr} {pos : Pos}
end
end T3

end
section
set_option linter.all false
set_option autoImplicit false
set_option Elab.async false
set_option maxRecDepth 100000
namespace T3
open PySem PySem.Spec PyProof.Rows L2 LamA NdefX LamX
variable [TabL]
structure Wrap (Z : Cx) (e ec : Expr) (wr : EE → EE) : Prop where
  ex : ∃ tw : TE → TE, (∀ te, PE Z ec te → PE Z e (tw te)) ∧ (∀ (fb : EE) (τ σ : L2.St) (H : Hp) (Q : VK) (te : TE), (∀ Q', tE Z.K fb τ H Q' → te σ H Q') → tE Z.K (wr fb) τ H Q → tw te σ H Q) ∧ (∀ (σ : L2.St) (H : Hp) (Q : VK) (te : TE), (∀ Q', te σ H Q') → tw te σ H Q)
end T3

end
section
set_option linter.all false
set_option autoImplicit false
set_option Elab.async false
set_option maxRecDepth 100000
namespace T3
open PySem PySem.Spec PyProof.Rows L2 LamA NdefX LamX
variable [TabL]
section
variable {X : Cx} {x : Str} {st : Stmt} {Ng fr : List Str} {a n te : Str} {k i : Nat} {q : Str} {params : Arguments} {body e1 : Expr} {b0 : Stmt} {su : List Stmt} {scope : Scope} {p lpos pos q1 q2 tp rp hp np : Pos} {cX P CT : Addr} {js : List Nat} {fb : EE} {xb : XF} {wr : EE → EE} {hs : Str → Option PyData}
end
end T3

end
section
set_option linter.all false
set_option autoImplicit false
set_option Elab.async false
set_option maxRecDepth 100000
namespace T3
open PySem PySem.Spec PyProof.Rows L2
variable [TabL]
section
variable {X : Cx} {a D : Addr} {oe : Obj} {pn : List (Addr × Obj)} {n x : Str} {i : Nat} {p p1 p2 pos : Pos} {v : V} {u : Value} {b : Bool}
end
end T3

end
section
set_option linter.all false
set_option autoImplicit false
set_option Elab.async false
set_option maxRecDepth 100000
namespace T3
open PySem PySem.Spec PyProof.Rows L2
variable [TabL]
end T3
namespace T3
open PySem PySem.Spec PyProof.Rows L2
structure ExA (K : PySem.W.Frag) (mg : Str → Option Value) (x : Str) (C CT : Addr) : Prop extends ExK K mg x C where
  c : L2.ExcC K C
  e : PySem.W.exmOne K (.ref C) (.ref CT) = some true
end T3
namespace T3
open PySem PySem.Spec PyProof.Rows L2
variable [TabL]
end T3
namespace T3
open PySem L2
end T3

end
section
set_option linter.all false
set_option autoImplicit false
set_option Elab.async false
set_option maxRecDepth 100000
namespace T3
open PySem PySem.Spec PyProof.Rows L2
variable [TabL]
section
variable {X : Cx} {a C : Addr} {oe : Obj} {pn : List (Addr × Obj)} {x n par : Str} {st : Stmt} {Nw : List Str} {k i : Nat} {b : SS} {p p1 pos : Pos} {e : Expr} {fa : EE}
end
end T3

end
section
set_option linter.all false
set_option autoImplicit false
set_option Elab.async false
namespace T3
open PySem PySem.Spec PyProof.Rows L2 LamX
section
variable {P : Program} {w : World} {K : PySem.W.Frag} {mg mb : Str → Option Value} {k : Nat} {fa a : Addr} {cs : List (Addr × Addr)} {fd : FuncData} {x : Str} {sp : Sp} {s : Shared} {vs : List Value} {ns : List Int}
structure Scs (K : PySem.W.Frag) (a : Addr) (cs : List (Addr × Addr)) (H : Hp) : Prop where
  tb : ∀ p ∈ cs, H p.2 = some (.tbl #[])
  kind : ∀ b, (∀ p ∈ cs, b ≠ p.2) → H b = none ∨ ∃ o xs, H b = some (.frz o (.lst xs))
  two : ∀ b, H b ≠ none → b = a ∨ ∃ p ∈ cs, b = p.2
  free : H a ≠ none → K.lookup a = none
theorem Scs.off {H : Hp} (c : Scs K a cs H) (ha : s.heap.get? a = some { cls := .type "list", data := .seq vs.toArray }) (ht : ∀ p ∈ cs, s.heap.get? p.2 = some emT) {b : Addr} {o : Obj} (h : s.heap.get? b = some o) (n1 : ∀ xs m, o.data ≠ .seq xs m) (n2 : o.data ≠ .fields #[]) : H b = none := by
  apply Classical.byContradiction
  intro z
  rcases c.two b z with e | e
  · subst e
    rw [ha] at h
    injection h with h
    exact n1 _ _ (by rw [← h])
  · obtain ⟨p, hp, rfl⟩ := e
    rw [ht p hp] at h
    injection h with h
    exact n2 (by rw [← h])
theorem Scs.off_d {H : Hp} (c : Scs K a cs H) (ha : s.heap.get? a = some { cls := .type "list", data := .seq vs.toArray }) (ht : ∀ p ∈ cs, s.heap.get? p.2 = some emT) {b : Addr} {o : Obj} {es : Array DictEntry} {m : Nat} (h : s.heap.get? b = some o) (d : o.data = .dict es m) : H b = none :=
  c.off ha ht h (fun xs n z => by rw [d] at z; cases z) (fun z => by rw [d] at z; cases z)
theorem Scs.spc {H : Hp} (c : Scs K a cs H) (ha : s.heap.get? a = some { cls := .type "list", data := .seq vs.toArray }) (ht : ∀ p ∈ cs, s.heap.get? p.2 = some emT) {b : Addr} {m : Str → Option Value} (h : s.heap.Ns b m) : (hidT s.heap H).Ns b m := by
  obtain ⟨o, es, n, h1, h2, h3⟩ := h
  exact ⟨o, es, n, hidT_get h1 (c.off_d ha ht h1 h2), h2, h3⟩
theorem Scs.kin {H : Hp} (c : Scs K a cs H) (nT : ∀ p ∈ cs, K.lookup p.2 = none) (KX : K.In s.heap) : K.In (hidT s.heap H) := by
  intro b o h
  refine hidT_get (KX b o h) (Classical.byContradiction fun z => ?_)
  rcases c.two b z with e | e
  · subst e
    rw [c.free z] at h
    cases h
  · obtain ⟨p, hp, rfl⟩ := e
    rw [nT p hp] at h
    cases h
theorem Scs.tbB {H : Hp} (c : Scs K a cs H) (ha : s.heap.get? a = some { cls := .type "list", data := .seq vs.toArray }) (ht : ∀ p ∈ cs, s.heap.get? p.2 = some emT) (hd : ∀ p ∈ cs, PySem.W.CodeHd s.heap p.1 p.2) (hm : s.heap.Ns mainGlobals mg)
    (bm : ∃ (q : Addr) (ob : Obj), mg "__builtins__" = some (.ref q) ∧ q ≠ builtinsNs ∧ s.heap.get? q = some ob ∧ ob.cls = .type "module" ∧ ob.dict = some builtinsNs ∧ ob.data = .plain) : ∀ p ∈ cs, LamX.TabB (hidT s.heap H) mg p.1 p.2 := by
  intro p hp
  refine ⟨?_, ?_, ?_⟩
  · obtain ⟨o, us, file, tf, flags, tg, inF, text, tt, e1, r1, r2, r3, r4⟩ := hd p hp
    exact ⟨o, us, file, tf, flags, tg, inF, text, tt, hidT_get e1 (c.off ha ht e1 (fun xs m z => by rw [r2] at z; cases z) (fun z => by rw [r2] at z; cases z; simp at r3)), r1, r2, r3, r4⟩
  · obtain ⟨q, ob, b1, b2, b3, b4, b5, b6⟩ := bm
    refine ⟨q, ob, b1, b2, fun z => ?_, fun z => ?_, hidT_get b3 (c.off ha ht b3 (fun xs m z => by rw [b6] at z; cases z) (fun z => by rw [b6] at z; cases z)), b4, b5, b6⟩
    · obtain ⟨o, es, ep, g1, g2, _⟩ := hm
      rw [z, g1] at b3
      cases b3
      rw [g2] at b6
      cases b6
    · rw [z, ht p hp] at b3
      cases b3
      cases b6
  · intro z
    obtain ⟨o, es, ep, g1, g2, _⟩ := hm
    rw [z, ht p hp] at g1
    cases g1
    cases g2
theorem Scs.run {H : Hp} (c : Scs K a cs H) (nT : ∀ p ∈ cs, K.lookup p.2 = none) (ha : s.heap.get? a = some { cls := .type "list", data := .seq vs.toArray }) (ht : ∀ p ∈ cs, s.heap.get? p.2 = some emT) (hd : ∀ p ∈ cs, PySem.W.CodeHd s.heap p.1 p.2) (KX : K.In s.heap) (hm : s.heap.Ns mainGlobals mg) (hb : s.heap.Ns builtinsNs mb) (hbb : ∀ x : Str, x ≠ "__name__" → mb x = bootBuiltins x) (nl : s.heap.NoLimit) (hg : s.gens = #[])
    (bm : ∃ (q : Addr) (ob : Obj), mg "__builtins__" = some (.ref q) ∧ q ≠ builtinsNs ∧ s.heap.get? q = some ob ∧ ob.cls = .type "module" ∧ ob.dict = some builtinsNs ∧ ob.data = .plain)
    (hr : Room k callerA) (F : ∀ base : Heap, K.In base → base.Ns mainGlobals mg → (∀ p ∈ cs, LamX.TabB base mg p.1 p.2) → FnG P w K mg base k fa fd [x] sp) (bi : ∀ (s : Shared) (u : Value), BindsTo s fd ⟨[u], []⟩ [(x, u)]) (hok : HOk P w H s.heap)
    (hs : sp [.ref a] H (fun v _ => v = .bl true) fun _ _ _ => False) :
    codeAny (model P w) callerA (.call (.ref fa) ⟨[.ref a], []⟩) (fun r s2 => r = .ok (.ret (.bool true)) ∧ OldK s.heap s2.heap ∧ s2.os = s.os ∧ AllBare s2.gens) s := by
  obtain ⟨mc, n1, n2⟩ := nl
  have md : Mod K mg (hidT s.heap H) := ⟨c.kin nT KX, c.spc ha ht hm, ⟨mb, c.spc ha ht hb, hbb⟩, mc, c.spc ha ht n1, n2⟩
  have ev : Env0 P w K mg (hidT s.heap H) callerA [] s H := {
    frames := rfl
    mod := md
    bs := fun b o h => of_hidT h
    bsz := Nat.le_of_eq (hidT_size _ _)
    funs := trivial
    frf := fun b h => nomatch (show b ∈ ([] : List Addr) from h)
    hok := hok
    bare := .of_eq hg }
  have tbl := c.tbB ha ht hd hm bm
  have cl := (F _ md.kin (c.spc ha ht hm) tbl).go callerA [] s H ⟨[.ref a], []⟩ [.ref a] [.ref a] _ _ hr rfl ev (bi s (.ref a)) (.cons rfl .nil) hs
  refine codeAny_mono cl ?_
  intro r s2 h
  match r, h with
  | .ok .next, h => exact h.elim
  | .ok .brk, h => exact h.elim
  | .ok .cont, h => exact h.elim
  | .error _, h => exact h.elim
  | .ok (.ret u), ⟨v, H2, os, br, un, hok2, rv, q⟩ =>
    have q : v = .bl true := q
    subst q
    have eu : u = .bool true := rv
    subst eu
    have old : ∀ b o, (∀ p ∈ cs, b ≠ p.2) → s.heap.get? b = some o → s2.heap.get? b = some o := fun b o nt h => by
      rcases c.kind b nt with z | ⟨ob, ys, z⟩
      · exact un.keep b o h z (fun y => nomatch (show b ∈ ([] : List Addr) from y)) (by simp)
      · have h1 := (hok b _ z).1
        rw [h] at h1
        cases h1
        exact (hok2 b _ (un.frzs b o _ z)).1
    have tbs : ∀ p ∈ cs, ∃ mo, s2.heap.get? p.2 = some { cls := .none, data := .fields (#[] ++ mo) } := fun p hp => by
      obtain ⟨mo, z⟩ := un.tbls p.2 #[] (c.tb p hp)
      exact ⟨mo, hok2 p.2 _ z⟩
    refine ⟨rfl, ⟨fun b o h => ?_, fun b o h => ?_⟩, os, br⟩
    · by_cases e : ∃ p ∈ cs, b = p.2
      · obtain ⟨p, hp, rfl⟩ := e
        rw [ht p hp] at h
        cases h
        obtain ⟨mo, hz⟩ := tbs p hp
        rw [Array.empty_append] at hz
        exact .inr (.inl ⟨((hd p hp).tab (ht p hp)).isCodeTable, rfl, #[], mo, rfl, by rw [Array.empty_append]; exact hz⟩)
      · exact .inl (old b o (fun p hp z => e ⟨p, hp, z⟩) h)
    · by_cases e : ∃ p ∈ cs, b = p.2
      · obtain ⟨p, hp, rfl⟩ := e
        obtain ⟨mo, hz⟩ := tbs p hp
        exact ⟨_, hz⟩
      · exact ⟨o, old b o (fun p hp z => e ⟨p, hp, z⟩) h⟩
end
section
variable [TabL]
end
end T3

end
section
set_option linter.all false
set_option autoImplicit false
set_option Elab.async false
set_option maxRecDepth 100000
namespace T3
open PySem PySem.Spec PyProof.Rows L2 LamA NdefX LamX
variable [TabL]
section
variable {X : Cx} {x : Str} {st : Stmt} {Ng psg : List Str} {k j : Nat} {q capt : Str} {params : Arguments} {body : Expr} {scope : Scope} {M : PyData → List PyData → SS} {p lpos pos : Pos} {e1 e2 : Expr} {f1 f2 : EE} {cX P : Addr}
end
section
variable {X : Cx} {x : Str} {st : Stmt} {Ng psg : List Str} {k j : Nat} {q capt : Str} {params : Arguments} {body : Expr} {scope : Scope} {M : PyData → List PyData → SS} {p lpos pos : Pos} {e1 e2 : Expr} {f1 f2 : EE} {cX P : Addr} {y : Str} {x4 : PyData} {py : Pos}
end
end T3

end
section
set_option linter.all false
set_option autoImplicit false
set_option Elab.async false
set_option maxRecDepth 100000
namespace T3
open PySem PySem.Spec PyProof.Rows L2
variable [TabL]
def SplOk (a b : Str) : Prop := (b.length == 0) = false ∧ a.length + 2 ≤ sizeLine
noncomputable instance (a b : Str) : Decidable (SplOk a b) := Classical.propDecidable _
end T3

end
section
set_option linter.all false
set_option autoImplicit false
set_option Elab.async false
set_option maxRecDepth 100000
namespace T3
open PySem PySem.Spec PyProof.Rows L2
variable [TabL]
section
variable {X : Cx} {W : WX} {k : Nat} {F : FnD} {x : Str} {xx : XS} {p pos : Pos} {a : Expr}
end
end T3

end
section
set_option linter.all false
set_option autoImplicit false
set_option Elab.async false
set_option maxRecDepth 100000
namespace T3
open PySem L2
variable [TabL]
section
variable {X : Cx} {o e : Expr} {apos cpos : Pos} {td te : TE}
end
section
variable {X : Cx} {o e : Expr} {apos cpos : Pos} {fd fe : EE}
end
end T3

end
section
set_option linter.all false
set_option autoImplicit false
set_option Elab.async false
set_option maxRecDepth 100000
namespace T3
open PySem L2
variable [TabL]
section
variable {prog : Program} {w : World} {A : Around} {E : Value → Shared → Prop} {s : Shared}
end
end T3

end
section
set_option linter.all false
set_option autoImplicit false
set_option Elab.async false
set_option maxRecDepth 100000
namespace T3
open PySem PySem.Spec PySem.W L2 PyProof.Rows
variable [TabL]
end T3

end
section
set_option linter.all false
set_option autoImplicit false
set_option Elab.async false
set_option maxRecDepth 100000
namespace T3
open PySem PySem.Spec PySem.W L2 PyProof.Rows
variable [TabL]
theorem dn4_len {es : List DictEntry} {ks vs : List V} {ns : List NestedKey} (h : Dn4 es ks vs ns) : ks.length = es.length ∧ vs.length = es.length := by
  induction h with
  | nil => exact ⟨rfl, rfl⟩
  | cons _ _ _ _ _ ih => exact ⟨by simp [ih.1], by simp [ih.2]⟩
theorem dn4_at {es : List DictEntry} {ks vs : List V} {ns : List NestedKey} (h : Dn4 es ks vs ns) : ∀ (j : Nat) (e : DictEntry), es[j]? = some e → ∃ k v, ks[j]? = some k ∧ vs[j]? = some v ∧ L2.RelV k e.key ∧ L2.RelV v e.val := by
  induction h with
  | nil => intro j e h; simp at h
  | cons h1 h2 h3 h4 _ ih =>
    intro j e h
    cases j with
    | zero =>
      simp at h
      subst h
      exact ⟨_, _, rfl, rfl, h3, h4⟩
    | succ j =>
      obtain ⟨k, v, a, b, c⟩ := ih j e (by simpa using h)
      exact ⟨k, v, by simpa using a, by simpa using b, c⟩
def tLit (td : TE) : TE := fun σ H Q => td σ H fun x H1 => ∃ a z ks vs ns, x = .ref a ∧ H1 a = some (DnO a z) ∧ Dn4 z.es ks vs ns ∧
  ∀ p as, as.length = ks.length → as.Nodup → p ∉ as → H1 p = none → (∀ t ∈ as, H1 t = none) → Q (.ref p) (ovr H1 (newZ p as (ks.zip vs)))
theorem pe_lit {X : Cx} {e : Expr} {td : TE} {p apos cpos pos : Pos} (hc : X.calm = true) (hm : X.mg "list" = none) (he : PE X e td) (hg : Gl X "list" := by rfl) (hbase : attributeBase e "items" X.env (eval e X.env) = eval e X.env := by rfl) (hline : (apos.endLine == cpos.line) = true := by rfl)
    (nt : starEach [.Call (.Attribute e "items" apos) [] [] cpos] X.env = (false, eval (.Call (.Attribute e "items" apos) [] [] cpos) X.env) :: starEach [] X.env := by rfl) :
    PE X (.Call (.Name "list" p) [.Call (.Attribute e "items" apos) [] [] cpos] [] pos) (tLit td) := by
  refine ⟨fun pins s σ H Q I h => ?_⟩
  refine PyProof.Rows.Call_ (ld_blt I hg hm (show bootBuiltins "list" = some (.type "list") by decide +kernel) (PyProof.Rows.callWith_type1 (args_cons ?_ nt) nt))
  refine wpAny_Call_method (T := "dict") (id := "dict.items") hbase rfl hline PySem.F.plainAttrs_dict PySem.F.slot_dict_items PySem.F.type_dict_items (thn (he.run pins s σ H _ I h) fun u s1 ⟨x, H1, I1, rx, a, z, ks, vs, ns, ex, hd, d4, q⟩ => ?_)
  subst ex
  obtain rfl : u = Value.ref a := rx
  obtain ⟨⟨y1, y2, y3, y4, y5⟩, _⟩ := I1.hok a _ hd
  refine ⟨⟨z.o, y3, y4.1⟩, fun b e => by cases e; exact ⟨z.o, y3, y4.2.1⟩, ?_⟩
  have raw : s1.heap.DictRaw a z.es.toArray z.ep := ⟨z.o, y3, y4, y5⟩
  have I2 : Inv X pins σ H1 { s1 with heap := s1.heap.push { cls := .type "dict_items", data := .fields #[.ref a] } } := I1.kept (t' := s1.toks) fun b ob q => Heap.get?_push_of_some _ q
  show wpAny _ _ (callWith cpos (.builtin "dict.items") [.ref a] [] []) _ X.xe s1
  refine method_meetsIn PySem.F.slot_dict_items PySem.F.entry_dict_items rfl (PySem.evalArgs_none ⟨rfl, ⟨z.o, y3, y4.1⟩, PySem.F.args_dict_items_1 _, _, meets_dict_items_raw a y1, ⟨_, _, raw⟩, args_nil ?_⟩)
  have hl := dn4_len d4
  refine dil_call (s := { s1 with heap := s1.heap.push { cls := .type "dict_items", data := .fields #[.ref a] } }) (I2.ok.hd hc) ⟨_, Heap.get?_push_size _ rfl, rfl, rfl⟩ (es := z.es.toArray) (ep := z.ep) (d := a) ⟨z.o, Heap.get?_push_of_some _ y3, y4, y5⟩ (by simpa using y2) fun h3 tk acc c as kp hS hal hG hacc => ?_
  generalize hh : s1.heap.push { cls := .type "dict_items", data := .fields #[.ref a] } = h' at *
  have hal' : as.length = ks.length := by rw [hal, List.size_toArray, hl.1]
  have nd : as.Nodup := List.Pairwise.imp (fun {a b} (h : a < b) => Nat.ne_of_lt h) hG.rise
  have hp : h'.objs.size ∉ as := fun z => Nat.lt_irrefl _ (hG.above _ z)
  have new : ∀ t ∈ as, H1 t = none := fun t ht => I2.hok.fresh (Nat.le_of_lt (hG.above t ht))
  have newp : H1 h'.objs.size = none := I2.hok.fresh (Nat.le_refl _)
  have mem : ∀ t q, ((as.zip (ks.zip vs)).lookup t) = some q → t ∈ as := fun t q e => (List.of_mem_zip (lk_mem e)).1
  refine ⟨.ref h'.objs.size, ovr H1 (newZ h'.objs.size as (ks.zip vs)), newMany (t' := tk) (ch := []) I2 (fun t o _ e => kp t o e) (fun t ht => by simp at ht) (fun t o e => ?_) (fun t o e => ?_), rfl, q _ as hal' nd hp newp new⟩
  · unfold newZ at e
    split at e
    · rename_i z; rw [z]; exact Nat.le_refl _
    · split at e
      · rename_i q' hq; exact Nat.le_of_lt (hG.above t (mem t q' hq))
      · cases e
  · unfold newZ at e
    split at e
    · rename_i z'
      cases e
      subst z'
      refine ⟨by rw [List.length_map, hal', hl.1]; exact y2, acc.toList, c, by rw [hacc]; exact LiI.vals_refs as, ?_⟩
      rw [Array.toArray_toList]
      exact hS
    · split at e
      · rename_i q' hq
        cases e
        obtain ⟨j, hj⟩ := List.mem_iff_getElem?.mp (mem t q' hq)
        obtain ⟨hj1, e3⟩ := hG.pairs j t hj
        have hj2 : j < z.es.length := by simpa using hj1
        obtain ⟨k, v, g1, g2, g3, g4⟩ := dn4_at d4 j z.es[j] (List.getElem?_eq_getElem hj2)
        have := lookup_zip nd hj (show (ks.zip vs)[j]? = some (k, v) by rw [List.getElem?_zip_eq_some]; exact ⟨g1, g2⟩)
        rw [hq] at this
        cases this
        exact ⟨by show 2 ≤ sizeLine; decide, [z.es[j].key, z.es[j].val], .cons g3 (.cons g4 .nil), ⟨_, by simpa using e3, rfl, _, rfl⟩⟩
      · cases e
theorem pair_items (kvs : List (NestedKey × PyData)) : pairD (kvs.map fun q => q.1.data) (kvs.map (·.2)) = itemsD kvs := by
  induction kvs with
  | nil => rfl
  | cons q kvs ih =>
    show _ :: _ = _ :: _
    rw [ih]
    rfl
def eLit (f : EE) : EE := fun env => match f env with
  | some (.var i, e) => match e[i]? with
    | some (some (.mu _ (.dn kvs))) => some (.tmp (.ls (itemsD kvs)), e)
    | _ => none
  | _ => none
@[simp] theorem z_lit (f : EE) (env : Sl) : eLit f env = (match f env with
  | some (.var i, e) => match e[i]? with
    | some (some (.mu _ (.dn kvs))) => some (.tmp (.ls (itemsD kvs)), e)
    | _ => none
  | _ => none) := rfl
theorem e_lit {X : Cx} {e : Expr} {f : EE} {p apos cpos pos : Pos} (hc : X.calm = true) (hm : X.mg "list" = none) (he : PE X e (tE X.K f)) (hg : Gl X "list" := by rfl) (hbase : attributeBase e "items" X.env (eval e X.env) = eval e X.env := by rfl) (hline : (apos.endLine == cpos.line) = true := by rfl)
    (nt : starEach [.Call (.Attribute e "items" apos) [] [] cpos] X.env = (false, eval (.Call (.Attribute e "items" apos) [] [] cpos) X.env) :: starEach [] X.env := by rfl) :
    PE X (.Call (.Name "list" p) [.Call (.Attribute e "items" apos) [] [] cpos] [] pos) (tE X.K (eLit f)) := PE.imp (pe_lit hc hm he hg hbase hline nt) fun σ H Q t => by
  obtain ⟨B, env, d, env', en, ev, q⟩ := t
  unfold eLit at ev
  split at ev
  · rename_i i e1 h1
    split at ev
    · rename_i m kvs hi
      cases ev
      refine ⟨B, env, _, _, en, h1, fun B1 H1 v a1 r1 => ?_⟩
      obtain ⟨hσ, _⟩ := r1
      obtain ⟨a, hσ2, hB, ct⟩ := a1.en.mu i _ _ hi
      rw [hσ] at hσ2
      cases hσ2
      obtain ⟨z, k1, k2⟩ := ct
      obtain ⟨ks, vs, d4, rk, rv⟩ := dn_split k2.ent
      have hl := dn4_len d4
      refine ⟨a, z, ks, vs, _, rfl, k1, d4, fun p as hal nd hp np nas => ?_⟩
      have hl2 : ks.length = vs.length := by rw [hl.1, hl.2]
      have hN : ∀ t o, newZ p as (ks.zip vs) t = some o → H1 t = none := fun t o e => by
        unfold newZ at e
        split at e
        · rename_i z; rw [z]; exact np
        · split at e
          · rename_i q' hq; exact nas t (List.of_mem_zip (lk_mem hq)).1
          · cases e
      have hop : newZ p as (ks.zip vs) p = some (.lst (as.map V.ref)) := by unfold newZ; rw [if_pos rfl]
      obtain ⟨g, a2⟩ := a1.allocN en hN ⟨_, hop⟩
      have at_ : ∀ (j : Nat) t v w, as[j]? = some t → ks[j]? = some v → vs[j]? = some w → ovr H1 (newZ p as (ks.zip vs)) t = some (.tup [v, w]) := fun j t v w e1 e2 e3 => ovr_new (by
        have ht : t ≠ p := fun z => hp (z ▸ List.mem_of_getElem? e1)
        unfold newZ
        rw [if_neg ht, lookup_zip nd e1 (show (ks.zip vs)[j]? = some (v, w) by rw [List.getElem?_zip_eq_some]; exact ⟨e2, e3⟩)])
      have rz := rp_zip hal hl2 (rk.grow g) (rv.grow g) at_
      rw [pair_items] at rz
      refine q _ _ _ a2 ⟨p, rfl, a1.st.liv _ np, .inr rfl, ⟨as.map V.ref, ovr_new hop, rz⟩, fun i m d g1 g2 => ?_⟩
      obtain ⟨b, h3, h4, _⟩ := a1.en.mu i m d g1
      rw [h3] at g2
      cases g2
      obtain ⟨o, ho⟩ := a1.en.dom _ h4
      rw [np] at ho
      cases ho
    · cases ev
  · cases ev
def tLvl (td : TE) : TE := fun σ H Q => td σ H fun x H1 => ∃ a z ks vs ns, x = .ref a ∧ H1 a = some (DnO a z) ∧ Dn4 z.es ks vs ns ∧ ∀ p, H1 p = none → Q (.ref p) (upd H1 p (.lst vs))
theorem dn4_vals {es : List DictEntry} {ks vs : List V} {ns : List NestedKey} (h : Dn4 es ks vs ns) : Vals vs (es.map (·.val)) := by
  induction h with
  | nil => exact .nil
  | cons _ _ _ h4 _ ih => exact .cons h4 ih
theorem pe_lvl {X : Cx} {e : Expr} {td : TE} {p apos cpos pos : Pos} (hc : X.calm = true) (hm : X.mg "list" = none) (he : PE X e td) (hg : Gl X "list" := by rfl) (hbase : attributeBase e "values" X.env (eval e X.env) = eval e X.env := by rfl) (hline : (apos.endLine == cpos.line) = true := by rfl)
    (nt : starEach [.Call (.Attribute e "values" apos) [] [] cpos] X.env = (false, eval (.Call (.Attribute e "values" apos) [] [] cpos) X.env) :: starEach [] X.env := by rfl) :
    PE X (.Call (.Name "list" p) [.Call (.Attribute e "values" apos) [] [] cpos] [] pos) (tLvl td) := by
  refine ⟨fun pins s σ H Q I h => ?_⟩
  refine PyProof.Rows.Call_ (ld_blt I hg hm (show bootBuiltins "list" = some (.type "list") by decide +kernel) (PyProof.Rows.callWith_type1 (args_cons ?_ nt) nt))
  refine wpAny_Call_method (T := "dict") (id := "dict.values") hbase rfl hline PySem.F.plainAttrs_dict PySem.F.slot_dict_values PySem.F.type_dict_values (thn (he.run pins s σ H _ I h) fun u s1 ⟨x, H1, I1, rx, a, z, ks, vs, ns, ex, hd, d4, q⟩ => ?_)
  subst ex
  obtain rfl : u = Value.ref a := rx
  obtain ⟨⟨y1, y2, y3, y4, y5⟩, _⟩ := I1.hok a _ hd
  refine ⟨⟨z.o, y3, y4.1⟩, fun b e => by cases e; exact ⟨z.o, y3, y4.2.1⟩, ?_⟩
  have raw : s1.heap.DictRaw a z.es.toArray z.ep := ⟨z.o, y3, y4, y5⟩
  have I2 : Inv X pins σ H1 { s1 with heap := s1.heap.push { cls := .type "dict_values", data := .fields #[.ref a] } } := I1.kept (t' := s1.toks) fun b ob q => Heap.get?_push_of_some _ q
  show wpAny _ _ (callWith cpos (.builtin "dict.values") [.ref a] [] []) _ X.xe s1
  refine method_meetsIn PySem.F.slot_dict_values PySem.F.entry_dict_values rfl (PySem.evalArgs_none ⟨rfl, ⟨z.o, y3, y4.1⟩, PySem.F.args_dict_values_1 _, _, meets_dict_values_raw a y1, ⟨_, _, raw⟩, args_nil ?_⟩)
  refine kdl_call (s := { s1 with heap := s1.heap.push { cls := .type "dict_values", data := .fields #[.ref a] } }) (KdlSrc.rawValues (es := z.es.toArray) (ep := z.ep) (r := s1.heap.objs.size) (d := a)) (I2.ok.hd hc) ⟨⟨_, Heap.get?_push_size _ rfl, rfl, rfl⟩, ⟨z.o, Heap.get?_push_of_some _ y3, y4, y5⟩⟩ (by simpa using y2) fun h3 tk acc c kp hS hacc => ?_
  generalize hh : s1.heap.push { cls := .type "dict_values", data := .fields #[.ref a] } = h' at *
  have el : acc.toList = z.es.map (·.val) := by
    apply List.ext_getElem?
    intro i
    obtain ⟨h1, h2⟩ := hacc
    by_cases hi : i < z.es.length
    · have hi' : i < acc.size := by rw [h1]; simpa using hi
      obtain ⟨_, e⟩ := h2 i acc[i] (Array.getElem?_eq_getElem hi')
      rw [Array.getElem?_toList, Array.getElem?_eq_getElem hi', e]
      simp [hi]
    · rw [Array.getElem?_toList, Array.getElem?_eq_none (by rw [h1]; simpa using hi)]
      simp [hi]
  have rv := dn4_vals d4
  have hl := dn4_len d4
  refine ⟨.ref h'.objs.size, upd H1 h'.objs.size (.lst vs), I2.laid (t' := tk) kp (Nat.le_refl _) ⟨by rw [hl.2]; exact y2, acc.toList, c, by rw [el]; exact rv, by simpa using hS⟩, rfl, q _ (I2.hok.fresh (Nat.le_refl _))⟩
def eLvl (f : EE) : EE := fun env => match f env with
  | some (.var i, e) => match e[i]? with
    | some (some (.mu _ (.dn kvs))) => some (.tmp (.ls (kvs.map (·.2))), e)
    | _ => none
  | _ => none
@[simp] theorem z_lvl (f : EE) (env : Sl) : eLvl f env = (match f env with
  | some (.var i, e) => match e[i]? with
    | some (some (.mu _ (.dn kvs))) => some (.tmp (.ls (kvs.map (·.2))), e)
    | _ => none
  | _ => none) := rfl
theorem e_lvl {X : Cx} {e : Expr} {f : EE} {p apos cpos pos : Pos} (hc : X.calm = true) (hm : X.mg "list" = none) (he : PE X e (tE X.K f)) (hg : Gl X "list" := by rfl) (hbase : attributeBase e "values" X.env (eval e X.env) = eval e X.env := by rfl) (hline : (apos.endLine == cpos.line) = true := by rfl)
    (nt : starEach [.Call (.Attribute e "values" apos) [] [] cpos] X.env = (false, eval (.Call (.Attribute e "values" apos) [] [] cpos) X.env) :: starEach [] X.env := by rfl) :
    PE X (.Call (.Name "list" p) [.Call (.Attribute e "values" apos) [] [] cpos] [] pos) (tE X.K (eLvl f)) := PE.imp (pe_lvl hc hm he hg hbase hline nt) fun σ H Q t => by
  obtain ⟨B, env, d, env', en, ev, q⟩ := t
  unfold eLvl at ev
  split at ev
  · rename_i i e1 h1
    split at ev
    · rename_i m kvs hi
      cases ev
      refine ⟨B, env, _, _, en, h1, fun B1 H1 v a1 r1 => ?_⟩
      obtain ⟨hσ, _⟩ := r1
      obtain ⟨a, hσ2, hB, ct⟩ := a1.en.mu i _ _ hi
      rw [hσ] at hσ2
      cases hσ2
      obtain ⟨z, k1, k2⟩ := ct
      obtain ⟨ks, vs, d4, rk, rv⟩ := dn_split k2.ent
      exact ⟨a, z, ks, vs, _, rfl, k1, d4, fun p np => con_new en a1 np rv q⟩
    · cases ev
  · cases ev
end T3

end
section
set_option linter.all false
set_option autoImplicit false
set_option Elab.async false
set_option maxRecDepth 100000
namespace T3
open PySem L2
variable [TabL]
def eGt2D (fd fk fx : EE) : EE := fun env => match fd env with
  | some (.pd x0, e1) => match dcOf x0 with
    | none => none
    | some c => match fk e1 with
      | none => none
      | some (d, e2) => match pdOf d with
        | none => none
        | some y => match fx e2 with
          | none => none
          | some (d', e3) => match pdOf d' with
            | none => none
            | some x => match cGet c y with
              | some o => some (.pd (o.getD x), e3)
              | none => none
  | _ => none
@[simp] theorem z_gt2D (fd fk fx : EE) (env : Sl) : eGt2D fd fk fx env = (match fd env with
  | some (.pd x0, e1) => match dcOf x0 with
    | none => none
    | some c => match fk e1 with
      | none => none
      | some (d, e2) => match pdOf d with
        | none => none
        | some y => match fx e2 with
          | none => none
          | some (d', e3) => match pdOf d' with
            | none => none
            | some x => match cGet c y with
              | some o => some (.pd (o.getD x), e3)
              | none => none
  | _ => none) := rfl
theorem e_gt2D {X : Cx} {o e f : Expr} {apos cpos : Pos} {fd fk fx : EE} (hu : X.A.units + 9 < cLine) (ho : PE X o (tE X.K fd)) (he : PE X e (tE X.K fk)) (hf : PE X f (tE X.K fx)) (m : M2 X o "get" apos e f cpos := by exact ⟨by rfl, by rfl, by rfl, by rfl⟩) : PE X (.Call (.Attribute o "get" apos) [e, f] [] cpos) (tE X.K (eGt2D fd fk fx)) := PE.imp (pe_gt2 hu ho he hf m) fun σ H Q t => by
  obtain ⟨B, env, d, env', en, ev, q⟩ := t
  unfold eGt2D at ev
  split at ev
  · rename_i x0 e1 h1
    split at ev
    · cases ev
    rename_i c hc
    split at ev
    · cases ev
    rename_i d1 e2 h2
    split at ev
    · cases ev
    rename_i y hy
    split at ev
    · cases ev
    rename_i d2 e3 h3
    split at ev
    · cases ev
    rename_i x hx
    split at ev
    · rename_i ov hg
      cases ev
      refine ⟨B, env, _, _, en, h1, fun B1 H1 w a1 r1 => ?_⟩
      obtain ⟨a, rfl, ct⟩ := dcOf_ok (show Rp X.K B1 H1 w x0 from r1) hc
      have dd : IsDD H1 a := by
        cases c with
        | ls xs =>
          exfalso
          revert hc
          unfold dcOf
          split
          · split <;> intro z <;> cases z
          · split <;> intro z <;> cases z
          · intro z; cases z
        | dk kvs => obtain ⟨ws, h2, _⟩ := ct; exact .inl ⟨ws, h2⟩
        | dn kvs => obtain ⟨es, h2, _⟩ := ct; exact .inr ⟨es, h2⟩
      refine ⟨a, rfl, dd, B1, e1, _, _, a1.en, h2, fun B2 H2 v a2 r2 => ⟨B2, e2, _, _, a2.en, h3, fun B3 H3 z a3 r3 => ?_⟩⟩
      have a23 := a2.trans a1.en a3
      obtain ⟨a', e', ct3⟩ := dcOf_ok (Rp.grow (a23.grow a1.en) (show Rp X.K B1 H1 (.ref a) x0 from r1)) hc
      cases e'
      have g := cGet_ok ct3 ((pdOf_rp r2 hy).grow (a3.grow a2.en)) hg
      exact ⟨B3, ov, x, g, pdOf_rp r3 hx, fun w r => q B3 H3 w ((a1.trans en a2).trans en a3) r⟩
    · cases ev
  · cases ev
end T3

end
section
set_option linter.all false
set_option autoImplicit false
set_option Elab.async false
namespace T3
open PySem L2
variable [TabL]
def sFrz (i : Nat) (f : SS) : SS := fun env => match env[i]? with
  | some (some (.mu .own c)) => f (env.set i (some (.pd (ctD c))))
  | _ => none
theorem rd_frz {K : PySem.W.Frag} {i : Nat} {f : SS} {D : Ends} {σ : St} {H : Hp} (h : tS K (sFrz i f) D σ H) : tS K f D σ H := by
  obtain ⟨B, env, fl, env', en, ev, q⟩ := h
  unfold sFrz at ev
  split at ev
  · rename_i c hi
    obtain ⟨a, ha, hB, hC⟩ := en.mu i .own c hi
    have g : Grow B H (fun b => B b ∧ b ≠ a) H := ⟨fun _ _ h _ => h, fun _ h => .inl h.1⟩
    have out : ∀ (k : Nat) x, (env.set i (some (.pd (ctD c))))[k]? = some (some x) → (k = i ∧ x = .pd (ctD c)) ∨ (i ≠ k ∧ env[k]? = some (some x)) := fun k x e => by
      rcases get_set e with ⟨z, z'⟩ | ⟨z, e⟩
      · exact .inl ⟨z.symm, by cases z'; rfl⟩
      · exact .inr ⟨z, e⟩
    have muO : ∀ (k : Nat) m d, (env.set i (some (.pd (ctD c))))[k]? = some (some (.mu m d)) → i ≠ k ∧ env[k]? = some (some (.mu m d)) := fun k m d e => by
      rcases out k _ e with ⟨_, z⟩ | z
      · cases z
      · exact z
    refine tS.later en (B1 := fun b => B b ∧ b ≠ a) ⟨⟨fun _ _ h _ => h, fun _ h => .inl h.1, fun b hb nw => ⟨hb, fun z => nw (z ▸ ⟨i, .own, c, hi, by decide, ha⟩)⟩, fun b w => ?_, fun _ h => h⟩, ⟨by simp [en.len], fun k x h => ?_, fun k x h => ?_, fun k m d h => ?_, fun k l m n c1 c2 b h1 h2 h3 h4 => ?_, fun b hb => en.dom b hb.1, en.tb.on (fun _ _ h _ => h) fun b hb => .inl hb.1⟩, fun k m d h hn => ?_⟩ ev q
    · obtain ⟨k, m, d, h1, h2, h3⟩ := w
      exact .inl ⟨k, m, d, (muO k m d h1).2, h2, h3⟩
    · rcases out k _ h with ⟨rfl, z⟩ | ⟨z, e⟩
      · cases z
        exact ⟨.ref a, ha, (hC.hop g fun _ h => h).rp fun z => z.2 rfl⟩
      · obtain ⟨v, h1, h2⟩ := en.pd k x e
        exact ⟨v, h1, h2.grow g⟩
    · rcases out k _ h with ⟨_, z⟩ | ⟨z, e⟩
      · cases z
      · obtain ⟨v, h1, h2⟩ := en.nt k x e
        exact ⟨v, h1, h2.grow g⟩
    · obtain ⟨z, e⟩ := muO k m d h
      obtain ⟨b, h1, h2, h3⟩ := en.mu k m d e
      exact ⟨b, h1, ⟨h2, fun y => z (en.inj i k _ _ _ _ a hi e ha (y ▸ h1))⟩, h3.hop g fun _ h => h⟩
    · exact en.inj k l _ _ _ _ b (muO k _ _ h1).2 (muO l _ _ h2).2 h3 h4
    · refine ⟨rfl, d, ?_⟩
      have ne : i ≠ k := fun z => by subst z; rw [hi] at h; cases h; exact hn rfl
      rw [List.getElem?_set_ne ne]
      exact h
  · cases ev
theorem s_frz {X : Cx} {st : Stmt} {f : SS} {i : Nat} (h : PS X st (tS X.K f)) : PS X st (tS X.K (sFrz i f)) := PS.imp h fun _ _ _ t => rd_frz t
@[simp] theorem z_frz (i : Nat) (f : SS) (env : Sl) : sFrz i f env = (match env[i]? with
  | some (some (.mu .own c)) => f (env.set i (some (.pd (ctD c))))
  | _ => none) := rfl
end T3

end
section
set_option linter.all false
set_option autoImplicit false
set_option Elab.async false
set_option maxRecDepth 100000
set_option maxHeartbeats 4000000
namespace L59
open PySem L2 T3
noncomputable section
-- CASES a0 l0 c0 k0 a1 l1 c1 k1 a2 l2 c2 k2 a3 l3 c3 k3 a4 l4 c4 k4 a5 l5 c5 k5 a6 l6 c6 k6 a7 l7 c7 k7 a8 l8 c8 k8 a9 l9 c9 k9 a10 l10 c10 k10 a11 l11 c11 k11 a12 l12 c12 k12 a13 l13 c13 k13 a14 l14 c14 k14 a15 l15 c15 k15 a16 l16 c16 k16 a17 l17 c17 k17 a18 l18 c18 k18 a19 l19 c19 k19 a20 l20 c20 k20 a21 l21 c21 k21 a22 l22 c22 k22 a23 l23 c23 k23 a24 l24 c24 k24 a25 l25 c25 k25 a26 l26 c26 k26 a27 l27 c27 k27 a28 l28 c28 k28 a29 l29 c29 k29 a30 l30 c30 k30 z_isinstance z_bool z_int z_len z_tuple z_all z_zip z_str z_min z_enumerate z_max z_range z_sorted z_dict z_list z_repr z_set ca_LAST_LINE cb_LAST_LINE ca_MOST_CELLS cb_MOST_CELLS ca_LETTERS cb_LETTERS da_STEPS dl_STEPS dk_STEPS db_STEPS
-- LEVEL 7
-- HOT 1
def topS (i : Nat) : Stmt := PySem.Challenge.pw_tumblemarks_k59_rolls_left_out.main.body.getD i (.Pass ⟨0, 0, 0, 0⟩)
def v_LAST_LINE : PyData := (.int 3)
def v_MOST_CELLS : PyData := (.int 9)
def v_LETTERS : PyData := (.tuple [(.str "n"), (.str "e"), (.str "s"), (.str "w")])
def v_STEPS : List (Str × PyData) := [("n", (.tuple [(.int 0), (.int 1)])), ("e", (.tuple [(.int 1), (.int 0)])), ("s", (.tuple [(.int 0), (.int (-1))])), ("w", (.tuple [(.int (-1)), (.int 0)]))]
abbrev s_is_whole : Stmt := topS 10
abbrev N_is_whole : List Str := ["thing", "most"]
theorem sc_is_whole : FnScope N_is_whole ["thing", "most"] (defScope s_is_whole) := ⟨rfl, rfl, rfl, by decide +kernel, rfl, by decide +kernel, by decide +kernel⟩
def m_is_whole : SS := (sRet (eB (bAnd (bT (eThen (eOne (eVar 0)) (kE (oIsiZ .int)))) (bAnd (bNot (bT (eThen (eOne (eVar 0)) (kE (oIsiZ .bool))))) (bT (eCh (Cm.f .le) (Cm.f .le) (eC (.int 0)) (eVar 0) (eVar 1)))))))
def f_is_whole : FnD := runFn 2 m_is_whole
theorem p_is_whole {P : Program} {w : World} {K : PySem.W.Frag} {mg : Str → Option Value} {base : Heap} (at_ : At0 K mg "is_whole" s_is_whole ["thing", "most"]) (z_isinstance : mg "isinstance" = none) (z_bool : mg "bool" = none) (z_int : mg "int" = none) : Has P w K mg base "is_whole" 2 f_is_whole 1 := by
  have nd := sc_is_whole.nd
  refine has_of (b := m_is_whole) (N := N_is_whole) (k := 0) at_ sc_is_whole rfl fun f cdv A outer s H E hr => ?_
  exact (ss_one (s_ret (e_and (e_bool (e_isiZ .int (e_var (pv 0)) (by rfl) z_isinstance (by rfl) z_int (by decide +kernel))) (e_and (e_not (e_bool (e_isiZ .bool (e_var (pv 0)) (by rfl) z_isinstance (by rfl) z_bool (by decide +kernel)))) (e_and1 (e_chain .le .le k_int (e_var (pv 0)) (e_var (pv 1))))))))
abbrev s_is_cell : Stmt := topS 11
abbrev N_is_cell : List Str := ["thing", "column", "line"]
theorem sc_is_cell : FnScope N_is_cell ["thing"] (defScope s_is_cell) := ⟨rfl, rfl, rfl, by decide +kernel, rfl, by decide +kernel, by decide +kernel⟩
def m_is_cell : SS := (sSeq (sIf (bOr (bNot (bT (eThen (eOne (eVar 0)) (kE (oIsiZ .tuple))))) (bT (eNe (eThen (eCons (eVar 0) eNil) (kE oLen)) (eC (.int 2))))) (sRet (eC (.bool false))) sPass)
  (sSeq (sAsg (eVar 0) (gT 2 (gCn (gN 1) (gCn (gN 2) gNl))))
  (sRet (eB (bAnd (bT (eCall f_is_whole (eCons (eVar 1) (eCons (eC v_LAST_LINE) eNil)))) (bT (eCall f_is_whole (eCons (eVar 2) (eCons (eC v_LAST_LINE) eNil)))))))))
def f_is_cell : FnD := runFn 3 m_is_cell
theorem p_is_cell {P : Program} {w : World} {K : PySem.W.Frag} {mg : Str → Option Value} {base : Heap} (at_ : At0 K mg "is_cell" s_is_cell ["thing"]) (h_is_whole : Has P w K mg base "is_whole" 2 f_is_whole 1) (z_len : mg "len" = none) (z_isinstance : mg "isinstance" = none) (z_tuple : mg "tuple" = none) (c_LAST_LINE : KC K mg "LAST_LINE" v_LAST_LINE) : Has P w K mg base "is_cell" 1 f_is_cell 2 := by
  have nd := sc_is_cell.nd
  refine has_of (b := m_is_cell) (N := N_is_cell) (k := 1) at_ sc_is_cell rfl fun f cdv A outer s H E hr => ?_
  exact (ss_cons (s_if (PW.pt (b_or (b_not (b_truth (e_isiZ .tuple (e_var (pv 0)) (by rfl) z_isinstance (by rfl) z_tuple (by decide +kernel)))) (b_or1 (y_cmp (q_ne hr) (x_blt (w_len rfl hr) z_len (a_cons (e_var (pv 0)) a_nil)) k_int)))) (ss_one (s_ret k_bl)) ss_nil)
    (ss_cons (s_asg (e_var (pv 0)) (g_tup rfl (gs_cons (g_name (i := 1) nd rfl (.inl rfl)) (gs_cons (g_name (i := 2) nd rfl (.inl rfl)) gs_nil))))
    (ss_one (s_ret (e_and (e_bool (e_fn h_is_whole (hr.mono (by decide)) (lenA_cons (lenA_cons lenA_nil)) (a_cons (e_var (pv 1)) (a_cons (e_glob c_LAST_LINE) a_nil)))) (e_and1 (e_fn h_is_whole (hr.mono (by decide)) (lenA_cons (lenA_cons lenA_nil)) (a_cons (e_var (pv 2)) (a_cons (e_glob c_LAST_LINE) a_nil)))))))))
abbrev s_is_rising : Stmt := topS 12
abbrev N_is_rising : List Str := ["things", "one", "other"]
theorem sc_is_rising : FnScope N_is_rising ["things"] (defScope s_is_rising) := ⟨rfl, rfl, rfl, by decide +kernel, rfl, by decide +kernel, by decide +kernel⟩
def m_is_rising : SS := (sRet (eThen (eCons (eLc (iZt (eCons (eVar 0) (eCons (eSl (eVar 0) (oSome (eC (.int 1))) oNo) eNil))) (gT 2 (gCn (gN 1) (gCn (gN 2) gNl))) bYes (eLt (eVar 1) (eVar 2)) [1, 2]) eNil) (kE oAll)))
def f_is_rising : FnD := runFn 3 m_is_rising
theorem p_is_rising {P : Program} {w : World} {K : PySem.W.Frag} {mg : Str → Option Value} {base : Heap} (at_ : At0 K mg "is_rising" s_is_rising ["things"]) (z_all : mg "all" = none) (z_zip : mg "zip" = none) : Has P w K mg base "is_rising" 1 f_is_rising 1 := by
  have nd := sc_is_rising.nd
  refine has_of (b := m_is_rising) (N := N_is_rising) (k := 0) at_ sc_is_rising rfl fun f cdv A outer s H E hr => ?_
  exact (ss_one (s_ret (x_blt (w_all rfl hr) z_all (a_cons (x_lc [("one", 1), ("other", 2)] rfl nd rfl (i_zip (by rfl) z_zip (a_cons (e_var (pv 0)) (a_cons (e_sl (e_var (pv 0)) (o_some k_int) o_no) a_nil))) (blkOk_by (N := N_is_rising) (sc := defScope s_is_rising) (by decide +kernel)) (only_gT (only_gCn (only_gN (by decide)) (only_gCn (only_gN (by decide)) only_gNl))) (fun _ _ _ _ _ => (v_tup rfl (vs_cons (v_name (i := 1) (by decide) nd rfl (.inl rfl)) (vs_cons (v_name (i := 2) (by decide) nd rfl (.inl rfl)) vs_nil)))) (fun _ _ _ _ _ => ts_yes) (fun _ _ _ _ _ => (x_cmp (q_lt hr) (e_var (pv 1)) (e_var (pv 2))))) a_nil))))
abbrev s_is_floor : Stmt := topS 13
abbrev N_is_floor : List Str := ["thing", "part"]
theorem sc_is_floor : FnScope N_is_floor ["thing"] (defScope s_is_floor) := ⟨rfl, rfl, rfl, by decide +kernel, rfl, by decide +kernel, by decide +kernel⟩
def m_is_floor : SS := (sSeq (sIf (bOr (bNot (bT (eThen (eOne (eVar 0)) (kE (oIsiZ .tuple))))) (bNot (bT (eCh (Cm.f .le) (Cm.f .le) (eC (.int 1)) (eThen (eCons (eVar 0) eNil) (kE oLen)) (eC v_MOST_CELLS))))) (sRet (eC (.bool false))) sPass)
  (sRet (eB (bAnd (bT (eThen (eCons (eLc (iSeq (eVar 0)) (gN 1) bYes (eCall f_is_cell (eCons (eVar 1) eNil)) [1]) eNil) (kE oAll))) (bT (eCall f_is_rising (eCons (eVar 0) eNil)))))))
def f_is_floor : FnD := runFn 2 m_is_floor
theorem p_is_floor {P : Program} {w : World} {K : PySem.W.Frag} {mg : Str → Option Value} {base : Heap} (at_ : At0 K mg "is_floor" s_is_floor ["thing"]) (h_is_rising : Has P w K mg base "is_rising" 1 f_is_rising 1) (h_is_cell : Has P w K mg base "is_cell" 1 f_is_cell 2) (z_len : mg "len" = none) (z_isinstance : mg "isinstance" = none) (z_tuple : mg "tuple" = none) (z_all : mg "all" = none) (c_MOST_CELLS : KC K mg "MOST_CELLS" v_MOST_CELLS) : Has P w K mg base "is_floor" 1 f_is_floor 3 := by
  have nd := sc_is_floor.nd
  refine has_of (b := m_is_floor) (N := N_is_floor) (k := 2) at_ sc_is_floor rfl fun f cdv A outer s H E hr => ?_
  exact (ss_cons (s_if (PW.pt (b_or (b_not (b_truth (e_isiZ .tuple (e_var (pv 0)) (by rfl) z_isinstance (by rfl) z_tuple (by decide +kernel)))) (b_or1 (b_not (b_chain .le .le k_int (x_blt (w_len rfl hr) z_len (a_cons (e_var (pv 0)) a_nil)) (e_glob c_MOST_CELLS)))))) (ss_one (s_ret k_bl)) ss_nil)
    (ss_one (s_ret (e_and (e_bool (x_blt (w_all rfl hr) z_all (a_cons (x_lc [("part", 1)] rfl nd rfl (i_seq (e_var (pv 0))) (blkOk_by (N := N_is_floor) (sc := defScope s_is_floor) (by decide +kernel)) (only_gN (by decide)) (fun _ _ _ _ _ => (v_name (i := 1) (by decide) nd rfl (.inl rfl))) (fun _ _ _ _ _ => ts_yes) (fun _ _ _ _ _ => (e_fn h_is_cell (hr.mono (by decide)) (lenA_cons lenA_nil) (a_cons (e_var (pv 1)) a_nil)))) a_nil))) (e_and1 (e_fn h_is_rising (hr.mono (by decide)) (lenA_cons lenA_nil) (a_cons (e_var (pv 0)) a_nil)))))))
abbrev s_is_cell_of : Stmt := topS 14
abbrev N_is_cell_of : List Str := ["floor", "thing"]
theorem sc_is_cell_of : FnScope N_is_cell_of ["floor", "thing"] (defScope s_is_cell_of) := ⟨rfl, rfl, rfl, by decide +kernel, rfl, by decide +kernel, by decide +kernel⟩
def m_is_cell_of : SS := (sRet (eB (bAnd (bT (eCall f_is_cell (eCons (eVar 1) eNil))) (bT (eIn (eVar 1) (eVar 0))))))
def f_is_cell_of : FnD := runFn 2 m_is_cell_of
theorem p_is_cell_of {P : Program} {w : World} {K : PySem.W.Frag} {mg : Str → Option Value} {base : Heap} (at_ : At0 K mg "is_cell_of" s_is_cell_of ["floor", "thing"]) (h_is_cell : Has P w K mg base "is_cell" 1 f_is_cell 2) : Has P w K mg base "is_cell_of" 2 f_is_cell_of 3 := by
  have nd := sc_is_cell_of.nd
  refine has_of (b := m_is_cell_of) (N := N_is_cell_of) (k := 2) at_ sc_is_cell_of rfl fun f cdv A outer s H E hr => ?_
  exact (ss_one (s_ret (e_and (e_bool (e_fn h_is_cell (hr.mono (by decide)) (lenA_cons lenA_nil) (a_cons (e_var (pv 1)) a_nil))) (e_and1 (x_cmp (q_in hr) (e_var (pv 1)) (e_var (pv 0)))))))
abbrev s_is_letter : Stmt := topS 15
abbrev N_is_letter : List Str := ["thing"]
theorem sc_is_letter : FnScope N_is_letter ["thing"] (defScope s_is_letter) := ⟨rfl, rfl, rfl, by decide +kernel, rfl, by decide +kernel, by decide +kernel⟩
def m_is_letter : SS := (sRet (eB (bAnd (bT (eThen (eOne (eVar 0)) (kE (oIsiZ .str)))) (bT (eIn (eVar 0) (eC v_LETTERS))))))
def f_is_letter : FnD := runFn 1 m_is_letter
theorem p_is_letter {P : Program} {w : World} {K : PySem.W.Frag} {mg : Str → Option Value} {base : Heap} (at_ : At0 K mg "is_letter" s_is_letter ["thing"]) (z_isinstance : mg "isinstance" = none) (z_str : mg "str" = none) (c_LETTERS : KC K mg "LETTERS" v_LETTERS) : Has P w K mg base "is_letter" 1 f_is_letter 1 := by
  have nd := sc_is_letter.nd
  refine has_of (b := m_is_letter) (N := N_is_letter) (k := 0) at_ sc_is_letter rfl fun f cdv A outer s H E hr => ?_
  exact (ss_one (s_ret (e_and (e_bool (e_isiZ .str (e_var (pv 0)) (by rfl) z_isinstance (by rfl) z_str (by decide +kernel))) (e_and1 (x_cmp (q_in hr) (e_var (pv 0)) (e_glob c_LETTERS))))))
abbrev s_is_row : Stmt := topS 16
abbrev N_is_row : List Str := ["thing", "sign"]
theorem sc_is_row : FnScope N_is_row ["thing"] (defScope s_is_row) := ⟨rfl, rfl, rfl, by decide +kernel, rfl, by decide +kernel, by decide +kernel⟩
def m_is_row : SS := (sRet (eB (bAnd (bT (eThen (eOne (eVar 0)) (kE (oIsiZ .str)))) (bT (eThen (eCons (eLc (iSeq (eVar 0)) (gN 1) bYes (eCall f_is_letter (eCons (eVar 1) eNil)) [1]) eNil) (kE oAll))))))
def f_is_row : FnD := runFn 2 m_is_row
theorem p_is_row {P : Program} {w : World} {K : PySem.W.Frag} {mg : Str → Option Value} {base : Heap} (at_ : At0 K mg "is_row" s_is_row ["thing"]) (h_is_letter : Has P w K mg base "is_letter" 1 f_is_letter 1) (z_all : mg "all" = none) (z_isinstance : mg "isinstance" = none) (z_str : mg "str" = none) : Has P w K mg base "is_row" 1 f_is_row 2 := by
  have nd := sc_is_row.nd
  refine has_of (b := m_is_row) (N := N_is_row) (k := 1) at_ sc_is_row rfl fun f cdv A outer s H E hr => ?_
  exact (ss_one (s_ret (e_and (e_bool (e_isiZ .str (e_var (pv 0)) (by rfl) z_isinstance (by rfl) z_str (by decide +kernel))) (e_and1 (x_blt (w_all rfl hr) z_all (a_cons (x_lc [("sign", 1)] rfl nd rfl (i_seq (e_var (pv 0))) (blkOk_by (N := N_is_row) (sc := defScope s_is_row) (by decide +kernel)) (only_gN (by decide)) (fun _ _ _ _ _ => (v_name (i := 1) (by decide) nd rfl (.inl rfl))) (fun _ _ _ _ _ => ts_yes) (fun _ _ _ _ _ => (e_fn h_is_letter (hr.mono (by decide)) (lenA_cons lenA_nil) (a_cons (e_var (pv 1)) a_nil)))) a_nil))))))
abbrev s_need_floor : Stmt := topS 17
abbrev N_need_floor : List Str := ["floor"]
theorem sc_need_floor : FnScope N_need_floor ["floor"] (defScope s_need_floor) := ⟨rfl, rfl, rfl, by decide +kernel, rfl, by decide +kernel, by decide +kernel⟩
def m_need_floor : SS := (sIf (bNot (bT (eCall f_is_floor (eCons (eVar 0) eNil)))) sNever sPass)
def f_need_floor : FnD := runFn 1 m_need_floor
theorem p_need_floor {P : Program} {w : World} {K : PySem.W.Frag} {mg : Str → Option Value} {base : Heap} (at_ : At0 K mg "need_floor" s_need_floor ["floor"]) (h_is_floor : Has P w K mg base "is_floor" 1 f_is_floor 3) : Has P w K mg base "need_floor" 1 f_need_floor 4 := by
  have nd := sc_need_floor.nd
  refine has_of (b := m_need_floor) (N := N_need_floor) (k := 3) at_ sc_need_floor rfl fun f cdv A outer s H E hr => ?_
  exact (ss_one (s_if (b_not (b_truth (e_fn h_is_floor (hr.mono (by decide)) (lenA_cons lenA_nil) (a_cons (e_var (pv 0)) a_nil)))) (ss_one s_never) ss_nil))
abbrev s_need_cell : Stmt := topS 18
abbrev N_need_cell : List Str := ["floor", "cell"]
theorem sc_need_cell : FnScope N_need_cell ["floor", "cell"] (defScope s_need_cell) := ⟨rfl, rfl, rfl, by decide +kernel, rfl, by decide +kernel, by decide +kernel⟩
def m_need_cell : SS := (sIf (bNot (bT (eCall f_is_cell_of (eCons (eVar 0) (eCons (eVar 1) eNil))))) sNever sPass)
def f_need_cell : FnD := runFn 2 m_need_cell
theorem p_need_cell {P : Program} {w : World} {K : PySem.W.Frag} {mg : Str → Option Value} {base : Heap} (at_ : At0 K mg "need_cell" s_need_cell ["floor", "cell"]) (h_is_cell_of : Has P w K mg base "is_cell_of" 2 f_is_cell_of 3) : Has P w K mg base "need_cell" 2 f_need_cell 4 := by
  have nd := sc_need_cell.nd
  refine has_of (b := m_need_cell) (N := N_need_cell) (k := 3) at_ sc_need_cell rfl fun f cdv A outer s H E hr => ?_
  exact (ss_one (s_if (b_not (b_truth (e_fn h_is_cell_of (hr.mono (by decide)) (lenA_cons (lenA_cons lenA_nil)) (a_cons (e_var (pv 0)) (a_cons (e_var (pv 1)) a_nil))))) (ss_one s_never) ss_nil))
abbrev s_need_row : Stmt := topS 19
abbrev N_need_row : List Str := ["row"]
theorem sc_need_row : FnScope N_need_row ["row"] (defScope s_need_row) := ⟨rfl, rfl, rfl, by decide +kernel, rfl, by decide +kernel, by decide +kernel⟩
def m_need_row : SS := (sIf (bNot (bT (eCall f_is_row (eCons (eVar 0) eNil)))) sNever sPass)
def f_need_row : FnD := runFn 1 m_need_row
theorem p_need_row {P : Program} {w : World} {K : PySem.W.Frag} {mg : Str → Option Value} {base : Heap} (at_ : At0 K mg "need_row" s_need_row ["row"]) (h_is_row : Has P w K mg base "is_row" 1 f_is_row 2) : Has P w K mg base "need_row" 1 f_need_row 3 := by
  have nd := sc_need_row.nd
  refine has_of (b := m_need_row) (N := N_need_row) (k := 2) at_ sc_need_row rfl fun f cdv A outer s H E hr => ?_
  exact (ss_one (s_if (b_not (b_truth (e_fn h_is_row (hr.mono (by decide)) (lenA_cons lenA_nil) (a_cons (e_var (pv 0)) a_nil)))) (ss_one s_never) ss_nil))
abbrev s_rolled_cell : Stmt := topS 20
abbrev N_rolled_cell : List Str := ["cell", "letter", "column", "line", "eastward", "northward"]
theorem sc_rolled_cell : FnScope N_rolled_cell ["cell", "letter"] (defScope s_rolled_cell) := ⟨rfl, rfl, rfl, by decide +kernel, rfl, by decide +kernel, by decide +kernel⟩
def m_rolled_cell : SS := (sSeq (sAsg (eVar 0) (gT 2 (gCn (gN 2) (gCn (gN 3) gNl))))
  (sSeq (sAsg (eKd v_STEPS (eVar 1)) (gT 2 (gCn (gN 4) (gCn (gN 5) gNl))))
  (sRet (eThen (eCons (eAdd (eVar 2) (eVar 4)) (eCons (eAdd (eVar 3) (eVar 5)) eNil)) kTup))))
def f_rolled_cell : FnD := runFn 6 m_rolled_cell
theorem p_rolled_cell {P : Program} {w : World} {K : PySem.W.Frag} {mg : Str → Option Value} {base : Heap} (at_ : At0 K mg "rolled_cell" s_rolled_cell ["cell", "letter"]) (d_STEPS : KD K w mg "STEPS" v_STEPS) : Has P w K mg base "rolled_cell" 2 f_rolled_cell 1 := by
  have nd := sc_rolled_cell.nd
  refine has_of (b := m_rolled_cell) (N := N_rolled_cell) (k := 0) at_ sc_rolled_cell rfl fun f cdv A outer s H E hr => ?_
  exact (ss_cons (s_asg (e_var (pv 0)) (g_tup rfl (gs_cons (g_name (i := 2) nd rfl (.inl rfl)) (gs_cons (g_name (i := 3) nd rfl (.inl rfl)) gs_nil))))
    (ss_cons (s_asg (e_kdn d_STEPS (e_var (pv 1))) (g_tup rfl (gs_cons (g_name (i := 4) nd rfl (.inl rfl)) (gs_cons (g_name (i := 5) nd rfl (.inl rfl)) gs_nil))))
    (ss_one (s_ret (e_tup (a_cons (x_add (e_var (pv 2)) (e_var (pv 4))) (a_cons (x_add (e_var (pv 3)) (e_var (pv 5))) a_nil)))))))
abbrev s_need_asked : Stmt := topS 22
abbrev N_need_asked : List Str := ["floor", "cell", "row"]
theorem sc_need_asked : FnScope N_need_asked ["floor", "cell", "row"] (defScope s_need_asked) := ⟨rfl, rfl, rfl, by decide +kernel, rfl, by decide +kernel, by decide +kernel⟩
def m_need_asked : SS := (sSeq (sExpr (eCall f_need_floor (eCons (eVar 0) eNil)))
  (sSeq (sExpr (eCall f_need_cell (eCons (eVar 0) (eCons (eVar 1) eNil))))
  (sExpr (eCall f_need_row (eCons (eVar 2) eNil)))))
def f_need_asked : FnD := runFn 3 m_need_asked
theorem p_need_asked {P : Program} {w : World} {K : PySem.W.Frag} {mg : Str → Option Value} {base : Heap} (at_ : At0 K mg "need_asked" s_need_asked ["floor", "cell", "row"]) (h_need_floor : Has P w K mg base "need_floor" 1 f_need_floor 4) (h_need_cell : Has P w K mg base "need_cell" 2 f_need_cell 4) (h_need_row : Has P w K mg base "need_row" 1 f_need_row 3) : Has P w K mg base "need_asked" 3 f_need_asked 5 := by
  have nd := sc_need_asked.nd
  refine has_of (b := m_need_asked) (N := N_need_asked) (k := 4) at_ sc_need_asked rfl fun f cdv A outer s H E hr => ?_
  exact (ss_cons (s_expr (e_fn h_need_floor (hr.mono (by decide)) (lenA_cons lenA_nil) (a_cons (e_var (pv 0)) a_nil)))
    (ss_cons (s_expr (e_fn h_need_cell (hr.mono (by decide)) (lenA_cons (lenA_cons lenA_nil)) (a_cons (e_var (pv 0)) (a_cons (e_var (pv 1)) a_nil))))
    (ss_one (s_expr (e_fn h_need_row (hr.mono (by decide)) (lenA_cons lenA_nil) (a_cons (e_var (pv 2)) a_nil))))))
abbrev s_fewest_at : Stmt := topS 23
abbrev N_fewest_at : List Str := ["floor", "cell", "letter", "behind", "there"]
theorem sc_fewest_at : FnScope N_fewest_at ["floor", "cell", "letter", "behind"] (defScope s_fewest_at) := ⟨rfl, rfl, rfl, by decide +kernel, rfl, by decide +kernel, by decide +kernel⟩
def m_fewest_at : SS := (sSeq (sSet 4 (eCall f_rolled_cell (eCons (eVar 1) (eCons (eVar 2) eNil))))
  (sSeq (sIf (bT (eIn (eVar 4) (eVar 0))) (sRet (eThen (eCons (eAdd (eC (.int 1)) (eDx (eVar 3) (eVar 1))) (eCons (eDx (eVar 3) (eVar 4)) eNil)) (kE oMin))) sPass)
  (sRet (eAdd (eC (.int 1)) (eDx (eVar 3) (eVar 1))))))
def f_fewest_at : FnD := runFn 5 m_fewest_at
theorem p_fewest_at {P : Program} {w : World} {K : PySem.W.Frag} {mg : Str → Option Value} {base : Heap} (at_ : At0 K mg "fewest_at" s_fewest_at ["floor", "cell", "letter", "behind"]) (h_rolled_cell : Has P w K mg base "rolled_cell" 2 f_rolled_cell 1) (z_min : mg "min" = none) : Has P w K mg base "fewest_at" 4 f_fewest_at 2 := by
  have nd := sc_fewest_at.nd
  refine has_of (b := m_fewest_at) (N := N_fewest_at) (k := 1) at_ sc_fewest_at rfl fun f cdv A outer s H E hr => ?_
  exact (ss_cons (s_set (i := 4) nd rfl (.inl rfl) (e_fn h_rolled_cell (hr.mono (by decide)) (lenA_cons (lenA_cons lenA_nil)) (a_cons (e_var (pv 1)) (a_cons (e_var (pv 2)) a_nil))))
    (ss_cons (s_if (y_cmp (q_in hr) (e_var (pv 4)) (e_var (pv 0))) (ss_one (s_ret (x_blt (w_min rfl hr) z_min (a_cons (x_add k_int (e_dx (u9 hr) (e_var (pv 3)) (e_var (pv 1)))) (a_cons (e_dx (u9 hr) (e_var (pv 3)) (e_var (pv 4))) a_nil))))) ss_nil)
    (ss_one (s_ret (x_add k_int (e_dx (u9 hr) (e_var (pv 3)) (e_var (pv 1))))))))
abbrev s_fewest_left : Stmt := topS 24
abbrev N_fewest_left : List Str := ["floor", "row", "tables", "letter", "behind", "cell"]
theorem sc_fewest_left : FnScope N_fewest_left ["floor", "row"] (defScope s_fewest_left) := ⟨rfl, rfl, rfl, by decide +kernel, rfl, by decide +kernel, by decide +kernel⟩
def m_fewest_left : SS := (sSeq (sSet 2 (eThen (eCons (eDcC (iSeq (eVar 0)) (gN 5) (eVar 5) (eC (.int 0)) [5]) eNil) kLst))
  (sSeq (sFor (iSeq (eRevS (eVar 1))) (gN 3) (sSeq (sSet 4 (eIx (eVar 2) (eNeg (eC (.int 1)))))
  (sExpr (eBM isL (eVar 2) (eCons (eDcC (iSeq (eVar 0)) (gN 5) (eVar 5) (eCall f_fewest_at (eCons (eVar 0) (eCons (eVar 5) (eCons (eVar 3) (eCons (eVar 4) eNil))))) [5]) eNil) kAppend))))
  (sRet (eRevL (eVar 2)))))
def f_fewest_left : FnD := runFn 6 m_fewest_left
theorem p_fewest_left {P : Program} {w : World} {K : PySem.W.Frag} {mg : Str → Option Value} {base : Heap} (at_ : At0 K mg "fewest_left" s_fewest_left ["floor", "row"]) (h_fewest_at : Has P w K mg base "fewest_at" 4 f_fewest_at 2) : Has P w K mg base "fewest_left" 2 f_fewest_left 3 := by
  have nd := sc_fewest_left.nd
  refine has_of (b := m_fewest_left) (N := N_fewest_left) (k := 2) at_ sc_fewest_left rfl fun f cdv A outer s H E hr => ?_
  exact (ss_cons (s_set (i := 2) nd rfl (.inl rfl) (e_lst (a_cons (x_dcC (u9 hr) [("cell", 5)] rfl nd rfl (i_seq (e_var (pv 0))) (blkOk_by (N := N_fewest_left) (sc := defScope s_fewest_left) (by decide +kernel)) (only_gN (by decide)) (fun _ _ _ _ _ => (v_name (i := 5) (by decide) nd rfl (.inl rfl))) (fun _ _ _ _ _ => (e_var (pv 5))) (fun _ _ _ _ _ => k_int)) a_nil)))
    (ss_cons (s_for PassesOwn.never rfl (i_seq (e_revS (e_var (pv 1)))) (g_name (i := 3) nd rfl (.inr rfl)) (ss_cons (s_set (i := 4) nd rfl (.inr rfl) (x_ix (e_var (pv 2)) (x_neg k_int)))
    (ss_one (s_expr (m_append (e_var (pv 2)) (a_cons (x_dcC (u9 hr) [("cell", 5)] rfl nd rfl (i_seq (e_var (pv 0))) (blkOk_by (N := N_fewest_left) (sc := defScope s_fewest_left) (by decide +kernel)) (only_gN (by decide)) (fun _ _ _ _ _ => (v_name (i := 5) (by decide) nd rfl (.inl rfl))) (fun _ _ _ _ _ => (e_var (pv 5))) (fun _ _ _ _ _ => (e_fn h_fewest_at (hr.mono (by decide)) (lenA_cons (lenA_cons (lenA_cons (lenA_cons lenA_nil)))) (a_cons (e_var (pv 0)) (a_cons (e_var (pv 5)) (a_cons (e_var (pv 3)) (a_cons (e_var (pv 4)) a_nil))))))) a_nil))))))
    (ss_one (s_ret (e_revL (e_var (pv 2)))))))
abbrev s_left_out : Stmt := topS 25
abbrev N_left_out : List Str := ["floor", "cell", "row", "fewest", "places", "here", "place", "letter"]
theorem sc_left_out : FnScope N_left_out ["floor", "cell", "row"] (defScope s_left_out) := ⟨rfl, rfl, rfl, by decide +kernel, rfl, by decide +kernel, by decide +kernel⟩
def m_left_out : SS := (sSeq (sExpr (eCall f_need_asked (eCons (eVar 0) (eCons (eVar 1) (eCons (eVar 2) eNil)))))
  (sSeq (sSet 3 (eCall f_fewest_left (eCons (eVar 0) (eCons (eVar 2) eNil))))
  (sSeq (sSet 4 (eThen eNil kLst))
  (sSeq (sSet 5 (eVar 1))
  (sSeq (sFor (iEn (eVar 2)) (gT 2 (gCn (gN 6) (gCn (gN 7) gNl))) (sIf (bT (eEq (eDx (eIx (eVar 3) (eVar 6)) (eVar 5)) (eAdd (eC (.int 1)) (eDx (eIx (eVar 3) (eAdd (eVar 6) (eC (.int 1)))) (eVar 5))))) (sExpr (eBM isL (eVar 4) (eCons (eVar 6) eNil) kAppend)) (sSet 5 (eCall f_rolled_cell (eCons (eVar 5) (eCons (eVar 7) eNil))))))
  (sRet (eThen (eCons (eVar 4) eNil) kTupN)))))))
def f_left_out : FnD := runFn 8 m_left_out
theorem p_left_out {P : Program} {w : World} {K : PySem.W.Frag} {mg : Str → Option Value} {base : Heap} (at_ : At0 K mg "left_out" s_left_out ["floor", "cell", "row"]) (h_need_asked : Has P w K mg base "need_asked" 3 f_need_asked 5) (h_fewest_left : Has P w K mg base "fewest_left" 2 f_fewest_left 3) (h_rolled_cell : Has P w K mg base "rolled_cell" 2 f_rolled_cell 1) (z_enumerate : mg "enumerate" = none) (z_tuple : mg "tuple" = none) : Has P w K mg base "left_out" 3 f_left_out 6 := by
  have nd := sc_left_out.nd
  refine has_of (b := m_left_out) (N := N_left_out) (k := 5) at_ sc_left_out rfl fun f cdv A outer s H E hr => ?_
  exact (ss_cons (s_expr (e_fn h_need_asked (hr.mono (by decide)) (lenA_cons (lenA_cons (lenA_cons lenA_nil))) (a_cons (e_var (pv 0)) (a_cons (e_var (pv 1)) (a_cons (e_var (pv 2)) a_nil)))))
    (ss_cons (s_set (i := 3) nd rfl (.inl rfl) (e_fn h_fewest_left (hr.mono (by decide)) (lenA_cons (lenA_cons lenA_nil)) (a_cons (e_var (pv 0)) (a_cons (e_var (pv 2)) a_nil))))
    (ss_cons (s_set (i := 4) nd rfl (.inl rfl) (e_lst a_nil))
    (ss_cons (s_set (i := 5) nd rfl (.inl rfl) (e_var (pv 1)))
    (ss_cons (s_for PassesOwn.never rfl (i_en (by rfl) z_enumerate (e_var (pv 2))) (g_tup rfl (gs_cons (g_name (i := 6) nd rfl (.inl rfl)) (gs_cons (g_name (i := 7) nd rfl (.inl rfl)) gs_nil))) (ss_one (s_if (y_cmp (q_eq hr) (e_dx (u9 hr) (x_ix (e_var (pv 3)) (e_var (pv 6))) (e_var (pv 5))) (x_add k_int (e_dx (u9 hr) (x_ix (e_var (pv 3)) (x_add (e_var (pv 6)) k_int)) (e_var (pv 5))))) (ss_one (s_expr (m_append (e_var (pv 4)) (a_cons (e_var (pv 6)) a_nil)))) (ss_one (s_set (i := 5) nd rfl (.inl rfl) (e_fn h_rolled_cell (hr.mono (by decide)) (lenA_cons (lenA_cons lenA_nil)) (a_cons (e_var (pv 5)) (a_cons (e_var (pv 7)) a_nil))))))))
    (ss_one (s_ret (x_bty (w_tuple rfl hr) z_tuple (a_cons (e_var (pv 4)) a_nil)))))))))
abbrev s__law_cell : Stmt := topS 27
abbrev N__law_cell : List Str := ["_law_script", "_law_k"]
theorem sc__law_cell : FnScope N__law_cell ["_law_script", "_law_k"] (defScope s__law_cell) := ⟨rfl, rfl, rfl, by decide +kernel, rfl, by decide +kernel, by decide +kernel⟩
def m__law_cell : SS := (sSeq (sIf (bT (eLt (eVar 1) (eThen (eCons (eVar 0) eNil) (kE oLen)))) (sRet (eIx (eVar 0) (eVar 1))) sPass)
  (sRet (eC (.int 0))))
def f__law_cell : FnD := runFn 2 m__law_cell
theorem p__law_cell {P : Program} {w : World} {K : PySem.W.Frag} {mg : Str → Option Value} {base : Heap} (at_ : At0 K mg "_law_cell" s__law_cell ["_law_script", "_law_k"]) (z_len : mg "len" = none) : Has P w K mg base "_law_cell" 2 f__law_cell 1 := by
  have nd := sc__law_cell.nd
  refine has_of (b := m__law_cell) (N := N__law_cell) (k := 0) at_ sc__law_cell rfl fun f cdv A outer s H E hr => ?_
  exact (ss_cons (s_if (y_cmp (q_lt hr) (e_var (pv 1)) (x_blt (w_len rfl hr) z_len (a_cons (e_var (pv 0)) a_nil))) (ss_one (s_ret (x_ix (e_var (pv 0)) (e_var (pv 1))))) ss_nil)
    (ss_one (s_ret k_int)))
abbrev s__law_pen : Stmt := topS 28
abbrev N__law_pen : List Str := ["_law_cell_here"]
theorem sc__law_pen : FnScope N__law_pen ["_law_cell_here"] (defScope s__law_pen) := ⟨rfl, rfl, rfl, by decide +kernel, rfl, by decide +kernel, by decide +kernel⟩
def m__law_pen : SS := (sRet (eThen (eCons (eThen (eCons (eC (.int 0)) (eCons (eSub (eVar 0) (ePow (eC (.int 10)) (eC (.int 18)))) eNil)) (kE oMax)) (eCons (eMod (eVar 0) (eC (.int 1000000007))) (eCons (eC (.int 0)) eNil))) kLst))
def f__law_pen : FnD := runFn 1 m__law_pen
theorem p__law_pen {P : Program} {w : World} {K : PySem.W.Frag} {mg : Str → Option Value} {base : Heap} (at_ : At0 K mg "_law_pen" s__law_pen ["_law_cell_here"]) (z_max : mg "max" = none) : Has P w K mg base "_law_pen" 1 f__law_pen 1 := by
  have nd := sc__law_pen.nd
  refine has_of (b := m__law_pen) (N := N__law_pen) (k := 0) at_ sc__law_pen rfl fun f cdv A outer s H E hr => ?_
  exact (ss_one (s_ret (e_lst (a_cons (x_blt (w_max rfl hr) z_max (a_cons k_int (a_cons (x_sub (e_var (pv 0)) (x_pow k_int k_int)) a_nil))) (a_cons (x_mod (e_var (pv 0)) k_int) (a_cons k_int a_nil))))))
abbrev s__law_draw : Stmt := topS 29
abbrev N__law_draw : List Str := ["_law_pen_here", "_law_many", "_law_digit", "_law_stir"]
theorem sc__law_draw : FnScope N__law_draw ["_law_pen_here", "_law_many"] (defScope s__law_draw) := ⟨rfl, rfl, rfl, by decide +kernel, rfl, by decide +kernel, by decide +kernel⟩
def m__law_draw : SS := (sSeq (sIf (bT (eGt (eIx (eVar 0) (eC (.int 0))) (eC (.int 0)))) (sSeq (sSet 2 (eMod (eIx (eVar 0) (eC (.int 0))) (eVar 1)))
  (sSeq (sAsg (eFdiv (eIx (eVar 0) (eC (.int 0))) (eVar 1)) (gS (eVar 0) (eC (.int 0))))
  (sRet (eVar 2)))) sPass)
  (sSeq (sAsg (eAdd (eIx (eVar 0) (eC (.int 2))) (eC (.int 1))) (gS (eVar 0) (eC (.int 2))))
  (sSeq (sSet 3 (eMod (eMul (eAdd (eIx (eVar 0) (eC (.int 1))) (eMul (eC (.int 17)) (eIx (eVar 0) (eC (.int 2))))) (eAdd (eC (.int 69621)) (eMul (eC (.int 2)) (eIx (eVar 0) (eC (.int 2)))))) (eC (.int 2147483647))))
  (sSeq (sSet 3 (eMod (eAdd (eAdd (eMul (eVar 3) (eVar 3)) (eMul (eC (.int 40503)) (eIx (eVar 0) (eC (.int 2))))) (eC (.int 5))) (eC (.int 2147483629))))
  (sRet (eMod (eFdiv (eMod (eMul (eVar 3) (eC (.int 48271))) (eC (.int 2147483647))) (eC (.int 32))) (eVar 1)))))))
def f__law_draw : FnD := runFn 4 m__law_draw
theorem p__law_draw {P : Program} {w : World} {K : PySem.W.Frag} {mg : Str → Option Value} {base : Heap} (at_ : At0 K mg "_law_draw" s__law_draw ["_law_pen_here", "_law_many"])  : Has P w K mg base "_law_draw" 2 f__law_draw 1 := by
  have nd := sc__law_draw.nd
  refine has_of (b := m__law_draw) (N := N__law_draw) (k := 0) at_ sc__law_draw rfl fun f cdv A outer s H E hr => ?_
  exact (ss_cons (s_if (y_cmp (q_gt hr) (x_ix (e_var (pv 0)) k_int) k_int) (ss_cons (s_set (i := 2) nd rfl (.inl rfl) (x_mod (x_ix (e_var (pv 0)) k_int) (e_var (pv 1))))
    (ss_cons (s_asg (x_fdiv (x_ix (e_var (pv 0)) k_int) (e_var (pv 1))) (g_sub (e_var (pv 0)) k_int))
    (ss_one (s_ret (e_var (pv 2)))))) ss_nil)
    (ss_cons (s_asg (x_add (x_ix (e_var (pv 0)) k_int) k_int) (g_sub (e_var (pv 0)) k_int))
    (ss_cons (s_set (i := 3) nd rfl (.inl rfl) (x_mod (x_mul (x_add (x_ix (e_var (pv 0)) k_int) (x_mul k_int (x_ix (e_var (pv 0)) k_int))) (x_add k_int (x_mul k_int (x_ix (e_var (pv 0)) k_int)))) k_int))
    (ss_cons (s_set (i := 3) nd rfl (.inl rfl) (x_mod (x_add (x_add (x_mul (e_var (pv 3)) (e_var (pv 3))) (x_mul k_int (x_ix (e_var (pv 0)) k_int))) k_int) k_int))
    (ss_one (s_ret (x_mod (x_fdiv (x_mod (x_mul (e_var (pv 3)) k_int) k_int) k_int) (e_var (pv 1)))))))))
abbrev s__law_pick : Stmt := topS 30
abbrev N__law_pick : List Str := ["_law_pen_here", "_law_things"]
theorem sc__law_pick : FnScope N__law_pick ["_law_pen_here", "_law_things"] (defScope s__law_pick) := ⟨rfl, rfl, rfl, by decide +kernel, rfl, by decide +kernel, by decide +kernel⟩
def m__law_pick : SS := (sRet (eIx (eVar 1) (eCall f__law_draw (eCons (eVar 0) (eCons (eThen (eCons (eVar 1) eNil) (kE oLen)) eNil)))))
def f__law_pick : FnD := runFn 2 m__law_pick
theorem p__law_pick {P : Program} {w : World} {K : PySem.W.Frag} {mg : Str → Option Value} {base : Heap} (at_ : At0 K mg "_law_pick" s__law_pick ["_law_pen_here", "_law_things"]) (h__law_draw : Has P w K mg base "_law_draw" 2 f__law_draw 1) (z_len : mg "len" = none) : Has P w K mg base "_law_pick" 2 f__law_pick 2 := by
  have nd := sc__law_pick.nd
  refine has_of (b := m__law_pick) (N := N__law_pick) (k := 1) at_ sc__law_pick rfl fun f cdv A outer s H E hr => ?_
  exact (ss_one (s_ret (x_ix (e_var (pv 1)) (e_fn h__law_draw (hr.mono (by decide)) (lenA_cons (lenA_cons lenA_nil)) (a_cons (e_var (pv 0)) (a_cons (x_blt (w_len rfl hr) z_len (a_cons (e_var (pv 1)) a_nil)) a_nil))))))
abbrev s__law_beside : Stmt := topS 31
abbrev N__law_beside : List Str := ["_law_cell_here", "_law_letter", "_law_across", "_law_up"]
theorem sc__law_beside : FnScope N__law_beside ["_law_cell_here", "_law_letter"] (defScope s__law_beside) := ⟨rfl, rfl, rfl, by decide +kernel, rfl, by decide +kernel, by decide +kernel⟩
def m__law_beside : SS := (sSeq (sAsg (eDx (eDisp [((eC (.str "e")), (eThen (eCons (eC (.int 1)) (eCons (eC (.int 0)) eNil)) kTup)), ((eC (.str "n")), (eThen (eCons (eC (.int 0)) (eCons (eC (.int 1)) eNil)) kTup)), ((eC (.str "s")), (eThen (eCons (eC (.int 0)) (eCons (eNeg (eC (.int 1))) eNil)) kTup)), ((eC (.str "w")), (eThen (eCons (eNeg (eC (.int 1))) (eCons (eC (.int 0)) eNil)) kTup))]) (eVar 1)) (gT 2 (gCn (gN 2) (gCn (gN 3) gNl))))
  (sRet (eThen (eCons (eAdd (eIx (eVar 0) (eC (.int 0))) (eVar 2)) (eCons (eAdd (eIx (eVar 0) (eC (.int 1))) (eVar 3)) eNil)) kTup)))
def f__law_beside : FnD := runFn 4 m__law_beside
theorem p__law_beside {P : Program} {w : World} {K : PySem.W.Frag} {mg : Str → Option Value} {base : Heap} (at_ : At0 K mg "_law_beside" s__law_beside ["_law_cell_here", "_law_letter"])  : Has P w K mg base "_law_beside" 2 f__law_beside 1 := by
  have nd := sc__law_beside.nd
  refine has_of (b := m__law_beside) (N := N__law_beside) (k := 0) at_ sc__law_beside rfl fun f cdv A outer s H E hr => ?_
  exact (ss_cons (s_asg (e_dx (u9 hr) (e_disp (u9 hr) (ds_cons k_str (e_tup (a_cons k_int (a_cons k_int a_nil))) (ds_cons k_str (e_tup (a_cons k_int (a_cons k_int a_nil))) (ds_cons k_str (e_tup (a_cons k_int (a_cons (x_neg k_int) a_nil))) (ds_cons k_str (e_tup (a_cons (x_neg k_int) (a_cons k_int a_nil))) ds_nil))))) (e_var (pv 1))) (g_tup rfl (gs_cons (g_name (i := 2) nd rfl (.inl rfl)) (gs_cons (g_name (i := 3) nd rfl (.inl rfl)) gs_nil))))
    (ss_one (s_ret (e_tup (a_cons (x_add (x_ix (e_var (pv 0)) k_int) (e_var (pv 2))) (a_cons (x_add (x_ix (e_var (pv 0)) k_int) (e_var (pv 3))) a_nil))))))
abbrev s__law_others : Stmt := topS 32
abbrev N__law_others : List Str := ["_law_cells", "_law_found", "_law_column", "_law_up"]
theorem sc__law_others : FnScope N__law_others ["_law_cells"] (defScope s__law_others) := ⟨rfl, rfl, rfl, by decide +kernel, rfl, by decide +kernel, by decide +kernel⟩
def m__law_others : SS := (sSeq (sSet 1 (eThen eNil kLst))
  (sSeq (sFor (iRg1 (eCons (eC (.int 4)) eNil)) (gN 2) (sSet 1 (eAdd (eVar 1) (eLc (iRg1 (eCons (eC (.int 4)) eNil)) (gN 3) (bT (eNin (eThen (eCons (eVar 2) (eCons (eVar 3) eNil)) kTup) (eVar 0))) (eThen (eCons (eVar 2) (eCons (eVar 3) eNil)) kTup) [3]))))
  (sRet (eVar 1))))
def f__law_others : FnD := runFn 4 m__law_others
theorem p__law_others {P : Program} {w : World} {K : PySem.W.Frag} {mg : Str → Option Value} {base : Heap} (at_ : At0 K mg "_law_others" s__law_others ["_law_cells"]) (z_range : mg "range" = none) : Has P w K mg base "_law_others" 1 f__law_others 1 := by
  have nd := sc__law_others.nd
  refine has_of (b := m__law_others) (N := N__law_others) (k := 0) at_ sc__law_others rfl fun f cdv A outer s H E hr => ?_
  exact (ss_cons (s_set (i := 1) nd rfl (.inl rfl) (e_lst a_nil))
    (ss_cons (s_for PassesOwn.never rfl (i_rg1 (by rfl) z_range (a_cons k_int a_nil)) (g_name (i := 2) nd rfl (.inr rfl)) (ss_one (s_set (i := 1) nd rfl (.inl rfl) (x_add (e_var (pv 1)) (x_lc [("_law_up", 3)] rfl nd rfl (i_rg1 (by rfl) z_range (a_cons k_int a_nil)) (blkOk_by (N := N__law_others) (sc := defScope s__law_others) (by decide +kernel)) (only_gN (by decide)) (fun _ _ _ _ _ => (v_name (i := 3) (by decide) nd rfl (.inl rfl))) (fun _ _ _ _ _ => (ts_one (y_cmp (q_nin hr) (e_tup (a_cons (e_var (pv 2)) (a_cons (e_var (pv 3)) a_nil))) (e_var (pv 0))))) (fun _ _ _ _ _ => (e_tup (a_cons (e_var (pv 2)) (a_cons (e_var (pv 3)) a_nil)))))))))
    (ss_one (s_ret (e_var (pv 1))))))
abbrev s__law_floor : Stmt := topS 33
abbrev N__law_floor : List Str := ["_law_pen_here", "_law_least_here", "_law_most_here", "_law_found", "_law_turn", "_law_near", "_law_one", "_law_side"]
theorem sc__law_floor : FnScope N__law_floor ["_law_pen_here", "_law_least_here", "_law_most_here"] (defScope s__law_floor) := ⟨rfl, rfl, rfl, by decide +kernel, rfl, by decide +kernel, by decide +kernel⟩
def m__law_floor : SS := (sSeq (sSet 3 (eThen (eCons (eThen (eCons (eCall f__law_draw (eCons (eVar 0) (eCons (eC (.int 4)) eNil))) (eCons (eCall f__law_draw (eCons (eVar 0) (eCons (eC (.int 4)) eNil))) eNil)) kTup) eNil) kLst))
  (sSeq (sFor (iRg1 (eCons (eAdd (eSub (eVar 1) (eC (.int 1))) (eCall f__law_draw (eCons (eVar 0) (eCons (eAdd (eSub (eVar 2) (eVar 1)) (eC (.int 1))) eNil)))) eNil)) (gN 4) (sSeq (sSet 5 (eLc (iSeq (eCall f__law_others (eCons (eVar 3) eNil))) (gN 6) (bT (eNe (eLc (iSeq (eC (.str "ensw"))) (gN 7) (bT (eIn (eCall f__law_beside (eCons (eVar 6) (eCons (eVar 7) eNil))) (eVar 3))) (eC (.int 1)) [7]) (eThen eNil kLst))) (eVar 6) [6]))
  (sExpr (eBM isL (eVar 3) (eCons (eCall f__law_pick (eCons (eVar 0) (eCons (eIf (bT (eGt (eCall f__law_draw (eCons (eVar 0) (eCons (eC (.int 7)) eNil))) (eC (.int 0)))) (eVar 5) (eCall f__law_others (eCons (eVar 3) eNil))) eNil))) eNil) kAppend))))
  (sRet (eThen (eCons (eThen (eCons (eVar 3) eNil) kSorted) eNil) kTupN))))
def f__law_floor : FnD := runFn 8 m__law_floor
theorem p__law_floor {P : Program} {w : World} {K : PySem.W.Frag} {mg : Str → Option Value} {base : Heap} (at_ : At0 K mg "_law_floor" s__law_floor ["_law_pen_here", "_law_least_here", "_law_most_here"]) (h__law_draw : Has P w K mg base "_law_draw" 2 f__law_draw 1) (h__law_others : Has P w K mg base "_law_others" 1 f__law_others 1) (h__law_beside : Has P w K mg base "_law_beside" 2 f__law_beside 1) (h__law_pick : Has P w K mg base "_law_pick" 2 f__law_pick 2) (z_range : mg "range" = none) (z_tuple : mg "tuple" = none) (z_sorted : mg "sorted" = none) : Has P w K mg base "_law_floor" 3 f__law_floor 3 := by
  have nd := sc__law_floor.nd
  refine has_of (b := m__law_floor) (N := N__law_floor) (k := 2) at_ sc__law_floor rfl fun f cdv A outer s H E hr => ?_
  exact (ss_cons (s_set (i := 3) nd rfl (.inr rfl) (e_lst (a_cons (e_tup (a_cons (e_fn h__law_draw (hr.mono (by decide)) (lenA_cons (lenA_cons lenA_nil)) (a_cons (e_var (pv 0)) (a_cons k_int a_nil))) (a_cons (e_fn h__law_draw (hr.mono (by decide)) (lenA_cons (lenA_cons lenA_nil)) (a_cons (e_var (pv 0)) (a_cons k_int a_nil))) a_nil))) a_nil)))
    (ss_cons (s_for PassesOwn.never rfl (i_rg1 (by rfl) z_range (a_cons (x_add (x_sub (e_var (pv 1)) k_int) (e_fn h__law_draw (hr.mono (by decide)) (lenA_cons (lenA_cons lenA_nil)) (a_cons (e_var (pv 0)) (a_cons (x_add (x_sub (e_var (pv 2)) (e_var (pv 1))) k_int) a_nil)))) a_nil)) (g_name (i := 4) nd rfl (.inl rfl)) (ss_cons (x_setLc (i := 5) [("_law_one", 6)] rfl nd rfl rfl rfl (sw_true rfl rfl rfl (by decide +kernel)) (i_seq (e_fn h__law_others (hr.mono (by decide)) (lenA_cons lenA_nil) (a_cons (e_var (pv 3)) a_nil))) (blkOk_by (N := N__law_floor) (sc := defScope s__law_floor) (by decide +kernel)) (only_gN (by decide)) (fun _ _ _ _ _ => (v_name (i := 6) (by decide) nd rfl (.inr rfl))) (fun _ _ _ _ _ => (ts_one (y_cmp (q_ne hr) (x_lc [("_law_side", 7)] rfl nd rfl (i_seq k_str) (blk2 (N := N__law_floor) (by decide +kernel)) (only_gN (by decide)) (fun _ _ _ _ _ => (v_name (i := 7) (by decide) nd rfl (.inl rfl))) (fun _ _ _ _ _ => (ts_one (y_cmp (q_in hr) (e_fn h__law_beside (hr.mono (by decide)) (lenA_cons (lenA_cons lenA_nil)) (a_cons (e_var (pv 6)) (a_cons (e_var (pv 7)) a_nil))) (e_var (pv 3))))) (fun _ _ _ _ _ => k_int)) (e_lst a_nil)))) (fun _ _ _ _ _ => (e_var (pv 6))))
    (ss_one (s_expr (m_append (e_var (pv 3)) (a_cons (e_fn h__law_pick (hr.mono (by decide)) (lenA_cons (lenA_cons lenA_nil)) (a_cons (e_var (pv 0)) (a_cons (e_if (y_cmp (q_gt hr) (e_fn h__law_draw (hr.mono (by decide)) (lenA_cons (lenA_cons lenA_nil)) (a_cons (e_var (pv 0)) (a_cons k_int a_nil))) k_int) (e_var (pv 5)) (e_fn h__law_others (hr.mono (by decide)) (lenA_cons lenA_nil) (a_cons (e_var (pv 3)) a_nil))) a_nil))) a_nil))))))
    (ss_one (s_ret (x_bty (w_tuple rfl hr) z_tuple (a_cons (x_blt (w_sorted rfl hr) z_sorted (a_cons (e_var (pv 3)) a_nil)) a_nil))))))
abbrev s__law_row : Stmt := topS 34
abbrev N__law_row : List Str := ["_law_pen_here", "_law_many", "_law_turn"]
theorem sc__law_row : FnScope N__law_row ["_law_pen_here", "_law_many"] (defScope s__law_row) := ⟨rfl, rfl, rfl, by decide +kernel, rfl, by decide +kernel, by decide +kernel⟩
def m__law_row : SS := (sRet (eBM isS (eC (.str "")) (eCons (eLc (iRg1 (eCons (eVar 1) eNil)) (gN 2) bYes (eIx (eC (.str "ensw")) (eCall f__law_draw (eCons (eVar 0) (eCons (eC (.int 4)) eNil)))) [2]) eNil) (kE oJoin)))
def f__law_row : FnD := runFn 3 m__law_row
theorem p__law_row {P : Program} {w : World} {K : PySem.W.Frag} {mg : Str → Option Value} {base : Heap} (at_ : At0 K mg "_law_row" s__law_row ["_law_pen_here", "_law_many"]) (h__law_draw : Has P w K mg base "_law_draw" 2 f__law_draw 1) (z_range : mg "range" = none) : Has P w K mg base "_law_row" 2 f__law_row 2 := by
  have nd := sc__law_row.nd
  refine has_of (b := m__law_row) (N := N__law_row) (k := 1) at_ sc__law_row rfl fun f cdv A outer s H E hr => ?_
  exact (ss_one (s_ret (m_join k_str (a_cons (x_lc [("_law_turn", 2)] rfl nd rfl (i_rg1 (by rfl) z_range (a_cons (e_var (pv 1)) a_nil)) (blkOk_by (N := N__law_row) (sc := defScope s__law_row) (by decide +kernel)) (only_gN (by decide)) (fun _ _ _ _ _ => (v_name (i := 2) (by decide) nd rfl (.inl rfl))) (fun _ _ _ _ _ => ts_yes) (fun _ _ _ _ _ => (x_ix k_str (e_fn h__law_draw (hr.mono (by decide)) (lenA_cons (lenA_cons lenA_nil)) (a_cons (e_var (pv 0)) (a_cons k_int a_nil)))))) a_nil))))
abbrev s__law_is_let : Stmt := topS 35
abbrev N__law_is_let : List Str := ["_law_floor_here", "_law_cell_here", "_law_row_here", "_law_letter"]
theorem sc__law_is_let : FnScope N__law_is_let ["_law_floor_here", "_law_cell_here", "_law_row_here"] (defScope s__law_is_let) := ⟨rfl, rfl, rfl, by decide +kernel, rfl, by decide +kernel, by decide +kernel⟩
def m__law_is_let : SS := (sSeq (sFor (iSeq (eVar 2)) (gN 3) (sSeq (sSet 1 (eCall f__law_beside (eCons (eVar 1) (eCons (eVar 3) eNil))))
  (sIf (bT (eNin (eVar 1) (eVar 0))) (sRet (eC (.bool false))) sPass)))
  (sRet (eC (.bool true))))
def f__law_is_let : FnD := runFn 4 m__law_is_let
theorem p__law_is_let {P : Program} {w : World} {K : PySem.W.Frag} {mg : Str → Option Value} {base : Heap} (at_ : At0 K mg "_law_is_let" s__law_is_let ["_law_floor_here", "_law_cell_here", "_law_row_here"]) (h__law_beside : Has P w K mg base "_law_beside" 2 f__law_beside 1) : Has P w K mg base "_law_is_let" 3 f__law_is_let 2 := by
  have nd := sc__law_is_let.nd
  refine has_of (b := m__law_is_let) (N := N__law_is_let) (k := 1) at_ sc__law_is_let rfl fun f cdv A outer s H E hr => ?_
  exact (ss_cons (s_for PassesOwn.never rfl (i_seq (e_var (pv 2))) (g_name (i := 3) nd rfl (.inl rfl)) (ss_cons (s_set (i := 1) nd rfl (.inl rfl) (e_fn h__law_beside (hr.mono (by decide)) (lenA_cons (lenA_cons lenA_nil)) (a_cons (e_var (pv 1)) (a_cons (e_var (pv 3)) a_nil))))
    (ss_one (s_if (y_cmp (q_nin hr) (e_var (pv 1)) (e_var (pv 0))) (ss_one (s_ret k_bl)) ss_nil))))
    (ss_one (s_ret k_bl)))
abbrev s__law_without : Stmt := topS 36
abbrev N__law_without : List Str := ["_law_row_here", "_law_places", "_law_place", "_law_letter"]
theorem sc__law_without : FnScope N__law_without ["_law_row_here", "_law_places"] (defScope s__law_without) := ⟨rfl, rfl, rfl, by decide +kernel, rfl, by decide +kernel, by decide +kernel⟩
def m__law_without : SS := (sRet (eBM isS (eC (.str "")) (eCons (eLc (iEn (eVar 0)) (gT 2 (gCn (gN 2) (gCn (gN 3) gNl))) (bT (eNin (eVar 2) (eVar 1))) (eVar 3) [2, 3]) eNil) (kE oJoin)))
def f__law_without : FnD := runFn 4 m__law_without
theorem p__law_without {P : Program} {w : World} {K : PySem.W.Frag} {mg : Str → Option Value} {base : Heap} (at_ : At0 K mg "_law_without" s__law_without ["_law_row_here", "_law_places"]) (z_enumerate : mg "enumerate" = none) : Has P w K mg base "_law_without" 2 f__law_without 1 := by
  have nd := sc__law_without.nd
  refine has_of (b := m__law_without) (N := N__law_without) (k := 0) at_ sc__law_without rfl fun f cdv A outer s H E hr => ?_
  exact (ss_one (s_ret (m_join k_str (a_cons (x_lc [("_law_place", 2), ("_law_letter", 3)] rfl nd rfl (i_en (by rfl) z_enumerate (e_var (pv 0))) (blkOk_by (N := N__law_without) (sc := defScope s__law_without) (by decide +kernel)) (only_gT (only_gCn (only_gN (by decide)) (only_gCn (only_gN (by decide)) only_gNl))) (fun _ _ _ _ _ => (v_tup rfl (vs_cons (v_name (i := 2) (by decide) nd rfl (.inl rfl)) (vs_cons (v_name (i := 3) (by decide) nd rfl (.inl rfl)) vs_nil)))) (fun _ _ _ _ _ => (ts_one (y_cmp (q_nin hr) (e_var (pv 2)) (e_var (pv 1))))) (fun _ _ _ _ _ => (e_var (pv 3)))) a_nil))))
abbrev s__law_lots : Stmt := topS 37
abbrev N__law_lots : List Str := ["_law_many", "_law_found", "_law_place", "_law_rows", "_law_lot", "_law_size"]
theorem sc__law_lots : FnScope N__law_lots ["_law_many"] (defScope s__law_lots) := ⟨rfl, rfl, rfl, by decide +kernel, rfl, by decide +kernel, by decide +kernel⟩
def m__law_lots : SS := (sSeq (sSet 1 (eThen (eCons (eThen eNil kTup) eNil) kLst))
  (sSeq (sFor (iRg1 (eCons (eVar 0) eNil)) (gN 2) (sSet 1 (eAdd (eVar 1) (eLc (iSeq (eVar 1)) (gN 4) bYes (eAdd (eVar 4) (eThen (eCons (eVar 2) eNil) kTup)) [4]))))
  (sSeq (sSet 3 (eThen (eCons (eLc (iSeq (eVar 1)) (gN 4) bYes (eThen (eCons (eThen (eCons (eVar 4) eNil) (kE oLen)) (eCons (eVar 4) eNil)) kTup) [4]) eNil) kSrtX))
  (sRet (eLc (iSeq (eVar 3)) (gT 2 (gCn (gN 5) (gCn (gN 4) gNl))) bYes (eVar 4) [4, 5])))))
def f__law_lots : FnD := runFn 6 m__law_lots
theorem p__law_lots {P : Program} {w : World} {K : PySem.W.Frag} {mg : Str → Option Value} {base : Heap} (at_ : At0 K mg "_law_lots" s__law_lots ["_law_many"]) (z_range : mg "range" = none) (z_sorted : mg "sorted" = none) (z_len : mg "len" = none) : Has P w K mg base "_law_lots" 1 f__law_lots 1 := by
  have nd := sc__law_lots.nd
  refine has_of (b := m__law_lots) (N := N__law_lots) (k := 0) at_ sc__law_lots rfl fun f cdv A outer s H E hr => ?_
  exact (ss_cons (s_set (i := 1) nd rfl (.inl rfl) (e_lst (a_cons (e_tup a_nil) a_nil)))
    (ss_cons (s_for PassesOwn.never rfl (i_rg1 (by rfl) z_range (a_cons (e_var (pv 0)) a_nil)) (g_name (i := 2) nd rfl (.inr rfl)) (ss_one (s_set (i := 1) nd rfl (.inl rfl) (x_add (e_var (pv 1)) (x_lc [("_law_lot", 4)] rfl nd rfl (i_seq (e_var (pv 1))) (blkOk_by (N := N__law_lots) (sc := defScope s__law_lots) (by decide +kernel)) (only_gN (by decide)) (fun _ _ _ _ _ => (v_name (i := 4) (by decide) nd rfl (.inl rfl))) (fun _ _ _ _ _ => ts_yes) (fun _ _ _ _ _ => (x_add (e_var (pv 4)) (e_tup (a_cons (e_var (pv 2)) a_nil)))))))))
    (ss_cons (s_set (i := 3) nd rfl (.inl rfl) (x_blt (w_srtX hr) z_sorted (a_cons (x_lc [("_law_lot", 4)] rfl nd rfl (i_seq (e_var (pv 1))) (blkOk_by (N := N__law_lots) (sc := defScope s__law_lots) (by decide +kernel)) (only_gN (by decide)) (fun _ _ _ _ _ => (v_name (i := 4) (by decide) nd rfl (.inl rfl))) (fun _ _ _ _ _ => ts_yes) (fun _ _ _ _ _ => (e_tup (a_cons (x_blt (w_len rfl hr) z_len (a_cons (e_var (pv 4)) a_nil)) (a_cons (e_var (pv 4)) a_nil))))) a_nil)))
    (ss_one (s_ret (x_lc [("_law_lot", 4), ("_law_size", 5)] rfl nd rfl (i_seq (e_var (pv 3))) (blkOk_by (N := N__law_lots) (sc := defScope s__law_lots) (by decide +kernel)) (only_gT (only_gCn (only_gN (by decide)) (only_gCn (only_gN (by decide)) only_gNl))) (fun _ _ _ _ _ => (v_tup rfl (vs_cons (v_name (i := 5) (by decide) nd rfl (.inl rfl)) (vs_cons (v_name (i := 4) (by decide) nd rfl (.inl rfl)) vs_nil)))) (fun _ _ _ _ _ => ts_yes) (fun _ _ _ _ _ => (e_var (pv 4)))))))))
abbrev s__law_least : Stmt := topS 38
abbrev N__law_least : List Str := ["_law_floor_here", "_law_cell_here", "_law_row_here", "_law_lot"]
theorem sc__law_least : FnScope N__law_least ["_law_floor_here", "_law_cell_here", "_law_row_here"] (defScope s__law_least) := ⟨rfl, rfl, rfl, by decide +kernel, rfl, by decide +kernel, by decide +kernel⟩
def m__law_least : SS := (sSeq (sFor (iSeq (eCall f__law_lots (eCons (eThen (eCons (eVar 2) eNil) (kE oLen)) eNil))) (gN 3) (sIf (bT (eCall f__law_is_let (eCons (eVar 0) (eCons (eVar 1) (eCons (eCall f__law_without (eCons (eVar 2) (eCons (eVar 3) eNil))) eNil))))) (sRet (eVar 3)) sPass))
  (sRet (eC .none)))
def f__law_least : FnD := runFn 4 m__law_least
theorem p__law_least {P : Program} {w : World} {K : PySem.W.Frag} {mg : Str → Option Value} {base : Heap} (at_ : At0 K mg "_law_least" s__law_least ["_law_floor_here", "_law_cell_here", "_law_row_here"]) (h__law_lots : Has P w K mg base "_law_lots" 1 f__law_lots 1) (h__law_is_let : Has P w K mg base "_law_is_let" 3 f__law_is_let 2) (h__law_without : Has P w K mg base "_law_without" 2 f__law_without 1) (z_len : mg "len" = none) : Has P w K mg base "_law_least" 3 f__law_least 3 := by
  have nd := sc__law_least.nd
  refine has_of (b := m__law_least) (N := N__law_least) (k := 2) at_ sc__law_least rfl fun f cdv A outer s H E hr => ?_
  exact (ss_cons (s_for PassesOwn.never rfl (i_seq (e_fn h__law_lots (hr.mono (by decide)) (lenA_cons lenA_nil) (a_cons (x_blt (w_len rfl hr) z_len (a_cons (e_var (pv 2)) a_nil)) a_nil))) (g_name (i := 3) nd rfl (.inl rfl)) (ss_one (s_if (b_truth (e_fn h__law_is_let (hr.mono (by decide)) (lenA_cons (lenA_cons (lenA_cons lenA_nil))) (a_cons (e_var (pv 0)) (a_cons (e_var (pv 1)) (a_cons (e_fn h__law_without (hr.mono (by decide)) (lenA_cons (lenA_cons lenA_nil)) (a_cons (e_var (pv 2)) (a_cons (e_var (pv 3)) a_nil))) a_nil))))) (ss_one (s_ret (e_var (pv 3)))) ss_nil)))
    (ss_one (s_ret k_non)))
abbrev s__law_most : Stmt := topS 39
abbrev N__law_most : List Str := ["_law_floor_here", "_law_cell_here", "_law_row_here", "_law_most_here", "_law_letter", "_law_later", "_law_here", "_law_there"]
theorem sc__law_most : FnScope N__law_most ["_law_floor_here", "_law_cell_here", "_law_row_here"] (defScope s__law_most) := ⟨rfl, rfl, rfl, by decide +kernel, rfl, by decide +kernel, by decide +kernel⟩
def m__law_most : SS := (sSeq (sSet 3 (eDisp [((eVar 1), (eC (.int 0)))]))
  (sSeq (sFor (iSeq (eVar 2)) (gN 4) (sSeq (sSet 5 (eThen (eCons (eLit (eVar 3)) eNil) kDict))
  (sSeq (sFor (iKeysN (eVar 3)) (gN 6) (sSeq (sSet 7 (eCall f__law_beside (eCons (eVar 6) (eCons (eVar 4) eNil))))
  (sIf (bT (eIn (eVar 7) (eVar 0))) (sAsg (eThen (eCons (eGt2 (eVar 5) (eVar 7) (eC (.int 0))) (eCons (eAdd (eDg (eVar 3) (eVar 6)) (eC (.int 1))) eNil)) (kE oMax)) (gDs (eVar 5) (eVar 7))) sPass)))
  (sMov 3 5))))
  (sRet (eThen (eCons (eLvl (eVar 3)) eNil) (kE oMax)))))
def f__law_most : FnD := runFn 8 m__law_most
theorem p__law_most {P : Program} {w : World} {K : PySem.W.Frag} {mg : Str → Option Value} {base : Heap} (at_ : At0 K mg "_law_most" s__law_most ["_law_floor_here", "_law_cell_here", "_law_row_here"]) (h__law_beside : Has P w K mg base "_law_beside" 2 f__law_beside 1) (z_dict : mg "dict" = none) (z_list : mg "list" = none) (z_max : mg "max" = none) : Has P w K mg base "_law_most" 3 f__law_most 2 := by
  have nd := sc__law_most.nd
  refine has_of (b := m__law_most) (N := N__law_most) (k := 1) at_ sc__law_most rfl fun f cdv A outer s H E hr => ?_
  exact (ss_cons (s_set (i := 3) nd rfl (.inl rfl) (e_disp (u9 hr) (ds_cons (e_var (pv 1)) k_int ds_nil)))
    (ss_cons (s_for PassesOwn.never rfl (i_seq (e_var (pv 2))) (g_name (i := 4) nd rfl (.inl rfl)) (ss_cons (s_set (i := 5) nd rfl (.inl rfl) (x_bty (w_dict rfl hr) z_dict (a_cons (e_lit rfl z_list (e_var (pv 3))) a_nil)))
    (ss_cons (s_for PassesOwn.never rfl (i_keysN (e_var (pv 3))) (g_name (i := 6) nd rfl (.inl rfl)) (ss_cons (s_set (i := 7) nd rfl (.inl rfl) (e_fn h__law_beside (hr.mono (by decide)) (lenA_cons (lenA_cons lenA_nil)) (a_cons (e_var (pv 6)) (a_cons (e_var (pv 4)) a_nil))))
    (ss_one (s_if (y_cmp (q_in hr) (e_var (pv 7)) (e_var (pv 0))) (ss_one (s_asg (x_blt (w_max rfl hr) z_max (a_cons (e_gt2 (u9 hr) (e_var (pv 5)) (e_var (pv 7)) k_int) (a_cons (x_add (e_dg (u9 hr) (e_var (pv 3)) (e_var (pv 6))) k_int) a_nil))) (g_dsub (u9 hr) (e_var (pv 5)) (e_var (pv 7))))) ss_nil))))
    (ss_one (s_mov (i := 3) nd rfl (.inl rfl) (pv 5))))))
    (ss_one (s_ret (x_blt (w_max rfl hr) z_max (a_cons (e_lvl rfl z_list (e_var (pv 3))) a_nil))))))
abbrev s__law_few : Stmt := topS 40
abbrev N__law_few : List Str := ["_law_floor_here", "_law_row_here", "_law_found", "_law_letter", "_law_few_here", "_law_here"]
theorem sc__law_few : FnScope N__law_few ["_law_floor_here", "_law_row_here"] (defScope s__law_few) := ⟨rfl, rfl, rfl, by decide +kernel, rfl, by decide +kernel, by decide +kernel⟩
def m__law_few : SS := (sSeq (sSet 2 (eThen (eCons (eThen (eCons (eLc (iSeq (eVar 0)) (gN 5) bYes (eThen (eCons (eVar 5) (eCons (eC (.int 0)) eNil)) kTup) [5]) eNil) kDict) eNil) kLst))
  (sSeq (sFor (iSeq (eRevS (eVar 1))) (gN 3) (sSeq (sSet 4 eDnew)
  (sSeq (sFor (iSeq (eVar 0)) (gN 5) (sAsg (eThen (eCons (eAdd (eC (.int 1)) (eDx (eIx (eVar 2) (eC (.int 0))) (eVar 5))) (eCons (eGt2D (eIx (eVar 2) (eC (.int 0))) (eCall f__law_beside (eCons (eVar 5) (eCons (eVar 3) eNil))) (eC (.int 61))) eNil)) (kE oMin)) (gDs (eVar 4) (eVar 5))))
  (sFrz 4 (sSet 2 (eAdd (eThen (eCons (eVar 4) eNil) kLst) (eVar 2)))))))
  (sRet (eVar 2))))
def f__law_few : FnD := runFn 6 m__law_few
theorem p__law_few {P : Program} {w : World} {K : PySem.W.Frag} {mg : Str → Option Value} {base : Heap} (at_ : At0 K mg "_law_few" s__law_few ["_law_floor_here", "_law_row_here"]) (h__law_beside : Has P w K mg base "_law_beside" 2 f__law_beside 1) (z_dict : mg "dict" = none) (z_min : mg "min" = none) : Has P w K mg base "_law_few" 2 f__law_few 2 := by
  have nd := sc__law_few.nd
  refine has_of (b := m__law_few) (N := N__law_few) (k := 1) at_ sc__law_few rfl fun f cdv A outer s H E hr => ?_
  exact (ss_cons (s_set (i := 2) nd rfl (.inl rfl) (e_lst (a_cons (x_bty (w_dict rfl hr) z_dict (a_cons (x_lc [("_law_here", 5)] rfl nd rfl (i_seq (e_var (pv 0))) (blkOk_by (N := N__law_few) (sc := defScope s__law_few) (by decide +kernel)) (only_gN (by decide)) (fun _ _ _ _ _ => (v_name (i := 5) (by decide) nd rfl (.inl rfl))) (fun _ _ _ _ _ => ts_yes) (fun _ _ _ _ _ => (e_tup (a_cons (e_var (pv 5)) (a_cons k_int a_nil))))) a_nil)) a_nil)))
    (ss_cons (s_for PassesOwn.never rfl (i_seq (e_revS (e_var (pv 1)))) (g_name (i := 3) nd rfl (.inl rfl)) (ss_cons (s_set (i := 4) nd rfl (.inl rfl) x_dnew)
    (ss_cons (s_for PassesOwn.never rfl (i_seq (e_var (pv 0))) (g_name (i := 5) nd rfl (.inl rfl)) (ss_one (s_asg (x_blt (w_min rfl hr) z_min (a_cons (x_add k_int (e_dx (u9 hr) (x_ix (e_var (pv 2)) k_int) (e_var (pv 5)))) (a_cons (e_gt2D (u9 hr) (x_ix (e_var (pv 2)) k_int) (e_fn h__law_beside (hr.mono (by decide)) (lenA_cons (lenA_cons lenA_nil)) (a_cons (e_var (pv 5)) (a_cons (e_var (pv 3)) a_nil))) k_int) a_nil))) (g_dsub (u9 hr) (e_var (pv 4)) (e_var (pv 5))))))
    (ss_one (s_frz (s_set (i := 2) nd rfl (.inl rfl) (x_add (e_lst (a_cons (e_var (pv 4)) a_nil)) (e_var (pv 2)))))))))
    (ss_one (s_ret (e_var (pv 2))))))
abbrev s__law_least_long : Stmt := topS 41
abbrev N__law_least_long : List Str := ["_law_floor_here", "_law_cell_here", "_law_row_here", "_law_few_here", "_law_found", "_law_place", "_law_letter"]
theorem sc__law_least_long : FnScope N__law_least_long ["_law_floor_here", "_law_cell_here", "_law_row_here"] (defScope s__law_least_long) := ⟨rfl, rfl, rfl, by decide +kernel, rfl, by decide +kernel, by decide +kernel⟩
def m__law_least_long : SS := (sSeq (sPar 3 4 (eCons (eCall f__law_few (eCons (eVar 0) (eCons (eVar 2) eNil))) (eCons (eThen eNil kLst) eNil)))
  (sSeq (sFor (iEn (eVar 2)) (gT 2 (gCn (gN 5) (gCn (gN 6) gNl))) (sIf (bT (eEq (eDx (eIx (eVar 3) (eVar 5)) (eVar 1)) (eAdd (eC (.int 1)) (eDx (eIx (eVar 3) (eAdd (eVar 5) (eC (.int 1)))) (eVar 1))))) (sExpr (eBM isL (eVar 4) (eCons (eVar 5) eNil) kAppend)) (sSet 1 (eCall f__law_beside (eCons (eVar 1) (eCons (eVar 6) eNil))))))
  (sRet (eThen (eCons (eVar 4) eNil) kTupN))))
def f__law_least_long : FnD := runFn 7 m__law_least_long
theorem p__law_least_long {P : Program} {w : World} {K : PySem.W.Frag} {mg : Str → Option Value} {base : Heap} (at_ : At0 K mg "_law_least_long" s__law_least_long ["_law_floor_here", "_law_cell_here", "_law_row_here"]) (h__law_few : Has P w K mg base "_law_few" 2 f__law_few 2) (h__law_beside : Has P w K mg base "_law_beside" 2 f__law_beside 1) (z_enumerate : mg "enumerate" = none) (z_tuple : mg "tuple" = none) : Has P w K mg base "_law_least_long" 3 f__law_least_long 3 := by
  have nd := sc__law_least_long.nd
  refine has_of (b := m__law_least_long) (N := N__law_least_long) (k := 2) at_ sc__law_least_long rfl fun f cdv A outer s H E hr => ?_
  exact (ss_cons (s_par (i := 3) (j := 4) rfl nd rfl rfl (by decide) rfl rfl (a_cons (e_fn h__law_few (hr.mono (by decide)) (lenA_cons (lenA_cons lenA_nil)) (a_cons (e_var (pv 0)) (a_cons (e_var (pv 2)) a_nil))) (a_cons (e_lst a_nil) a_nil)) rfl)
    (ss_cons (s_for PassesOwn.never rfl (i_en (by rfl) z_enumerate (e_var (pv 2))) (g_tup rfl (gs_cons (g_name (i := 5) nd rfl (.inl rfl)) (gs_cons (g_name (i := 6) nd rfl (.inl rfl)) gs_nil))) (ss_one (s_if (y_cmp (q_eq hr) (e_dx (u9 hr) (x_ix (e_var (pv 3)) (e_var (pv 5))) (e_var (pv 1))) (x_add k_int (e_dx (u9 hr) (x_ix (e_var (pv 3)) (x_add (e_var (pv 5)) k_int)) (e_var (pv 1))))) (ss_one (s_expr (m_append (e_var (pv 4)) (a_cons (e_var (pv 5)) a_nil)))) (ss_one (s_set (i := 1) nd rfl (.inl rfl) (e_fn h__law_beside (hr.mono (by decide)) (lenA_cons (lenA_cons lenA_nil)) (a_cons (e_var (pv 1)) (a_cons (e_var (pv 6)) a_nil))))))))
    (ss_one (s_ret (x_bty (w_tuple rfl hr) z_tuple (a_cons (e_var (pv 4)) a_nil))))))
abbrev s_law : Stmt := topS 42
abbrev N_law : List Str := ["_law_script", "_law_k", "_law_pen_here", "_law_turn", "_law_floor_here", "_law_cell_here", "_law_short", "_law_kept", "_law_due", "_law_long", "_law_told", "_law_lap"]
theorem sc_law : FnScope N_law ["_law_script"] (defScope s_law) := ⟨rfl, rfl, rfl, by decide +kernel, rfl, by decide +kernel, by decide +kernel⟩
def m_law : SS := (sSeq (sFor (iRg1 (eCons (eThen (eCons (eC (.int 1)) (eCons (eThen (eCons (eThen (eCons (eVar 0) eNil) (kE oLen)) (eCons (eC (.int 4)) eNil)) (kE oMin)) eNil)) (kE oMax)) eNil)) (gN 1) (sSeq (sSet 2 (eCall f__law_pen (eCons (eCall f__law_cell (eCons (eVar 0) (eCons (eVar 1) eNil))) eNil)))
  (sFor (iRg1 (eCons (eC (.int 3)) eNil)) (gN 3) (sSeq (sSet 4 (eCall f__law_floor (eCons (eVar 2) (eCons (eC (.int 1)) (eCons (eC (.int 9)) eNil)))))
  (sSeq (sParN [5, 6] (eCons (eCall f__law_pick (eCons (eVar 2) (eCons (eThen (eCons (eVar 4) eNil) (kL oList)) eNil))) (eCons (eCall f__law_row (eCons (eVar 2) (eCons (eCall f__law_draw (eCons (eVar 2) (eCons (eC (.int 8)) eNil))) eNil))) eNil)))
  (sSeq (sPar 7 8 (eCons (eThen (eCons (eThen (eCons (eVar 4) (eCons (eVar 5) eNil)) kTup) eNil) (kE oReprZ)) (eCons (eThen (eCons (eCall f__law_least (eCons (eVar 4) (eCons (eVar 5) (eCons (eVar 6) eNil)))) eNil) (kE oReprZ)) eNil)))
  (sSeq (sIf (bT (eNex (eLc (iRg1 (eCons (eC (.int 2)) eNil)) (gN 11) bYes (eThen (eCons (eCall f_left_out (eCons (eVar 4) (eCons (eVar 5) (eCons (eVar 6) eNil)))) eNil) (kE oReprZ)) [11]) (eMul2 (eThen (eCons (eVar 8) eNil) kLst) (eC (.int 2))))) (sRet (eC (.bool false))) sPass)
  (sSeq (sSet 9 (eCall f__law_row (eCons (eVar 2) (eCons (eIx (eThen (eCons (eC (.int 60)) (eCons (eAdd (eC (.int 20)) (eCall f__law_draw (eCons (eVar 2) (eCons (eC (.int 40)) eNil)))) eNil)) kLst) (eCall f__law_draw (eCons (eVar 2) (eCons (eC (.int 2)) eNil)))) eNil))))
  (sSeq (sSet 10 (eCall f_left_out (eCons (eVar 4) (eCons (eVar 5) (eCons (eVar 9) eNil)))))
  (sSeq (sIf (bT (eNex (eThen (eCons (eVar 10) eNil) (kE oReprZ)) (eThen (eCons (eCall f__law_least_long (eCons (eVar 4) (eCons (eVar 5) (eCons (eVar 9) eNil)))) eNil) (kE oReprZ)))) (sRet (eC (.bool false))) sPass)
  (sSeq (sIf (bOr (bT (eNex (eThen (eCons (eVar 10) eNil) (kE oLen)) (eSub (eThen (eCons (eVar 9) eNil) (kE oLen)) (eCall f__law_most (eCons (eVar 4) (eCons (eVar 5) (eCons (eVar 9) eNil))))))) (bT (eNex (eThen (eCons (eVar 10) eNil) (kL oList)) (eThen (eOne (eVar 10)) kSrtTI)))) (sRet (eC (.bool false))) sPass)
  (sSeq (sIf (bOr (bNot (bT (eCall f__law_is_let (eCons (eVar 4) (eCons (eVar 5) (eCons (eCall f__law_without (eCons (eVar 9) (eCons (eVar 10) eNil))) eNil)))))) (bT (eNex (eCall f_left_out (eCons (eVar 4) (eCons (eVar 5) (eCons (eVar 9) eNil)))) (eVar 10)))) (sRet (eC (.bool false))) sPass)
  (sIf (bT (eNex (eThen (eCons (eThen (eCons (eVar 4) (eCons (eVar 5) eNil)) kTup) eNil) (kE oReprZ)) (eVar 7))) (sRet (eC (.bool false))) sPass)))))))))))))
  (sRet (eC (.bool true))))
def f_law : FnD := runFn 12 m_law
theorem q_law {P : Program} {w : World} {K : PySem.W.Frag} {mg : Str → Option Value} {base : Heap} {f : Addr} {fd : FuncData} (Fn : Fun K "law" "law" s_law f fd) (h__law_pen : Has P w K mg base "_law_pen" 1 f__law_pen 1) (h__law_cell : Has P w K mg base "_law_cell" 2 f__law_cell 1) (h__law_floor : Has P w K mg base "_law_floor" 3 f__law_floor 3) (h__law_row : Has P w K mg base "_law_row" 2 f__law_row 2) (h__law_draw : Has P w K mg base "_law_draw" 2 f__law_draw 1) (h__law_pick : Has P w K mg base "_law_pick" 2 f__law_pick 2) (h__law_least : Has P w K mg base "_law_least" 3 f__law_least 3) (h_left_out : Has P w K mg base "left_out" 3 f_left_out 6) (h__law_least_long : Has P w K mg base "_law_least_long" 3 f__law_least_long 3) (h__law_most : Has P w K mg base "_law_most" 3 f__law_most 2) (h__law_is_let : Has P w K mg base "_law_is_let" 3 f__law_is_let 2) (h__law_without : Has P w K mg base "_law_without" 2 f__law_without 1) (z_range : mg "range" = none) (z_max : mg "max" = none) (z_min : mg "min" = none) (z_len : mg "len" = none) (z_list : mg "list" = none) (z_repr : mg "repr" = none) (z_sorted : mg "sorted" = none) (z_set : mg "set" = none) : FnG P w K mg base 7 f fd ["_law_script"] (spF K f_law 1) := by
  have nd := sc_law.nd
  refine fn_okG (b := m_law) (N := N_law) (k := 6) Fn sc_law rfl fun cdv A outer s H E hr gd => ?_
  exact (ss_cons (s_for PassesOwn.never rfl (i_rg1 (by rfl) z_range (a_cons (x_blt (w_max rfl hr) z_max (a_cons k_int (a_cons (x_blt (w_min rfl hr) z_min (a_cons (x_blt (w_len rfl hr) z_len (a_cons (e_var (pv 0)) a_nil)) (a_cons k_int a_nil))) a_nil))) a_nil)) (g_name (i := 1) nd rfl (.inl rfl)) (ss_cons (s_set (i := 2) nd rfl (.inl rfl) (e_fn h__law_pen (hr.mono (by decide)) (lenA_cons lenA_nil) (a_cons (e_fn h__law_cell (hr.mono (by decide)) (lenA_cons (lenA_cons lenA_nil)) (a_cons (e_var (pv 0)) (a_cons (e_var (pv 1)) a_nil))) a_nil)))
    (ss_one (s_for PassesOwn.never rfl (i_rg1 (by rfl) z_range (a_cons k_int a_nil)) (g_name (i := 3) nd rfl (.inl rfl)) (ss_cons (s_set (i := 4) nd rfl (.inr rfl) (e_fn h__law_floor (hr.mono (by decide)) (lenA_cons (lenA_cons (lenA_cons lenA_nil))) (a_cons (e_var (pv 2)) (a_cons k_int (a_cons k_int a_nil)))))
    (ss_cons (s_parN rfl (a_cons (e_fn h__law_pick (hr.mono (by decide)) (lenA_cons (lenA_cons lenA_nil)) (a_cons (e_var (pv 2)) (a_cons (x_bty (w_list rfl hr) z_list (a_cons (e_var (pv 4)) a_nil)) a_nil))) (a_cons (e_fn h__law_row (hr.mono (by decide)) (lenA_cons (lenA_cons lenA_nil)) (a_cons (e_var (pv 2)) (a_cons (e_fn h__law_draw (hr.mono (by decide)) (lenA_cons (lenA_cons lenA_nil)) (a_cons (e_var (pv 2)) (a_cons k_int a_nil))) a_nil))) a_nil)) (ns_cons (pg_name (i := 5) nd rfl (.inr rfl)) (ns_cons (pg_name (i := 6) nd rfl (.inr rfl)) ns_nil)))
    (ss_cons (s_par (i := 7) (j := 8) rfl nd rfl rfl (by decide) rfl rfl (a_cons (x_blt (w_reprZ gd hr) z_repr (a_cons (e_tup (a_cons (e_var (pv 4)) (a_cons (e_var (pv 5)) a_nil))) a_nil)) (a_cons (x_blt (w_reprZ gd hr) z_repr (a_cons (e_fn h__law_least (hr.mono (by decide)) (lenA_cons (lenA_cons (lenA_cons lenA_nil))) (a_cons (e_var (pv 4)) (a_cons (e_var (pv 5)) (a_cons (e_var (pv 6)) a_nil)))) a_nil)) a_nil)) rfl)
    (ss_cons (s_if (y_cmp (q_nex hr) (x_lc [("_law_lap", 11)] rfl nd rfl (i_rg1 (by rfl) z_range (a_cons k_int a_nil)) (blkOk_by (N := N_law) (sc := defScope s_law) (by decide +kernel)) (only_gN (by decide)) (fun _ _ _ _ _ => (v_name (i := 11) (by decide) nd rfl (.inl rfl))) (fun _ _ _ _ _ => ts_yes) (fun _ _ _ _ _ => (x_blt (w_reprZ gd hr) z_repr (a_cons (e_fn h_left_out (hr.mono (by decide)) (lenA_cons (lenA_cons (lenA_cons lenA_nil))) (a_cons (e_var (pv 4)) (a_cons (e_var (pv 5)) (a_cons (e_var (pv 6)) a_nil)))) a_nil)))) (x_mul2 (e_lst (a_cons (e_var (pv 8)) a_nil)) k_int)) (ss_one (s_ret k_bl)) ss_nil)
    (ss_cons (s_set (i := 9) nd rfl (.inl rfl) (e_fn h__law_row (hr.mono (by decide)) (lenA_cons (lenA_cons lenA_nil)) (a_cons (e_var (pv 2)) (a_cons (x_ix (e_lst (a_cons k_int (a_cons (x_add k_int (e_fn h__law_draw (hr.mono (by decide)) (lenA_cons (lenA_cons lenA_nil)) (a_cons (e_var (pv 2)) (a_cons k_int a_nil)))) a_nil))) (e_fn h__law_draw (hr.mono (by decide)) (lenA_cons (lenA_cons lenA_nil)) (a_cons (e_var (pv 2)) (a_cons k_int a_nil)))) a_nil))))
    (ss_cons (s_set (i := 10) nd rfl (.inl rfl) (e_fn h_left_out (hr.mono (by decide)) (lenA_cons (lenA_cons (lenA_cons lenA_nil))) (a_cons (e_var (pv 4)) (a_cons (e_var (pv 5)) (a_cons (e_var (pv 9)) a_nil)))))
    (ss_cons (s_if (y_cmp (q_nex hr) (x_blt (w_reprZ gd hr) z_repr (a_cons (e_var (pv 10)) a_nil)) (x_blt (w_reprZ gd hr) z_repr (a_cons (e_fn h__law_least_long (hr.mono (by decide)) (lenA_cons (lenA_cons (lenA_cons lenA_nil))) (a_cons (e_var (pv 4)) (a_cons (e_var (pv 5)) (a_cons (e_var (pv 9)) a_nil)))) a_nil))) (ss_one (s_ret k_bl)) ss_nil)
    (ss_cons (s_if (PW.pt (b_or (y_cmp (q_nex hr) (x_blt (w_len rfl hr) z_len (a_cons (e_var (pv 10)) a_nil)) (x_sub (x_blt (w_len rfl hr) z_len (a_cons (e_var (pv 9)) a_nil)) (e_fn h__law_most (hr.mono (by decide)) (lenA_cons (lenA_cons (lenA_cons lenA_nil))) (a_cons (e_var (pv 4)) (a_cons (e_var (pv 5)) (a_cons (e_var (pv 9)) a_nil)))))) (b_or1 (y_cmp (q_nex hr) (x_bty (w_list rfl hr) z_list (a_cons (e_var (pv 10)) a_nil)) (x_srtTI z_sorted z_set (e_var (pv 10))))))) (ss_one (s_ret k_bl)) ss_nil)
    (ss_cons (s_if (PW.pt (b_or (b_not (b_truth (e_fn h__law_is_let (hr.mono (by decide)) (lenA_cons (lenA_cons (lenA_cons lenA_nil))) (a_cons (e_var (pv 4)) (a_cons (e_var (pv 5)) (a_cons (e_fn h__law_without (hr.mono (by decide)) (lenA_cons (lenA_cons lenA_nil)) (a_cons (e_var (pv 9)) (a_cons (e_var (pv 10)) a_nil))) a_nil)))))) (b_or1 (y_cmp (q_nex hr) (e_fn h_left_out (hr.mono (by decide)) (lenA_cons (lenA_cons (lenA_cons lenA_nil))) (a_cons (e_var (pv 4)) (a_cons (e_var (pv 5)) (a_cons (e_var (pv 9)) a_nil)))) (e_var (pv 10)))))) (ss_one (s_ret k_bl)) ss_nil)
    (ss_one (s_if (y_cmp (q_nex hr) (x_blt (w_reprZ gd hr) z_repr (a_cons (e_tup (a_cons (e_var (pv 4)) (a_cons (e_var (pv 5)) a_nil))) a_nil)) (e_var (pv 7))) (ss_one (s_ret k_bl)) ss_nil)))))))))))))))
    (ss_one (s_ret k_bl)))
end
end L59

end
section
set_option linter.all false
set_option autoImplicit false
set_option Elab.async false
namespace MM
open PySem L2 T3
theorem pl_cell (c : Cell) : pl 1 (clD c) = true := rfl
theorem pl_tup {α : Type} {n : Nat} {f : α → PyData} {xs : List α} (h : ∀ x ∈ xs, pl n (f x) = true) : pl (n + 1) (.tuple (xs.map f)) = true := by
  simpa [pl] using h
theorem pl_lst {α : Type} {n : Nat} {f : α → PyData} {xs : List α} (h : ∀ x ∈ xs, pl n (f x) = true) : pl (n + 1) (.list (xs.map f)) = true := by
  simpa [pl] using h
end MM

end
section
set_option linter.all false
set_option autoImplicit false
set_option Elab.async false
namespace MM
open PySem L2 T3
theorem pl_in1 {x : PyData} {xs : List PyData} {n m : Nat} (h : pl n x = true) (h' : ∀ y ∈ xs, pl m y = true) (hn : n ≤ 50) (hm : m ≤ 50) (neg : Bool) {c : PyData} (hc : c = .tuple xs ∨ c = .list xs) (hx : x ∈ xs) : oIn neg [x, c] = some (.bool (!neg)) := by
  haveI := Classical.propDecidable (x ∈ xs)
  rw [pl_in h h' hn hm neg c hc]
  cases neg <;> simp [hx]
theorem pl_in0 {x : PyData} {xs : List PyData} {n m : Nat} (h : pl n x = true) (h' : ∀ y ∈ xs, pl m y = true) (hn : n ≤ 50) (hm : m ≤ 50) (neg : Bool) {c : PyData} (hc : c = .tuple xs ∨ c = .list xs) (hx : x ∉ xs) : oIn neg [x, c] = some (.bool neg) := by
  haveI := Classical.propDecidable (x ∈ xs)
  rw [pl_in h h' hn hm neg c hc]
  cases neg <;> simp [hx]
theorem clD_inj {a b : Cell} (h : clD a = clD b) : a = b := by
  obtain ⟨a1, a2⟩ := a
  obtain ⟨b1, b2⟩ := b
  simp [clD] at h
  rw [h.1, h.2]
theorem mem_clD {c : Cell} {F : List Cell} : clD c ∈ F.map clD ↔ c ∈ F := by
  constructor
  · intro h
    obtain ⟨d, hd, e⟩ := List.mem_map.mp h
    rw [← clD_inj e]
    exact hd
  · exact fun h => List.mem_map.mpr ⟨c, h, rfl⟩
theorem pl_cells (F : List Cell) : ∀ y ∈ F.map clD, pl 1 y = true := by
  intro y hy
  obtain ⟨c, _, rfl⟩ := List.mem_map.mp hy
  rfl
theorem ix20 (a b : PyData) : oIx [.tuple [a, b], .int 0] = some a := rfl
theorem ix21 (a b : PyData) : oIx [.tuple [a, b], .int 1] = some b := rfl
theorem wS_gen {f : SS} {env : Sl} {P : Fl → Sl → Prop} (h : ∀ E, E = env → wS f E P) : wS f env P := h env rfl
theorem al_start {k n : Nat} {as : List S} (h : as.length = k) (l : k ≤ n) : Al k n (startE n as) := by
  subst h
  exact Al.start as l
end MM

end
section
set_option linter.all false
set_option autoImplicit false
set_option Elab.async false
set_option maxRecDepth 10000
set_option maxHeartbeats 4000000
namespace L59
open PySem L2 T3 MM
theorem is_whole_int (i m : Int) : f_is_whole [.pd (.int i), .pd (.int m)] = some (.pd (.bool (decide (0 ≤ i) && decide (i ≤ m))), [.pd (.int i), .pd (.int m)]) := by
  unfold f_is_whole
  rw [run_of (e := [some (.pd (.int i)), some (.pd (.int m))]) rfl]
  simp [m_is_whole, oIsiZ, oIsi, isi5, eCh, Cm.f]
  by_cases h : 0 ≤ i <;> simp [h]
def inB (c : Cell) : Bool := (decide (0 ≤ c.1) && decide (c.1 ≤ 3)) && (decide (0 ≤ c.2) && decide (c.2 ≤ 3))
theorem is_cell_sp (c : Cell) : f_is_cell [.pd (clD c)] = some (.pd (.bool (inB c)), [.pd (clD c)]) := by
  unfold f_is_cell
  rw [run_of (e := [some (.pd (clD c)), none, none]) rfl]
  simp [m_is_cell, clD, oIsiZ, oIsi, isi5, oLen, eNe, oNe, sh_int, eqv_int, is_whole_int, v_LAST_LINE, inB]
  by_cases h1 : 0 ≤ c.1 <;> by_cases h2 : c.1 ≤ 3 <;> simp [h1, h2]
def ltC (c d : Cell) : Bool := HT.lexLt [c.1, c.2] [d.1, d.2]
def chain : List Cell → Bool
  | c :: d :: r => ltC c d && chain (d :: r)
  | _ => true
theorem zip_cells : ∀ cs : List Cell, zipD (cs.map clD) (cs.tail.map clD) = (cs.zip cs.tail).map fun p => .tuple [clD p.1, clD p.2] := by
  intro cs
  have : ∀ (as bs : List Cell), zipD (as.map clD) (bs.map clD) = (as.zip bs).map fun p => .tuple [clD p.1, clD p.2] := by
    intro as
    induction as with
    | nil => intro bs; simp [zipD]
    | cons a as ih =>
      intro bs
      cases bs with
      | nil => simp [zipD]
      | cons b bs =>
        have := ih bs
        simp only [zipD] at this ⊢
        simp [this]
  exact this cs cs.tail
theorem chain_all : ∀ cs : List Cell, ((cs.zip cs.tail).map fun p => ltC p.1 p.2).all id = chain cs
  | [] => rfl
  | [_] => rfl
  | c :: d :: r => by
    have := chain_all (d :: r)
    simp only [List.tail_cons] at this ⊢
    simp [chain, this]
theorem cut1_d (xs : List PyData) : cutD xs (some 1) none = xs.tail := by
  unfold cutD
  rw [show HT.sIx xs.length 0 (some 1) = min 1 xs.length from HT.sIx_nat xs.length 0 1, HT.sIx_none]
  cases xs with
  | nil => rfl
  | cons x r => simp
theorem is_rising_sp (cs : List Cell) (h9 : cs.length ≤ 1000) : f_is_rising [.nt (cs.map clD)] = some (.pd (.bool (chain cs)), [.nt (cs.map clD)]) := by
  unfold f_is_rising
  rw [run_of (e := [some (.nt (cs.map clD)), none, none]) rfl]
  have e : lcL (gT 2 (gCn (gN 1) (gCn (gN 2) gNl))) bYes (eLt (eVar 1) (eVar 2)) [1, 2] ((cs.zip cs.tail).map fun p => .tuple [clD p.1, clD p.2]) [some (.nt (cs.map clD)), none, none] [] = some ((cs.zip cs.tail).map (fun p => .bool (ltC p.1 p.2)), [some (.nt (cs.map clD)), none, none]) :=
    lcL_all (cs.zip cs.tail) fun p _ => ⟨[some (.nt (cs.map clD)), some (.pd (clD p.1)), some (.pd (clD p.2))], .pd (.bool (ltC p.1 p.2)), [some (.nt (cs.map clD)), some (.pd (clD p.1)), some (.pd (clD p.2))], by simp [wipeE], by simp [eLt, kLt, kLt0, oI, oLtT, clD, ints?, ltC], rfl, by simp [unwipe]⟩
  have ht : (cs.map clD).tail = cs.tail.map clD := by simp
  have hl : cs.length ≤ 1000001 := by omega
  have hc := chain_all cs
  simp [m_is_rising, eLc, iZt, eSl, oSome, oNo, kSl, cut1_d, tupOf, ht, zip_cells, e, oAll, bools_of, hl, -List.map_tail, -List.all_map, hc]
def okFl (cs : List Cell) : Prop := 1 ≤ cs.length ∧ cs.length ≤ 9 ∧ (∀ c ∈ cs, inB c = true) ∧ chain cs = true
theorem is_floor_sp (cs : List Cell) (h : okFl cs) : f_is_floor [.nt (cs.map clD)] = some (.pd (.bool true), [.nt (cs.map clD)]) := by
  unfold f_is_floor
  rw [run_of (e := [some (.nt (cs.map clD)), none]) rfl]
  have e : lcL (gN 1) bYes (eCall f_is_cell (eCons (eVar 1) eNil)) [1] (cs.map clD) [some (.nt (cs.map clD)), none] [] = some (cs.map (fun c => .bool (inB c)), [some (.nt (cs.map clD)), none]) :=
    lcL_all cs fun c _ => ⟨[some (.nt (cs.map clD)), some (.pd (clD c))], .pd (.bool (inB c)), [some (.nt (cs.map clD)), some (.pd (clD c))], by simp [wipeE], by simp [is_cell_sp], rfl, by simp [unwipe]⟩
  obtain ⟨h1, h2, h3, h4⟩ := h
  have ha : (cs.map inB).all id = true := by simpa using h3
  have l1 : (1 : Int) ≤ cs.length := by omega
  have l2 : (cs.length : Int) ≤ 9 := by omega
  have l3 : cs.length ≤ 1000000 := by omega
  simp [m_is_floor, oIsiZ, oIsi, isi5, eCh, Cm.f, oLen, v_MOST_CELLS, eLc, iSeq, e, oAll, bools_of, is_rising_sp cs (by omega), l1, l2, l3, h4, ha, -List.all_map, -List.length_map]
  simp [l1, l2, l3, e, oAll, bools_of, is_rising_sp cs (by omega), ha, h4, List.length_map, -List.all_map]
theorem need_floor_sp (cs : List Cell) (h : okFl cs) : f_need_floor [.nt (cs.map clD)] = some (.pd .none, [.nt (cs.map clD)]) := by
  unfold f_need_floor
  rw [run_of (e := [some (.nt (cs.map clD))]) rfl]
  simp [m_need_floor, is_floor_sp cs h]
theorem is_cell_of_sp (cs : List Cell) (c : Cell) (hc : c ∈ cs) (hb : inB c = true) : f_is_cell_of [.nt (cs.map clD), .pd (clD c)] = some (.pd (.bool true), [.nt (cs.map clD), .pd (clD c)]) := by
  unfold f_is_cell_of
  rw [run_of (e := [some (.nt (cs.map clD)), some (.pd (clD c))]) rfl]
  simp [m_is_cell_of, is_cell_sp, hb, eIn, oIn, sh_cell, sh_cells, any_cell, hc, -List.any_map, -List.any_eq_true]
theorem is_letter_sp (d : Dir) : f_is_letter [.pd (.str (chS d))] = some (.pd (.bool true), [.pd (.str (chS d))]) := by
  unfold f_is_letter
  rw [run_of (e := [some (.pd (.str (chS d)))]) rfl]
  have hv : v_LETTERS = .tuple ([Dir.n, .e, .s, .w].map fun d => .str (chS d)) := by
    simp only [v_LETTERS, List.map_cons, List.map_nil, chS_n, chS_e, chS_s, chS_w]
  have hs : SeqAt.shaped (.tuple ([Dir.n, .e, .s, .w].map fun d => .str (chS d))) = true := sh_tup _ (fun d => by have := SeqAt.canLay_of_shaped (sh_ch d); exact this) (fun d => by simp [PyData.depth]) _
  have hi : (([Dir.n, .e, .s, .w].map fun d => PyData.str (chS d)).any fun z => PyData.eqv z (.str (chS d))) = true := by
    rw [List.any_eq_true]
    exact ⟨.str (chS d), List.mem_map.mpr ⟨d, by cases d <;> simp, rfl⟩, by rw [eqv_ch]; simp⟩
  simp only [m_is_letter, hv]
  simp only [z_ret, z_eB, z_bAnd, z_bT, z_then, z_one, z_cons, z_var, z_nil, List.getElem?_cons_zero, z_kE, z_ctns1, z_ctns0, z_ctn1, oIsiZ, oIsi, isi5, if_true, eIn, z_two, z_c, oIn, sh_ch, hs, hi, and_self, z_out1, z_fin1, z_fin0]
  rfl
theorem is_row_sp (ds : List Dir) (hl : ds.length ≤ 1000) : f_is_row [.pd (.str (rowS ds))] = some (.pd (.bool true), [.pd (.str (rowS ds))]) := by
  unfold f_is_row
  rw [run_of (e := [some (.pd (.str (rowS ds))), none]) rfl]
  have e : lcL (gN 1) bYes (eCall f_is_letter (eCons (eVar 1) eNil)) [1] (ds.map fun d => .str (chS d)) [some (.pd (.str (rowS ds))), none] [] = some (ds.map (fun _ => .bool true), [some (.pd (.str (rowS ds))), none]) :=
    lcL_all ds fun d _ => ⟨[some (.pd (.str (rowS ds))), some (.pd (.str (chS d)))], .pd (.bool true), [some (.pd (.str (rowS ds))), some (.pd (.str (chS d)))], by simp [wipeE], by simp [is_letter_sp], rfl, by simp [unwipe]⟩
  have l3 : ds.length ≤ 1000000 := by omega
  have bs := bools_of (fun _ : Dir => true) ds
  have hb : (ds.map (fun _ : Dir => true)).all id = true := by simp
  simp [m_is_row, oIsiZ, oIsi, isi5, eLc, iSeq, signs_row, e, l3, oAll, bs, hb, -List.all_map, -List.map_const']
theorem need_row_sp (ds : List Dir) (hl : ds.length ≤ 1000) : f_need_row [.pd (.str (rowS ds))] = some (.pd .none, [.pd (.str (rowS ds))]) := by
  unfold f_need_row
  rw [run_of (e := [some (.pd (.str (rowS ds)))]) rfl]
  simp [m_need_row, is_row_sp ds hl]
theorem steps_look (d : Dir) : v_STEPS.lookup (chS d) = some (.tuple [.int (stepC (0, 0) d).1, .int (stepC (0, 0) d).2]) := by
  cases d <;> rfl
theorem rolled_cell_sp (c : Cell) (d : Dir) : f_rolled_cell [.pd (clD c), .pd (.str (chS d))] = some (.pd (clD (stepC c d)), [.pd (clD c), .pd (.str (chS d))]) := by
  unfold f_rolled_cell
  rw [run_of (e := [some (.pd (clD c)), some (.pd (.str (chS d))), none, none, none, none]) rfl]
  simp [m_rolled_cell, clD, eKd, steps_look, eAdd, kAdd, oI]
  cases d <;> simp [stepC] <;> omega
def letR (cs : List Cell) : Cell → List Dir → Prop
  | _, [] => True
  | c, d :: ds => stepC c d ∈ cs ∧ letR cs (stepC c d) ds
def endC (c : Cell) (ds : List Dir) : Cell := ds.foldl stepC c
theorem enum_row (ds : List Dir) : enumD (signs (rowS ds)) 0 = (ds.zipIdx).map fun p => .tuple [.int (p.2 : Nat), .str (chS p.1)] := by
  rw [signs_row]
  apply List.ext_getElem?
  intro i
  by_cases h : i < ds.length
  · simp [enumD, h]
  · simp [enumD, h]
theorem atI_at {α : Type} {xs : List α} {i : Int} {x : α} (h0 : 0 ≤ i) (h : xs[i.toNat]? = some x) : atI xs i = some x := by
  obtain ⟨hl, e⟩ := List.getElem?_eq_some_iff.mp h
  unfold atI ixN
  have : i < xs.length := by omega
  simp [h0, this, e]
def isT (s : S) (xs : List PyData) : Prop := s = .pd (.tuple xs) ∨ s = .nt xs
theorem forL_cons {g : GG} {body : SS} {x : PyData} {xs : List PyData} {env e1 e2 : Sl} (h1 : g x env = some e1) (h2 : body e1 = some (.nx, e2)) : forL g body (x :: xs) env = forL g body xs e2 := by
  simp [forL, h1, h2]
def Fr (s : Option S) : Prop := s = none ∨ ∃ x, s = some (.pd x)
structure Sit (cs : List Cell) (c : Cell) (l : Ly) (ds : List Dir) : Prop where
  fl : okFl cs
  mem : c ∈ cs
  ly : l ∈ lyings
  lt : letR cs c ds
  ln : ds.length ≤ 1000
theorem Sit.b {cs : List Cell} {c : Cell} {l : Ly} {ds : List Dir} (h : Sit cs c l ds) : inB c = true := h.fl.2.2.1 c h.mem
def nD (xs : List Nat) : List PyData := xs.map fun k => .int ((k : Nat) : Int)
theorem cmul_r (i j : Int) (h : 0 ≤ j ∧ j < 2147483648) : CMul i j := .inr (by
  have h1 : (2147483648 : Int) < 2 ^ 64 := by decide
  have h2 : (-2 ^ 64 : Int) < 0 := by decide
  omega)
theorem cmul_l (i j : Int) (h : 0 ≤ i ∧ i < 2147483648) : CMul i j := .inl (by
  have h1 : (2147483648 : Int) < 2 ^ 64 := by decide
  have h2 : (-2 ^ 64 : Int) < 0 := by decide
  omega)
def dirAt (r : Int) : Dir := if r = 0 then .e else if r = 1 then .n else if r = 2 then .s else .w
theorem ensw_eq : ("ensw" : Str) = ⟨#[101, 110, 115, 119]⟩ := by decide
theorem ensw_ix (r : Int) (h0 : 0 ≤ r) (h1 : r < 4) : oIx [.str "ensw", .int r] = some (.str (chS (dirAt r))) := by
  have : r = 0 ∨ r = 1 ∨ r = 2 ∨ r = 3 := by omega
  rw [ensw_eq]
  rcases this with rfl | rfl | rfl | rfl <;> rfl
def good (cs : List Cell) : Prop := 0 < cs.length ∧ cs.Nodup ∧ ∀ c ∈ cs, inB c = true
theorem inB_b {c : Cell} (h : inB c = true) : 0 ≤ c.1 ∧ c.1 ≤ 3 ∧ 0 ≤ c.2 ∧ c.2 ≤ 3 := by
  unfold inB at h
  simp at h
  omega
theorem pairs_of : ∀ cs : List Cell, (∀ c ∈ cs, inB c = true) → pairs? (cs.map clD) = some cs
  | [], _ => rfl
  | c :: cs, h => by
    have b := inB_b (h c (by simp))
    have e : pair? (clD c) = some c := by
      show (if 0 ≤ c.1 ∧ c.1 < 64 ∧ 0 ≤ c.2 ∧ c.2 < 64 then some (c.1, c.2) else none) = _
      rw [if_pos (by omega)]
    rw [List.map_cons, pairs?, e, pairs_of cs (fun d hd => h d (by simp [hd]))]
theorem ltC_of {c d : Cell} (hc : inB c = true) (hd : inB d = true) (h : prLe c d = true) (hne : c ≠ d) : ltC c d = true := by
  have b1 := inB_b hc
  have b2 := inB_b hd
  unfold prLe at h
  have h' : c.1 * 64 + c.2 ≤ d.1 * 64 + d.2 := by simpa using h
  have hne' : ¬ (c.1 = d.1 ∧ c.2 = d.2) := fun ⟨x, y⟩ => hne (Prod.ext x y)
  unfold ltC
  simp only [HT.lexLt]
  by_cases e : c.1 = d.1
  · simp [e]; omega
  · simp [e]; omega
theorem chain_of : ∀ cs : List Cell, (∀ c ∈ cs, inB c = true) → cs.Pairwise (fun a b => prLe a b = true) → cs.Nodup → chain cs = true
  | [], _, _, _ => rfl
  | [c], _, _, _ => rfl
  | c :: d :: r, h, hp, hn => by
    have ih := chain_of (d :: r) (fun x hx => h x (by simp [hx])) (List.pairwise_cons.mp hp).2 (List.nodup_cons.mp hn).2
    have l := ltC_of (h c (by simp)) (h d (by simp)) ((List.pairwise_cons.mp hp).1 d (by simp)) (fun e => (List.nodup_cons.mp hn).1 (by simp [e]))
    simp [chain, ih, l]
def all4 : List Dir := [.e, .n, .s, .w]
theorem ensw_row : ("ensw" : Str) = rowS all4 := by decide
def chD (d : Dir) : PyData := .str (chS d)
def ops (cs : List Cell) (c : Cell) : List Dir := all4.filter fun d => decide (stepC c d ∈ cs)
theorem row_len (ds : List Dir) : (rowS ds).length = ds.length := by
  show (rowS ds).cps.size = _
  simp [rowS]
theorem letR_app {cs : List Cell} : ∀ (ds : List Dir) (c : Cell) (d : Dir), letR cs c ds → stepC (endC c ds) d ∈ cs → letR cs c (ds ++ [d])
  | [], c, d, _, h => ⟨h, trivial⟩
  | x :: ds, c, d, h1, h => ⟨h1.1, letR_app ds (stepC c x) d h1.2 h⟩
theorem endC_app (c : Cell) (ds : List Dir) (d : Dir) : endC c (ds ++ [d]) = stepC (endC c ds) d := by simp [endC]
theorem int_at {xs : List Int} {i : Nat} (h : i < xs.length) : atI (xs.map PyData.int) (i : Int) = some (.int (xs.getD i 0)) := by
  apply atI_at (by omega)
  simp [h]
def fre : Option S → Bool
  | none => true
  | some (.pd _) => true
  | some (.nt _) => true
  | some (.mu .own _) => true
  | _ => false
def freO : Option (Option S) → Bool
  | some s => fre s
  | none => false
theorem z_free2 (env : Sl) (i : Nat) : free env i = freO env[i]? := by
  rw [z_free]
  cases env[i]? with
  | none => rfl
  | some s =>
    cases s with
    | none => rfl
    | some s =>
      cases s with
      | pd x => rfl
      | nt x => rfl
      | mu m c => cases m <;> rfl
theorem freO_some (s : Option S) : freO (some s) = fre s := rfl
theorem need_cell_sp (cs : List Cell) (c : Cell) (hc : c ∈ cs) (hb : inB c = true) : f_need_cell [.nt (cs.map clD), .pd (clD c)] = some (.pd .none, [.nt (cs.map clD), .pd (clD c)]) := by
  unfold f_need_cell
  rw [run_of (e := [some (.nt (cs.map clD)), some (.pd (clD c))]) rfl]
  simp [m_need_cell, is_cell_of_sp cs c hc hb]
def off (cs : List Cell) : Cell → List Dir → Option Nat
  | _, [] => none
  | c, d :: ds => if stepC c d ∈ cs then (off cs (stepC c d) ds).map (· + 1) else some 0
theorem join_fold : ∀ (ds : List Dir) (acc : Array Nat), (ds.map chS).foldl (fun acc p => acc ++ (Str.ofString "").cps ++ p.cps) acc = acc ++ (ds.map Dir.code).toArray
  | [], acc => by simp
  | d :: ds, acc => by
    rw [List.map_cons, List.foldl_cons, join_fold ds]
    have : (Str.ofString "").cps = #[] := by decide
    rw [this]
    simp [chS]
theorem join_row (ds : List Dir) : Txt.join "" (ds.map chS) = rowS ds := by
  cases ds with
  | nil => decide
  | cons d ds =>
    show (⟨(ds.map chS).foldl (fun acc p => acc ++ (Str.ofString "").cps ++ p.cps) (chS d).cps⟩ : Str) = _
    rw [join_fold]
    simp [chS, rowS]
theorem strs_ch : ∀ ds : List Dir, strs? (ds.map chD) = some (ds.map chS)
  | [] => rfl
  | d :: ds => by
    show (match strs? (ds.map chD) with | none => none | some ys => some (chS d :: ys)) = _
    rw [strs_ch ds]
    rfl
theorem oJoin_row (ds : List Dir) (h : ds.length ≤ 1000) : oJoin [.str "", .list (ds.map chD)] = some (.str (rowS ds)) := by
  show (match strs? (ds.map chD) with | some ys => if JoOk "" ys then some (PyData.str (Txt.join "" ys)) else none | none => none) = _
  rw [strs_ch]
  have hs : ∀ ds : List Dir, ((ds.map chS).map (·.length)).sum = ds.length := by
    intro ds
    induction ds with
    | nil => rfl
    | cons d ds ih => rw [List.map_cons, List.map_cons, List.sum_cons, ih]; show 1 + ds.length = _; simp; omega
  have j : JoOk "" (ds.map chS) := by
    unfold JoOk
    rw [hs, List.length_map]
    show ds.length + ds.length * 0 ≤ _
    omega
  simp only [if_pos j, join_row]
def opp : Dir → Dir
  | .e => .w
  | .n => .s
  | .s => .n
  | .w => .e
def bk (ds : List Dir) : List Dir := ds.reverse.map opp
theorem rev_row (ds : List Dir) : revS (rowS ds) = rowS ds.reverse := by simp [revS, rowS]
theorem at_last {α : Type} (acc : List α) (x : α) : atI (acc ++ [x]) (-1) = some x := by
  unfold atI ixN
  have h1 : ¬ (0 : Int) ≤ -1 := by decide
  have h2 : -((acc ++ [x]).length : Int) ≤ -1 := by simp; omega
  rw [if_neg h1, if_pos h2]
  have h3 : (-1 + ((acc ++ [x]).length : Int)).toNat = acc.length := by simp; omega
  rw [h3]
  simp
theorem step_opp (c : Cell) (d : Dir) : stepC (stepC c d) (opp d) = c := by
  cases d <;> simp [stepC, opp] <;> (apply Prod.ext <;> simp <;> omega)
theorem ltC_iff (a b : Cell) : ltC a b = true ↔ a.1 < b.1 ∨ (a.1 = b.1 ∧ a.2 < b.2) := by
  unfold ltC
  simp only [HT.lexLt]
  by_cases e : a.1 = b.1
  · by_cases e2 : a.2 = b.2
    · simp [e, e2]
    · simp [e, e2]
  · simp [e]
theorem chain_nd {cs : List Cell} (h : chain cs = true) : cs.Nodup := by
  have tr : ∀ a b c : Cell, ltC a b = true → ltC b c = true → ltC a c = true := by
    intro a b c h1 h2
    rw [ltC_iff] at *
    omega
  have ir : ∀ a : Cell, ltC a a ≠ true := by
    intro a h
    rw [ltC_iff] at h
    omega
  have go : ∀ (cs : List Cell), chain cs = true → cs.Pairwise (fun a b => ltC a b = true) := by
    intro cs
    induction cs with
    | nil => intro _; exact .nil
    | cons a cs ih =>
      intro h
      cases cs with
      | nil => exact List.pairwise_singleton _ _
      | cons b cs =>
        simp only [chain, Bool.and_eq_true] at h
        have hp := ih h.2
        refine List.pairwise_cons.mpr ⟨fun c hc => ?_, hp⟩
        rcases List.mem_cons.mp hc with rfl | hc
        · exact h.1
        · exact tr a b c h.1 ((List.pairwise_cons.mp hp).1 c hc)
  exact List.Pairwise.imp (fun {a b} h e => by subst e; exact ir a h) (go cs h)
abbrev exD (n : Nat) (m : Nat → Nat) : List PyData := nD ((List.range n).map m)
theorem nD_len (xs : List Nat) : (nD xs).length = xs.length := by simp [nD]
theorem endC_mem {cs : List Cell} : ∀ (ds : List Dir) (c : Cell), c ∈ cs → letR cs c ds → endC c ds ∈ cs
  | [], c, h, _ => h
  | d :: ds, c, h, hl => endC_mem ds (stepC c d) hl.1 hl.2
theorem letR_mid {cs : List Cell} : ∀ (ds es : List Dir) (c : Cell), letR cs c (ds ++ es) → letR cs c ds ∧ letR cs (endC c ds) es
  | [], es, c, h => ⟨trivial, h⟩
  | d :: ds, es, c, h => by
    obtain ⟨h1, h2⟩ := letR_mid ds es (stepC c d) h.2
    exact ⟨⟨h.1, h1⟩, h2⟩
def unR : List Dir → List Dir
  | [] => []
  | d :: ds => unR ds ++ [opp d, d, opp d]
def stirB (b : Int) (t : Nat) : Int := (b + 17 * ((t + 1 : Nat) : Int)) * (69621 + 2 * ((t + 1 : Nat) : Int)) % 2147483647
def stirS (s : Int) (t : Nat) : Int := (s * s + 40503 * ((t + 1 : Nat) : Int) + 5) % 2147483629
theorem draw2_sp (p : Pk) (n : Int) (h0 : 0 < n) (h1 : n < 1000000000000000) (ht : p.t ≤ 1000000000000) : ∃ (r : Int) (q : Pk), 0 ≤ r ∧ r < n ∧ q.t ≤ p.t + 1 ∧ f__law_draw [.mu .bor (penK p), .pd (.int n)] = some (.pd (.int r), [.mu .bor (penK q), .pd (.int n)]) := by
  obtain ⟨a, b, t⟩ := p
  have x0 : ∀ x y z : PyData, atI [x, y, z] 0 = some x := fun _ _ _ => rfl
  have x1 : ∀ x y z : PyData, atI [x, y, z] 1 = some y := fun _ _ _ => rfl
  have x2 : ∀ x y z : PyData, atI [x, y, z] 2 = some z := fun _ _ _ => rfl
  have i0 : ixN 3 0 = some 0 := rfl
  have i1 : ixN 3 1 = some 1 := rfl
  have i2 : ixN 3 2 = some 2 := rfl
  by_cases ha : 0 < a
  · refine ⟨a % n, ⟨a / n, b, t⟩, Int.emod_nonneg _ (by omega), Int.emod_lt_of_pos _ h0, by simp, ?_⟩
    have cd : CDivW a n := cdv _ _ h0 h1
    unfold f__law_draw
    rw [run_of (e := [some (.mu .bor (penK ⟨a, b, t⟩)), some (.pd (.int n)), none, none]) rfl]
    simp [m__law_draw, penK, oIx, x0, kGt, oI, ha, kMod, h0, kFdiv, cd, putL, i0]
  · have tt : (t : Int) + 1 = ((t + 1 : Nat) : Int) := by omega
    have ht' : t ≤ 1000000000000 := ht
    have e64 : (2 : Int) ^ 64 = 18446744073709551616 := by decide
    have c1 := cmul_l 17 ((t + 1 : Nat) : Int) (by omega)
    have c2 := cmul_l 2 ((t + 1 : Nat) : Int) (by omega)
    have c3 : CMul (b + 17 * ((t + 1 : Nat) : Int)) (69621 + 2 * ((t + 1 : Nat) : Int)) := .inr (by rw [e64]; omega)
    have s1 : 0 ≤ stirB b t ∧ stirB b t < 2147483647 := ⟨Int.emod_nonneg _ (by decide), Int.emod_lt_of_pos _ (by decide)⟩
    have c4 := cmul_l (stirB b t) (stirB b t) (by omega)
    have c5 := cmul_l 40503 ((t + 1 : Nat) : Int) (by omega)
    have c6 : ∀ i, CMul i 48271 := fun i => cmul_r i 48271 (by omega)
    have cd2 : ∀ i, CDivW i 32 := fun i => cdv _ _ (by decide) (by decide)
    have e1 : (b + 17 * ((t + 1 : Nat) : Int)) * (69621 + 2 * ((t + 1 : Nat) : Int)) % 2147483647 = stirB b t := rfl
    have e2 : (stirB b t * stirB b t + 40503 * ((t + 1 : Nat) : Int) + 5) % 2147483629 = stirS (stirB b t) t := rfl
    refine ⟨stirS (stirB b t) t * 48271 % 2147483647 / 32 % n, ⟨a, b, t + 1⟩, Int.emod_nonneg _ (by omega), Int.emod_lt_of_pos _ h0, by simp, ?_⟩
    unfold f__law_draw
    rw [run_of (e := [some (.mu .bor (penK ⟨a, b, t⟩)), some (.pd (.int n)), none, none]) rfl]
    simp [m__law_draw, penK, oIx, x0, x1, x2, kGt, oI, ha, kMod, kMul, kAdd, h0, kFdiv, cd2, putL, i2, tt, c1, c2, c3, c4, c5, c6, e1, e2, -Int.natCast_add]
theorem pen2_sp (i : Int) : ∃ p : Pk, p.t = 0 ∧ f__law_pen [.pd (.int i)] = some (.tmp (penK p), [.pd (.int i)]) := by
  have cp : CPow 10 18 := ⟨by decide, by decide, by decide⟩
  refine ⟨⟨if i - 10 ^ 18 > 0 then i - 10 ^ 18 else 0, i % 1000000007, 0⟩, rfl, ?_⟩
  unfold f__law_pen
  rw [run_of (e := [some (.pd (.int i))]) rfl]
  simp [m__law_pen, kPow, oI, cp, kSub, oMax, kMod, penK]
theorem at_mem {xs : List PyData} {r : Int} (h0 : 0 ≤ r) (h1 : r < xs.length) : ∃ x ∈ xs, atI xs r = some x := by
  obtain ⟨k, rfl⟩ : ∃ k : Nat, r = k := ⟨r.toNat, by omega⟩
  have hk : k < xs.length := by omega
  exact ⟨xs[k], List.getElem_mem _, atI_at (by omega) (by simp [hk])⟩
theorem pick2_l (p : Pk) (xs : List PyData) (h0 : 0 < xs.length) (h1 : xs.length < 1073741824) (ht : p.t ≤ 1000000000000) : ∃ x ∈ xs, ∃ q : Pk, q.t ≤ p.t + 1 ∧ f__law_pick [.mu .bor (penK p), .mu .bor (.ls xs)] = some (.pd x, [.mu .bor (penK q), .mu .bor (.ls xs)]) := by
  obtain ⟨r, q, b0, b1, hq, d⟩ := draw2_sp p (xs.length : Int) (by omega) (by omega) ht
  obtain ⟨x, hx, e⟩ := at_mem b0 b1
  refine ⟨x, hx, q, hq, ?_⟩
  unfold f__law_pick
  rw [run_of (e := [some (.mu .bor (penK p)), some (.mu .bor (.ls xs))]) rfl]
  simp [m__law_pick, oLen, d, oIx, e]
def byDir (a b c d : PyData) : Dir → PyData
  | .n => a
  | .s => b
  | .e => c
  | .w => d
section
variable {cs : List Cell} (cl : ∀ c ∈ cs, ∀ d, inB (stepC c d) = true → stepC c d ∈ cs)
include cl
theorem goE : ∀ (k : Nat) (x y : Int), (x, y) ∈ cs → 0 ≤ x → x + k ≤ 3 → 0 ≤ y → y ≤ 3 → (x + k, y) ∈ cs
  | 0, x, y, h, _, _, _, _ => by simpa using h
  | k + 1, x, y, h, h0, h1, h2, h3 => by
    have := goE k (x + 1) y (cl (x, y) h .e (by show inB (x + 1, y) = true; unfold inB; simp only [Bool.and_eq_true, decide_eq_true_eq]; omega)) (by omega) (by omega) h2 h3
    rw [show x + ((k + 1 : Nat) : Int) = x + 1 + k by omega]
    exact this
theorem goW : ∀ (k : Nat) (x y : Int), (x, y) ∈ cs → 0 ≤ x - k → x ≤ 3 → 0 ≤ y → y ≤ 3 → (x - k, y) ∈ cs
  | 0, x, y, h, _, _, _, _ => by simpa using h
  | k + 1, x, y, h, h0, h1, h2, h3 => by
    have := goW k (x - 1) y (cl (x, y) h .w (by show inB (x - 1, y) = true; unfold inB; simp only [Bool.and_eq_true, decide_eq_true_eq]; omega)) (by omega) (by omega) h2 h3
    rw [show x - ((k + 1 : Nat) : Int) = x - 1 - k by omega]
    exact this
theorem goN : ∀ (k : Nat) (x y : Int), (x, y) ∈ cs → 0 ≤ y → y + k ≤ 3 → 0 ≤ x → x ≤ 3 → (x, y + k) ∈ cs
  | 0, x, y, h, _, _, _, _ => by simpa using h
  | k + 1, x, y, h, h0, h1, h2, h3 => by
    have := goN k x (y + 1) (cl (x, y) h .n (by show inB (x, y + 1) = true; unfold inB; simp only [Bool.and_eq_true, decide_eq_true_eq]; omega)) (by omega) (by omega) h2 h3
    rw [show y + ((k + 1 : Nat) : Int) = y + 1 + k by omega]
    exact this
theorem goS : ∀ (k : Nat) (x y : Int), (x, y) ∈ cs → 0 ≤ y - k → y ≤ 3 → 0 ≤ x → x ≤ 3 → (x, y - k) ∈ cs
  | 0, x, y, h, _, _, _, _ => by simpa using h
  | k + 1, x, y, h, h0, h1, h2, h3 => by
    have := goS k x (y - 1) (cl (x, y) h .s (by show inB (x, y - 1) = true; unfold inB; simp only [Bool.and_eq_true, decide_eq_true_eq]; omega)) (by omega) (by omega) h2 h3
    rw [show y - ((k + 1 : Nat) : Int) = y - 1 - k by omega]
    exact this
theorem goAny {c g : Cell} (h : c ∈ cs) (hc : inB c = true) (hg : inB g = true) : g ∈ cs := by
  obtain ⟨x, y⟩ := c
  obtain ⟨a, b⟩ := g
  simp [inB] at hc hg
  have h1 : (a, y) ∈ cs := by
    rcases Int.le_total x a with z | z
    · have := goE cl (a - x).toNat x y h (by omega) (by omega) (by omega) (by omega)
      rw [show x + ((a - x).toNat : Int) = a by omega] at this
      exact this
    · have := goW cl (x - a).toNat x y h (by omega) (by omega) (by omega) (by omega)
      rw [show x - ((x - a).toNat : Int) = a by omega] at this
      exact this
  rcases Int.le_total y b with z | z
  · have := goN cl (b - y).toNat a y h1 (by omega) (by omega) (by omega) (by omega)
    rw [show y + ((b - y).toNat : Int) = b by omega] at this
    exact this
  · have := goS cl (y - b).toNat a y h1 (by omega) (by omega) (by omega) (by omega)
    rw [show y - ((y - b).toNat : Int) = b by omega] at this
    exact this
end
def grid : List Cell := [(0, 0), (0, 1), (0, 2), (0, 3), (1, 0), (1, 1), (1, 2), (1, 3), (2, 0), (2, 1), (2, 2), (2, 3), (3, 0), (3, 1), (3, 2), (3, 3)]
theorem grid_in : ∀ c ∈ grid, inB c = true := by decide
theorem some_near {cs : List Cell} (hg : good cs) (hl : cs.length < 16) : ∃ c ∈ cs, ∃ d, inB (stepC c d) = true ∧ stepC c d ∉ cs := by
  refine Classical.byContradiction fun no => ?_
  have cl : ∀ c ∈ cs, ∀ d, inB (stepC c d) = true → stepC c d ∈ cs := fun c hc d hi => Classical.byContradiction fun z => no ⟨c, hc, d, hi, z⟩
  obtain ⟨c, hc⟩ := List.exists_mem_of_length_pos hg.1
  have sub : ∀ g ∈ grid, g ∈ cs := fun g h => goAny cl hc (hg.2.2 c hc) (grid_in g h)
  have nd : grid.Nodup := by decide
  have := nd.length_le_of_subset sub
  simp [grid] at this
  omega
theorem cell_sp (ns : List Int) (k : Nat) : ∃ i, f__law_cell [.pd (.list (ns.map .int)), .pd (.int (k : Nat))] = some (.pd (.int i), [.pd (.list (ns.map .int)), .pd (.int (k : Nat))]) := by
  unfold f__law_cell
  rw [run_of (e := [some (.pd (.list (ns.map .int))), some (.pd (.int (k : Nat)))]) rfl]
  by_cases h : k < ns.length
  · refine ⟨ns[k], ?_⟩
    have hx : oIx [.list (ns.map .int), .int (k : Nat)] = some (.int ns[k]) := by
      have := int_at (xs := ns) (i := k) h
      simp [oIx, this, h]
    simp [m__law_cell, oLen, kLt, kLt0, oI, h, hx]
  · refine ⟨0, ?_⟩
    simp [m__law_cell, oLen, kLt, kLt0, oI, h]
theorem keysE (a b c d : PyData) : keysK [(.str "e", a), (.str "n", b), (.str "s", c), (.str "w", d)] = some [(.inr "e", a), (.inr "n", b), (.inr "s", c), (.inr "w", d)] := rfl
theorem allE (a b c d : PyData) : allK [(.inr "e", a), (.inr "n", b), (.inr "s", c), (.inr "w", d)] = [(.inr "e", a), (.inr "n", b), (.inr "s", c), (.inr "w", d)] := by rfl
theorem besd_sp (c : Cell) (d : Dir) : f__law_beside [.pd (clD c), .pd (.str (chS d))] = some (.pd (clD (stepC c d)), [.pd (clD c), .pd (.str (chS d))]) := by
  have cl : clD c = .tuple [.int c.1, .int c.2] := rfl
  unfold f__law_beside
  rw [run_of (e := [some (.pd (clD c)), some (.pd (.str (chS d))), none, none]) rfl]
  have g : cGet (.dk [(.inr "e", .tuple [.int 1, .int 0]), (.inr "n", .tuple [.int 0, .int 1]), (.inr "s", .tuple [.int 0, .int (-1)]), (.inr "w", .tuple [.int (-1), .int 0])]) (.str (chS d)) = some (some (.tuple [.int (stepC (0, 0) d).1, .int (stepC (0, 0) d).2])) := by cases d <;> rfl
  have ng : kNeg [.pd (.int 1)] = fun env => some (.pd (.int (-1)), env) := rfl
  simp [m__law_beside, cl, kAdd, oI, keysE, allE, ng, g, ix20, ix21]
  cases d <;> simp [stepC, clD] <;> omega
abbrev T2 := Bool × Dir
abbrev Pr := (Cell × Ly) × (Cell × Ly)
def okP (F : List Cell) (p : Pr) : Prop := p.1.1 ∈ F ∧ p.2.1 ∈ F ∧ p.1.1 ≠ p.2.1
instance (F : List Cell) (p : Pr) : Decidable (okP F p) := by unfold okP; infer_instance
theorem in_cells (c : Cell) (F : List Cell) (neg : Bool) : oIn neg [clD c, .tuple (F.map clD)] = some (.bool (if neg = true then !decide (c ∈ F) else decide (c ∈ F))) := by
  by_cases h : c ∈ F
  · rw [pl_in1 (pl_cell c) (pl_cells F) (by decide) (by decide) neg (.inl rfl) (mem_clD.mpr h)]
    cases neg <;> simp [h]
  · rw [pl_in0 (pl_cell c) (pl_cells F) (by decide) (by decide) neg (.inl rfl) (fun z => h (mem_clD.mp z))]
    cases neg <;> simp [h]
theorem in_cellsL (c : Cell) (F : List Cell) (neg : Bool) : oIn neg [clD c, .list (F.map clD)] = some (.bool (if neg = true then !decide (c ∈ F) else decide (c ∈ F))) := by
  by_cases h : c ∈ F
  · rw [pl_in1 (pl_cell c) (pl_cells F) (by decide) (by decide) neg (.inr rfl) (mem_clD.mpr h)]
    cases neg <;> simp [h]
  · rw [pl_in0 (pl_cell c) (pl_cells F) (by decide) (by decide) neg (.inr rfl) (fun z => h (mem_clD.mp z))]
    cases neg <;> simp [h]
def colC (cs : List Cell) (a : Nat) : List Cell := ((List.range 4).map fun b => (((a : Nat) : Int), ((b : Nat) : Int))).filter fun c => decide (c ∉ cs)
def othC (cs : List Cell) : List Cell := (List.range 4).flatMap (colC cs)
theorem mem_oth {cs : List Cell} {c : Cell} : c ∈ othC cs ↔ inB c = true ∧ c ∉ cs := by
  unfold othC colC
  simp only [List.mem_flatMap, List.mem_filter, List.mem_map, List.mem_range, decide_eq_true_eq]
  constructor
  · rintro ⟨a, ha, ⟨b, hb, rfl⟩, h⟩
    refine ⟨?_, h⟩
    unfold inB
    simp only [Bool.and_eq_true, decide_eq_true_eq]
    omega
  · rintro ⟨hi, h⟩
    have b := inB_b hi
    refine ⟨c.1.toNat, by omega, ⟨c.2.toNat, by omega, ?_⟩, h⟩
    exact Prod.ext (by simp only; omega) (by simp only; omega)
theorem oth_len (cs : List Cell) : (othC cs).length ≤ 16 := by
  have : ∀ a, (colC cs a).length ≤ 4 := fun a => Nat.le_trans (List.length_filter_le _ _) (by simp)
  unfold othC
  have h0 := this 0; have h1 := this 1; have h2 := this 2; have h3 := this 3
  simp [List.range, List.range.loop]
  omega
theorem col_len (cs : List Cell) (a : Nat) : (colC cs a).length ≤ 4 := Nat.le_trans (List.length_filter_le _ _) (by simp)
def OthI (cs : List Cell) (rest : List PyData) (e : Sl) : Prop := ∃ (as : List Nat) (acc : List Cell), rest = (as.map fun a => .int ((a : Nat) : Int)) ∧ acc ++ as.flatMap (colC cs) = othC cs ∧ acc.length + 4 * as.length ≤ 16 ∧ Al 1 4 e ∧ e[0]? = some (some (.mu .bor (.ls (cs.map clD)))) ∧ e[1]? = some (some (.mu .own (.ls (acc.map clD))))
theorem others_sp (cs : List Cell) : f__law_others [.mu .bor (.ls (cs.map clD))] = some (.tmp (.ls ((othC cs).map clD)), [.mu .bor (.ls (cs.map clD))]) := by
  have key : wF f__law_others [.mu .bor (.ls (cs.map clD))] (fun r as => r = .tmp (.ls ((othC cs).map clD)) ∧ as = [.mu .bor (.ls (cs.map clD))]) := by
    refine wF_run (e := startE 4 [.mu .bor (.ls (cs.map clD))]) rfl ?_
    have A := Al.start (n := 4) [.mu .bor (.ls (cs.map clD))] (by simp)
    have h0 : (startE 4 [.mu .bor (.ls (cs.map clD))])[0]? = some (some (.mu .bor (.ls (cs.map clD)))) := rfl
    generalize startE 4 [.mu .bor (.ls (cs.map clD))] = e at *
    have fr := A.fre
    have ln := A.len
    simp only [List.length_cons, List.length_nil, Nat.zero_add] at fr
    refine wS_seq ?_
    simp [wS, fr, -z_free]
    rw [go]
    refine wS_seq ?_
    refine wS_for (xs := upD 4) (lk := none) (e := e.set 1 (some (.mu .own (.ls [])))) (rg1_up (by simp) (by decide)) (OthI cs) ⟨List.range 4, [], rfl, rfl, by decide, A.set rfl, by simpa using h0, by simp [ln]⟩ ?_ ?_
    · rintro x rest e ⟨as, acc, er, ea, al, A, h0, h1⟩
      cases as with
      | nil => simp at er
      | cons a as =>
        obtain ⟨rfl, rfl⟩ : x = .int ((a : Nat) : Int) ∧ rest = as.map fun a => .int ((a : Nat) : Int) := by simpa using er
        have fr := A.fre
        have ln := A.len
        simp only [List.length_cons] at al
        have cl := col_len cs a
        simp only [gW, z_gN, z_setR, fr 2 (by decide) (by decide), if_true]
        rw [go]
        have A2 := A.set (i := 2) (s := some (.pd (.int ((a : Nat) : Int)))) rfl
        have g0 : (e.set 2 (some (.pd (.int ((a : Nat) : Int)))))[0]? = some (some (.mu .bor (.ls (cs.map clD)))) := by simpa using h0
        have g1 : (e.set 2 (some (.pd (.int ((a : Nat) : Int)))))[1]? = some (some (.mu .own (.ls (acc.map clD)))) := by simpa using h1
        have g2 : (e.set 2 (some (.pd (.int ((a : Nat) : Int)))))[2]? = some (some (.pd (.int ((a : Nat) : Int)))) := by simp [ln]
        generalize e.set 2 (some (.pd (.int ((a : Nat) : Int)))) = e2 at *
        have f2 := A2.fre
        have l2 := A2.len
        have lc := lcF (it := iRg1 (eCons (eC (.int 4)) eNil)) (g := gN 3) (t := bT (eNin (eThen (eCons (eVar 2) (eCons (eVar 3) eNil)) kTup) (eVar 0))) (f := eThen (eCons (eVar 2) (eCons (eVar 3) eNil)) kTup) (vs := [3]) (lk := none) (env := e2) (e := e2) (q := fun b : Nat => .int ((b : Nat) : Int)) (as := List.range 4) (fun b => decide ((((a : Nat) : Int), ((b : Nat) : Int)) ∉ cs)) (fun b => clD (((a : Nat) : Int), ((b : Nat) : Int))) (rg1_up (n := 4) (by simp) (by decide)) (by decide) (fun b hb => by
          have := in_cellsL (((a : Nat) : Int), ((b : Nat) : Int)) cs true
          have cl : clD (((a : Nat) : Int), ((b : Nat) : Int)) = .tuple [.int ((a : Nat) : Int), .int ((b : Nat) : Int)] := rfl
          rw [cl] at this
          by_cases z : (((a : Nat) : Int), ((b : Nat) : Int)) ∈ cs <;> simp [lcI, wipe_at, wipe_free, wipeE_len, l2, g0, g2, this, z, cl, Kp.set, -z_free, -getElem?_pos])
        have eq : (((List.range 4).filter fun b => decide ((((a : Nat) : Int), ((b : Nat) : Int)) ∉ cs)).map fun b => clD (((a : Nat) : Int), ((b : Nat) : Int))) = (colC cs a).map clD := by
          unfold colC
          rw [List.filter_map, List.map_map]
          rfl
        rw [eq, z_unl] at lc
        have ll : acc.length + (colC cs a).length ≤ 1000000 := by omega
        refine wS_of (fl := .nx) (e := e2.set 1 (some (.mu .own (.ls ((acc ++ colC cs a).map clD))))) (by simp [g1, lc, kAdd, oI, oCatS, oCatT, kCatL, lsOf, ll, f2, -z_lc, -z_free, -getElem?_pos]) ?_
        exact ⟨as, acc ++ colC cs a, rfl, by rw [← ea]; simp, by simp; omega, A2.set rfl, by simpa using g0, by simp [l2]⟩
    · rintro e ⟨as, acc, er, ea, al, A, h0, h1⟩
      have ha : as = [] := by cases as with
        | nil => rfl
        | cons a as => simp at er
      subst ha
      have ln := A.len
      have ea : acc = othC cs := by simpa using ea
      subst ea
      rw [z_unl, nxt_nx, go]
      refine wS_of (fl := .rt (.var 1)) (e := e) (by simp [h1]) ?_
      exact ⟨_, _, by simp [h1], fin_mu rfl (by decide) (by simp [ln]) h0, rfl, rfl⟩
  obtain ⟨r, as, e, rfl, rfl⟩ := key
  exact e
def nearC (cs : List Cell) : List Cell := (othC cs).filter fun c => decide (∃ d ∈ all4, stepC c d ∈ cs)
def opD : Dir → Dir
  | .n => .s
  | .s => .n
  | .e => .w
  | .w => .e
theorem step_op (c : Cell) (d : Dir) : stepC (stepC c d) (opD d) = c := by
  obtain ⟨a, b⟩ := c
  cases d <;> simp [stepC, opD] <;> omega
theorem near_pos {cs : List Cell} (hg : good cs) (hl : cs.length < 16) : 0 < (nearC cs).length := by
  obtain ⟨c, hc, d, hi, hn⟩ := some_near hg hl
  refine List.length_pos_of_mem (a := stepC c d) ?_
  refine List.mem_filter.mpr ⟨mem_oth.mpr ⟨hi, hn⟩, ?_⟩
  rw [decide_eq_true_eq]
  exact ⟨opD d, by cases d <;> simp [all4, opD], by rw [step_op]; exact hc⟩
theorem oth_pos {cs : List Cell} (hg : good cs) (hl : cs.length < 16) : 0 < (othC cs).length := Nat.lt_of_lt_of_le (near_pos hg hl) (List.length_filter_le _ _)
theorem near_lc (cs : List Cell) (hl : cs.length ≤ 100) (e : Sl) (l8 : e.length = 8) (h3 : e[3]? = some (some (.mu .own (.ls (cs.map clD))))) :
    eLc (iSeq (eCall f__law_others (eCons (eVar 3) eNil))) (gN 6) (bT (eNe (eLc (iSeq (eC (.str "ensw"))) (gN 7) (bT (eIn (eCall f__law_beside (eCons (eVar 6) (eCons (eVar 7) eNil))) (eVar 3))) (eC (.int 1)) [7]) (eThen eNil kLst))) (eVar 6) [6] e = some (.tmp (.ls ((nearC cs).map clD)), e) := by
  have ot := others_sp cs
  have ol := oth_len cs
  have sg : signs "ensw" = all4.map chD := by rw [ensw_row, signs_row]; rfl
  have e3 : e.set 3 (some (.mu .own (.ls (cs.map clD)))) = e := by
    refine List.ext_getElem? fun i => ?_
    rw [List.getElem?_set]
    split
    · rename_i z; subst z; rw [if_pos (by rw [l8]; decide), h3]
    · rfl
  have := lcF (it := iSeq (eCall f__law_others (eCons (eVar 3) eNil))) (g := gN 6) (t := bT (eNe (eLc (iSeq (eC (.str "ensw"))) (gN 7) (bT (eIn (eCall f__law_beside (eCons (eVar 6) (eCons (eVar 7) eNil))) (eVar 3))) (eC (.int 1)) [7]) (eThen eNil kLst))) (f := eVar 6) (vs := [6]) (lk := none) (env := e) (e := e) (q := clD) (as := othC cs) (fun c => decide (∃ d ∈ all4, stepC c d ∈ cs)) clD (by simp [h3, ot, e3]) (by omega) (fun c hc => by
    have inner : ∀ e' : Sl, e'.length = 8 → e'[3]? = some (some (.mu .own (.ls (cs.map clD)))) → e'[6]? = some (some (.pd (clD c))) → eLc (iSeq (eC (.str "ensw"))) (gN 7) (bT (eIn (eCall f__law_beside (eCons (eVar 6) (eCons (eVar 7) eNil))) (eVar 3))) (eC (.int 1)) [7] e' = some (.tmp (.ls ((all4.filter fun d => decide (stepC c d ∈ cs)).map fun _ => .int 1)), e') := by
      intro e' l' g3 g6
      have := lcF (it := iSeq (eC (.str "ensw"))) (g := gN 7) (t := bT (eIn (eCall f__law_beside (eCons (eVar 6) (eCons (eVar 7) eNil))) (eVar 3))) (f := eC (.int 1)) (vs := [7]) (lk := none) (env := e') (e := e') (q := chD) (as := all4) (fun d => decide (stepC c d ∈ cs)) (fun _ => .int 1) (by simp [sg]) (by decide) (fun d _ => by
        have b := besd_sp c d
        have i := in_cellsL (stepC c d) cs false
        by_cases z : stepC c d ∈ cs <;> simp [lcI, wipe_at, wipe_free, wipeE_len, l', g3, g6, chD, b, i, z, Kp.set, -z_free, -getElem?_pos])
      rw [z_unl] at this
      exact this
    have i1 := inner ((wipeE e [6]).set 6 (some (.pd (clD c)))) (by simp [wipeE_len, l8]) (by simp [wipe_at, h3, -getElem?_pos]) (by simp [wipeE_len, l8])
    have ne : oNe [.list ((all4.filter fun d => decide (stepC c d ∈ cs)).map fun _ => .int 1), .list []] = some (.bool (decide (∃ d ∈ all4, stepC c d ∈ cs))) := by
      have p1 : pl 1 (.list ((all4.filter fun d => decide (stepC c d ∈ cs)).map fun _ => .int 1)) = true := pl_lst fun _ _ => rfl
      by_cases z : ∃ d ∈ all4, stepC c d ∈ cs
      · rw [pl_ne' p1 (by rfl : pl 1 (.list []) = true) (by decide) (by decide) (by
          obtain ⟨d, hd, hs⟩ := z
          intro q
          have : (all4.filter fun d => decide (stepC c d ∈ cs)) = [] := by simpa using q
          have m : d ∈ all4.filter fun d => decide (stepC c d ∈ cs) := List.mem_filter.mpr ⟨hd, by simpa using hs⟩
          rw [this] at m
          exact absurd m (by simp))]
        simp only [z, decide_true]
      · rw [pl_ne p1 (by rfl : pl 1 (.list []) = true) (by decide) (by decide) (by
          have : (all4.filter fun d => decide (stepC c d ∈ cs)) = [] := by
            rw [List.filter_eq_nil_iff]
            intro d hd q
            exact z ⟨d, hd, by simpa using q⟩
          rw [this]
          rfl)]
        simp only [z, decide_false]
    by_cases z : ∃ d ∈ all4, stepC c d ∈ cs
    · simp only [z, decide_true] at ne ⊢
      simp [lcI, wipe_free, wipeE_len, l8, i1, ne, Kp.set, -z_free, -getElem?_pos, -z_lc]
    · simp only [z, decide_false] at ne ⊢
      simp [lcI, wipe_free, wipeE_len, l8, i1, ne, Kp.set, -z_free, -getElem?_pos, -z_lc])
  rw [z_unl] at this
  exact this
def FlI (p0 : Pk) (m : Nat) (a b : Int) (rest : List PyData) (e : Sl) : Prop := ∃ (p : Pk) (cs : List Cell), p.t + 2 * rest.length ≤ p0.t + 3 + 2 * m ∧ good cs ∧ cs.length + rest.length = 1 + m ∧ Al 3 8 e ∧ e[0]? = some (some (.mu .bor (penK p))) ∧ e[3]? = some (some (.mu .own (.ls (cs.map clD))))
theorem good_new {cs : List Cell} {c : Cell} (h : good cs) (hc : c ∈ othC cs) : good (cs ++ [c]) := by
  obtain ⟨hi, hn⟩ := mem_oth.mp hc
  refine ⟨by simp, ?_, ?_⟩
  · rw [List.nodup_append]
    exact ⟨h.2.1, by simp, fun a ha b hb => by
      rw [List.mem_singleton] at hb
      subst hb
      exact fun z => hn (z ▸ ha)⟩
  · intro x hx
    rcases List.mem_append.mp hx with hx | hx
    · exact h.2.2 x hx
    · rw [List.mem_singleton.mp hx]; exact hi
theorem sort_ok {cs : List Cell} (hg : good cs) (h1 : 1 ≤ cs.length) (h9 : cs.length ≤ 9) : okFl (cs.mergeSort prLe) ∧ (cs.mergeSort prLe).length = cs.length := by
  have tr : ∀ a b c : Cell, prLe a b = true → prLe b c = true → prLe a c = true := by
    intro a b c h1 h2; simp [prLe] at *; omega
  have to : ∀ a b : Cell, (prLe a b || prLe b a) = true := by
    intro a b; simp [prLe]; omega
  have pm := List.mergeSort_perm cs prLe
  have pw := List.pairwise_mergeSort tr to cs
  have ln : (cs.mergeSort prLe).length = cs.length := List.length_mergeSort _
  exact ⟨⟨by omega, by omega, fun c hc => hg.2.2 c (pm.mem_iff.mp hc), chain_of _ (fun c hc => hg.2.2 c (pm.mem_iff.mp hc)) pw (pm.nodup_iff.mpr hg.2.1)⟩, ln⟩
theorem floor_sp2 (p : Pk) (a b : Nat) (ha : 1 ≤ a) (hab : a ≤ b) (hb : b ≤ 9) (ht : p.t ≤ 100000000) : ∃ (q : Pk) (cs : List Cell), q.t ≤ p.t + 30 ∧ okFl cs ∧ a ≤ cs.length ∧ cs.length ≤ b ∧ f__law_floor [.mu .bor (penK p), .pd (.int (a : Nat)), .pd (.int (b : Nat))] = some (.nt (cs.map clD), [.mu .bor (penK q), .pd (.int (a : Nat)), .pd (.int (b : Nat))]) := by
  have key : ∀ Q : R → List S → Prop, (∀ (q : Pk) (cs : List Cell), q.t ≤ p.t + 30 → okFl cs → a ≤ cs.length → cs.length ≤ b → Q (.nt (cs.map clD)) [.mu .bor (penK q), .pd (.int (a : Nat)), .pd (.int (b : Nat))]) → wF f__law_floor [.mu .bor (penK p), .pd (.int (a : Nat)), .pd (.int (b : Nat))] Q := by
    intro Q hQ
    refine wF_run (e := startE 8 [.mu .bor (penK p), .pd (.int (a : Nat)), .pd (.int (b : Nat))]) rfl ?_
    have A : Al 3 8 (startE 8 [.mu .bor (penK p), .pd (.int (a : Nat)), .pd (.int (b : Nat))]) := al_start rfl (by decide)
    have h0 : (startE 8 [.mu .bor (penK p), .pd (.int (a : Nat)), .pd (.int (b : Nat))])[0]? = some (some (.mu .bor (penK p))) := rfl
    have h1 : (startE 8 [.mu .bor (penK p), .pd (.int (a : Nat)), .pd (.int (b : Nat))])[1]? = some (some (.pd (.int (a : Nat)))) := rfl
    have h2 : (startE 8 [.mu .bor (penK p), .pd (.int (a : Nat)), .pd (.int (b : Nat))])[2]? = some (some (.pd (.int (b : Nat)))) := rfl
    generalize startE 8 [.mu .bor (penK p), .pd (.int (a : Nat)), .pd (.int (b : Nat))] = e at *
    have fr := A.fre
    have ln := A.len
    obtain ⟨x, p1, x0, x1, hp1, d1⟩ := draw2_sp p 4 (by decide) (by decide) (by omega)
    obtain ⟨y, p2, y0, y1, hp2, d2⟩ := draw2_sp p1 4 (by decide) (by decide) (by omega)
    refine wS_seq ?_
    simp [wS, free_ne_set, fr, ln, h0, d1, d2, -z_free, -getElem?_pos]
    rw [go]
    refine wS_seq ?_
    refine wS_gen fun E hE => ?_
    have AE : Al 3 8 E := by rw [hE]; repeat (first | exact A | refine Al.set ?_ rfl | refine Al.low ?_ (by decide))
    have g0 : E[0]? = some (some (.mu .bor (penK p2))) := by rw [hE]; simp [ln]
    have g1 : E[1]? = some (some (.pd (.int (a : Nat)))) := by rw [hE]; simpa using h1
    have g2 : E[2]? = some (some (.pd (.int (b : Nat)))) := by rw [hE]; simpa using h2
    have g3 : E[3]? = some (some (.mu .own (.ls ([(x, y)].map clD)))) := by rw [hE]; simp [ln, clD]
    clear hE
    have lE := AE.len
    obtain ⟨z, p3, z0, z1, hp3, d3⟩ := draw2_sp p2 ((b : Int) - a + 1) (by omega) (by omega) (by omega)
    obtain ⟨k, rfl⟩ : ∃ k : Nat, z = k := ⟨z.toNat, by omega⟩
    have m1 : (a : Int) - 1 + (k : Int) = ((a - 1 + k : Nat) : Int) := by omega
    refine wS_for (xs := upD (a - 1 + k)) (lk := none) (e := E.set 0 (some (.mu .bor (penK p3)))) (rg1_up (by simp [g0, g1, g2, lE, kAdd, kSub, oI, d3, m1, -getElem?_pos, -Int.natCast_add]) (by omega)) (FlI p (a - 1 + k) a b) ⟨p3, [(x, y)], by rw [upD_len]; omega, ⟨by simp, by simp, fun c hc => by
      simp at hc
      subst hc
      unfold inB
      simp
      omega⟩, by rw [upD_len]; simp, AE.low (by decide), by simp [lE], by simpa using g3⟩ ?_ ?_
    · rintro w rest e ⟨p, cs, hp, hg, hl, A, h0, h3⟩
      rw [List.length_cons] at hp hl
      have fr := A.fre
      have ln := A.len
      simp only [gW, z_gN, z_setR, fr 4 (by decide) (by decide), if_true]
      rw [go]
      refine wS_seq ?_
      have nl := near_lc cs (by omega) (e.set 4 (some (.pd w))) (by simp [ln]) (by simpa using h3)
      simp [wS, free_ne_set, fr, ln, nl, -z_free, -getElem?_pos, -z_lc]
      rw [go]
      refine wS_gen fun E hE => ?_
      have AE : Al 3 8 E := by rw [hE]; repeat (first | exact A | refine Al.set ?_ rfl | refine Al.low ?_ (by decide))
      have g0 : E[0]? = some (some (.mu .bor (penK p))) := by rw [hE]; simpa using h0
      have g3 : E[3]? = some (some (.mu .own (.ls (cs.map clD)))) := by rw [hE]; simpa using h3
      have g5 : E[5]? = some (some (.mu .own (.ls ((nearC cs).map clD)))) := by rw [hE]; simp [ln]
      clear hE
      have lE := AE.len
      have fE := AE.fre
      obtain ⟨z, q1, z0, z1, hq1, d1⟩ := draw2_sp p 7 (by decide) (by decide) (by omega)
      have np := near_pos hg (by omega)
      have op := oth_pos hg (by omega)
      have ol := oth_len cs
      have nl2 : (nearC cs).length ≤ 16 := Nat.le_trans (List.length_filter_le _ _) ol
      have ot := others_sp cs
      have lim : cs.length ≤ 1000000 := by omega
      by_cases zz : z > 0
      · obtain ⟨v, hv, q2, hq2, pk⟩ := pick2_l q1 ((nearC cs).map clD) (by simpa using np) (by simp; omega) (by omega)
        obtain ⟨c, hc, rfl⟩ := List.mem_map.mp hv
        have hc' : c ∈ othC cs := (List.mem_filter.mp hc).1
        simp [wS, isL, g0, g3, g5, lE, kGt, oI, d1, zz, pk, kAppend, lim, -z_free, -getElem?_pos]
        exact ⟨q2, cs ++ [c], by omega, good_new hg hc', by simp; omega, by repeat (first | exact AE | refine Al.set ?_ rfl | refine Al.low ?_ (by decide)), by simp [lE], by simp [lE]⟩
      · obtain ⟨v, hv, q2, hq2, pk⟩ := pick2_l q1 ((othC cs).map clD) (by simpa using op) (by simp; omega) (by omega)
        obtain ⟨c, hc, rfl⟩ := List.mem_map.mp hv
        simp [wS, isL, g0, g3, g5, lE, kGt, oI, d1, zz, ot, pk, kAppend, lim, -z_free, -getElem?_pos]
        exact ⟨q2, cs ++ [c], by omega, good_new hg hc, by simp; omega, by repeat (first | exact AE | refine Al.set ?_ rfl | refine Al.low ?_ (by decide)), by simp [lE], by simp [lE]⟩
    · rintro e ⟨p', cs, hp, hg, hl, A, h0, h3⟩
      have ln := A.len
      simp only [List.length_nil, Nat.mul_zero, Nat.add_zero] at hp hl
      obtain ⟨ok, sl⟩ := sort_ok hg (by omega) (by omega)
      have hn : ints? (cs.map clD) = none := by
        cases cs with
        | nil => exact absurd hg.1 (by simp)
        | cons c r => rfl
      have hpr := pairs_of cs hg.2.2
      have hlt : cs.length < 64 := by omega
      rw [z_unl, nxt_nx, go]
      refine wS_of (fl := .rt (.nt ((cs.mergeSort prLe).map clD))) (e := e) (by simp [h3, kSorted, hn, hpr, hlt, kTupN]) ?_
      exact ⟨_, _, rfl, fin_mu rfl (by decide) (by simp [ln]) h0, hQ p' _ (by omega) ok (by omega) (by omega)⟩
  obtain ⟨r, as, e, q, cs, h1, h2, h3, h4, rfl, rfl⟩ := key (fun r as => ∃ (q : Pk) (cs : List Cell), q.t ≤ p.t + 30 ∧ okFl cs ∧ a ≤ cs.length ∧ cs.length ≤ b ∧ r = .nt (cs.map clD) ∧ as = [.mu .bor (penK q), .pd (.int (a : Nat)), .pd (.int (b : Nat))]) (fun q cs h1 h2 h3 h4 => ⟨q, cs, h1, h2, h3, h4, rfl, rfl⟩)
  exact ⟨q, cs, h1, h2, h3, h4, e⟩
def few (cs : List Cell) : List Dir → Cell → Nat
  | [], _ => 0
  | d :: ds, c => if stepC c d ∈ cs then min (1 + few cs ds c) (few cs ds (stepC c d)) else 1 + few cs ds c
theorem few_cons (cs : List Cell) (d : Dir) (ds : List Dir) (c : Cell) : few cs (d :: ds) c = if stepC c d ∈ cs then min (1 + few cs ds c) (few cs ds (stepC c d)) else 1 + few cs ds c := rfl
def outO (cs : List Cell) : List Dir → Cell → Nat → List Nat
  | [], _, _ => []
  | d :: ds, c, i => if few cs (d :: ds) c = 1 + few cs ds c then i :: outO cs ds c (i + 1) else outO cs ds (stepC c d) (i + 1)
def wo (ps : List Nat) (i : Nat) (ds : List Dir) : List Dir := ((ds.zipIdx i).filter fun p => !decide (p.2 ∈ ps)).map (·.1)
theorem wo_cons (ps : List Nat) (i : Nat) (d : Dir) (ds : List Dir) : wo ps i (d :: ds) = if i ∈ ps then wo ps (i + 1) ds else d :: wo ps (i + 1) ds := by
  unfold wo
  rw [List.zipIdx_cons, List.filter_cons]
  by_cases h : i ∈ ps <;> simp [h]
theorem wo_congr {ps qs : List Nat} : ∀ (ds : List Dir) (i : Nat), (∀ j, i ≤ j → (j ∈ ps ↔ j ∈ qs)) → wo ps i ds = wo qs i ds
  | [], i, _ => rfl
  | d :: ds, i, h => by
    rw [wo_cons, wo_cons, wo_congr ds (i + 1) fun j hj => h j (by omega)]
    by_cases z : i ∈ ps
    · rw [if_pos z, if_pos ((h i (Nat.le_refl i)).mp z)]
    · rw [if_neg z, if_neg (fun q => z ((h i (Nat.le_refl i)).mpr q))]
theorem wo_sub (ps : List Nat) : ∀ (ds : List Dir) (i : Nat), (wo ps i ds).Sublist ds
  | [], i => List.Sublist.refl _
  | d :: ds, i => by
    rw [wo_cons]
    split
    · exact (wo_sub ps ds (i + 1)).cons d
    · exact (wo_sub ps ds (i + 1)).cons₂ d
theorem wo_len : ∀ (ds : List Dir) (ps : List Nat) (i : Nat), ds.length ≤ (wo ps i ds).length + ps.length
  | [], ps, i => by simp
  | d :: ds, ps, i => by
    rw [wo_cons]
    split
    · rename_i h
      have e : wo ps (i + 1) ds = wo (ps.erase i) (i + 1) ds := wo_congr ds (i + 1) fun j hj => (List.mem_erase_of_ne (by omega)).symm
      have := wo_len ds (ps.erase i) (i + 1)
      rw [List.length_erase_of_mem h] at this
      have hp := List.length_pos_of_mem h
      rw [e]
      simp only [List.length_cons]
      omega
    · have := wo_len ds ps (i + 1)
      simp only [List.length_cons]
      omega
theorem few_le {cs : List Cell} {es ds : List Dir} (h : es.Sublist ds) : ∀ c : Cell, letR cs c es → few cs ds c + es.length ≤ ds.length := by
  induction h with
  | slnil => intro c _; simp [few]
  | @cons es ds d h ih =>
    intro c hl
    have := ih c hl
    rw [few_cons]
    simp only [List.length_cons]
    split <;> omega
  | @cons_cons es ds d h ih =>
    intro c hl
    obtain ⟨h1, h2⟩ := hl
    have := ih _ h2
    rw [few_cons, if_pos h1]
    simp only [List.length_cons]
    omega
theorem out_ge {cs : List Cell} : ∀ (ds : List Dir) (c : Cell) (i : Nat), ∀ x ∈ outO cs ds c i, i ≤ x ∧ x < i + ds.length
  | [], c, i, x, h => by simp [outO] at h
  | d :: ds, c, i, x, h => by
    unfold outO at h
    simp only [List.length_cons]
    split at h
    · rcases List.mem_cons.mp h with rfl | h
      · omega
      · have := out_ge ds c (i + 1) x h
        omega
    · have := out_ge ds _ (i + 1) x h
      omega
theorem out_rise {cs : List Cell} : ∀ (ds : List Dir) (c : Cell) (i : Nat), (outO cs ds c i).Pairwise (· < ·)
  | [], c, i => by simp [outO]
  | d :: ds, c, i => by
    unfold outO
    split
    · exact List.Pairwise.cons (fun x hx => by have := out_ge ds c (i + 1) x hx; omega) (out_rise ds c (i + 1))
    · exact out_rise ds _ (i + 1)
theorem out_few {cs : List Cell} : ∀ (ds : List Dir) (c : Cell) (i : Nat), (outO cs ds c i).length = few cs ds c
  | [], c, i => rfl
  | d :: ds, c, i => by
    unfold outO
    split
    · rename_i h
      rw [h, List.length_cons, out_few ds c (i + 1)]
      omega
    · rename_i h
      rw [out_few ds _ (i + 1)]
      rw [few_cons] at h ⊢
      by_cases hs : stepC c d ∈ cs
      · rw [if_pos hs] at h ⊢
        omega
      · rw [if_neg hs] at h
        exact absurd rfl h
theorem out_let {cs : List Cell} : ∀ (ds : List Dir) (c : Cell) (i : Nat), letR cs c (wo (outO cs ds c i) i ds)
  | [], c, i => trivial
  | d :: ds, c, i => by
    rw [wo_cons]
    unfold outO
    split
    · rename_i h
      rw [if_pos (List.mem_cons_self)]
      rw [wo_congr (qs := outO cs ds c (i + 1)) ds (i + 1) fun j hj => ⟨fun z => (List.mem_cons.mp z).resolve_left (by omega), List.mem_cons_of_mem _⟩]
      exact out_let ds c (i + 1)
    · rename_i h
      have hn : i ∉ outO cs ds (stepC c d) (i + 1) := fun z => by have := out_ge ds _ (i + 1) i z; omega
      rw [if_neg hn]
      refine ⟨?_, out_let ds _ (i + 1)⟩
      rw [few_cons] at h
      by_cases hs : stepC c d ∈ cs
      · exact hs
      · rw [if_neg hs] at h
        exact absurd rfl h
theorem few_min {cs : List Cell} {ds : List Dir} {c : Cell} {ps : List Nat} (h : letR cs c (wo ps 0 ds)) : few cs ds c ≤ ps.length := by
  have h1 := few_le (wo_sub ps ds 0) c h
  have h2 := wo_len ds ps 0
  omega
theorem out_wl {cs : List Cell} (ds : List Dir) (c : Cell) : (wo (outO cs ds c 0) 0 ds).length + few cs ds c = ds.length := by
  have h1 := few_le (wo_sub (outO cs ds c 0) ds 0) c (out_let ds c 0)
  have h2 := wo_len ds (outO cs ds c 0) 0
  rw [out_few] at h2
  omega
theorem best {cs : List Cell} (ds : List Dir) (c : Cell) : ∃ es, es.Sublist ds ∧ letR cs c es ∧ es.length + few cs ds c = ds.length := ⟨_, wo_sub _ _ _, out_let ds c 0, out_wl ds c⟩
def tkv (cs : List Cell) (f : Cell → Nat) : List (NestedKey × PyData) := cs.map fun c => (ck c, .int ((f c : Nat) : Int))
def tblD (cs : List Cell) (f : Cell → Nat) : PyData := ctD (.dn (tkv cs f))
theorem tkv_val (f : Cell → Nat) (c : Cell) : ∀ cs : List Cell, valN (tkv cs f) (ck c) = if c ∈ cs then some (.int ((f c : Nat) : Int)) else none
  | [] => rfl
  | a :: cs => by
    have ih := tkv_val f c cs
    unfold valN tkv at ih ⊢
    rw [List.map_cons, List.find?_cons]
    by_cases e : ck a = ck c
    · have := ck_inj e
      subst this
      simp
    · have hb : c ≠ a := fun z => e (by rw [z])
      simp only [e, decide_false, List.mem_cons, hb, false_or]
      exact ih
theorem dcOf_tbl (cs : List Cell) (f : Cell → Nat) : dcOf (tblD cs f) = some (.dn (tkv cs f)) := dcOf_dn _
theorem tbl_get {cs : List Cell} {f : Cell → Nat} {c : Cell} (h : c ∈ cs) : cGet (.dn (tkv cs f)) (clD c) = some (some (.int ((f c : Nat) : Int))) := by
  have v := tkv_val f c cs
  rw [if_pos h] at v
  simp [cGet, tk_cell, v]
def ctF (f : Cell → Nat) : List Cell → Ct
  | [] => .dk []
  | a :: xs => .dn (tkv (a :: xs) f)
theorem ctF_put {f : Cell → Nat} {acc : List Cell} {c : Cell} (h : c ∉ acc) (l : acc.length ≤ 1000000) : cPut (ctF f acc) (clD c) (.int ((f c : Nat) : Int)) = some (ctF f (acc ++ [c])) := by
  have kn : key? (clD c) = none := rfl
  have tk := tk_cell c
  cases acc with
  | nil => simp [ctF, cPut, kn, tk, tkv]
  | cons b bs =>
    have l' : (tkv (b :: bs) f).length ≤ 1000000 := by unfold tkv; rw [List.length_map]; exact l
    have v := tkv_val f c (b :: bs)
    rw [if_neg h] at v
    simp [ctF, cPut, tk, l', putN, v]
    simp [tkv]
def dcP (g : GG) (fk fv : EE) (vs : List Nat) (e : Sl) (x k y : PyData) : Prop := match g x (wipeE e vs) with
  | none => False
  | some e1 => match fk e1 with
    | none => False
    | some p => p.1 = .pd k ∧ match fv p.2 with
      | none => False
      | some r => r.1 = .pd y ∧ Kp e r.2 vs
theorem dcP_ex {g : GG} {fk fv : EE} {vs : List Nat} {e : Sl} {x k y : PyData} (h : dcP g fk fv vs e x k y) : ∃ e1 e2 e3, g x (wipeE e vs) = some e1 ∧ fk e1 = some (.pd k, e2) ∧ fv e2 = some (.pd y, e3) ∧ Kp e e3 vs := by
  unfold dcP at h
  cases h1 : g x (wipeE e vs) with
  | none => rw [h1] at h; exact h.elim
  | some e1 =>
    rw [h1] at h
    simp only at h
    cases h2 : fk e1 with
    | none => rw [h2] at h; exact h.elim
    | some q =>
      rw [h2] at h
      simp only at h
      obtain ⟨h3, h⟩ := h
      obtain ⟨q1, q2⟩ := q
      simp only at h3 h
      subst h3
      cases h4 : fv q2 with
      | none => rw [h4] at h; exact h.elim
      | some r =>
        rw [h4] at h
        obtain ⟨r1, r2⟩ := r
        obtain ⟨h5, h6⟩ := h
        simp only at h5 h6
        subst h5
        exact ⟨e1, q2, r2, rfl, h2, h4, h6⟩
theorem dc_cells {g : GG} {fk fv : EE} {vs : List Nat} {env : Sl} (f : Cell → Nat) : ∀ (xs acc : List Cell), (acc ++ xs).Nodup → (acc ++ xs).length ≤ 1000000 → (∀ c ∈ xs, dcP g fk fv vs env (clD c) (clD c) (.int ((f c : Nat) : Int))) →
    dcC g fk fv vs (xs.map clD) env (ctF f acc) = some (ctF f (acc ++ xs), env)
  | [], acc, _, _, _ => by simp [dcC]
  | c :: xs, acc, nd, ln, hs => by
    have na : c ∉ acc := fun z => by
      rw [List.nodup_append] at nd
      exact nd.2.2 c z c (by simp) rfl
    have p := ctF_put (f := f) na (by rw [List.length_append] at ln; omega)
    have ih := dc_cells (g := g) (fk := fk) (fv := fv) (vs := vs) (env := env) f xs (acc ++ [c]) (by simpa using nd) (by simpa using ln) (fun x hx => hs x (by simp [hx]))
    obtain ⟨e1, e2, e3, h1, h2, h3, h4⟩ := dcP_ex (hs c (by simp))
    rw [List.map_cons]
    have u : dcC g fk fv vs (clD c :: xs.map clD) env (ctF f acc) = dcC g fk fv vs (xs.map clD) (unwipe env e3 vs) (ctF f (acc ++ [c])) := by
      simp only [dcC, h1, h2, h3, p]
    rw [u, h4.un, ih]
    simp
theorem dc_tbl {it : EI} {g : GG} {fk fv : EE} {vs : List Nat} {env : Sl} {cs : List Cell} (f : Cell → Nat) (h0 : 0 < cs.length) (nd : cs.Nodup) (ln : cs.length ≤ 1000000) (hi : it env = some (cs.map clD, none, env)) (hs : ∀ c ∈ cs, dcP g fk fv vs env (clD c) (clD c) (.int ((f c : Nat) : Int))) :
    eDcC it g fk fv vs env = some (.tmp (.dn (tkv cs f)), env) := by
  have := dc_cells (g := g) (fk := fk) (fv := fv) (vs := vs) (env := env) f cs [] (by simpa using nd) (by simpa using ln) hs
  have e0 : ctF f ([] : List Cell) = .dk [] := rfl
  rw [e0] at this
  cases cs with
  | nil => simp at h0
  | cons a cs =>
    rw [z_dcC, hi]
    simp only [this, z_unl]
    rfl
theorem fewest_at_sp {cs : List Cell} {c : Cell} (d : Dir) (f : Cell → Nat) (hc : c ∈ cs) : f_fewest_at [.nt (cs.map clD), .pd (clD c), .pd (.str (chS d)), .pd (tblD cs f)] = some (.pd (.int (((if stepC c d ∈ cs then min (1 + f c) (f (stepC c d)) else 1 + f c : Nat) : Nat) : Int)), [.nt (cs.map clD), .pd (clD c), .pd (.str (chS d)), .pd (tblD cs f)]) := by
  have r := rolled_cell_sp c d
  have i := in_cells (stepC c d) cs false
  have g1 := tbl_get (f := f) hc
  have dt := dcOf_tbl cs f
  have ad : ∀ env : Sl, kAdd [.pd (.int 1), .pd (.int ((f c : Nat) : Int))] env = some (.pd (.int ((1 + f c : Nat) : Int)), env) := fun env => by simp [kAdd, oI]
  unfold f_fewest_at
  rw [run_of (e := [some (.nt (cs.map clD)), some (.pd (clD c)), some (.pd (.str (chS d))), some (.pd (tblD cs f)), none]) rfl]
  by_cases z : stepC c d ∈ cs
  · have g2 := tbl_get (f := f) z
    have m : oMin [.int ((1 + f c : Nat) : Int), .int ((f (stepC c d) : Nat) : Int)] = some (.int ((min (1 + f c) (f (stepC c d)) : Nat) : Int)) := by
      simp only [oMin]
      congr 2
      split <;> omega
    simp [m_fewest_at, r, i, z, dt, g1, g2, ad, m, -Int.natCast_add]
  · simp [m_fewest_at, r, i, z, dt, g1, ad, -Int.natCast_add]
def tabsR (cs : List Cell) : List Dir → List PyData
  | [] => [tblD cs (few cs [])]
  | d :: ds => tabsR cs ds ++ [tblD cs (few cs (d :: ds))]
theorem tabsR_last (cs : List Cell) (ds : List Dir) : ∃ X, tabsR cs ds = X ++ [tblD cs (few cs ds)] := by
  cases ds with
  | nil => exact ⟨[], rfl⟩
  | cons d ds => exact ⟨_, rfl⟩
theorem tabsR_len (cs : List Cell) : ∀ ds : List Dir, (tabsR cs ds).length = ds.length + 1
  | [] => rfl
  | d :: ds => by simp [tabsR, tabsR_len cs ds]
theorem tabs_at (cs : List Cell) : ∀ (ds : List Dir) (i : Nat), i ≤ ds.length → (tabsR cs ds).reverse[i]? = some (tblD cs (few cs (ds.drop i)))
  | [], i, h => by
    have : i = 0 := by simpa using h
    subst this
    rfl
  | d :: ds, 0, h => by simp [tabsR]
  | d :: ds, i + 1, h => by
    have := tabs_at cs ds i (by simpa using h)
    simpa [tabsR] using this
def LfI (cs : List Cell) (ds : List Dir) (rest : List PyData) (e : Sl) : Prop := ∃ ts us, ds = ts ++ us ∧ rest = ts.reverse.map chD ∧ Al 3 6 e ∧ e[0]? = some (some (.nt (cs.map clD))) ∧ e[1]? = some (some (.pd (.str (rowS ds)))) ∧ e[2]? = some (some (.mu .own (.ls (tabsR cs us))))
theorem fewest_left_sp {cs : List Cell} {ds : List Dir} (hf : okFl cs) (ln : ds.length ≤ 1000) : f_fewest_left [.nt (cs.map clD), .pd (.str (rowS ds))] = some (.tmp (.ls (tabsR cs ds).reverse), [.nt (cs.map clD), .pd (.str (rowS ds))]) := by
  have nd := chain_nd hf.2.2.2
  have l9 := hf.2.1
  have l0 : 0 < cs.length := hf.1
  have key : ∀ Q : R → List S → Prop, Q (.tmp (.ls (tabsR cs ds).reverse)) [.nt (cs.map clD), .pd (.str (rowS ds))] → wF f_fewest_left [.nt (cs.map clD), .pd (.str (rowS ds))] Q := by
    intro Q hQ
    refine wF_run (e := startE 6 [.nt (cs.map clD), .pd (.str (rowS ds))]) rfl ?_
    have A0 : Al 2 6 (startE 6 [.nt (cs.map clD), .pd (.str (rowS ds))]) := al_start rfl (by decide)
    have h0 : (startE 6 [.nt (cs.map clD), .pd (.str (rowS ds))])[0]? = some (some (.nt (cs.map clD))) := rfl
    have h1 : (startE 6 [.nt (cs.map clD), .pd (.str (rowS ds))])[1]? = some (some (.pd (.str (rowS ds)))) := rfl
    generalize startE 6 [.nt (cs.map clD), .pd (.str (rowS ds))] = e at *
    have fr := A0.fre
    have le := A0.len
    have d0 := dc_tbl (it := iSeq (eVar 0)) (g := gN 5) (fk := eVar 5) (fv := eC (.int 0)) (vs := [5]) (env := e) (cs := cs) (fun _ => 0) l0 nd (by omega) (by simp [iSeq, h0, -getElem?_pos]) (fun c hc => by
      simp [dcP, wipe_at, wipe_free, wipeE_len, le, Kp.set, -z_free, -getElem?_pos])
    have f0 : tblD cs (few cs []) = ctD (.dn (tkv cs fun _ => 0)) := rfl
    refine wS_seq ?_
    refine wS_of (fl := .nx) (e := e.set 2 (some (.mu .own (.ls (tabsR cs []))))) (by simp [d0, kLst, datas, T3.data1, fr, tabsR, f0, -z_free, -z_dcC, -getElem?_pos]) ?_
    rw [nxt_nx, go]
    have g0 : (e.set 2 (some (.mu .own (.ls (tabsR cs [])))))[0]? = some (some (.nt (cs.map clD))) := by simpa using h0
    have g1 : (e.set 2 (some (.mu .own (.ls (tabsR cs [])))))[1]? = some (some (.pd (.str (rowS ds)))) := by simpa using h1
    have g2 : (e.set 2 (some (.mu .own (.ls (tabsR cs [])))))[2]? = some (some (.mu .own (.ls (tabsR cs [])))) := by simp [le]
    have AE : Al 2 6 (e.set 2 (some (.mu .own (.ls (tabsR cs []))))) := A0.set rfl
    generalize e.set 2 (some (.mu .own (.ls (tabsR cs [])))) = E at *
    refine wS_seq ?_
    have sg : signs (rowS ds.reverse) = ds.reverse.map chD := by rw [signs_row]; rfl
    have hl : (rowS ds).length ≤ 1000000 := by rw [row_len]; omega
    refine wS_for (xs := ds.reverse.map chD) (lk := none) (e := E) (by simp [iSeq, eRevS, g1, hl, rev_row, sg, -getElem?_pos]) (LfI cs ds) ⟨ds, [], by simp, rfl, ⟨AE.len, fun i a b => AE.fre i (by omega) b⟩, g0, g1, g2⟩ ?_ ?_
    · rintro x rest F ⟨ts, us, hu, hr, AF, k0, k1, k2⟩
      rcases List.eq_nil_or_concat ts with rfl | ⟨ts, d, rfl⟩
      · simp at hr
      · rw [List.concat_eq_append] at hu hr
        simp only [List.reverse_append, List.reverse_cons, List.reverse_nil, List.nil_append, List.cons_append, List.map_cons, List.cons.injEq] at hr
        obtain ⟨rfl, rfl⟩ := hr
        have fF := AF.fre
        have lF := AF.len
        simp only [gW, z_gN, z_setR, fF 3 (by decide) (by decide), if_true]
        rw [go]
        obtain ⟨X, hX⟩ := tabsR_last cs us
        have la : oIx [.list (tabsR cs us), .int (-1)] = some (tblD cs (few cs us)) := by
          rw [hX]; simp [oIx, at_last]
        have ng : ∀ env : Sl, kNeg [.pd (.int 1)] env = some (.pd (.int (-1)), env) := fun _ => rfl
        refine wS_seq ?_
        refine wS_of (fl := .nx) (e := (F.set 3 (some (.pd (chD d)))).set 4 (some (.pd (tblD cs (few cs us))))) (by simp [k2, la, ng, lF, free_ne_set, fF, -z_free, -getElem?_pos]) ?_
        rw [nxt_nx, go]
        have m0 : ((F.set 3 (some (.pd (chD d)))).set 4 (some (.pd (tblD cs (few cs us)))))[0]? = some (some (.nt (cs.map clD))) := by simpa using k0
        have m1 : ((F.set 3 (some (.pd (chD d)))).set 4 (some (.pd (tblD cs (few cs us)))))[1]? = some (some (.pd (.str (rowS ds)))) := by simpa using k1
        have m2 : ((F.set 3 (some (.pd (chD d)))).set 4 (some (.pd (tblD cs (few cs us)))))[2]? = some (some (.mu .own (.ls (tabsR cs us)))) := by simpa using k2
        have m3 : ((F.set 3 (some (.pd (chD d)))).set 4 (some (.pd (tblD cs (few cs us)))))[3]? = some (some (.pd (chD d))) := by simp [lF]
        have m4 : ((F.set 3 (some (.pd (chD d)))).set 4 (some (.pd (tblD cs (few cs us)))))[4]? = some (some (.pd (tblD cs (few cs us)))) := by simp [lF]
        have AG : Al 3 6 ((F.set 3 (some (.pd (chD d)))).set 4 (some (.pd (tblD cs (few cs us))))) := (AF.set rfl).set rfl
        generalize (F.set 3 (some (.pd (chD d)))).set 4 (some (.pd (tblD cs (few cs us)))) = G at *
        have lG := AG.len
        have fG := AG.fre
        have d1 := dc_tbl (it := iSeq (eVar 0)) (g := gN 5) (fk := eVar 5) (fv := eCall f_fewest_at (eCons (eVar 0) (eCons (eVar 5) (eCons (eVar 3) (eCons (eVar 4) eNil))))) (vs := [5]) (env := G) (cs := cs) (few cs (d :: us)) l0 nd (by omega) (by simp [iSeq, m0, -getElem?_pos]) (fun c hc => by
          have fa := fewest_at_sp d (few cs us) hc
          have fe : few cs (d :: us) c = if stepC c d ∈ cs then min (1 + few cs us c) (few cs us (stepC c d)) else 1 + few cs us c := rfl
          rw [← fe] at fa
          have m3' : G[3]? = some (some (.pd (.str (chS d)))) := m3
          simp [dcP, wipe_at, wipe_free, wipeE_len, lG, m0, m3', m4, fa, Kp.set, -z_free, -getElem?_pos])
        have l3 : (tabsR cs us).length ≤ 1000000 := by
          rw [tabsR_len]
          have := congrArg List.length hu
          simp at this
          omega
        have isl : isL G (.var 2) = true := by simp [isL, m2, -getElem?_pos]
        have f1 : tblD cs (few cs (d :: us)) = ctD (.dn (tkv cs (few cs (d :: us)))) := rfl
        have fin : LfI cs ds (ts.reverse.map chD) (G.set 2 (some (.mu .own (.ls (tabsR cs (d :: us)))))) :=
          ⟨ts, d :: us, by simp [hu], rfl, AG.low (by decide), by simpa using m0, by simpa using m1, by simp [lG]⟩
        refine wS_of (fl := .nx) (e := G.set 2 (some (.mu .own (.ls (tabsR cs (d :: us)))))) ?_ fin
        have tr : tabsR cs (d :: us) = tabsR cs us ++ [ctD (.dn (tkv cs (few cs (d :: us))))] := rfl
        simp [m2, isl, d1, kAppend, T3.data1, l3, tr, -z_dcC, -getElem?_pos]
    · rintro F ⟨ts, us, hu, hr, AF, k0, k1, k2⟩
      have : ts = [] := by simpa using hr.symm
      subst this
      rw [List.nil_append] at hu
      subst hu
      simp only [z_unl, nxt_nx]
      rw [go]
      have lF := AF.len
      have l3 : (tabsR cs ds).length ≤ 1000000 := by rw [tabsR_len]; omega
      refine wS_of (fl := .rt (.tmp (.ls (tabsR cs ds).reverse))) (e := F) (by simp [eRevL, k2, l3, -getElem?_pos]) ?_
      exact ⟨_, _, rfl, fin_pd rfl (by rw [lF]; simp), hQ⟩
  obtain ⟨r, as, e, rfl, rfl⟩ := key (fun r as => r = _ ∧ as = _) ⟨rfl, rfl⟩
  exact e
theorem need_asked_sp {cs : List Cell} {c : Cell} {ds : List Dir} (hf : okFl cs) (hc : c ∈ cs) (ln : ds.length ≤ 1000) : f_need_asked [.nt (cs.map clD), .pd (clD c), .pd (.str (rowS ds))] = some (.pd .none, [.nt (cs.map clD), .pd (clD c), .pd (.str (rowS ds))]) := by
  have a := need_floor_sp cs hf
  have b := need_cell_sp cs c hc (hf.2.2.1 c hc)
  have d := need_row_sp ds ln
  unfold f_need_asked
  rw [run_of (e := [some (.nt (cs.map clD)), some (.pd (clD c)), some (.pd (.str (rowS ds)))]) rfl]
  simp [m_need_asked, a, b, d]
theorem addI (a b : Int) (env : Sl) : kAdd [.pd (.int a), .pd (.int b)] env = some (.pd (.int (a + b)), env) := by simp [kAdd, oI]
theorem eq_nat (a b : Nat) : oEq [.int ((a : Nat) : Int), .int ((b : Nat) : Int)] = some (.bool (decide (a = b))) := by
  have : oEq [PyData.int ((a : Nat) : Int), .int ((b : Nat) : Int)] = some (.bool (decide ((a : Int) = (b : Int)))) := by
    by_cases h : (a : Int) = (b : Int)
    · rw [pl_eq (n := 0) (m := 0) rfl rfl (by decide) (by decide) (by rw [h])]; simp [h]
    · rw [pl_eq' (n := 0) (m := 0) rfl rfl (by decide) (by decide) (fun z => h (by injection z))]; simp [h]
  rw [this]
  congr 2
  exact decide_eq_decide.mpr (by omega)
def LoJ (cs : List Cell) (c : Cell) (ds : List Dir) (rest : List PyData) (e : Sl) : Prop := ∃ (us : List Dir) (k : Nat) (pl : List Nat) (h : Cell), us = ds.drop k ∧ k + us.length = ds.length ∧ rest = (us.zipIdx k).map (fun p => .tuple [.int ((p.2 : Nat) : Int), .str (chS p.1)]) ∧ h ∈ cs ∧ pl ++ outO cs us h k = outO cs ds c 0 ∧ Al 6 8 e ∧ e[0]? = some (some (.nt (cs.map clD))) ∧ e[1]? = some (some (.pd (clD c))) ∧ e[2]? = some (some (.pd (.str (rowS ds)))) ∧ e[3]? = some (some (.mu .own (.ls (tabsR cs ds).reverse))) ∧ e[4]? = some (some (.mu .own (.ls (nD pl)))) ∧ e[5]? = some (some (.pd (clD h)))
theorem left_out_sp {cs : List Cell} {c : Cell} {ds : List Dir} (hf : okFl cs) (hc : c ∈ cs) (ln : ds.length ≤ 1000) : f_left_out [.nt (cs.map clD), .pd (clD c), .pd (.str (rowS ds))] = some (.nt (nD (outO cs ds c 0)), [.nt (cs.map clD), .pd (clD c), .pd (.str (rowS ds))]) := by
  have na := need_asked_sp hf hc ln
  have fl := fewest_left_sp hf ln
  have key : ∀ Q : R → List S → Prop, Q (.nt (nD (outO cs ds c 0))) [.nt (cs.map clD), .pd (clD c), .pd (.str (rowS ds))] → wF f_left_out [.nt (cs.map clD), .pd (clD c), .pd (.str (rowS ds))] Q := by
    intro Q hQ
    refine wF_run (e := startE 8 [.nt (cs.map clD), .pd (clD c), .pd (.str (rowS ds))]) rfl ?_
    have A0 : Al 3 8 (startE 8 [.nt (cs.map clD), .pd (clD c), .pd (.str (rowS ds))]) := al_start rfl (by decide)
    have h0 : (startE 8 [.nt (cs.map clD), .pd (clD c), .pd (.str (rowS ds))])[0]? = some (some (.nt (cs.map clD))) := rfl
    have h1 : (startE 8 [.nt (cs.map clD), .pd (clD c), .pd (.str (rowS ds))])[1]? = some (some (.pd (clD c))) := rfl
    have h2 : (startE 8 [.nt (cs.map clD), .pd (clD c), .pd (.str (rowS ds))])[2]? = some (some (.pd (.str (rowS ds)))) := rfl
    generalize startE 8 [.nt (cs.map clD), .pd (clD c), .pd (.str (rowS ds))] = e at *
    have fr := A0.fre
    have le := A0.len
    refine wS_seq ?_
    refine wS_of (fl := .nx) (e := e) (by simp [h0, h1, h2, na, -getElem?_pos]) ?_
    rw [nxt_nx, go]
    refine wS_seq ?_
    refine wS_of (fl := .nx) (e := e.set 3 (some (.mu .own (.ls (tabsR cs ds).reverse)))) (by simp [h0, h2, fl, fr, -z_free, -getElem?_pos]) ?_
    rw [nxt_nx, go]
    refine wS_seq ?_
    refine wS_of (fl := .nx) (e := (e.set 3 (some (.mu .own (.ls (tabsR cs ds).reverse)))).set 4 (some (.mu .own (.ls (nD []))))) (by simp [kLst, datas, free_ne_set, fr, nD, -z_free, -getElem?_pos]) ?_
    rw [nxt_nx, go]
    refine wS_seq ?_
    refine wS_of (fl := .nx) (e := ((e.set 3 (some (.mu .own (.ls (tabsR cs ds).reverse)))).set 4 (some (.mu .own (.ls (nD []))))).set 5 (some (.pd (clD c)))) (by simp [free_ne_set, fr, h1, -z_free, -getElem?_pos]) ?_
    rw [nxt_nx, go]
    refine wS_gen fun E hE => ?_
    have AE : Al 3 8 E := by rw [hE]; repeat (first | exact A0 | refine Al.set ?_ rfl)
    have g0 : E[0]? = some (some (.nt (cs.map clD))) := by rw [hE]; simpa using h0
    have g1 : E[1]? = some (some (.pd (clD c))) := by rw [hE]; simpa using h1
    have g2 : E[2]? = some (some (.pd (.str (rowS ds)))) := by rw [hE]; simpa using h2
    have g3 : E[3]? = some (some (.mu .own (.ls (tabsR cs ds).reverse))) := by rw [hE]; simp [le]
    have g4 : E[4]? = some (some (.mu .own (.ls (nD [])))) := by rw [hE]; simp [le]
    have g5 : E[5]? = some (some (.pd (clD c))) := by rw [hE]; simp [le]
    clear hE
    have en := enum_row ds
    have hl : (rowS ds).length ≤ 1000000 := by rw [row_len]; omega
    refine wS_seq ?_
    refine wS_for (xs := (ds.zipIdx 0).map fun p => .tuple [.int ((p.2 : Nat) : Int), .str (chS p.1)]) (lk := none) (e := E) (by simp [iEn, g2, en, hl, -getElem?_pos]) (LoJ cs c ds) ⟨ds, 0, [], c, rfl, by simp, rfl, hc, rfl, ⟨AE.len, fun i a b => AE.fre i (by omega) b⟩, g0, g1, g2, g3, g4, g5⟩ ?_ ?_
    · rintro x rest F ⟨us, k, pl, h, hu, hk, hr, hh, hp, AF, k0, k1, k2, k3, k4, k5⟩
      cases us with
      | nil => simp at hr
      | cons d us =>
        rw [List.zipIdx_cons, List.map_cons] at hr
        simp only [List.cons.injEq] at hr
        obtain ⟨rfl, rfl⟩ := hr
        have fF := AF.fre
        have lF := AF.len
        simp only [List.length_cons] at hk
        have hu1 : ds.drop (k + 1) = us := by rw [← List.tail_drop, ← hu]; rfl
        have gt : gW (gT 2 (gCn (gN 6) (gCn (gN 7) gNl))) (.tuple [.int ((k : Nat) : Int), .str (chS d)]) F = fun K => K ((F.set 6 (some (.pd (.int ((k : Nat) : Int))))).set 7 (some (.pd (.str (chS d))))) := by
          funext K
          simp [gW, gT, gCn, gNl, fF, free_ne_set, -z_free]
        rw [gt]
        simp only
        rw [go]
        have m0 : ((F.set 6 (some (.pd (.int ((k : Nat) : Int))))).set 7 (some (.pd (.str (chS d)))))[0]? = some (some (.nt (cs.map clD))) := by simpa using k0
        have m1 : ((F.set 6 (some (.pd (.int ((k : Nat) : Int))))).set 7 (some (.pd (.str (chS d)))))[1]? = some (some (.pd (clD c))) := by simpa using k1
        have m2 : ((F.set 6 (some (.pd (.int ((k : Nat) : Int))))).set 7 (some (.pd (.str (chS d)))))[2]? = some (some (.pd (.str (rowS ds)))) := by simpa using k2
        have m3 : ((F.set 6 (some (.pd (.int ((k : Nat) : Int))))).set 7 (some (.pd (.str (chS d)))))[3]? = some (some (.mu .own (.ls (tabsR cs ds).reverse))) := by simpa using k3
        have m4 : ((F.set 6 (some (.pd (.int ((k : Nat) : Int))))).set 7 (some (.pd (.str (chS d)))))[4]? = some (some (.mu .own (.ls (nD pl)))) := by simpa using k4
        have m5 : ((F.set 6 (some (.pd (.int ((k : Nat) : Int))))).set 7 (some (.pd (.str (chS d)))))[5]? = some (some (.pd (clD h))) := by simpa using k5
        have m6 : ((F.set 6 (some (.pd (.int ((k : Nat) : Int))))).set 7 (some (.pd (.str (chS d)))))[6]? = some (some (.pd (.int ((k : Nat) : Int)))) := by simp [lF]
        have m7 : ((F.set 6 (some (.pd (.int ((k : Nat) : Int))))).set 7 (some (.pd (.str (chS d)))))[7]? = some (some (.pd (.str (chS d)))) := by simp [lF]
        have AG : Al 6 8 ((F.set 6 (some (.pd (.int ((k : Nat) : Int))))).set 7 (some (.pd (.str (chS d))))) := (AF.set rfl).set rfl
        generalize (F.set 6 (some (.pd (.int ((k : Nat) : Int))))).set 7 (some (.pd (.str (chS d)))) = G at *
        have lG := AG.len
        have t1 := tabs_at cs ds k (by omega)
        have t2 := tabs_at cs ds (k + 1) (by omega)
        rw [← hu] at t1
        rw [hu1] at t2
        have x1 : oIx [.list (tabsR cs ds).reverse, .int ((k : Nat) : Int)] = some (tblD cs (few cs (d :: us))) := by
          have := atI_at (xs := (tabsR cs ds).reverse) (i := ((k : Nat) : Int)) (by omega) (by simpa using t1)
          simp [oIx, this]
        have x2 : oIx [.list (tabsR cs ds).reverse, .int (((k : Nat) : Int) + 1)] = some (tblD cs (few cs us)) := by
          have := atI_at (xs := (tabsR cs ds).reverse) (i := ((k : Nat) : Int) + 1) (by omega) (by
            have : (((k : Nat) : Int) + 1).toNat = k + 1 := by omega
            rw [this]; exact t2)
          simp [oIx, this]
        have q1 := dcOf_tbl cs (few cs (d :: us))
        have q2 := dcOf_tbl cs (few cs us)
        have y1 := tbl_get (f := few cs (d :: us)) hh
        have y2 := tbl_get (f := few cs us) hh
        have a1 : ∀ env : Sl, kAdd [.pd (.int 1), .pd (.int ((few cs us h : Nat) : Int))] env = some (.pd (.int ((1 + few cs us h : Nat) : Int)), env) := fun env => by simp [kAdd, oI]
        have e1 := eq_nat (few cs (d :: us) h) (1 + few cs us h)
        have tst : bT (eEq (eDx (eIx (eVar 3) (eVar 6)) (eVar 5)) (eAdd (eC (.int 1)) (eDx (eIx (eVar 3) (eAdd (eVar 6) (eC (.int 1)))) (eVar 5)))) G = some (decide (few cs (d :: us) h = 1 + few cs us h), G) := by
          simp [m3, m5, m6, x1, x2, q1, q2, y1, y2, addI, a1, e1, -Int.natCast_add, -getElem?_pos]
        refine wS_ifW ?_
        rw [tst]
        simp only [decide_eq_true_eq]
        have ho : outO cs (d :: us) h k = if few cs (d :: us) h = 1 + few cs us h then k :: outO cs us h (k + 1) else outO cs us (stepC h d) (k + 1) := rfl
        split
        · rename_i z
          rw [if_pos z] at ho
          rw [go]
          have isl : isL G (.var 4) = true := by simp [isL, m4, -getElem?_pos]
          have l4 : (nD pl).length ≤ 1000000 := by
            have := congrArg List.length hp
            rw [out_few ds c 0] at this
            have z := out_wl (cs := cs) ds c
            simp [nD] at this ⊢
            omega
          have fin : LoJ cs c ds ((us.zipIdx (k + 1)).map fun p => .tuple [.int ((p.2 : Nat) : Int), .str (chS p.1)]) (G.set 4 (some (.mu .own (.ls (nD (pl ++ [k])))))) :=
            ⟨us, k + 1, pl ++ [k], h, hu1.symm, by omega, rfl, hh, by rw [← hp, ho]; simp, AG.low (by decide), by simpa using m0, by simpa using m1, by simpa using m2, by simpa using m3, by simp [lG], by simpa using m5⟩
          refine wS_of (fl := .nx) (e := G.set 4 (some (.mu .own (.ls (nD (pl ++ [k])))))) ?_ fin
          have na : nD (pl ++ [k]) = nD pl ++ [.int ((k : Nat) : Int)] := by simp [nD]
          simp [m4, m6, isl, kAppend, l4, na, -getElem?_pos]
        · rename_i z
          rw [if_neg z] at ho
          rw [go]
          have hs : stepC h d ∈ cs := by
            have fe : few cs (d :: us) h = if stepC h d ∈ cs then min (1 + few cs us h) (few cs us (stepC h d)) else 1 + few cs us h := rfl
            by_cases hs : stepC h d ∈ cs
            · exact hs
            · rw [if_neg hs] at fe; exact absurd fe z
          have rc := rolled_cell_sp h d
          have fin : LoJ cs c ds ((us.zipIdx (k + 1)).map fun p => .tuple [.int ((p.2 : Nat) : Int), .str (chS p.1)]) (G.set 5 (some (.pd (clD (stepC h d))))) :=
            ⟨us, k + 1, pl, stepC h d, hu1.symm, by omega, rfl, hs, by rw [← hp, ho], AG.low (by decide), by simpa using m0, by simpa using m1, by simpa using m2, by simpa using m3, by simpa using m4, by simp [lG]⟩
          refine wS_of (fl := .nx) (e := G.set 5 (some (.pd (clD (stepC h d))))) ?_ fin
          have f5 : free G 5 = true := by rw [free_frS m5]; rfl
          simp [m5, m7, rc, f5, -z_free, -getElem?_pos]
    · rintro F ⟨us, k, pl, h, hu, hk, hr, hh, hp, AF, k0, k1, k2, k3, k4, k5⟩
      have : us = [] := by
        cases us with
        | nil => rfl
        | cons d us => rw [List.zipIdx_cons] at hr; simp at hr
      subst this
      have hp : pl = outO cs ds c 0 := by simpa [outO] using hp
      simp only [z_unl, nxt_nx]
      rw [go]
      have lF := AF.len
      have l4 : (nD pl).length ≤ 1000000 := by
        have := congrArg List.length hp
        rw [out_few ds c 0] at this
        have z := out_wl (cs := cs) ds c
        simp [nD] at this ⊢
        omega
      refine wS_of (fl := .rt (.nt (nD pl))) (e := F) (by simp [k4, kTupN, l4, -getElem?_pos]) ?_
      rw [hp]
      exact ⟨_, _, rfl, fin_pd rfl (by rw [lF]; simp), hQ⟩
  obtain ⟨r, as, e, rfl, rfl⟩ := key (fun r as => r = _ ∧ as = _) ⟨rfl, rfl⟩
  exact e
def rise (ps : List Nat) : Bool := ((ps.zip ps.tail).map fun p => decide (p.1 < p.2)).all id
structure OkPs (ps : List Nat) (n : Nat) : Prop where
  lt : ∀ p ∈ ps, p < n
  ri : ps.Pairwise (· < ·)
theorem OkPs.nd {ps : List Nat} {n : Nat} (h : OkPs ps n) : ps.Nodup := h.ri.imp fun h => Nat.ne_of_lt h
theorem OkPs.ln {ps : List Nat} {n : Nat} (h : OkPs ps n) : ps.length ≤ n := by
  have := h.nd.length_le_of_subset (l₂ := List.range n) (fun x hx => List.mem_range.mpr (h.lt x hx))
  simpa using this
theorem in_nD (neg : Bool) (k : Nat) (xs : List Nat) : oIn neg [.int ((k : Nat) : Int), .tuple (nD xs)] = some (.bool (if neg = true then !decide (k ∈ xs) else decide (k ∈ xs))) := by
  have hp : ∀ y ∈ nD xs, pl 0 y = true := fun y hy => by
    obtain ⟨j, _, rfl⟩ := List.mem_map.mp hy
    rfl
  by_cases h : k ∈ xs
  · rw [pl_in1 (n := 0) (m := 0) rfl hp (by decide) (by decide) neg (.inl rfl) (List.mem_map.mpr ⟨k, h, rfl⟩)]
    cases neg <;> simp [h]
  · rw [pl_in0 (n := 0) (m := 0) rfl hp (by decide) (by decide) neg (.inl rfl) (fun z => by
      obtain ⟨j, hj, e⟩ := List.mem_map.mp z
      injection e with e
      have : j = k := by omega
      exact h (this ▸ hj))]
    cases neg <;> simp [h]
noncomputable section
end
noncomputable section
def knd : PyData → Bool
  | .dict ((.list [.none], .none) :: _) => true
  | .dict _ => false
  | _ => true
def isW (m : Int) : PyData → Bool
  | .int i => decide (0 ≤ i) && decide (i ≤ m)
  | _ => false
theorem w_all {n : Nat} {ps : List Nat} (h : ∀ p ∈ ps, p < n) : ∀ x ∈ nD ps, isW ((n : Int) - 1) x = true := by
  intro x hx
  obtain ⟨p, hp, rfl⟩ := List.mem_map.mp hx
  have := h p hp
  simp only [isW, Bool.and_eq_true, decide_eq_true_eq]
  omega
structure Tg (x : PyData) : Prop where
  k : knd x = true
  t : ∀ xs, x = .tuple xs → xs.length ≤ 1000 ∧ ∀ y ∈ xs, knd y = true
end
noncomputable section
open Classical in
theorem is_let_loop {cs : List Cell} {s0 : S} (hs : isT s0 (cs.map clD)) (a2 : S) : ∀ (ds : List Dir) (c : Cell) (s3 : Option S), Fr s3 →
    ∃ e', forL (gN 3) (sSeq (sSet 1 (eCall f__law_beside (eCons (eVar 1) (eCons (eVar 3) eNil)))) (sIf (bT (eNin (eVar 1) (eVar 0))) (sRet (eC (.bool false))) sPass)) (ds.map fun d => .str (chS d)) [some s0, some (.pd (clD c)), some a2, s3] = some (if letR cs c ds then .nx else .rt (.pd (.bool false)), some s0 :: e') ∧ e'.length = 3
  | [], c, s3, _ => ⟨[some (.pd (clD c)), some a2, s3], by rw [if_pos (show letR cs c [] from trivial)]; rfl, rfl⟩
  | d :: ds, c, s3, h3 => by
    have st : gN 3 (.str (chS d)) [some s0, some (.pd (clD c)), some a2, s3] = some [some s0, some (.pd (clD c)), some a2, some (.pd (.str (chS d)))] := by
      rcases h3 with rfl | ⟨x, rfl⟩ <;> simp
    rw [List.map_cons]
    have bs := besd_sp c d
    by_cases h : stepC c d ∈ cs
    · obtain ⟨e', ih, l3⟩ := is_let_loop hs a2 ds (stepC c d) (some (.pd (.str (chS d)))) (.inr ⟨_, rfl⟩)
      refine ⟨e', ?_, l3⟩
      rw [forL_cons (e2 := [some s0, some (.pd (clD (stepC c d))), some a2, some (.pd (.str (chS d)))]) st ?_, ih]
      · have : letR cs c (d :: ds) ↔ letR cs (stepC c d) ds := ⟨fun q => q.2, fun q => ⟨h, q⟩⟩
        rw [show letR cs c (d :: ds) = letR cs (stepC c d) ds from propext this]
      · rcases hs with rfl | rfl <;> simp [bs, oIn, sh_cell, sh_cells, any_cell, h, -List.any_map, -List.any_eq_true]
    · refine ⟨[some (.pd (clD (stepC c d))), some a2, some (.pd (.str (chS d)))], ?_, rfl⟩
      unfold forL
      rw [st]
      rw [if_neg fun q => h q.1]
      rcases hs with rfl | rfl <;> simp [bs, oIn, sh_cell, sh_cells, any_cell, h, -List.any_map, -List.any_eq_true]
open Classical in
theorem is_let_sp {cs : List Cell} {s0 : S} (hs : isT s0 (cs.map clD)) (c : Cell) (ds : List Dir) (ln : ds.length ≤ 1000) : f__law_is_let [s0, .pd (clD c), .pd (.str (rowS ds))] = some (.pd (.bool (decide (letR cs c ds))), [s0, .pd (clD c), .pd (.str (rowS ds))]) := by
  unfold f__law_is_let
  rw [run_of (e := [some s0, some (.pd (clD c)), some (.pd (.str (rowS ds))), none]) rfl]
  obtain ⟨e', e, l3⟩ := is_let_loop hs (.pd (.str (rowS ds))) ds c none (.inl rfl)
  have sg := signs_row ds
  have l6 : (rowS ds).length ≤ 1000000 := by rw [row_len]; omega
  have fi : ∀ e : Sl, e.length = 3 → finals [s0, .pd (clD c), .pd (.str (rowS ds))] (some s0 :: e) = some [s0, .pd (clD c), .pd (.str (rowS ds))] := fun e le => fin_pd (by rcases hs with rfl | rfl <;> rfl) (by simp [le])
  rw [← sg] at e
  by_cases h : letR cs c ds
  · rw [if_pos h] at e
    simp [m__law_is_let, iSeq, l6, e, h, fi e' l3]
  · rw [if_neg h] at e
    simp [m__law_is_let, iSeq, l6, e, h, fi e' l3]
end
noncomputable section
theorem row60_sp (p : Pk) (n : Nat) (hn : n ≤ 100) (ht : p.t ≤ 100000000) : ∃ (q : Pk) (ds : List Dir), q.t ≤ p.t + n ∧ ds.length = n ∧ f__law_row [.mu .bor (penK p), .pd (.int ((n : Nat) : Int))] = some (.pd (.str (rowS ds)), [.mu .bor (penK q), .pd (.int ((n : Nat) : Int))]) := by
  have it : iRg1 (eCons (eVar 1) eNil) [some (.mu .bor (penK p)), some (.pd (.int ((n : Nat) : Int))), none] = some (upD n, none, [some (.mu .bor (penK p)), some (.pd (.int ((n : Nat) : Int))), none]) := rg1_up (n := n) (by simp) (by omega)
  obtain ⟨ys, q, lc, hl, hq, ht2⟩ := lc_pen (it := iRg1 (eCons (eVar 1) eNil)) (g := gN 2) (f := eIx (eC (.str "ensw")) (eCall f__law_draw (eCons (eVar 0) (eCons (eC (.int 4)) eNil)))) (vs := [2]) (env := [some (.mu .bor (penK p)), some (.pd (.int ((n : Nat) : Int))), none]) (j := 0) (m := .bor) (p0 := p) (fun y => ∃ d : Dir, y = chD d) 1 (p.t + n) it (by rw [upD_len]; omega) (by decide) rfl (by rw [upD_len]; omega) (by
    intro x hx p1 hp1
    obtain ⟨k, _, rfl⟩ := List.mem_map.mp hx
    obtain ⟨r, q, r0, r1, hq, ed⟩ := draw2_sp p1 4 (by decide) (by decide) (by omega)
    refine ⟨q, chD (dirAt r), hq, ⟨_, rfl⟩, ?_⟩
    have ix := ensw_ix r r0 r1
    have kp := (Kp.refl ([some (.mu .bor (penK q)), some (.pd (.int ((n : Nat) : Int))), none]) [2]).set (v := 2) (s := some (.pd (.int ((k : Nat) : Int)))) (by decide)
    simp [lcP, wipeE, ed, ix, chD, T3.data1]
    exact kp)
  obtain ⟨ds, rfl⟩ : ∃ ds : List Dir, ys = ds.map chD := by
    clear lc hl
    induction ys with
    | nil => exact ⟨[], rfl⟩
    | cons y ys ih =>
      obtain ⟨ds, rfl⟩ := ih fun z hz => hq z (List.mem_cons_of_mem _ hz)
      obtain ⟨d, rfl⟩ := hq y (by simp)
      exact ⟨d :: ds, rfl⟩
  rw [List.length_map, upD_len] at hl
  rw [upD_len] at ht2
  refine ⟨q, ds, by omega, hl, ?_⟩
  have j := oJoin_row ds (by omega)
  unfold f__law_row
  rw [run_of (e := [some (.mu .bor (penK p)), some (.pd (.int ((n : Nat) : Int))), none]) rfl]
  simp [m__law_row, isS, lc, j, -z_lc]
end
noncomputable section
def Rz (x : PyData) : Prop := ∃ t : Str, oReprZ [x] = some (.str t)
theorem rz_tup {xs : List PyData} (h : ShOk (.tuple xs)) : Rz (.tuple xs) := by
  unfold Rz oReprZ
  by_cases z : ShZ (.tuple xs)
  · exact ⟨_, if_pos z⟩
  · exact ⟨_, (if_neg z).trans ((oReprY_t xs).trans (repr_t h))⟩
theorem rd_nD {ps : List Nat} (h : ∀ p ∈ ps, p < 100) (hl : ps.length ≤ 60) : RD 1 (41 * 60) (.tuple (nD ps)) := RD.tup (k := 40) (n := 60) (by
  intro x hx
  obtain ⟨p, hp, rfl⟩ := List.mem_map.mp hx
  have := h p hp
  exact RD.int (by omega) (by omega)) (by simpa [nD_len] using hl)
structure Th (x : PyData) : Prop where
  tg : Tg x
  rz : Rz x
end
end L59

end
section
set_option linter.all false
set_option autoImplicit false
set_option Elab.async false
set_option maxRecDepth 100000
set_option maxHeartbeats 4000000
namespace L59
open PySem L2 T3 MM
def lexN : List Nat → List Nat → Prop
  | [], _ => True
  | _ :: _, [] => False
  | a :: as, b :: bs => a < b ∨ a = b ∧ lexN as bs
theorem lexN_anti : ∀ {as bs : List Nat}, lexN as bs → lexN bs as → as = bs
  | [], [], _, _ => rfl
  | [], _ :: _, _, h => h.elim
  | _ :: _, [], h, _ => h.elim
  | a :: as, b :: bs, h, k => by
    rcases h with h | ⟨rfl, h⟩
    · rcases k with k | ⟨k, _⟩ <;> omega
    · rcases k with k | ⟨_, k⟩
      · omega
      · rw [lexN_anti h k]
theorem out_min {cs : List Cell} : ∀ (ds : List Dir) (c : Cell) (i : Nat) (ps : List Nat), ps.Pairwise (· < ·) → (∀ x ∈ ps, i ≤ x ∧ x < i + ds.length) → letR cs c (wo ps i ds) → ps.length = few cs ds c → lexN (outO cs ds c i) ps
  | [], c, i, ps, _, _, _, _ => trivial
  | d :: ds, c, i, ps, ri, rg, lt, hl => by
    have sp : ∀ qs : List Nat, (∀ x ∈ qs, i < x) → (∀ x ∈ qs, x < i + (d :: ds).length) → ∀ x ∈ qs, i + 1 ≤ x ∧ x < i + 1 + ds.length := fun qs h1 h2 x hx => by
      have := h1 x hx
      have := h2 x hx
      simp at this
      omega
    have dec : (∃ qs, ps = i :: qs ∧ ∀ x ∈ qs, i < x) ∨ (∀ x ∈ ps, i < x) := by
      cases ps with
      | nil => exact .inr (by simp)
      | cons p qs =>
        have hp := List.pairwise_cons.mp ri
        have := (rg p (by simp)).1
        by_cases e : p = i
        · subst e; exact .inl ⟨qs, rfl, hp.1⟩
        · refine .inr fun x hx => ?_
          rcases List.mem_cons.mp hx with rfl | hx
          · omega
          · have := hp.1 x hx; omega
    have fle : few cs (d :: ds) c ≤ 1 + few cs ds c := by rw [few_cons]; split <;> omega
    rw [outO]
    rcases dec with ⟨qs, rfl, hq⟩ | hq
    · have ri' := (List.pairwise_cons.mp ri).2
      have e : wo (i :: qs) i (d :: ds) = wo qs (i + 1) ds := by
        rw [wo_cons, if_pos (by simp)]
        exact wo_congr ds (i + 1) fun j hj => by simp; omega
      rw [e] at lt
      have fm := few_le (wo_sub qs ds (i + 1)) c lt
      have wl := wo_len ds qs (i + 1)
      simp at hl
      have e2 : few cs (d :: ds) c = 1 + few cs ds c := by omega
      rw [if_pos e2]
      exact .inr ⟨rfl, out_min ds c (i + 1) qs ri' (sp qs hq fun x hx => (rg x (by simp [hx])).2) lt (by omega)⟩
    · by_cases e2 : few cs (d :: ds) c = 1 + few cs ds c
      · rw [if_pos e2]
        cases ps with
        | nil => simp at hl; omega
        | cons p qs => exact .inl (hq p (by simp))
      · rw [if_neg e2]
        have ni : i ∉ ps := fun z => Nat.lt_irrefl _ (hq i z)
        rw [wo_cons, if_neg ni] at lt
        have hs : stepC c d ∈ cs := lt.1
        have e3 : few cs (d :: ds) c = few cs ds (stepC c d) := by
          rw [few_cons, if_pos hs] at e2 ⊢
          omega
        exact out_min ds (stepC c d) (i + 1) ps ri (sp ps hq fun x hx => (rg x hx).2) lt.2 (by omega)
abbrev Mt := List (Cell × Nat)
def mkv (ws : Mt) : List (NestedKey × PyData) := ws.map fun q => (ck q.1, .int ((q.2 : Nat) : Int))
def mlk (ws : Mt) (k : Cell) : Option Nat := (ws.find? fun q => decide (q.1 = k)).map (·.2)
def mpt (ws : Mt) (k : Cell) (x : Nat) : Mt := if (mlk ws k).isSome = true then ws.map (fun q => if q.1 = k then (q.1, x) else q) else ws ++ [(k, x)]
theorem mkv_val (ws : Mt) (k : Cell) : valN (mkv ws) (ck k) = (mlk ws k).map fun n => .int ((n : Nat) : Int) := by
  induction ws with
  | nil => rfl
  | cons q ws ih =>
    unfold valN mkv mlk at *
    by_cases e : q.1 = k
    · simp [e]
    · have e' : ¬ ck q.1 = ck k := fun z => e (ck_inj z)
      simp only [List.map_cons, List.find?_cons, e, e', decide_false]
      exact ih
theorem mkv_put (ws : Mt) (k : Cell) (x : Nat) : putN (mkv ws) (ck k) (.int ((x : Nat) : Int)) = mkv (mpt ws k x) := by
  unfold putN mpt
  rw [mkv_val]
  cases h : mlk ws k with
  | none => simp [mkv]
  | some y =>
    simp only [Option.map_some, Option.isSome_some, if_true]
    unfold mkv
    rw [List.map_map, List.map_map]
    refine List.map_congr_left fun q _ => ?_
    by_cases e : q.1 = k
    · simp [e]
    · have e' : ¬ ck q.1 = ck k := fun z => e (ck_inj z)
      simp [e, e']
theorem mlk_map {k k' : Cell} {x : Nat} : ∀ ws : Mt, (mlk ws k).isSome = true → mlk (ws.map fun q => if q.1 = k then (q.1, x) else q) k' = if k' = k then some x else mlk ws k'
  | [], h => by simp [mlk] at h
  | q :: ws, h => by
    obtain ⟨qk, qx⟩ := q
    by_cases e : qk = k
    · subst e
      by_cases e2 : k' = qk
      · subst e2
        simp [mlk]
      · have e3 : ¬ qk = k' := fun z => e2 z.symm
        have off : ∀ vs : Mt, mlk (vs.map fun q => if q.1 = qk then (q.1, x) else q) k' = mlk vs k' := by
          intro vs
          induction vs with
          | nil => rfl
          | cons v vs ih =>
            obtain ⟨vk, vx⟩ := v
            unfold mlk at *
            by_cases e4 : vk = k'
            · subst e4
              simp [e2]
            · by_cases e5 : vk = qk
              · subst e5
                simp only [List.map_cons, if_true, List.find?_cons, e4, decide_false]
                exact ih
              · simp only [List.map_cons, e5, if_false, List.find?_cons, e4, decide_false]
                exact ih
        rw [if_neg e2]
        exact off _
    · have h2 : (mlk ws k).isSome = true := by
        unfold mlk at h ⊢
        simpa [e] using h
      have ih := mlk_map (k' := k') (x := x) ws h2
      unfold mlk at ih ⊢
      by_cases e2 : qk = k'
      · have e3 : ¬ k' = k := fun z => e (e2.trans z)
        simp [e, e2, e3]
      · simp only [List.map_cons, e, if_false, List.find?_cons, e2, decide_false]
        exact ih
theorem mlk_put (ws : Mt) (k k' : Cell) (x : Nat) : mlk (mpt ws k x) k' = if k' = k then some x else mlk ws k' := by
  unfold mpt
  cases h : mlk ws k with
  | some y =>
    simp only [Option.isSome_some, if_true]
    exact mlk_map ws (by rw [h]; rfl)
  | none =>
    simp only [Option.isSome_none, Bool.false_eq_true, if_false]
    unfold mlk at h ⊢
    rw [List.find?_append]
    by_cases e : k' = k
    · subst e
      have : ws.find? (fun q => decide (q.1 = k')) = none := by simpa using h
      simp [this]
    · have e2 : ¬ k = k' := fun z => e z.symm
      rw [if_neg e]
      simp [e2]
theorem mpt_keys (ws : Mt) (k : Cell) (x : Nat) : (mpt ws k x).map (·.1) = if (mlk ws k).isSome = true then ws.map (·.1) else ws.map (·.1) ++ [k] := by
  unfold mpt
  split
  · rw [List.map_map]
    refine List.map_congr_left fun q _ => ?_
    by_cases e : q.1 = k <;> simp [e]
  · simp
theorem mlk_mem {ws : Mt} {k : Cell} : (mlk ws k).isSome = true ↔ k ∈ ws.map (·.1) := by
  unfold mlk
  rw [Option.isSome_map, List.find?_isSome]
  simp
theorem mpt_nd {ws : Mt} (h : (ws.map (·.1)).Nodup) (k : Cell) (x : Nat) : ((mpt ws k x).map (·.1)).Nodup := by
  rw [mpt_keys]
  split
  · exact h
  · rename_i n
    rw [List.nodup_append]
    exact ⟨h, by simp, fun a ha b hb => by
      simp at hb
      subst hb
      intro e
      subst e
      exact n (mlk_mem.mpr ha)⟩
theorem mlk_at {ws : Mt} (h : (ws.map (·.1)).Nodup) {q : Cell × Nat} (hq : q ∈ ws) : mlk ws q.1 = some q.2 := by
  induction ws with
  | nil => simp at hq
  | cons w ws ih =>
    rw [List.map_cons, List.nodup_cons] at h
    unfold mlk
    rcases List.mem_cons.mp hq with rfl | hq
    · simp
    · have : w.1 ≠ q.1 := fun e => h.1 (e ▸ List.mem_map_of_mem hq)
      have := ih h.2 hq
      unfold mlk at this
      simpa [*] using this
theorem mlk_in {ws : Mt} {k : Cell} {n : Nat} (h : mlk ws k = some n) : (k, n) ∈ ws := by
  unfold mlk at h
  cases e : ws.find? (fun q => decide (q.1 = k)) with
  | none => rw [e] at h; cases h
  | some q =>
    rw [e] at h
    cases h
    have h1 := List.mem_of_find?_eq_some e
    have h2 := List.find?_some e
    simp at h2
    subst h2
    exact h1
structure Kept (cs : List Cell) (c : Cell) (es : List Dir) (M : Cell → Option Nat) : Prop where
  get : ∀ x k, M x = some k → ∃ s : List Dir, s.Sublist es ∧ letR cs c s ∧ endC c s = x ∧ s.length = k
  all : ∀ s : List Dir, s.Sublist es → letR cs c s → ∃ k, M (endC c s) = some k ∧ s.length ≤ k
theorem sub_snoc {s es : List Dir} {d : Dir} (h : s.Sublist (es ++ [d])) : s.Sublist es ∨ ∃ t, s = t ++ [d] ∧ t.Sublist es := by
  obtain ⟨l1, l2, rfl, h1, h2⟩ := List.sublist_append_iff.mp h
  cases h2 with
  | cons _ h2 => simp at h2; subst h2; simp; exact .inl h1
  | cons_cons _ h2 => simp at h2; subst h2; exact .inr ⟨l1, rfl, h1⟩
def nextM (cs : List Cell) (d : Dir) (M : Cell → Option Nat) (H : List Cell) (x : Cell) : Option Nat := match H.find? fun h => decide (stepC h d = x) with
  | some h => if x ∈ cs then some (max ((M x).getD 0) ((M h).getD 0 + 1)) else M x
  | none => M x
theorem step_inj {a b : Cell} {d : Dir} (h : stepC a d = stepC b d) : a = b := by
  have := congrArg (fun x => stepC x (opp d)) h
  simpa [step_opp] using this
theorem kept_next {cs : List Cell} {c : Cell} {es : List Dir} {M : Cell → Option Nat} (h : Kept cs c es M) (d : Dir) {H : List Cell} (hH : ∀ x, x ∈ H ↔ (M x).isSome = true) : Kept cs c (es ++ [d]) (nextM cs d M H) where
  get x k e := by
    have old : ∀ k, M x = some k → ∃ s : List Dir, s.Sublist (es ++ [d]) ∧ letR cs c s ∧ endC c s = x ∧ s.length = k := fun k e => by
      obtain ⟨s, a, b⟩ := h.get x k e
      exact ⟨s, a.trans (List.sublist_append_left _ _), b⟩
    unfold nextM at e
    cases hf : H.find? (fun h => decide (stepC h d = x)) with
    | none => rw [hf] at e; exact old k e
    | some g =>
      rw [hf] at e
      have hg : stepC g d = x := by simpa using List.find?_some hf
      obtain ⟨m, hm⟩ := Option.isSome_iff_exists.mp ((hH g).mp (List.mem_of_find?_eq_some hf))
      by_cases hx : x ∈ cs
      · simp only [if_pos hx, hm, Option.getD_some, Option.some.injEq] at e
        by_cases z : (M x).getD 0 ≤ m + 1
        · obtain ⟨t, t1, t2, t3, t4⟩ := h.get g m hm
          refine ⟨t ++ [d], t1.append (List.Sublist.refl _), letR_app _ _ _ t2 (by rw [t3, hg]; exact hx), by rw [endC_app, t3, hg], ?_⟩
          simp
          omega
        · refine old k ?_
          cases hM : M x with
          | none => rw [hM] at z; simp at z
          | some y => rw [hM] at e z; simp at e z ⊢; omega
      · simp only [if_neg hx] at e
        exact old k e
  all s hs lt := by
    rcases sub_snoc hs with hs | ⟨t, rfl, ht⟩
    · obtain ⟨k, e, hk⟩ := h.all s hs lt
      unfold nextM
      cases hf : H.find? (fun h => decide (stepC h d = endC c s)) with
      | none => exact ⟨k, e, hk⟩
      | some g =>
        by_cases hx : endC c s ∈ cs
        · rw [e]
          simp only [if_pos hx, Option.getD_some]
          exact ⟨_, rfl, by omega⟩
        · simp only [if_neg hx]
          exact ⟨k, e, hk⟩
    · obtain ⟨l1, l2⟩ := letR_mid t [d] c lt
      obtain ⟨k, e, hk⟩ := h.all t ht l1
      rw [endC_app]
      have hx : stepC (endC c t) d ∈ cs := l2.1
      unfold nextM
      have hin : endC c t ∈ H := (hH _).mpr (by rw [e]; rfl)
      cases hf : H.find? (fun h => decide (stepC h d = stepC (endC c t) d)) with
      | none =>
        have := List.find?_eq_none.mp hf _ hin
        simp at this
      | some g =>
        have hg : stepC g d = stepC (endC c t) d := by simpa using List.find?_some hf
        have := step_inj hg
        subst this
        simp only [if_pos hx, e, Option.getD_some]
        exact ⟨_, rfl, by simp; omega⟩
theorem kept_0 (cs : List Cell) (c : Cell) : Kept cs c [] (fun x => if x = c then some 0 else none) where
  get x k e := by
    by_cases h : x = c
    · subst h
      simp at e
      exact ⟨[], List.Sublist.refl _, trivial, rfl, by simpa using e⟩
    · simp [h] at e
  all s hs lt := by
    have : s = [] := by simpa using hs
    subst this
    exact ⟨0, by simp [endC], by simp⟩
theorem kept_end {cs : List Cell} {c : Cell} {ds : List Dir} {M : Cell → Option Nat} (h : Kept cs c ds M) : (∃ x, M x = some (ds.length - few cs ds c)) ∧ ∀ x k, M x = some k → k ≤ ds.length - few cs ds c := by
  have up : ∀ x k, M x = some k → k ≤ ds.length - few cs ds c := fun x k e => by
    obtain ⟨s, a, b, _, l⟩ := h.get x k e
    have := few_le a c b
    omega
  obtain ⟨s, a, b, l⟩ := best (cs := cs) ds c
  obtain ⟨k, e, hk⟩ := h.all s a b
  have := up _ _ e
  exact ⟨⟨_, by rw [e]; congr 1; omega⟩, up⟩
end L59

end
section
set_option linter.all false
set_option autoImplicit false
set_option Elab.async false
set_option maxRecDepth 100000
set_option maxHeartbeats 4000000
namespace L59
open PySem L2 T3 MM
theorem few_len (cs : List Cell) (ds : List Dir) (c : Cell) : few cs ds c ≤ ds.length := by
  have := few_le (cs := cs) (List.nil_sublist ds) c trivial
  simpa using this
theorem putN_new {kvs : List (NestedKey × PyData)} {k : NestedKey} {x : PyData} (h : valN kvs k = none) : putN kvs k x = kvs ++ [(k, x)] := by
  simp [putN, h]
theorem tkv_all (f : Cell → Nat) : ∀ (xs acc : List Cell), (acc ++ xs).Nodup → (tkv xs f).foldl (fun a q => putN a q.1 q.2) (tkv acc f) = tkv (acc ++ xs) f
  | [], acc, _ => by simp [tkv]
  | x :: xs, acc, nd => by
    have na : x ∉ acc := fun z => by
      rw [List.nodup_append] at nd
      exact nd.2.2 x z x (by simp) rfl
    have v := tkv_val f x acc
    rw [if_neg na] at v
    have ih := tkv_all f xs (acc ++ [x]) (by simpa using nd)
    have e : tkv (x :: xs) f = (ck x, .int ((f x : Nat) : Int)) :: tkv xs f := rfl
    rw [e, List.foldl_cons, putN_new v, show tkv acc f ++ [(ck x, .int ((f x : Nat) : Int))] = tkv (acc ++ [x]) f from by simp [tkv], ih]
    simp
theorem allN_tkv {cs : List Cell} (nd : cs.Nodup) (f : Cell → Nat) : allN (tkv cs f) = tkv cs f := by
  have := tkv_all f cs [] (by simpa using nd)
  simpa [allN, tkv] using this
theorem pairsN_tkv (f : Cell → Nat) : ∀ cs : List Cell, pairsN (cs.map fun c => .tuple [clD c, .int ((f c : Nat) : Int)]) = some (tkv cs f)
  | [] => rfl
  | c :: cs => by
    rw [List.map_cons, pairsN, tk_cell, pairsN_tkv f cs]
    rfl
def LfJ (cs : List Cell) (ds : List Dir) (rest : List PyData) (e : Sl) : Prop := ∃ ts us, ds = ts ++ us ∧ rest = ts.reverse.map chD ∧ Al 3 6 e ∧ e[0]? = some (some (.nt (cs.map clD))) ∧ e[1]? = some (some (.pd (.str (rowS ds)))) ∧ e[2]? = some (some (.mu .own (.ls (tabsR cs us).reverse)))
def LfN (cs : List Cell) (ds us : List Dir) (d : Dir) (rest : List PyData) (e : Sl) : Prop := ∃ as bs : List Cell, cs = as ++ bs ∧ rest = bs.map clD ∧ Al 5 6 e ∧ e[0]? = some (some (.nt (cs.map clD))) ∧ e[1]? = some (some (.pd (.str (rowS ds)))) ∧ e[2]? = some (some (.mu .own (.ls (tabsR cs us).reverse))) ∧ e[3]? = some (some (.pd (chD d))) ∧ e[4]? = some (some (.mu .own (ctF (few cs (d :: us)) as)))
theorem law_few_sp {cs : List Cell} {ds : List Dir} (hf : okFl cs) (ln : ds.length ≤ 60) : f__law_few [.nt (cs.map clD), .pd (.str (rowS ds))] = some (.tmp (.ls (tabsR cs ds).reverse), [.nt (cs.map clD), .pd (.str (rowS ds))]) := by
  have nd := chain_nd hf.2.2.2
  have l9 := hf.2.1
  have l0 : 0 < cs.length := hf.1
  have key : ∀ Q : R → List S → Prop, Q (.tmp (.ls (tabsR cs ds).reverse)) [.nt (cs.map clD), .pd (.str (rowS ds))] → wF f__law_few [.nt (cs.map clD), .pd (.str (rowS ds))] Q := by
    intro Q hQ
    refine wF_run (e := startE 6 [.nt (cs.map clD), .pd (.str (rowS ds))]) rfl ?_
    have A0 : Al 2 6 (startE 6 [.nt (cs.map clD), .pd (.str (rowS ds))]) := al_start rfl (by decide)
    have h0 : (startE 6 [.nt (cs.map clD), .pd (.str (rowS ds))])[0]? = some (some (.nt (cs.map clD))) := rfl
    have h1 : (startE 6 [.nt (cs.map clD), .pd (.str (rowS ds))])[1]? = some (some (.pd (.str (rowS ds)))) := rfl
    generalize startE 6 [.nt (cs.map clD), .pd (.str (rowS ds))] = e at *
    have fr := A0.fre
    have le := A0.len
    have lc := lcA (it := iSeq (eVar 0)) (g := gN 5) (f := eThen (eCons (eVar 5) (eCons (eC (.int 0)) eNil)) T3.kTup) (vs := [5]) (lk := none) (env := e) (e := e) (q := clD) (as := cs) (fun c => .tuple [clD c, .int ((0 : Nat) : Int)]) (by simp [iSeq, h0, -getElem?_pos]) (by omega) (fun c hc => by
      simp [lcO, wipe_at, wipe_free, wipeE_len, le, T3.kTup, Kp.set, -z_free, -getElem?_pos])
    rw [z_unl] at lc
    have pn := pairsN_tkv (fun _ => 0) cs
    have an := allN_tkv nd (fun _ => 0)
    have f0 : tblD cs (few cs []) = ctD (.dn (tkv cs fun _ => 0)) := rfl
    have tr0 : (tabsR cs []).reverse = [ctD (.dn (tkv cs fun _ => 0))] := rfl
    refine wS_seq ?_
    refine wS_of (fl := .nx) (e := e.set 2 (some (.mu .own (.ls (tabsR cs []).reverse)))) (by
      generalize cs.map (fun c => PyData.tuple [clD c, .int ((0 : Nat) : Int)]) = L at *
      rw [tr0]
      simp [lc, kDict, ctns, ctn, pn, an, kLst, datas, T3.data1, fr, -z_free, -z_lc, -getElem?_pos]) ?_
    rw [nxt_nx, go]
    have g0 : (e.set 2 (some (.mu .own (.ls (tabsR cs []).reverse))))[0]? = some (some (.nt (cs.map clD))) := by simpa using h0
    have g1 : (e.set 2 (some (.mu .own (.ls (tabsR cs []).reverse))))[1]? = some (some (.pd (.str (rowS ds)))) := by simpa using h1
    have g2 : (e.set 2 (some (.mu .own (.ls (tabsR cs []).reverse))))[2]? = some (some (.mu .own (.ls (tabsR cs []).reverse))) := by simp [le]
    have AE : Al 2 6 (e.set 2 (some (.mu .own (.ls (tabsR cs []).reverse)))) := A0.set rfl
    generalize e.set 2 (some (.mu .own (.ls (tabsR cs []).reverse))) = E at *
    refine wS_seq ?_
    have sg : signs (rowS ds.reverse) = ds.reverse.map chD := by rw [signs_row]; rfl
    have hl : (rowS ds).length ≤ 1000000 := by rw [row_len]; omega
    refine wS_for (xs := ds.reverse.map chD) (lk := none) (e := E) (by simp [iSeq, eRevS, g1, hl, rev_row, sg, -getElem?_pos]) (LfJ cs ds) ⟨ds, [], by simp, rfl, ⟨AE.len, fun i a b => AE.fre i (by omega) b⟩, g0, g1, g2⟩ ?_ ?_
    · rintro x rest F ⟨ts, us, hu, hr, AF, k0, k1, k2⟩
      rcases List.eq_nil_or_concat ts with rfl | ⟨ts, d, rfl⟩
      · simp at hr
      · rw [List.concat_eq_append] at hu hr
        simp only [List.reverse_append, List.reverse_cons, List.reverse_nil, List.nil_append, List.cons_append, List.map_cons, List.cons.injEq] at hr
        obtain ⟨rfl, rfl⟩ := hr
        have fF := AF.fre
        have lF := AF.len
        have lu : us.length ≤ 60 := by
          have := congrArg List.length hu
          simp at this
          omega
        simp only [gW, z_gN, z_setR, fF 3 (by decide) (by decide), if_true]
        rw [go]
        refine wS_seq ?_
        refine wS_of (fl := .nx) (e := (F.set 3 (some (.pd (chD d)))).set 4 (some (.mu .own (ctF (few cs (d :: us)) [])))) (by simp [ctF, free_ne_set, fF, lF, -z_free, -getElem?_pos]) ?_
        rw [nxt_nx, go]
        refine wS_gen fun G hG => ?_
        have AG : Al 3 6 G := by rw [hG]; repeat (first | exact AF | refine Al.set ?_ rfl)
        have m0 : G[0]? = some (some (.nt (cs.map clD))) := by rw [hG]; simpa using k0
        have m1 : G[1]? = some (some (.pd (.str (rowS ds)))) := by rw [hG]; simpa using k1
        have m2 : G[2]? = some (some (.mu .own (.ls (tabsR cs us).reverse))) := by rw [hG]; simpa using k2
        have m3 : G[3]? = some (some (.pd (chD d))) := by rw [hG]; simp [lF]
        have m4 : G[4]? = some (some (.mu .own (ctF (few cs (d :: us)) []))) := by rw [hG]; simp [lF]
        clear hG k0 k1 k2
        have lG := AG.len
        refine wS_seq ?_
        refine wS_for (xs := cs.map clD) (lk := none) (e := G) (by simp [iSeq, m0, -getElem?_pos]) (LfN cs ds us d) ⟨[], cs, rfl, rfl, ⟨AG.len, fun i a b => AG.fre i (by omega) b⟩, m0, m1, m2, m3, m4⟩ ?_ ?_
        · rintro x rest F ⟨as, bs, eab, er, A5, k0, k1, k2, k3, k4⟩
          cases bs with
          | nil => simp at er
          | cons b bs =>
            obtain ⟨rfl, er2⟩ : x = clD b ∧ rest = bs.map clD := by simpa using er
            have f5 := A5.fre
            have l5 := A5.len
            simp only [gW, z_gN, z_setR, f5 5 (by decide) (by decide), if_true]
            rw [go]
            have hb : b ∈ cs := by rw [eab]; simp
            have bes := besd_sp b d
            have x0 : oIx [.list (tabsR cs us).reverse, .int 0] = some (tblD cs (few cs us)) := by
              have := atI_at (xs := (tabsR cs us).reverse) (i := ((0 : Nat) : Int)) (by omega) (by simpa using tabs_at cs us 0 (by omega))
              simpa [oIx] using this
            have q1 := dcOf_tbl cs (few cs us)
            have y1 := tbl_get (f := few cs us) hb
            have y2 : cGet (.dn (tkv cs (few cs us))) (clD (stepC b d)) = some (if stepC b d ∈ cs then some (.int ((few cs us (stepC b d) : Nat) : Int)) else none) := by
              have := tkv_val (few cs us) (stepC b d) cs
              simp [cGet, tk_cell, this]
            have a1 : ∀ env : Sl, kAdd [.pd (.int 1), .pd (.int ((few cs us b : Nat) : Int))] env = some (.pd (.int ((1 + few cs us b : Nat) : Int)), env) := fun env => by simp [kAdd, oI]
            have fl := few_len cs us b
            have mn : oMin [.int ((1 + few cs us b : Nat) : Int), (if stepC b d ∈ cs then some (PyData.int ((few cs us (stepC b d) : Nat) : Int)) else none).getD (.int 61)] = some (.int ((few cs (d :: us) b : Nat) : Int)) := by
              rw [few_cons]
              by_cases h : stepC b d ∈ cs
              · rw [if_pos h, if_pos h]
                simp only [Option.getD_some, oMin]
                congr 2
                split <;> omega
              · rw [if_neg h, if_neg h]
                simp only [Option.getD_none, oMin]
                congr 2
                split <;> omega
            have nb : b ∉ as := fun z => by
              rw [eab, List.nodup_append] at nd
              exact nd.2.2 b z b (by simp) rfl
            have pt := ctF_put (f := few cs (d :: us)) nb (by
              have := congrArg List.length eab
              simp at this
              omega)
            have k3' : F[3]? = some (some (.pd (.str (chS d)))) := k3
            generalize hff : few cs (d :: us) = ff at *
            generalize (if stepC b d ∈ cs then some (PyData.int ((few cs us (stepC b d) : Nat) : Int)) else none) = og at *
            refine wS_of (fl := .nx) (e := (F.set 5 (some (.pd (clD b)))).set 4 (some (.mu .own (ctF ff (as ++ [b]))))) (by
              simp [k0, k2, k3', k4, l5, x0, q1, y1, y2, a1, bes, mn, dPut, pt, free_ne_set, f5, -Int.natCast_add, -z_free, -getElem?_pos]) ?_
            exact ⟨as ++ [b], bs, by rw [eab]; simp, er2, ⟨by simp [l5], fun i h1 h2 => by
              have : i = 5 := by omega
              subst this
              unfold free
              rw [List.getElem?_set_ne (by decide), List.getElem?_set_self (by omega)]⟩, by simpa using k0, by simpa using k1, by simpa using k2, by simpa using k3, by rw [hff]; simp [l5]⟩
        · rintro F ⟨as, bs, eab, er, A5, k0, k1, k2, k3, k4⟩
          have hb : bs = [] := by
            cases bs with
            | nil => rfl
            | cons b bs => simp at er
          subst hb
          rw [List.append_nil] at eab
          subst eab
          rw [z_unl, nxt_nx, go]
          have l5 := A5.len
          have f5 := A5.fre
          have cf : ctF (few cs (d :: us)) cs = .dn (tkv cs (few cs (d :: us))) := by
            cases cs with
            | nil => simp at l0
            | cons c cs => rfl
          rw [cf] at k4
          have f1 : ctD (.dn (tkv cs (few cs (d :: us)))) = tblD cs (few cs (d :: us)) := rfl
          have tr : (tabsR cs (d :: us)).reverse = tblD cs (few cs (d :: us)) :: (tabsR cs us).reverse := by simp [tabsR]
          have l3 : (tabsR cs us).reverse.length + 1 ≤ 1000000 := by
            rw [List.length_reverse, tabsR_len]
            omega
          have ka : ∀ env : Sl, env[2]? = some (some (.mu .own (.ls (tabsR cs us).reverse))) → kAdd [.tmp (.ls [tblD cs (few cs (d :: us))]), .var 2] env = some (.tmp (.ls (tabsR cs (d :: us)).reverse), env) := fun env h => by
            rw [tr]
            have : 1 + (tabsR cs us).reverse.length ≤ 1000000 := by omega
            simp [kAdd, kOr, oI, oCatS, oCatT, kCatL, lsOf, h, -getElem?_pos]
            simpa using this
          have fin : LfJ cs ds (ts.reverse.map chD) ((F.set 4 (some (.pd (tblD cs (few cs (d :: us)))))).set 2 (some (.mu .own (.ls (tabsR cs (d :: us)).reverse)))) :=
            ⟨ts, d :: us, by simp [hu], rfl, ⟨by simp [l5], fun i h1 h2 => by
              have : i = 3 ∨ i = 4 ∨ i = 5 := by omega
              unfold free
              rcases this with rfl | rfl | rfl
              · rw [List.getElem?_set_ne (by decide), List.getElem?_set_ne (by decide), k3]
              · rw [List.getElem?_set_ne (by decide), List.getElem?_set_self (by omega)]
              · have := f5 5 (by decide) (by decide)
                unfold free at this
                rw [List.getElem?_set_ne (by decide), List.getElem?_set_ne (by decide)]
                exact this⟩, by simpa using k0, by simpa using k1, by simp [l5]⟩
          refine wS_of (fl := .nx) ?_ fin
          have fr2 : free (F.set 4 (some (.pd (tblD cs (few cs (d :: us)))))) 2 = true := by unfold free; rw [List.getElem?_set_ne (by decide), k2]
          generalize (tabsR cs (d :: us)).reverse = TT at *
          simp [k2, k4, l5, f1, kLst, datas, T3.data1, ka, fr2, -z_free, -getElem?_pos]
    · rintro F ⟨ts, us, hu, hr, AF, k0, k1, k2⟩
      have : ts = [] := by simpa using hr.symm
      subst this
      rw [List.nil_append] at hu
      subst hu
      simp only [z_unl, nxt_nx]
      rw [go]
      have lF := AF.len
      refine wS_of (fl := .rt (.var 2)) (e := F) (by simp [k2, -getElem?_pos]) ?_
      exact ⟨_, _, by simp [k2, -getElem?_pos], fin_pd rfl (by rw [lF]; simp), hQ⟩
  obtain ⟨r, as, e, rfl, rfl⟩ := key (fun r as => r = _ ∧ as = _) ⟨rfl, rfl⟩
  exact e
end L59

end
section
set_option linter.all false
set_option autoImplicit false
set_option Elab.async false
set_option maxRecDepth 100000
set_option maxHeartbeats 4000000
namespace L59
open PySem L2 T3 MM
def LoK (cs : List Cell) (c : Cell) (ds : List Dir) (rest : List PyData) (e : Sl) : Prop := ∃ (us : List Dir) (k : Nat) (pl : List Nat) (h : Cell), us = ds.drop k ∧ k + us.length = ds.length ∧ rest = (us.zipIdx k).map (fun p => .tuple [.int ((p.2 : Nat) : Int), .str (chS p.1)]) ∧ h ∈ cs ∧ pl ++ outO cs us h k = outO cs ds c 0 ∧ Al 5 7 e ∧ e[0]? = some (some (.nt (cs.map clD))) ∧ e[1]? = some (some (.pd (clD h))) ∧ e[2]? = some (some (.pd (.str (rowS ds)))) ∧ e[3]? = some (some (.mu .own (.ls (tabsR cs ds).reverse))) ∧ e[4]? = some (some (.mu .own (.ls (nD pl))))
theorem least_long_sp {cs : List Cell} {c : Cell} {ds : List Dir} (hf : okFl cs) (hc : c ∈ cs) (ln : ds.length ≤ 60) : f__law_least_long [.nt (cs.map clD), .pd (clD c), .pd (.str (rowS ds))] = some (.nt (nD (outO cs ds c 0)), [.nt (cs.map clD), .pd (clD c), .pd (.str (rowS ds))]) := by
  have fl := law_few_sp hf ln
  have key : ∀ Q : R → List S → Prop, Q (.nt (nD (outO cs ds c 0))) [.nt (cs.map clD), .pd (clD c), .pd (.str (rowS ds))] → wF f__law_least_long [.nt (cs.map clD), .pd (clD c), .pd (.str (rowS ds))] Q := by
    intro Q hQ
    refine wF_run (e := startE 7 [.nt (cs.map clD), .pd (clD c), .pd (.str (rowS ds))]) rfl ?_
    have A0 : Al 3 7 (startE 7 [.nt (cs.map clD), .pd (clD c), .pd (.str (rowS ds))]) := al_start rfl (by decide)
    have h0 : (startE 7 [.nt (cs.map clD), .pd (clD c), .pd (.str (rowS ds))])[0]? = some (some (.nt (cs.map clD))) := rfl
    have h1 : (startE 7 [.nt (cs.map clD), .pd (clD c), .pd (.str (rowS ds))])[1]? = some (some (.pd (clD c))) := rfl
    have h2 : (startE 7 [.nt (cs.map clD), .pd (clD c), .pd (.str (rowS ds))])[2]? = some (some (.pd (.str (rowS ds)))) := rfl
    generalize startE 7 [.nt (cs.map clD), .pd (clD c), .pd (.str (rowS ds))] = e at *
    have fr := A0.fre
    have le := A0.len
    refine wS_seq ?_
    refine wS_of (fl := .nx) (e := (e.set 3 (some (.mu .own (.ls (tabsR cs ds).reverse)))).set 4 (some (.mu .own (.ls (nD []))))) (by simp [h0, h2, fl, kLst, datas, free_ne_set, fr, nD, -z_free, -getElem?_pos]) ?_
    rw [nxt_nx, go]
    refine wS_gen fun E hE => ?_
    have AE : Al 3 7 E := by rw [hE]; repeat (first | exact A0 | refine Al.set ?_ rfl)
    have g0 : E[0]? = some (some (.nt (cs.map clD))) := by rw [hE]; simpa using h0
    have g1 : E[1]? = some (some (.pd (clD c))) := by rw [hE]; simpa using h1
    have g2 : E[2]? = some (some (.pd (.str (rowS ds)))) := by rw [hE]; simpa using h2
    have g3 : E[3]? = some (some (.mu .own (.ls (tabsR cs ds).reverse))) := by rw [hE]; simp [le]
    have g4 : E[4]? = some (some (.mu .own (.ls (nD [])))) := by rw [hE]; simp [le]
    clear hE
    have en := enum_row ds
    have hl : (rowS ds).length ≤ 1000000 := by rw [row_len]; omega
    refine wS_seq ?_
    refine wS_for (xs := (ds.zipIdx 0).map fun p => .tuple [.int ((p.2 : Nat) : Int), .str (chS p.1)]) (lk := none) (e := E) (by simp [iEn, g2, en, hl, -getElem?_pos]) (LoK cs c ds) ⟨ds, 0, [], c, rfl, by simp, rfl, hc, rfl, ⟨AE.len, fun i a b => AE.fre i (by omega) b⟩, g0, g1, g2, g3, g4⟩ ?_ ?_
    · rintro x rest F ⟨us, k, pl, h, hu, hk, hr, hh, hp, AF, k0, k1, k2, k3, k4⟩
      cases us with
      | nil => simp at hr
      | cons d us =>
        rw [List.zipIdx_cons, List.map_cons] at hr
        simp only [List.cons.injEq] at hr
        obtain ⟨rfl, rfl⟩ := hr
        have fF := AF.fre
        have lF := AF.len
        simp only [List.length_cons] at hk
        have hu1 : ds.drop (k + 1) = us := by rw [← List.tail_drop, ← hu]; rfl
        have gt : gW (gT 2 (gCn (gN 5) (gCn (gN 6) gNl))) (.tuple [.int ((k : Nat) : Int), .str (chS d)]) F = fun K => K ((F.set 5 (some (.pd (.int ((k : Nat) : Int))))).set 6 (some (.pd (.str (chS d))))) := by
          funext K
          simp [gW, gT, gCn, gNl, fF, free_ne_set, -z_free]
        rw [gt]
        simp only
        rw [go]
        refine wS_gen fun G hG => ?_
        have m0 : G[0]? = some (some (.nt (cs.map clD))) := by rw [hG]; simpa using k0
        have m1 : G[1]? = some (some (.pd (clD h))) := by rw [hG]; simpa using k1
        have m2 : G[2]? = some (some (.pd (.str (rowS ds)))) := by rw [hG]; simpa using k2
        have m3 : G[3]? = some (some (.mu .own (.ls (tabsR cs ds).reverse))) := by rw [hG]; simpa using k3
        have m4 : G[4]? = some (some (.mu .own (.ls (nD pl)))) := by rw [hG]; simpa using k4
        have m6 : G[5]? = some (some (.pd (.int ((k : Nat) : Int)))) := by rw [hG]; simp [lF]
        have m7 : G[6]? = some (some (.pd (.str (chS d)))) := by rw [hG]; simp [lF]
        have AG : Al 5 7 G := by rw [hG]; exact (AF.set rfl).set rfl
        clear hG
        have lG := AG.len
        have t1 := tabs_at cs ds k (by omega)
        have t2 := tabs_at cs ds (k + 1) (by omega)
        rw [← hu] at t1
        rw [hu1] at t2
        have x1 : oIx [.list (tabsR cs ds).reverse, .int ((k : Nat) : Int)] = some (tblD cs (few cs (d :: us))) := by
          have := atI_at (xs := (tabsR cs ds).reverse) (i := ((k : Nat) : Int)) (by omega) (by simpa using t1)
          simp [oIx, this]
        have x2 : oIx [.list (tabsR cs ds).reverse, .int (((k : Nat) : Int) + 1)] = some (tblD cs (few cs us)) := by
          have := atI_at (xs := (tabsR cs ds).reverse) (i := ((k : Nat) : Int) + 1) (by omega) (by
            have : (((k : Nat) : Int) + 1).toNat = k + 1 := by omega
            rw [this]; exact t2)
          simp [oIx, this]
        have q1 := dcOf_tbl cs (few cs (d :: us))
        have q2 := dcOf_tbl cs (few cs us)
        have y1 := tbl_get (f := few cs (d :: us)) hh
        have y2 := tbl_get (f := few cs us) hh
        have a1 : ∀ env : Sl, kAdd [.pd (.int 1), .pd (.int ((few cs us h : Nat) : Int))] env = some (.pd (.int ((1 + few cs us h : Nat) : Int)), env) := fun env => by simp [kAdd, oI]
        have e1 := eq_nat (few cs (d :: us) h) (1 + few cs us h)
        have tst : bT (eEq (eDx (eIx (eVar 3) (eVar 5)) (eVar 1)) (eAdd (eC (.int 1)) (eDx (eIx (eVar 3) (eAdd (eVar 5) (eC (.int 1)))) (eVar 1)))) G = some (decide (few cs (d :: us) h = 1 + few cs us h), G) := by
          simp [m3, m1, m6, x1, x2, q1, q2, y1, y2, addI, a1, e1, -Int.natCast_add, -getElem?_pos]
        refine wS_ifW ?_
        rw [tst]
        simp only [decide_eq_true_eq]
        have ho : outO cs (d :: us) h k = if few cs (d :: us) h = 1 + few cs us h then k :: outO cs us h (k + 1) else outO cs us (stepC h d) (k + 1) := rfl
        split
        · rename_i z
          rw [if_pos z] at ho
          rw [go]
          have isl : isL G (.var 4) = true := by simp [isL, m4, -getElem?_pos]
          have l4 : (nD pl).length ≤ 1000000 := by
            have := congrArg List.length hp
            rw [out_few ds c 0] at this
            have z := out_wl (cs := cs) ds c
            simp [nD] at this ⊢
            omega
          have fin : LoK cs c ds ((us.zipIdx (k + 1)).map fun p => .tuple [.int ((p.2 : Nat) : Int), .str (chS p.1)]) (G.set 4 (some (.mu .own (.ls (nD (pl ++ [k])))))) :=
            ⟨us, k + 1, pl ++ [k], h, hu1.symm, by omega, rfl, hh, by rw [← hp, ho]; simp, AG.low (by decide), by simpa using m0, by simpa using m1, by simpa using m2, by simpa using m3, by simp [lG]⟩
          refine wS_of (fl := .nx) (e := G.set 4 (some (.mu .own (.ls (nD (pl ++ [k])))))) ?_ fin
          have na : nD (pl ++ [k]) = nD pl ++ [.int ((k : Nat) : Int)] := by simp [nD]
          simp [m4, m6, isl, kAppend, l4, na, -getElem?_pos]
        · rename_i z
          rw [if_neg z] at ho
          rw [go]
          have hs : stepC h d ∈ cs := by
            have fe : few cs (d :: us) h = if stepC h d ∈ cs then min (1 + few cs us h) (few cs us (stepC h d)) else 1 + few cs us h := rfl
            by_cases hs : stepC h d ∈ cs
            · exact hs
            · rw [if_neg hs] at fe; exact absurd fe z
          have rc := besd_sp h d
          have fin : LoK cs c ds ((us.zipIdx (k + 1)).map fun p => .tuple [.int ((p.2 : Nat) : Int), .str (chS p.1)]) (G.set 1 (some (.pd (clD (stepC h d))))) :=
            ⟨us, k + 1, pl, stepC h d, hu1.symm, by omega, rfl, hs, by rw [← hp, ho], AG.low (by decide), by simpa using m0, by simp [lG], by simpa using m2, by simpa using m3, by simpa using m4⟩
          refine wS_of (fl := .nx) (e := G.set 1 (some (.pd (clD (stepC h d))))) ?_ fin
          have f5 : free G 1 = true := by rw [free_frS m1]; rfl
          simp [m1, m7, rc, f5, -z_free, -getElem?_pos]
    · rintro F ⟨us, k, pl, h, hu, hk, hr, hh, hp, AF, k0, k1, k2, k3, k4⟩
      have : us = [] := by
        cases us with
        | nil => rfl
        | cons d us => rw [List.zipIdx_cons] at hr; simp at hr
      subst this
      have hp : pl = outO cs ds c 0 := by simpa [outO] using hp
      simp only [z_unl, nxt_nx]
      rw [go]
      have lF := AF.len
      have l4 : (nD pl).length ≤ 1000000 := by
        have := congrArg List.length hp
        rw [out_few ds c 0] at this
        have z := out_wl (cs := cs) ds c
        simp [nD] at this ⊢
        omega
      refine wS_of (fl := .rt (.nt (nD pl))) (e := F) (by simp [k4, kTupN, l4, -getElem?_pos]) ?_
      rw [hp]
      exact ⟨_, _, rfl, fin_pd rfl (by rw [lF]; simp), hQ⟩
  obtain ⟨r, as, e, rfl, rfl⟩ := key (fun r as => r = _ ∧ as = _) ⟨rfl, rfl⟩
  exact e
def MsN (cs : List Cell) (c : Cell) (ds : List Dir) (ws : Mt) (d : Dir) (rest : List PyData) (e : Sl) : Prop := ∃ (hs ks : List Cell) (vs : Mt), ws.map (·.1) = hs ++ ks ∧ rest = ks.map clD ∧ (vs.map (·.1)).Nodup ∧ vs.length ≤ ws.length + hs.length ∧ (∀ x, mlk vs x = nextM cs d (mlk ws) hs x) ∧ Al 6 8 e ∧ e[0]? = some (some (.nt (cs.map clD))) ∧ e[1]? = some (some (.pd (clD c))) ∧ e[2]? = some (some (.pd (.str (rowS ds)))) ∧ e[3]? = some (some (.mu .fro (.dn (mkv ws)))) ∧ e[4]? = some (some (.pd (chD d))) ∧ e[5]? = some (some (.mu .own (.dn (mkv vs))))
def MsO (cs : List Cell) (c : Cell) (ds : List Dir) (rest : List PyData) (e : Sl) : Prop := ∃ (ts us : List Dir) (ws : Mt), ds = ts ++ us ∧ rest = us.map chD ∧ (ws.map (·.1)).Nodup ∧ (∀ q ∈ ws, q.1 ∈ cs) ∧ Kept cs c ts (mlk ws) ∧ Al 4 8 e ∧ e[0]? = some (some (.nt (cs.map clD))) ∧ e[1]? = some (some (.pd (clD c))) ∧ e[2]? = some (some (.pd (.str (rowS ds)))) ∧ e[3]? = some (some (.mu .own (.dn (mkv ws))))
theorem find_snoc {α : Type} (p : α → Bool) (hs : List α) (h : α) : (hs ++ [h]).find? p = (hs.find? p).or (if p h = true then some h else none) := by
  rw [List.find?_append]
  cases hs.find? p with
  | some x => rfl
  | none => by_cases q : p h = true <;> simp [q]
theorem next_snoc {cs : List Cell} {d : Dir} {M : Cell → Option Nat} {hs : List Cell} {h : Cell} (nh : h ∉ hs) (x : Cell) : nextM cs d M (hs ++ [h]) x = if stepC h d = x ∧ x ∈ cs then some (max ((M x).getD 0) ((M h).getD 0 + 1)) else nextM cs d M hs x := by
  unfold nextM
  rw [find_snoc]
  by_cases e : stepC h d = x
  · have : hs.find? (fun g => decide (stepC g d = x)) = none := by
      rw [List.find?_eq_none]
      intro g hg
      simp only [decide_eq_true_eq]
      intro eg
      have := step_inj (eg.trans e.symm)
      subst this
      exact nh hg
    rw [this]
    simp only [e, decide_true, if_true, Option.none_or, true_and]
  · simp [e]
theorem max_cast (a b : Nat) : oMax [.int ((a : Nat) : Int), .int ((b : Nat) : Int)] = some (.int ((max a b : Nat) : Int)) := by
  simp only [oMax]
  congr 2
  split <;> omega
theorem mlk_not {cs : List Cell} {d : Dir} {M : Cell → Option Nat} {hs : List Cell} {x : Cell} (h : ∀ g ∈ hs, stepC g d ≠ x) : nextM cs d M hs x = M x := by
  unfold nextM
  have : hs.find? (fun g => decide (stepC g d = x)) = none := by
    rw [List.find?_eq_none]
    intro g hg
    simpa using h g hg
  rw [this]
theorem ck_data (c : Cell) : (ck c).data = clD c := by
  simp [ck, NestedKey.data, NestedKey.datas, clD]
theorem pairs_items (ws : Mt) : pairsN (itemsD (mkv ws)) = some (mkv ws) := by
  induction ws with
  | nil => rfl
  | cons q ws ih =>
    have e : itemsD (mkv (q :: ws)) = .tuple [(ck q.1).data, .int ((q.2 : Nat) : Int)] :: itemsD (mkv ws) := rfl
    rw [e, pairsN, show tk? (ck q.1).data = some (ck q.1) from tk_cell q.1, ih]
    rfl
theorem mkv_all : ∀ (xs acc : Mt), ((acc ++ xs).map (·.1)).Nodup → (mkv xs).foldl (fun a q => putN a q.1 q.2) (mkv acc) = mkv (acc ++ xs)
  | [], acc, _ => by simp [mkv]
  | x :: xs, acc, nd => by
    have na : mlk acc x.1 = none := by
      cases h : mlk acc x.1 with
      | none => rfl
      | some y =>
        have := mlk_mem.mp (show (mlk acc x.1).isSome = true by rw [h]; rfl)
        rw [List.map_append, List.nodup_append] at nd
        exact absurd rfl (nd.2.2 x.1 this x.1 (by simp))
    have v := mkv_val acc x.1
    rw [na] at v
    have ih := mkv_all xs (acc ++ [x]) (by simpa using nd)
    have e : mkv (x :: xs) = (ck x.1, .int ((x.2 : Nat) : Int)) :: mkv xs := rfl
    rw [e, List.foldl_cons, putN_new v, show mkv acc ++ [(ck x.1, .int ((x.2 : Nat) : Int))] = mkv (acc ++ [x]) from by simp [mkv], ih]
    simp
theorem allN_mkv {ws : Mt} (nd : (ws.map (·.1)).Nodup) : allN (mkv ws) = mkv ws := by
  have := mkv_all ws [] (by simpa using nd)
  simpa [allN, mkv] using this
theorem keys_mkv (ws : Mt) : keysD (mkv ws) = (ws.map (·.1)).map clD := by simp [keysD, mkv, ck_data]
theorem max_fold : ∀ (ns : List Int) (a m : Int), a ≤ m → (∀ x ∈ ns, x ≤ m) → (a = m ∨ m ∈ ns) → ns.foldl max a = m
  | [], a, m, _, _, h => by simpa using h
  | n :: ns, a, m, ha, hn, h => by
    rw [List.foldl_cons]
    have n1 := hn n (by simp)
    refine max_fold ns _ m (by omega) (fun x hx => hn x (by simp [hx])) ?_
    rcases h with h | h
    · left; omega
    · rcases List.mem_cons.mp h with h | h
      · left; omega
      · exact .inr h
theorem max_list {xs : List Nat} {m : Nat} (h : m ∈ xs) (up : ∀ x ∈ xs, x ≤ m) : oMax [.list (nD xs)] = some (.int (m : Nat)) := by
  cases xs with
  | nil => simp at h
  | cons x xs =>
    have i : ints? (nD (x :: xs)) = some ((x :: xs).map fun k : Nat => (k : Int)) := by
      have := MM.ints_of ((x :: xs).map fun k : Nat => (k : Int))
      rw [List.map_map] at this
      exact this
    simp only [oMax, i, List.map_cons]
    congr 2
    refine max_fold _ _ _ (by have := up x (by simp); omega) (fun y hy => ?_) ?_
    · obtain ⟨k, hk, rfl⟩ := List.mem_map.mp hy
      have := up k (by simp [hk])
      omega
    · rcases List.mem_cons.mp h with h | h
      · left; omega
      · exact .inr (List.mem_map.mpr ⟨m, h, rfl⟩)
end L59

end
section
set_option linter.all false
set_option autoImplicit false
set_option Elab.async false
set_option maxRecDepth 100000
set_option maxHeartbeats 4000000
namespace L59
open PySem L2 T3 MM
theorem keys_in {ws : Mt} {cs : List Cell} (nd : (ws.map (·.1)).Nodup) (h : ∀ q ∈ ws, q.1 ∈ cs) (l9 : cs.length ≤ 9) : ws.length ≤ 9 := by
  have := List.Nodup.length_le_of_subset nd (fun x hx => by obtain ⟨q, hq, rfl⟩ := List.mem_map.mp hx; exact h q hq)
  rw [List.length_map] at this
  omega
theorem mpt_len (ws : Mt) (k : Cell) (x : Nat) : (mpt ws k x).length ≤ ws.length + 1 := by
  unfold mpt
  split <;> simp
theorem most_sp {cs : List Cell} {c : Cell} {ds : List Dir} (hf : okFl cs) (hc : c ∈ cs) (ln : ds.length ≤ 60) : f__law_most [.nt (cs.map clD), .pd (clD c), .pd (.str (rowS ds))] = some (.pd (.int ((ds.length - few cs ds c : Nat) : Int)), [.nt (cs.map clD), .pd (clD c), .pd (.str (rowS ds))]) := by
  have l9 := hf.2.1
  have key : ∀ Q : R → List S → Prop, Q (.pd (.int ((ds.length - few cs ds c : Nat) : Int))) [.nt (cs.map clD), .pd (clD c), .pd (.str (rowS ds))] → wF f__law_most [.nt (cs.map clD), .pd (clD c), .pd (.str (rowS ds))] Q := by
    intro Q hQ
    refine wF_run (e := startE 8 [.nt (cs.map clD), .pd (clD c), .pd (.str (rowS ds))]) rfl ?_
    have A0 : Al 3 8 (startE 8 [.nt (cs.map clD), .pd (clD c), .pd (.str (rowS ds))]) := al_start rfl (by decide)
    have h0 : (startE 8 [.nt (cs.map clD), .pd (clD c), .pd (.str (rowS ds))])[0]? = some (some (.nt (cs.map clD))) := rfl
    have h1 : (startE 8 [.nt (cs.map clD), .pd (clD c), .pd (.str (rowS ds))])[1]? = some (some (.pd (clD c))) := rfl
    have h2 : (startE 8 [.nt (cs.map clD), .pd (clD c), .pd (.str (rowS ds))])[2]? = some (some (.pd (.str (rowS ds)))) := rfl
    generalize startE 8 [.nt (cs.map clD), .pd (clD c), .pd (.str (rowS ds))] = e at *
    have fr := A0.fre
    have le := A0.len
    have tc := tk_cell c
    have hk : key? (clD c) = none := rfl
    have m1 : mkv [(c, 0)] = [(ck c, .int 0)] := rfl
    refine wS_seq ?_
    refine wS_of (fl := .nx) (e := e.set 3 (some (.mu .own (.dn (mkv [(c, 0)]))))) (by
      rw [m1]
      simp [h1, eDisp, keysK, keysN, hk, tc, allN, putN, valN, ePairs, fr, -z_free, -getElem?_pos]) ?_
    rw [nxt_nx, go]
    have g0 : (e.set 3 (some (.mu .own (.dn (mkv [(c, 0)])))))[0]? = some (some (.nt (cs.map clD))) := by simpa using h0
    have g1 : (e.set 3 (some (.mu .own (.dn (mkv [(c, 0)])))))[1]? = some (some (.pd (clD c))) := by simpa using h1
    have g2 : (e.set 3 (some (.mu .own (.dn (mkv [(c, 0)])))))[2]? = some (some (.pd (.str (rowS ds)))) := by simpa using h2
    have g3 : (e.set 3 (some (.mu .own (.dn (mkv [(c, 0)])))))[3]? = some (some (.mu .own (.dn (mkv [(c, 0)])))) := by simp [le]
    have AE : Al 3 8 (e.set 3 (some (.mu .own (.dn (mkv [(c, 0)]))))) := A0.set rfl
    generalize e.set 3 (some (.mu .own (.dn (mkv [(c, 0)])))) = E at *
    have sg : signs (rowS ds) = ds.map chD := by rw [signs_row]; rfl
    have hl : (rowS ds).length ≤ 1000000 := by rw [row_len]; omega
    have k0 : Kept cs c [] (mlk [(c, 0)]) := by
      have : mlk [(c, 0)] = fun x => if x = c then some 0 else none := by
        funext x
        by_cases h : c = x
        · subst h; simp [mlk]
        · have h' : ¬ x = c := fun z => h z.symm
          simp [mlk, h, h']
      rw [this]
      exact kept_0 cs c
    refine wS_seq ?_
    refine wS_for (xs := ds.map chD) (lk := none) (e := E) (by simp [iSeq, g2, hl, sg, -getElem?_pos]) (MsO cs c ds) ⟨[], ds, [(c, 0)], rfl, rfl, by simp, by simpa using hc, k0, ⟨AE.len, fun i a b => AE.fre i (by omega) b⟩, g0, g1, g2, g3⟩ ?_ ?_
    · clear k0 g0 g1 g2 g3 AE h0 h1 h2
      rintro x rest F ⟨ts, us, ws, hu, hr, nd, wc, kp, AF, k0, k1, k2, k3⟩
      cases us with
      | nil => simp at hr
      | cons d us =>
        obtain ⟨rfl, er2⟩ : x = chD d ∧ rest = us.map chD := by simpa using hr
        have fF := AF.fre
        have lF := AF.len
        have w9 := keys_in nd wc l9
        simp only [gW, z_gN, z_setR, fF 4 (by decide) (by decide), if_true]
        rw [go]
        have pi := pairs_items ws
        have an := allN_mkv nd
        refine wS_seq ?_
        refine wS_of (fl := .nx) (e := (F.set 4 (some (.pd (chD d)))).set 5 (some (.mu .own (.dn (mkv ws))))) (by simp [k3, kDict, ctns, ctn, pi, an, free_ne_set, fF, lF, -z_free, -getElem?_pos]) ?_
        rw [nxt_nx, go]
        refine wS_gen fun G hG => ?_
        have AG : Al 4 8 G := by rw [hG]; repeat (first | exact AF | refine Al.set ?_ rfl)
        have m0 : G[0]? = some (some (.nt (cs.map clD))) := by rw [hG]; simpa using k0
        have m1 : G[1]? = some (some (.pd (clD c))) := by rw [hG]; simpa using k1
        have m2 : G[2]? = some (some (.pd (.str (rowS ds)))) := by rw [hG]; simpa using k2
        have m3 : G[3]? = some (some (.mu .own (.dn (mkv ws)))) := by rw [hG]; simpa using k3
        have m4 : G[4]? = some (some (.pd (chD d))) := by rw [hG]; simp [lF]
        have m5 : G[5]? = some (some (.mu .own (.dn (mkv ws)))) := by rw [hG]; simp [lF]
        clear hG k0 k1 k2 k3
        have lG := AG.len
        have kd := keys_mkv ws
        refine wS_seq ?_
        refine wS_for (xs := (ws.map (·.1)).map clD) (lk := some (3, .own)) (e := G.set 3 (some (.mu .fro (.dn (mkv ws))))) (by simp [m3, kd, -getElem?_pos]) (MsN cs c ds ws d) ⟨[], ws.map (·.1), ws, rfl, rfl, nd, by simp, fun x => rfl, ⟨by simp [lG], fun i h1 h2 => by rw [free_ne_set (by omega)]; exact AG.fre i (by omega) h2⟩, by simpa using m0, by simpa using m1, by simpa using m2, by simp [lG], by simpa using m4, by simpa using m5⟩ ?_ ?_
        · clear m0 m1 m2 m3 m4 m5 AG
          rintro x rest F ⟨hs, ks, vs, ek, er, ndv, lv, hv, A6, k0, k1, k2, k3, k4, k5⟩
          cases ks with
          | nil => simp at er
          | cons h ks =>
            obtain ⟨rfl, er3⟩ : x = clD h ∧ rest = ks.map clD := by simpa using er
            have f6 := A6.fre
            have l6 := A6.len
            have nh : h ∉ hs := fun z => by
              rw [ek, List.nodup_append] at nd
              exact nd.2.2 h z h (by simp) rfl
            have lhs : hs.length ≤ 9 := by
              have := congrArg List.length ek
              rw [List.length_map, List.length_append] at this
              omega
            obtain ⟨mh, hmh⟩ : ∃ n, mlk ws h = some n := Option.isSome_iff_exists.mp (mlk_mem.mpr (by rw [ek]; simp))
            have nx := next_snoc (cs := cs) (d := d) (M := mlk ws) nh
            have old : mlk vs (stepC h d) = mlk ws (stepC h d) := by
              rw [hv]
              exact mlk_not fun g hg z => nh (step_inj z ▸ hg)
            simp only [gW, z_gN, z_setR, f6 6 (by decide) (by decide), if_true]
            rw [go]
            have bes := besd_sp h d
            have k4' : F[4]? = some (some (.pd (.str (chS d)))) := k4
            refine wS_seq ?_
            refine wS_of (fl := .nx) (e := (F.set 6 (some (.pd (clD h)))).set 7 (some (.pd (clD (stepC h d))))) (by simp [k4', l6, bes, free_ne_set, f6, -z_free, -getElem?_pos]) ?_
            rw [nxt_nx, go]
            refine wS_gen fun G hG => ?_
            have AG : Al 6 8 G := by rw [hG]; repeat (first | exact A6 | refine Al.set ?_ rfl)
            have m0 : G[0]? = some (some (.nt (cs.map clD))) := by rw [hG]; simpa using k0
            have m1 : G[1]? = some (some (.pd (clD c))) := by rw [hG]; simpa using k1
            have m2 : G[2]? = some (some (.pd (.str (rowS ds)))) := by rw [hG]; simpa using k2
            have m3 : G[3]? = some (some (.mu .fro (.dn (mkv ws)))) := by rw [hG]; simpa using k3
            have m4 : G[4]? = some (some (.pd (chD d))) := by rw [hG]; simpa using k4
            have m5 : G[5]? = some (some (.mu .own (.dn (mkv vs)))) := by rw [hG]; simpa using k5
            have m6 : G[6]? = some (some (.pd (clD h))) := by rw [hG]; simp [l6]
            have m7 : G[7]? = some (some (.pd (clD (stepC h d)))) := by rw [hG]; simp [l6]
            clear hG k0 k1 k2 k3 k4 k5 k4'
            have lG := AG.len
            have inn := in_cells (stepC h d) cs false
            have th := tk_cell h
            have ts' := tk_cell (stepC h d)
            have v1 := mkv_val vs (stepC h d)
            have v2 := mkv_val ws h
            rw [hmh] at v2
            have gd : ((mlk vs (stepC h d)).map fun n => PyData.int ((n : Nat) : Int)).getD (.int 0) = .int (((mlk ws (stepC h d)).getD 0 : Nat) : Int) := by
              rw [old]
              cases mlk ws (stepC h d) <;> rfl
            by_cases hin : stepC h d ∈ cs
            · have mc := max_cast ((mlk ws (stepC h d)).getD 0) (mh + 1)
              have pu := mkv_put vs (stepC h d) (max ((mlk ws (stepC h d)).getD 0) (mh + 1))
              have kl : (mkv vs).length ≤ 1000000 := by unfold mkv; rw [List.length_map]; omega
              have a1 : ∀ env : Sl, kAdd [.pd (.int ((mh : Nat) : Int)), .pd (.int 1)] env = some (.pd (.int ((mh + 1 : Nat) : Int)), env) := fun env => by simp [kAdd, oI]
              generalize hnew : max ((mlk ws (stepC h d)).getD 0) (mh + 1) = nw at *
              refine wS_of (fl := .nx) (e := G.set 5 (some (.mu .own (.dn (mkv (mpt vs (stepC h d) nw)))))) (by
                simp [m0, m3, m5, m6, m7, inn, hin, isDc, dGet, cGet, th, ts', v1, v2, gd, a1, mc, dPut, cPut, kl, pu, pdOf, -Int.natCast_add, -getElem?_pos]) ?_
              refine ⟨hs ++ [h], ks, mpt vs (stepC h d) nw, by rw [ek]; simp, er3, mpt_nd ndv _ _, ?_, fun x => ?_, AG.low (by decide), by simpa using m0, by simpa using m1, by simpa using m2, by simpa using m3, by simpa using m4, by simp [lG]⟩
              · have := mpt_len vs (stepC h d) nw
                simp
                omega
              · rw [mlk_put, nx, hv]
                by_cases hx : x = stepC h d
                · subst hx
                  rw [if_pos rfl, if_pos ⟨rfl, hin⟩, hmh, ← hnew]
                  rfl
                · rw [if_neg hx, if_neg (fun z => hx z.1.symm)]
            · refine wS_of (fl := .nx) (e := G) (by simp [m0, m7, inn, hin, -getElem?_pos]) ?_
              refine ⟨hs ++ [h], ks, vs, by rw [ek]; simp, er3, ndv, by simp; omega, fun x => ?_, AG, m0, m1, m2, m3, m4, m5⟩
              rw [nx, hv, if_neg]
              rintro ⟨rfl, z⟩
              exact hin z
        · clear m0 m1 m2 m3 m4 m5 AG
          rintro F ⟨hs, ks, vs, ek, er, ndv, lv, hv, A6, k0, k1, k2, k3, k4, k5⟩
          have hb : ks = [] := by
            cases ks with
            | nil => rfl
            | cons b bs => simp at er
          subst hb
          rw [List.append_nil] at ek
          rw [nxt_nx, go]
          have l6 := A6.len
          have f6 := A6.fre
          have ev : mlk vs = nextM cs d (mlk ws) (ws.map (·.1)) := funext fun x => by rw [hv, ek]
          have kn := kept_next kp d (H := ws.map (·.1)) (fun x => (mlk_mem (ws := ws) (k := x)).symm)
          rw [← ev] at kn
          have vc : ∀ q ∈ vs, q.1 ∈ cs := fun q hq => by
            have e := mlk_at ndv hq
            obtain ⟨s, s1, s2, s3, _⟩ := kn.get _ _ e
            rw [← s3]
            exact endC_mem s c hc s2
          have u3 : (unlock (some (3, .own)) F)[3]? = some (some (.mu .own (.dn (mkv ws)))) := by simp [unlock, k3, l6, -getElem?_pos]
          have u5 : (unlock (some (3, .own)) F)[5]? = some (some (.mu .own (.dn (mkv vs)))) := by simpa [unlock, k3, -getElem?_pos] using k5
          have f3 : free (unlock (some (3, .own)) F) 3 = true := by unfold free; rw [u3]
          have w0 : (unlock (some (3, .own)) F)[0]? = some (some (.nt (cs.map clD))) := by simpa [unlock, k3, -getElem?_pos] using k0
          have w1 : (unlock (some (3, .own)) F)[1]? = some (some (.pd (clD c))) := by simpa [unlock, k3, -getElem?_pos] using k1
          have w2 : (unlock (some (3, .own)) F)[2]? = some (some (.pd (.str (rowS ds)))) := by simpa [unlock, k3, -getElem?_pos] using k2
          have w4 : (unlock (some (3, .own)) F)[4]? = some (some (.pd (chD d))) := by simpa [unlock, k3, -getElem?_pos] using k4
          have w6 : ∀ i, 6 ≤ i → i < 8 → free (unlock (some (3, .own)) F) i = true := fun i h1 h2 => by
            have := f6 i h1 h2
            unfold free at this ⊢
            have e2 : (unlock (some (3, .own)) F)[i]? = F[i]? := by
              simp only [unlock, k3]
              rw [List.getElem?_set_ne (by omega)]
            rw [e2]
            exact this
          have lU : (unlock (some (3, .own)) F).length = 8 := by simp [unlock, k3, l6, -getElem?_pos]
          generalize unlock (some (3, .own)) F = U at *
          refine wS_of (fl := .nx) (e := (U.set 5 none).set 3 (some (.mu .own (.dn (mkv vs))))) (by simp [sMov, u5, f3, -z_free, -getElem?_pos]) ?_
          refine ⟨ts ++ [d], us, vs, by rw [hu]; simp, er2, ndv, vc, kn, ⟨by simp [lU], fun i h1 h2 => ?_⟩, by simpa using w0, by simpa using w1, by simpa using w2, by simp [lU]⟩
          have : i = 4 ∨ i = 5 ∨ 6 ≤ i := by omega
          unfold free
          rcases this with rfl | rfl | h
          · rw [List.getElem?_set_ne (by decide), List.getElem?_set_ne (by decide), w4]
          · rw [List.getElem?_set_ne (by decide), List.getElem?_set_self (by omega)]
          · have := w6 i h h2
            unfold free at this
            rw [List.getElem?_set_ne (by omega), List.getElem?_set_ne (by omega)]
            exact this
    · clear k0 g0 g1 g2 g3 AE h0 h1 h2
      rintro F ⟨ts, us, ws, hu, hr, nd, wc, kp, AF, k0, k1, k2, k3⟩
      have : us = [] := by
        cases us with
        | nil => rfl
        | cons d us => simp at hr
      subst this
      rw [List.append_nil] at hu
      subst hu
      rw [z_unl, nxt_nx, go]
      have lF := AF.len
      obtain ⟨⟨x, hx⟩, up⟩ := kept_end kp
      have mx := max_list (xs := ws.map (·.2)) (m := ds.length - few cs ds c) (List.mem_map.mpr ⟨_, mlk_in hx, rfl⟩) (fun k hk => by
        obtain ⟨q, hq, rfl⟩ := List.mem_map.mp hk
        exact up q.1 q.2 (mlk_at nd hq))
      have vl : (mkv ws).map (·.2) = nD (ws.map (·.2)) := by simp [mkv, nD]
      refine wS_of (fl := .rt (.pd (.int ((ds.length - few cs ds c : Nat) : Int)))) (e := F) (by
        generalize nD (ws.map (·.2)) = L at *
        simp [k3, vl, mx, -getElem?_pos]) ?_
      exact ⟨_, _, rfl, fin_pd rfl (by rw [lF]; simp), hQ⟩
  obtain ⟨r, as, e, rfl, rfl⟩ := key (fun r as => r = _ ∧ as = _) ⟨rfl, rfl⟩
  exact e
end L59

end
section
set_option linter.all false
set_option autoImplicit false
set_option Elab.async false
set_option maxRecDepth 100000
set_option maxHeartbeats 4000000
namespace L59
open PySem L2 T3 MM
def inI (p : List Nat) : List Int := p.map fun k : Nat => (k : Int)
theorem nD_in (p : List Nat) : nD p = (inI p).map PyData.int := by simp [nD, inI]
def psT (p : List Nat) : PyData := .tuple (nD p)
def lotD (p : List Nat) : PyData := .tuple [.int ((p.length : Nat) : Int), psT p]
def lotI (p : List Nat) : List Int := (p.length : Int) :: inI p
theorem alike_ints : ∀ xs ys : List Int, PySem.W.alikeAll (xs.map PyData.int) (ys.map PyData.int) = true
  | [], _ => by simp [PySem.W.alikeAll]
  | _ :: _, [] => by simp [PySem.W.alikeAll]
  | x :: xs, y :: ys => by
    simp only [List.map_cons, PySem.W.alikeAll, alike_ints xs ys]
    simp [PySem.W.alike]
theorem eqv_ints : ∀ xs ys : List Int, PyData.eqvAll (xs.map PyData.int) (ys.map PyData.int) = decide (xs = ys)
  | [], [] => by simp [PyData.eqvAll]
  | [], _ :: _ => by simp [PyData.eqvAll]
  | _ :: _, [] => by simp [PyData.eqvAll]
  | x :: xs, y :: ys => by
    simp only [List.map_cons, PyData.eqvAll, eqv_ints xs ys]
    by_cases h : x = y <;> by_cases k : xs = ys <;> simp [PyData.eqv, h, k]
theorem lot_lt (p q : List Nat) : PySem.W.dataLt (lotD p) (lotD q) = decide (lotI p < lotI q) := by
  have e0 := PySem.W.dataLt_ints [] []
  have e2 := PySem.W.dataLt_ints (inI p) (inI q)
  unfold PySem.W.rowLt at e0 e2
  simp only [List.map_nil] at e0
  unfold lotD psT lotI
  rw [nD_in, nD_in]
  have al := alike_ints (inI p) (inI q)
  rw [PySem.W.dataLt_tuple, PySem.W.dataLt_cons (by simp [PySem.W.alike, PySem.W.alikeAll]), PySem.W.dataLt_cons (by simpa [PySem.W.alike, PySem.W.alikeAll] using al), PySem.W.dataLt_int, PySem.W.dataLt_tuple, e2, e0]
  simp only [PyData.eqv, eqv_ints]
  by_cases h1 : (p.length : Int) = q.length
  · by_cases h2 : inI p = inI q
    · simp [h1, h2, List.cons_lt_cons_iff]
    · simp [h1, h2, List.cons_lt_cons_iff]
  · simp [h1, List.cons_lt_cons_iff]
theorem srt_lots (xs : List (List Nat)) : srtD (xs.map lotD) = (xs.mergeSort fun a b => decide (lotI a ≤ lotI b)).map lotD := by
  unfold srtD
  refine (List.map_mergeSort (fun a _ b _ => ?_)).symm
  show _ = !PySem.W.dataLt (lotD b) (lotD a)
  rw [lot_lt]
  by_cases z : lotI b < lotI a
  · simp [z]
  · simp [z]
    exact List.not_lt.mp z
theorem lay_ints : ∀ xs : List Int, PyData.canLayAll0 (xs.map PyData.int) = true
  | [] => rfl
  | x :: xs => by simp [PyData.canLayAll0, PyData.canLay0, lay_ints xs]
theorem dep_ints : ∀ xs : List Int, PyData.depthAll (xs.map PyData.int) ≤ 1
  | [] => by simp [PyData.depthAll]
  | x :: xs => by
    have := dep_ints xs
    simp [PyData.depthAll, PyData.depth]
    omega
theorem plain_lots (xs : List (List Nat)) : PlainS (xs.map lotD) := by
  refine ⟨?_, PySem.W.AllAlike.of (enc := lotD) fun b b' => ?_, PySem.W.Sortable.tuples (enc := lotD) fun b => ⟨_, _, rfl⟩, fun d hd => ?_⟩
  · induction xs with
    | nil => rfl
    | cons x xs ih =>
      simp only [List.map_cons, PyData.canLayAll0, ih, Bool.and_true]
      have := lay_ints (inI x)
      simp [lotD, psT, nD_in, PyData.canLay0, PyData.canLayAll0, this]
  · have := alike_ints (inI b) (inI b')
    simp [lotD, psT, nD_in, PySem.W.alike, PySem.W.alikeAll, this]
  · obtain ⟨b, _, rfl⟩ := List.mem_map.mp hd
    have := dep_ints (inI b)
    simp [lotD, psT, nD_in, PyData.depth, PyData.depthAll]
    omega
theorem inI_lex : ∀ {as bs : List Nat}, lexN as bs ↔ inI as ≤ inI bs
  | [], bs => by simp [lexN, inI]
  | _ :: _, [] => by simp [lexN, inI]
  | a :: as, b :: bs => by
    have ih := inI_lex (as := as) (bs := bs)
    unfold inI at ih ⊢
    simp only [lexN, List.map_cons, ih]
    rw [List.cons_le_cons_iff]
    constructor
    · rintro (h | ⟨rfl, h⟩)
      · exact .inl (by omega)
      · exact .inr ⟨rfl, h⟩
    · rintro (h | ⟨h, k⟩)
      · exact .inl (by omega)
      · exact .inr ⟨by omega, k⟩
def lots : Nat → List (List Nat)
  | 0 => [[]]
  | k + 1 => lots k ++ (lots k).map (· ++ [k])
theorem lots_len : ∀ k, (lots k).length = 2 ^ k
  | 0 => rfl
  | k + 1 => by simp [lots, lots_len k, Nat.pow_succ]; omega
theorem lots_ok : ∀ (k : Nat) (p : List Nat), p ∈ lots k ↔ OkPs p k
  | 0, p => by
    simp only [lots, List.mem_singleton]
    constructor
    · rintro rfl
      exact ⟨by simp, by simp⟩
    · intro h
      cases p with
      | nil => rfl
      | cons x p => have := h.lt x (by simp); omega
  | k + 1, p => by
    simp only [lots, List.mem_append, List.mem_map]
    constructor
    · rintro (h | ⟨q, hq, rfl⟩)
      · have o := (lots_ok k p).mp h
        exact ⟨fun x hx => by have := o.lt x hx; omega, o.ri⟩
      · have o := (lots_ok k q).mp hq
        refine ⟨fun x hx => ?_, ?_⟩
        · rcases List.mem_append.mp hx with hx | hx
          · have := o.lt x hx; omega
          · simp at hx; omega
        · rw [List.pairwise_append]
          exact ⟨o.ri, by simp, fun a ha b hb => by simp at hb; subst hb; exact o.lt a ha⟩
    · intro o
      rcases List.eq_nil_or_concat p with rfl | ⟨q, x, rfl⟩
      · exact .inl ((lots_ok k []).mpr ⟨by simp, by simp⟩)
      · rw [List.concat_eq_append] at o ⊢
        have ri := List.pairwise_append.mp o.ri
        have hx := o.lt x (by simp)
        have hq : ∀ y ∈ q, y < x := fun y hy => ri.2.2 y hy x (by simp)
        by_cases e : x = k
        · subst e
          exact .inr ⟨q, (lots_ok x q).mpr ⟨hq, ri.1⟩, rfl⟩
        · refine .inl ((lots_ok k _).mpr ⟨fun y hy => ?_, o.ri⟩)
          rcases List.mem_append.mp hy with hy | hy
          · have := hq y hy; omega
          · simp at hy; omega
def slots_ (n : Nat) : List (List Nat) := (lots n).mergeSort fun a b => decide (lotI a ≤ lotI b)
theorem slots_mem {n : Nat} {p : List Nat} : p ∈ slots_ n ↔ OkPs p n := by
  unfold slots_
  rw [(List.mergeSort_perm _ _).mem_iff, lots_ok]
theorem slots_ord (n : Nat) : (slots_ n).Pairwise fun a b => lotI a ≤ lotI b := by
  have tr : ∀ a b c : List Nat, decide (lotI a ≤ lotI b) = true → decide (lotI b ≤ lotI c) = true → decide (lotI a ≤ lotI c) = true := fun a b c h1 h2 => by
    simp only [decide_eq_true_eq] at *
    exact List.le_trans h1 h2
  have to : ∀ a b : List Nat, (decide (lotI a ≤ lotI b) || decide (lotI b ≤ lotI a)) = true := fun a b => by
    have := List.le_total (lotI a) (lotI b)
    simpa using this
  have := List.pairwise_mergeSort tr to (lots n)
  exact this.imp (by intro a b h; simpa using h)
theorem first_good {cs : List Cell} {ds : List Dir} {c : Cell} {pre suf : List (List Nat)} {p : List Nat} (e : slots_ ds.length = pre ++ p :: suf) (np : ∀ q ∈ pre, ¬ letR cs c (wo q 0 ds)) (hp : letR cs c (wo p 0 ds)) : p = outO cs ds c 0 := by
  have okp : OkPs p ds.length := slots_mem.mp (by rw [e]; simp)
  have oko : OkPs (outO cs ds c 0) ds.length := ⟨fun x hx => by have := (out_ge ds c 0 x hx).2; omega, out_rise ds c 0⟩
  have lo := out_few (cs := cs) ds c 0
  have fm := few_min hp
  have inn : outO cs ds c 0 ∈ slots_ ds.length := slots_mem.mpr oko
  have le : lotI p ≤ lotI (outO cs ds c 0) := by
    rw [e] at inn
    have od := slots_ord ds.length
    rw [e] at od
    rcases List.mem_append.mp inn with h | h
    · exact absurd (out_let ds c 0) (np _ h)
    · rcases List.mem_cons.mp h with h | h
      · rw [h]; exact List.le_refl _
      · exact (List.pairwise_cons.mp (List.pairwise_append.mp od).2.1).1 _ h
  unfold lotI at le
  rw [List.cons_le_cons_iff] at le
  rcases le with le | ⟨l1, l2⟩
  · omega
  · have hl : p.length = few cs ds c := by omega
    have om := out_min (cs := cs) ds c 0 p okp.ri (fun x hx => ⟨Nat.zero_le _, by have := okp.lt x hx; omega⟩) hp hl
    exact (lexN_anti om (inI_lex.mpr l2)).symm
end L59

end
section
set_option linter.all false
set_option autoImplicit false
set_option Elab.async false
set_option maxRecDepth 100000
set_option maxHeartbeats 4000000
namespace L59
open PySem L2 T3 MM
theorem len_psT {ps : List Nat} : oLen [psT ps] = some (.int ((ps.length : Nat) : Int)) := by simp [oLen, psT, nD]
def LtJ (m : Nat) (rest : List PyData) (e : Sl) : Prop := ∃ (k n : Nat), k + n = m ∧ rest = (List.range' k n).map (fun j => .int ((j : Nat) : Int)) ∧ Al 2 6 e ∧ e[0]? = some (some (.pd (.int ((m : Nat) : Int)))) ∧ e[1]? = some (some (.mu .own (.ls ((lots k).map psT))))
theorem all_lots_sp (m : Nat) (hm : m ≤ 12) : f__law_lots [.pd (.int ((m : Nat) : Int))] = some (.tmp (.ls ((slots_ m).map psT)), [.pd (.int ((m : Nat) : Int))]) := by
  have key : ∀ Q : R → List S → Prop, Q (.tmp (.ls ((slots_ m).map psT))) [.pd (.int ((m : Nat) : Int))] → wF f__law_lots [.pd (.int ((m : Nat) : Int))] Q := by
    intro Q hQ
    refine wF_run (e := startE 6 [.pd (.int ((m : Nat) : Int))]) rfl ?_
    have A0 : Al 1 6 (startE 6 [.pd (.int ((m : Nat) : Int))]) := al_start rfl (by decide)
    have h0 : (startE 6 [.pd (.int ((m : Nat) : Int))])[0]? = some (some (.pd (.int ((m : Nat) : Int)))) := rfl
    generalize startE 6 [.pd (.int ((m : Nat) : Int))] = e at *
    have fr := A0.fre
    have le := A0.len
    have p0 : (lots 0).map psT = [.tuple []] := rfl
    refine wS_seq ?_
    refine wS_of (fl := .nx) (e := e.set 1 (some (.mu .own (.ls ((lots 0).map psT))))) (by rw [p0]; simp [T3.kTup, T3.kLst, datas, T3.data1, fr, -z_free, -getElem?_pos]) ?_
    rw [nxt_nx, go]
    refine wS_seq ?_
    have up : upD m = (List.range' 0 m).map (fun j => .int ((j : Nat) : Int)) := by rw [← List.range_eq_range']; rfl
    refine wS_for (xs := upD m) (lk := none) (e := e.set 1 (some (.mu .own (.ls ((lots 0).map psT))))) (rg1_up (n := m) (by simp [h0, le, -getElem?_pos]) (by omega)) (LtJ m) ⟨0, m, by omega, up, ⟨by simp [le], fun i h1 h2 => by rw [free_ne_set (by omega)]; exact fr i (by omega) h2⟩, by simpa using h0, by simp [le]⟩ ?_ ?_
    · rintro x rest F ⟨k, n, hk, hr, AF, k0, k2⟩
      cases n with
      | zero => simp at hr
      | succ n =>
        rw [List.range'_succ, List.map_cons, List.cons.injEq] at hr
        obtain ⟨rfl, hr⟩ := hr
        have fF := AF.fre
        have lF := AF.len
        simp only [gW, z_gN, z_setR, fF 2 (by decide) (by decide), if_true]
        rw [go]
        refine wS_gen fun G hG => ?_
        have AG : Al 2 6 G := by rw [hG]; exact AF.set (by rfl)
        have m0 : G[0]? = some (some (.pd (.int ((m : Nat) : Int)))) := by rw [hG]; simpa using k0
        have m2 : G[1]? = some (some (.mu .own (.ls ((lots k).map psT)))) := by rw [hG]; simpa using k2
        have m3 : G[2]? = some (some (.pd (.int ((k : Nat) : Int)))) := by rw [hG]; simp [lF]
        clear hG
        have fG := AG.fre
        have lG := AG.len
        have ll := lots_len k
        have b2 : 2 ^ k ≤ 4096 := by
          have : 2 ^ k ≤ 2 ^ 12 := Nat.pow_le_pow_right (by decide) (by omega)
          simpa using this
        have uk : ∀ p ∈ lots k, p.length ≤ 12 := fun p hp => by have := ((lots_ok k p).mp hp).ln; omega
        have lc := lcA (it := iSeq (eVar 1)) (g := gN 4) (f := eAdd (eVar 4) (eThen (eCons (eVar 2) eNil) T3.kTup)) (vs := [4]) (lk := some (1, .own)) (env := G) (e := G.set 1 (some (.mu .fro (.ls ((lots k).map psT))))) (q := psT) (as := lots k) (fun p => psT (p ++ [k])) (by simp [iSeq, m2, -getElem?_pos]) (by omega) (fun p hp => by
          have nl : (nD p).length + 1 ≤ 1000000 := by have := uk p hp; rw [nD_len]; omega
          have pn : psT (p ++ [k]) = .tuple (nD p ++ [.int ((k : Nat) : Int)]) := by simp [psT, nD]
          have pq : psT p = .tuple (nD p) := rfl
          have ad : ∀ env : Sl, kAdd [.pd (psT p), .pd (.tuple [.int ((k : Nat) : Int)])] env = some (.pd (psT (p ++ [k])), env) := fun env => by
            rw [pn, pq]
            simp [kAdd, kOr, kT, oI, oCatS, oCatT, nl]
          have kp := Kp.wipe (G.set 1 (some (.mu .fro (.ls ((lots k).map psT))))) [4]
          generalize psT p = P at *
          generalize psT (p ++ [k]) = P' at *
          simp [lcO, wipe_at, wipe_free, wipeE_len, lG, m3, T3.kTup, datas, T3.data1, ad, Kp.set, -z_free, -getElem?_pos])
        have ul : unlock (some (1, Md.own)) (G.set 1 (some (.mu .fro (.ls ((lots k).map psT))))) = G := by
          refine List.ext_getElem? fun i => ?_
          by_cases h : i = 1
          · subst h; rw [m2]; simp [unlock, lG]
          · simp [unlock, lG, List.getElem?_set, Ne.symm h]
        rw [ul] at lc
        have nx : (lots k).map psT ++ (lots k).map (fun p => psT (p ++ [k])) = (lots (k + 1)).map psT := by simp [lots, Function.comp_def]
        have f1 : free G 1 = true := by unfold free; rw [m2]
        have ka : ∀ env : Sl, env[1]? = some (some (.mu .own (.ls ((lots k).map psT)))) → kAdd [.var 1, .tmp (.ls ((lots k).map fun p => psT (p ++ [k])))] env = some (.tmp (.ls ((lots (k + 1)).map psT)), env) := fun env h => by
          rw [← nx]
          have : (lots k).length + (lots k).length ≤ 1000000 := by omega
          simp [kAdd, kOr, oI, oCatS, oCatT, kCatL, lsOf, h, this, -getElem?_pos]
        refine wS_of (fl := .nx) (e := G.set 1 (some (.mu .own (.ls ((lots (k + 1)).map psT))))) (by
          generalize (lots (k + 1)).map psT = L2 at *
          simp [m2, lc, ka, f1, -z_free, -z_lc, -getElem?_pos]) ?_
        exact ⟨k + 1, n, by omega, hr, AG.low (by decide), by simpa using m0, by simp [lG]⟩
    · rintro F ⟨k, n, hk, hr, AF, k0, k2⟩
      have n0 : n = 0 := by
        cases n with
        | zero => rfl
        | succ n => rw [List.range'_succ] at hr; simp at hr
      subst n0
      have ek : k = m := by omega
      subst ek
      rw [z_unl, nxt_nx, go]
      have fF := AF.fre
      have lF := AF.len
      have ll := lots_len k
      have b2 : 2 ^ k ≤ 4096 := by
        have : 2 ^ k ≤ 2 ^ 12 := Nat.pow_le_pow_right (by decide) (by omega)
        simpa using this
      have lc := lcA (it := iSeq (eVar 1)) (g := gN 4) (f := eThen (eCons (eThen (eCons (eVar 4) eNil) (kE oLen)) (eCons (eVar 4) eNil)) T3.kTup) (vs := [4]) (lk := some (1, .own)) (env := F) (e := F.set 1 (some (.mu .fro (.ls ((lots k).map psT))))) (q := psT) (as := lots k) lotD (by simp [iSeq, k2, -getElem?_pos]) (by omega) (fun p hp => by
        have lp := len_psT (ps := p)
        have e1 : lotD p = .tuple [.int ((p.length : Nat) : Int), psT p] := rfl
        rw [e1]
        generalize psT p = P at *
        simp [lcO, wipe_at, wipe_free, wipeE_len, lF, lp, T3.kTup, Kp.set, -z_free, -getElem?_pos])
      have ul : unlock (some (1, Md.own)) (F.set 1 (some (.mu .fro (.ls ((lots k).map psT))))) = F := by
        refine List.ext_getElem? fun i => ?_
        by_cases h : i = 1
        · subst h; rw [k2]; simp [unlock, lF]
        · simp [unlock, lF, List.getElem?_set, Ne.symm h]
      rw [ul] at lc
      have so := srt_lots (lots k)
      have pl := plain_lots (lots k)
      have es : (lots k).mergeSort (fun a b => decide (lotI a ≤ lotI b)) = slots_ k := rfl
      rw [es] at so
      have ln : ((lots k).map lotD).length ≤ 1000000 := by rw [List.length_map]; omega
      refine wS_seq ?_
      refine wS_of (fl := .nx) (e := F.set 3 (some (.mu .own (.ls ((slots_ k).map lotD))))) (by
        generalize (lots k).map lotD = L1 at *
        simp [lc, kSrtX, lsOf, pl, so, ln, fF, -z_free, -z_lc, -getElem?_pos]) ?_
      rw [nxt_nx, go]
      have g3 : (F.set 3 (some (.mu .own (.ls ((slots_ k).map lotD)))))[3]? = some (some (.mu .own (.ls ((slots_ k).map lotD)))) := by simp [lF]
      have lG : (F.set 3 (some (.mu .own (.ls ((slots_ k).map lotD))))).length = 6 := by simp [lF]
      have g0 : (F.set 3 (some (.mu .own (.ls ((slots_ k).map lotD)))))[0]? = some (some (.pd (.int ((k : Nat) : Int)))) := by simpa using k0
      have f4 : free (F.set 3 (some (.mu .own (.ls ((slots_ k).map lotD))))) 4 = true := by rw [free_ne_set (by decide)]; exact fF 4 (by decide) (by decide)
      have f5 : free (F.set 3 (some (.mu .own (.ls ((slots_ k).map lotD))))) 5 = true := by rw [free_ne_set (by decide)]; exact fF 5 (by decide) (by decide)
      generalize F.set 3 (some (.mu .own (.ls ((slots_ k).map lotD)))) = G at *
      have sl : (slots_ k).length ≤ 1000000 := by unfold slots_; rw [List.length_mergeSort]; omega
      have lc2 := lcA (it := iSeq (eVar 3)) (g := gT 2 (gCn (gN 5) (gCn (gN 4) gNl))) (f := eVar 4) (vs := [4, 5]) (lk := some (3, .own)) (env := G) (e := G.set 3 (some (.mu .fro (.ls ((slots_ k).map lotD))))) (q := lotD) (as := slots_ k) psT (by simp [iSeq, g3, -getElem?_pos]) sl (fun p hp => by
        have e1 : lotD p = .tuple [.int ((p.length : Nat) : Int), psT p] := rfl
        rw [e1]
        generalize psT p = P at *
        simp [lcO, wipe_at, wipe_free, wipeE_len, lG, free_ne_set, Kp.set, -z_free, -getElem?_pos])
      have ul2 : unlock (some (3, Md.own)) (G.set 3 (some (.mu .fro (.ls ((slots_ k).map lotD))))) = G := by
        refine List.ext_getElem? fun i => ?_
        by_cases h : i = 3
        · subst h; rw [g3]; simp [unlock, lG]
        · simp [unlock, lG, List.getElem?_set, Ne.symm h]
      rw [ul2] at lc2
      refine wS_of (fl := .rt (.tmp (.ls ((slots_ k).map psT)))) (e := G) (by simp [lc2, -z_lc, -getElem?_pos]) ?_
      exact ⟨_, _, rfl, fin_pd rfl (by rw [lG]; simp), hQ⟩
  obtain ⟨r, as, e, rfl, rfl⟩ := key (fun r as => r = _ ∧ as = _) ⟨rfl, rfl⟩
  exact e
theorem law_without_sp {ds : List Dir} {ps : List Nat} (ln : ds.length ≤ 1000) (s : S) (hs : isT s (nD ps)) : f__law_without [.pd (.str (rowS ds)), s] = some (.pd (.str (rowS (wo ps 0 ds))), [.pd (.str (rowS ds)), s]) := by
  have en := enum_row ds
  have hl6 : (rowS ds).length ≤ 1000000 := by rw [row_len]; omega
  have lc := lcF (it := iEn (eVar 0)) (g := gT 2 (gCn (gN 2) (gCn (gN 3) gNl))) (t := bT (eNin (eVar 2) (eVar 1))) (f := eVar 3) (vs := [2, 3]) (lk := none) (env := [some (.pd (.str (rowS ds))), some s, none, none]) (e := [some (.pd (.str (rowS ds))), some s, none, none]) (q := fun p : Dir × Nat => .tuple [.int ((p.2 : Nat) : Int), .str (chS p.1)]) (as := ds.zipIdx) (fun p => !decide (p.2 ∈ ps)) (fun p => chD p.1) (by simp [iEn, en, hl6]) (by simp; omega) (fun p hp => by
    have v := in_nD true p.2 ps
    simp only [if_true] at v
    have kp := Kp.wipe [some (.pd (.str (rowS ds))), some s, none, none] [2, 3]
    unfold lcI
    have w : wipeE [some (.pd (.str (rowS ds))), some s, none, none] [2, 3] = [some (.pd (.str (rowS ds))), some s, none, none] := rfl
    rw [w] at kp ⊢
    have gg : gT 2 (gCn (gN 2) (gCn (gN 3) gNl)) (.tuple [.int ((p.2 : Nat) : Int), .str (chS p.1)]) [some (.pd (.str (rowS ds))), some s, none, none] = some [some (.pd (.str (rowS ds))), some s, some (.pd (.int ((p.2 : Nat) : Int))), some (.pd (.str (chS p.1)))] := by simp
    rw [gg]
    have kq : Kp [some (.pd (.str (rowS ds))), some s, none, none] [some (.pd (.str (rowS ds))), some s, some (.pd (.int ((p.2 : Nat) : Int))), some (.pd (.str (chS p.1)))] [2, 3] :=
      (kp.set (v := 2) (s := some (.pd (.int ((p.2 : Nat) : Int)))) (by decide)).set (v := 3) (s := some (.pd (.str (chS p.1)))) (by decide)
    by_cases z : p.2 ∈ ps
    · rcases hs with rfl | rfl <;> simp [v, z, chD, kq]
    · rcases hs with rfl | rfl <;> simp [v, z, chD, kq])
  rw [z_unl] at lc
  have ew : (ds.zipIdx.filter fun p => !decide (p.2 ∈ ps)).map (fun p => chD p.1) = (wo ps 0 ds).map chD := by simp [wo]
  rw [ew] at lc
  have wl : (wo ps 0 ds).length ≤ 1000 := Nat.le_trans (wo_sub ps ds 0).length_le ln
  have j := oJoin_row (wo ps 0 ds) wl
  have fi : finals [.pd (.str (rowS ds)), s] [some (.pd (.str (rowS ds))), some s, none, none] = some [.pd (.str (rowS ds)), s] := by rcases hs with rfl | rfl <;> rfl
  unfold f__law_without
  rw [run_of (e := [some (.pd (.str (rowS ds))), some s, none, none]) rfl]
  unfold m__law_without
  simp only [z_ret, z_bm, z_c, isS, if_true, z_cons, lc, z_nil, z_kE, z_ctns1, z_ctns0, z_ctn1, z_ctn3, j]
  simp [fi]
theorem len_row {ds : List Dir} (h : ds.length ≤ 1000000) : oLen [.str (rowS ds)] = some (.int (ds.length : Nat)) := by simp [oLen, row_len, h]
def LeI (cs : List Cell) (c : Cell) (ds : List Dir) (rest : List PyData) (e : Sl) : Prop := ∃ (pre suf : List (List Nat)) (s3 : Option S), slots_ ds.length = pre ++ suf ∧ rest = suf.map psT ∧ (∀ q ∈ pre, ¬ letR cs c (wo q 0 ds)) ∧ fre s3 = true ∧ e = [some (.nt (cs.map clD)), some (.pd (clD c)), some (.pd (.str (rowS ds))), s3]
theorem law_least_sp {cs : List Cell} {c : Cell} {ds : List Dir} (ln : ds.length ≤ 12) : f__law_least [.nt (cs.map clD), .pd (clD c), .pd (.str (rowS ds))] = some (.pd (psT (outO cs ds c 0)), [.nt (cs.map clD), .pd (clD c), .pd (.str (rowS ds))]) := by
  have ll := all_lots_sp ds.length ln
  have lr := len_row (ds := ds) (by omega)
  classical
  have key : ∀ Q : R → List S → Prop, Q (.pd (psT (outO cs ds c 0))) [.nt (cs.map clD), .pd (clD c), .pd (.str (rowS ds))] → wF f__law_least [.nt (cs.map clD), .pd (clD c), .pd (.str (rowS ds))] Q := by
    intro Q hQ
    refine wF_run (e := [some (.nt (cs.map clD)), some (.pd (clD c)), some (.pd (.str (rowS ds))), none]) rfl ?_
    refine wS_seq ?_
    refine wS_for (xs := (slots_ ds.length).map psT) (lk := none) (e := [some (.nt (cs.map clD)), some (.pd (clD c)), some (.pd (.str (rowS ds))), none]) (by simp [iSeq, lr, ll]) (LeI cs c ds) ⟨[], _, none, rfl, rfl, by simp, rfl, rfl⟩ ?_ ?_
    · rintro x rest e ⟨pre, suf, s3, e1, e2, e3, e4, rfl⟩
      cases suf with
      | nil => simp at e2
      | cons p suf =>
        obtain ⟨rfl, er⟩ : x = psT p ∧ rest = suf.map psT := by simpa using e2
        simp only [gW, z_gN, z_setR, z_free2, List.getElem?_cons_succ, List.getElem?_cons_zero, freO_some, e4, if_true, List.set_cons_succ, List.set_cons_zero]
        rw [go]
        have w := law_without_sp (ds := ds) (ps := p) (by omega) (.pd (psT p)) (.inl rfl)
        have wl : (wo p 0 ds).length ≤ 1000 := Nat.le_trans (wo_sub p ds 0).length_le (by omega)
        have il := is_let_sp (cs := cs) (s0 := .nt (cs.map clD)) (.inr rfl) c (wo p 0 ds) wl
        by_cases z : letR cs c (wo p 0 ds)
        · have ep := first_good e1 e3 z
          refine wS_of (fl := .rt (.pd (psT (outO cs ds c 0)))) (e := [some (.nt (cs.map clD)), some (.pd (clD c)), some (.pd (.str (rowS ds))), some (.pd (psT p))]) (by
            rw [← ep]
            generalize psT p = P at *
            simp [w, il, z]) ?_
          exact ⟨_, _, rfl, rfl, hQ⟩
        · refine wS_of (fl := .nx) (e := [some (.nt (cs.map clD)), some (.pd (clD c)), some (.pd (.str (rowS ds))), some (.pd (psT p))]) (by
            generalize psT p = P at *
            simp [w, il, z]) ?_
          exact ⟨pre ++ [p], suf, _, by rw [e1]; simp, er, fun q hq => by
            rcases List.mem_append.mp hq with hq | hq
            · exact e3 q hq
            · simp at hq; subst hq; exact z, rfl, rfl⟩
    · rintro e ⟨pre, suf, s3, e1, e2, e3, e4, rfl⟩
      have hs : suf = [] := by
        cases suf with
        | nil => rfl
        | cons p suf => simp at e2
      subst hs
      rw [List.append_nil] at e1
      have : outO cs ds c 0 ∈ slots_ ds.length := slots_mem.mpr ⟨fun x hx => by have := (out_ge ds c 0 x hx).2; omega, out_rise ds c 0⟩
      rw [e1] at this
      exact absurd (out_let ds c 0) (e3 _ this)
  obtain ⟨r, as, e, rfl, rfl⟩ := key (fun r as => r = _ ∧ as = _) ⟨rfl, rfl⟩
  exact e
end L59

end
section
set_option linter.all false
set_option autoImplicit false
set_option Elab.async false
set_option maxRecDepth 100000
set_option maxHeartbeats 4000000
namespace L59
open PySem L2 T3 MM
noncomputable section
def OkS (s : Str) : Prop := ∀ c ∈ s.cps.toList, c < 0x110000
theorem oks_of (s : String) : OkS (Str.ofString s) := fun c hc => by
  rw [Str.ofString_eq_toList] at hc
  simp only [List.mem_map] at hc
  obtain ⟨x, _, rfl⟩ := hc
  have := x.valid
  rcases this with h | h
  · exact Nat.lt_trans h (by decide)
  · exact h.2
theorem oks_app {a b : Str} (h : OkS a) (k : OkS b) : OkS (a ++ b) := fun c hc => by
  have : (a ++ b).cps = a.cps ++ b.cps := rfl
  rw [this, Array.toList_append] at hc
  rcases List.mem_append.mp hc with z | z
  · exact h c z
  · exact k c z
theorem oks_join {s : Str} (h : OkS s) : ∀ ts : List Str, (∀ t ∈ ts, OkS t) → OkS (s.join ts)
  | [], _ => by
    unfold Str.join
    intro c hc
    simp [Str.empty] at hc
  | [t], k => by
    unfold Str.join
    exact k t (by simp)
  | t :: u :: ts, k => by
    have ih := oks_join h (u :: ts) fun x hx => k x (List.mem_cons_of_mem _ hx)
    unfold Str.join
    first | exact oks_app (oks_app (k t (by simp)) h) ih | exact oks_app (k t (by simp)) (oks_app h ih)
mutual
def itd : PyData → Bool
  | .int _ => true
  | .tuple xs => itds xs
  | _ => false
def itds : List PyData → Bool
  | [] => true
  | x :: xs => itd x && itds xs
end
mutual
theorem oks_itd : ∀ x : PyData, itd x = true → OkS x.shown
  | .int i, _ => by rw [PyData.shown_int]; exact oks_of _
  | .tuple xs, h => by
    unfold itd at h
    unfold PyData.shown
    unfold tupleText
    exact oks_app (oks_app (oks_of _) (oks_join (oks_of _) _ (oks_itds xs h))) (by first | exact oks_of _ | (split <;> exact oks_of _))
  | .none, h => by simp [itd] at h
  | .bool _, h => by simp [itd] at h
  | .str _, h => by simp [itd] at h
  | .list _, h => by simp [itd] at h
  | .dict _, h => by simp [itd] at h
theorem oks_itds : ∀ xs : List PyData, itds xs = true → ∀ t ∈ PyData.shownAll xs, OkS t
  | [], _ => by unfold PyData.shownAll; simp
  | x :: xs, h => by
    unfold itds at h
    simp only [Bool.and_eq_true] at h
    unfold PyData.shownAll
    intro t ht
    rcases List.mem_cons.mp ht with rfl | ht
    · exact oks_itd x h.1
    · exact oks_itds xs h.2 t ht
end
theorem strOk_of {s : Str} (h : OkS s) : PyData.strOk s = true := by
  unfold PyData.strOk
  rw [Array.all_eq_true']
  intro x hx
  have := h x (by simpa using hx)
  simpa using this
mutual
theorem real_itd : ∀ x : PyData, itd x = true → realZ x = x
  | .int i, _ => by unfold realZ; rfl
  | .tuple xs, h => by
    unfold itd at h
    unfold realZ
    rw [real_itds xs h]
  | .none, h => by simp [itd] at h
  | .bool _, h => by simp [itd] at h
  | .str _, h => by simp [itd] at h
  | .list _, h => by simp [itd] at h
  | .dict _, h => by simp [itd] at h
theorem real_itds : ∀ xs : List PyData, itds xs = true → realZs xs = xs
  | [], _ => by unfold realZs; rfl
  | x :: xs, h => by
    unfold itds at h
    simp only [Bool.and_eq_true] at h
    unfold realZs
    rw [real_itd x h.1, real_itds xs h.2]
end
theorem rz_pair {cs : List Cell} {c : Cell} (hb : ∀ c ∈ cs, inB c = true) (hc : c ∈ cs) (hl : cs.length ≤ 20) : ∃ t : Str, oReprZ [.tuple [.tuple (cs.map clD), clD c]] = some (.str t) := by
  have cl : ∀ c ∈ cs, RD 1 82 (clD c) := fun c hc => by
    have hb2 := hb c hc
    simp only [inB, Bool.and_eq_true, decide_eq_true_eq] at hb2
    exact RD.cell (by omega)
  have rd : RD 2 (83 * 20) (.tuple (cs.map clD)) := RD.tup (p := 1) (k := 82) (n := 20) (fun y hy => by
    obtain ⟨c, hc, rfl⟩ := List.mem_map.mp hy
    exact cl c hc) (by simpa using hl)
  have rd2 : RD 3 ((83 * 20 + 1) * 2) (.tuple [.tuple (cs.map clD), clD c]) := RD.tup (p := 2) (k := 83 * 20) (n := 2) (fun y hy => by
    simp only [List.mem_cons, List.not_mem_nil, or_false] at hy
    rcases hy with rfl | rfl
    · exact rd
    · exact (cl c hc).mono (by decide) (by decide)) (by simp)
  exact rz_tup (rd2.ok (by decide) (by decide))
theorem repr_nD {ps : List Nat} (h : ∀ p ∈ ps, p < 100) (hl : ps.length ≤ 60) : ∃ t : Str, oReprZ [.tuple (nD ps)] = some (.str t) ∧ PyData.strOk t = true := by
  have ok := (rd_nD h hl).ok (by decide) (by decide)
  have it : itd (.tuple (nD ps)) = true := by
    unfold itd
    have : ∀ ps : List Nat, itds (nD ps) = true := by
      intro ps
      induction ps with
      | nil => rfl
      | cons c cs ih =>
        show itds (.int _ :: nD cs) = true
        unfold itds
        rw [ih]
        rfl
    exact this ps
  refine ⟨(PyData.tuple (nD ps)).shown, ?_, strOk_of (oks_itd _ it)⟩
  unfold oReprZ
  by_cases z : ShZ (.tuple (nD ps))
  · simp only [z, if_true]
    rw [real_itd _ it]
  · simp only [z, if_false]
    rw [oReprY_t]
    exact repr_t ok
theorem range_of {ps : List Nat} (h : ps.Pairwise (· < ·)) (h60 : ∀ p ∈ ps, p < 60) : (List.range 60).filter (fun i => decide (i ∈ ps)) = ps := by
  refine List.Perm.eq_of_pairwise (le := (· < ·)) (fun a b _ _ x y => absurd x (Nat.lt_asymm y)) (List.Pairwise.filter _ List.pairwise_lt_range) h ?_
  refine (List.perm_ext_iff_of_nodup (List.Pairwise.imp (fun h => Nat.ne_of_lt h) (List.Pairwise.filter _ List.pairwise_lt_range)) (List.Pairwise.imp (fun h => Nat.ne_of_lt h) h)).mpr fun x => ?_
  simp only [List.mem_filter, List.mem_range, decide_eq_true_eq]
  exact ⟨fun z => z.2, fun z => ⟨h60 x z, z⟩⟩
theorem ins_usI {ps : List Nat} (h : ps.Pairwise (· < ·)) (h60 : ∀ p ∈ ps, p < 60) : usI (inI ps) = inI ps := by
  unfold usI
  have e : (fun i : Nat => decide (((i : Nat) : Int) ∈ inI ps)) = fun i => decide (i ∈ ps) := by
    funext i
    refine decide_eq_decide.mpr ?_
    unfold inI
    rw [List.mem_map]
    constructor
    · rintro ⟨k, hk, e⟩
      have : k = i := by omega
      exact this ▸ hk
    · intro hk
      exact ⟨i, hk, rfl⟩
  rw [e, range_of h h60]
  rfl
end
end L59

end
section
set_option linter.all false
set_option autoImplicit false
set_option Elab.async false
set_option maxRecDepth 100000
set_option maxHeartbeats 4000000
namespace L59
open PySem L2 T3 MM
noncomputable section
theorem hmath (ns : List Int) (hn : ns.length ≤ 63) : ∃ as, f_law [.pd (.list (ns.map .int))] = some (.pd (.bool true), as) := by
  classical
  refine outer (n := 12) (N := 4) (M := 3) (C := 1000) ns (by decide) (by decide) (by decide) (by decide) (cell_sp ns) pen2_sp ?_
  intro e p A h0 h2 hp
  generalize hTP : TurnP 12 1000 (.list (ns.map .int)) p = TP
  generalize hs : PyData.list (ns.map .int) = s at *
  have fr := A.fre
  have ln := A.len
  obtain ⟨p1, cs, hp1, ok, _, _, ef⟩ := floor_sp2 p 1 9 (by decide) (by decide) (by decide) (by omega)
  have ef : f__law_floor [.mu .bor (penK p), .pd (.int 1), .pd (.int 9)] = some (.nt (cs.map clD), [.mu .bor (penK p1), .pd (.int 1), .pd (.int 9)]) := ef
  have l0 := ok.1
  have l9 := ok.2.1
  obtain ⟨y, hy, p2, hp2, ep⟩ := pick2_l p1 (cs.map clD) (by simp; omega) (by simp; omega) (by omega)
  obtain ⟨c, hc, rfl⟩ := List.mem_map.mp hy
  have ol : (cs.map clD).length ≤ 1000000 := by simp; omega
  refine wS_seq ?_
  refine wS_of (fl := .nx) (e := (e.set 2 (some (.mu .own (penK p1)))).set 4 (some (.nt (cs.map clD)))) (by simp [free_ne_set, fr, ln, h2, ef, -z_free, -getElem?_pos]) ?_
  rw [nxt_nx, go]
  refine wS_gen fun E hE => ?_
  have AE : Al 0 12 E := by rw [hE]; exact (A.set rfl).set rfl
  have g0 : E[0]? = some (some (.pd s)) := by rw [hE]; simpa using h0
  have g2 : E[2]? = some (some (.mu .own (penK p1))) := by rw [hE]; simp [ln]
  have g4 : E[4]? = some (some (.nt (cs.map clD))) := by rw [hE]; simp [ln]
  clear hE h0 h2
  have lE := AE.len
  have fE := AE.fre
  obtain ⟨r, p3, r0, r1, hp3, dr⟩ := draw2_sp p2 8 (by decide) (by decide) (by omega)
  obtain ⟨n, rfl⟩ : ∃ n : Nat, r = n := ⟨r.toNat, by omega⟩
  obtain ⟨p4, ds, hp4, hd, er⟩ := row60_sp p3 n (by omega) (by omega)
  refine wS_seq ?_
  refine wS_of (fl := .nx) (e := ((E.set 2 (some (.mu .own (penK p4)))).set 5 (some (.pd (clD c)))).set 6 (some (.pd (.str (rowS ds))))) (by simp [setAll, free_ne_set, fE, lE, g2, g4, kL, oList, ol, ep, dr, er, -z_free, -getElem?_pos]) ?_
  rw [nxt_nx, go]
  refine wS_gen fun F hF => ?_
  have AF : Al 0 12 F := by rw [hF]; repeat (first | exact AE | refine Al.set ?_ rfl)
  have k0 : F[0]? = some (some (.pd s)) := by rw [hF]; simpa using g0
  have k2 : F[2]? = some (some (.mu .own (penK p4))) := by rw [hF]; simp [lE]
  have k4 : F[4]? = some (some (.nt (cs.map clD))) := by rw [hF]; simpa using g4
  have k5 : F[5]? = some (some (.pd (clD c))) := by rw [hF]; simp [lE]
  have k6 : F[6]? = some (some (.pd (.str (rowS ds)))) := by rw [hF]; simp [lE]
  clear hF g0 g2 g4
  have lF := AF.len
  have fF := AF.fre
  obtain ⟨tp, rp⟩ := rz_pair ok.2.2.1 hc (by omega)
  have le := law_least_sp (cs := cs) (c := c) (ds := ds) (by omega)
  have rg : ∀ {ds : List Dir}, ∀ x ∈ outO cs ds c 0, x < ds.length := fun {ds} x hx => by have := (out_ge ds c 0 x hx).2; omega
  have ol1 : ∀ ds : List Dir, (outO cs ds c 0).length ≤ ds.length := fun ds => by rw [out_few]; exact few_len _ _ _
  obtain ⟨t, rt, tk⟩ := repr_nD (ps := outO cs ds c 0) (fun x hx => by have := rg x hx; omega) (by have := ol1 ds; omega)
  have lo := left_out_sp ok hc (by omega : ds.length ≤ 1000)
  have nn : ∀ a : Str, oNeS [.str a, .str a] = some (.bool false) := fun a => by simp [oNeS]
  have rt2 : oReprZ [psT (outO cs ds c 0)] = some (.str t) := rt
  refine wS_seq ?_
  generalize hO : outO cs ds c 0 = O at *
  refine wS_of (fl := .nx) (e := (F.set 7 (some (.pd (.str tp)))).set 8 (some (.pd (.str t)))) (by
    generalize psT O = P at *
    simp [k4, k5, k6, T3.kTup, datas, T3.data1, rp, le, rt2, free_ne_set, fF, lF, -z_free, -getElem?_pos]) ?_
  rw [nxt_nx, go]
  refine wS_gen fun G hG => ?_
  have AG : Al 0 12 G := by rw [hG]; repeat (first | exact AF | refine Al.set ?_ rfl)
  have m0 : G[0]? = some (some (.pd s)) := by rw [hG]; simpa using k0
  have m2 : G[2]? = some (some (.mu .own (penK p4))) := by rw [hG]; simpa using k2
  have m4 : G[4]? = some (some (.nt (cs.map clD))) := by rw [hG]; simpa using k4
  have m5 : G[5]? = some (some (.pd (clD c))) := by rw [hG]; simpa using k5
  have m6 : G[6]? = some (some (.pd (.str (rowS ds)))) := by rw [hG]; simpa using k6
  have m7 : G[7]? = some (some (.pd (.str tp))) := by rw [hG]; simp [lF]
  have m8 : G[8]? = some (some (.pd (.str t))) := by rw [hG]; simp [lF]
  clear hG k0 k2 k4 k5 k6
  have lG := AG.len
  have fG := AG.fre
  have two := lcA (it := iRg1 (eCons (eC (.int 2)) eNil)) (g := gN 11) (f := eThen (eCons (eCall f_left_out (eCons (eVar 4) (eCons (eVar 5) (eCons (eVar 6) eNil)))) eNil) (kE oReprZ)) (vs := [11]) (lk := none) (env := G) (e := G) (q := fun j : Nat => .int ((j : Nat) : Int)) (as := List.range 2) (fun _ => .str t) (rg1_up (n := 2) (by simp) (by decide)) (by decide) (fun j hj => by
    simp [lcO, wipe_at, wipe_free, wipeE_len, lG, m4, m5, m6, lo, rt, T3.data1, Kp.set, -z_free, -getElem?_pos])
  rw [z_unl, show (List.range 2).map (fun _ => PyData.str t) = [.str t, .str t] from rfl] at two
  have pt : ∀ n, pl n (.str t) = true := fun n => by cases n <;> exact tk
  have pt2 : pl 1 (.list [.str t, .str t]) = true := by simp [pl, pt, tk]
  have nl2 : oNe [.list [.str t, .str t], .list [.str t, .str t]] = some (.bool false) := pl_ne pt2 pt2 (by decide) (by decide) rfl
  have rl : ∀ x : PyData, kRepL [.tmp (.ls [x]), .pd (.int 2)] = fun env => some (.tmp (.ls [x, x]), env) := fun x => rfl
  refine wS_seq ?_
  refine wS_of (fl := .nx) (e := G) (by
    simp only [z_if, z_bT, z_nex, z_then, z_cons, two]
    simp [m8, rl, kMul2, kNex, kOr, oNeS, nl2, T3.kLst, datas, T3.data1, -getElem?_pos]) ?_
  rw [nxt_nx, go]
  clear two
  -- the long one
  obtain ⟨z, p5, z0, z1, hp5, dz⟩ := draw2_sp p4 40 (by decide) (by decide) (by omega)
  obtain ⟨v, p6, v0, v1, hp6, dv⟩ := draw2_sp p5 2 (by decide) (by decide) (by omega)
  obtain ⟨k, hk, ek⟩ : ∃ k : Nat, k ≤ 60 ∧ oIx [.list [.int 60, .int (20 + z)], .int v] = some (.int (k : Nat)) := by
    have : v = 0 ∨ v = 1 := by omega
    rcases this with rfl | rfl
    · exact ⟨60, by omega, rfl⟩
    · exact ⟨(20 + z).toNat, by omega, by rw [show (((20 + z).toNat : Nat) : Int) = 20 + z by omega]; rfl⟩
  obtain ⟨p7, es, hp7, he, erl⟩ := row60_sp p6 k (by omega) (by omega)
  refine wS_seq ?_
  refine wS_of (fl := .nx) (e := (G.set 2 (some (.mu .own (penK p7)))).set 9 (some (.pd (.str (rowS es))))) (by
    simp [m2, dz, dv, ek, erl, kAdd, oI, free_ne_set, fG, lG, -z_free, -getElem?_pos]) ?_
  rw [nxt_nx, go]
  have lo2 := left_out_sp ok hc (by omega : es.length ≤ 1000)
  obtain ⟨t2, rt3, tk2⟩ := repr_nD (ps := outO cs es c 0) (fun x hx => by have := rg x hx; omega) (by have := ol1 es; omega)
  have ll := least_long_sp ok hc (by omega : es.length ≤ 60)
  have ms := most_sp ok hc (by omega : es.length ≤ 60)
  have fl := out_few (cs := cs) es c 0
  have fle := few_len cs es c
  have ri := out_rise (cs := cs) es c 0
  have in60 : ∀ x ∈ outO cs es c 0, x < 60 := fun x hx => by have := rg x hx; omega
  have us := ins_usI ri in60
  have wsp := law_without_sp (ds := es) (ps := outO cs es c 0) (by omega) (.nt (nD (outO cs es c 0))) (.inr rfl)
  have wl := Nat.le_trans (wo_sub (outO cs es c 0) es 0).length_le (by omega : es.length ≤ 1000)
  have il := is_let_sp (cs := cs) (s0 := .nt (cs.map clD)) (.inr rfl) c (wo (outO cs es c 0) 0 es) wl
  have lt := out_let (cs := cs) es c 0
  rw [decide_eq_true lt] at il
  have lr := len_row (ds := es) (by omega)
  have oe := out_wl (cs := cs) es c
  have lO : oLen [.tuple (nD (outO cs es c 0))] = some (.int ((few cs es c : Nat) : Int)) := by rw [← fl]; simp [oLen, nD]
  have iO : ints? (nD (outO cs es c 0)) = some (inI (outO cs es c 0)) := by rw [nD_in]; exact MM.ints_of _
  have in4 : (inI (outO cs es c 0)).length ≤ 4000 ∧ ∀ x ∈ inI (outO cs es c 0), 0 ≤ x ∧ x < 60 := ⟨by simp [inI]; have := ol1 es; omega, fun x hx => by
    obtain ⟨k, hk, rfl⟩ := List.mem_map.mp hx
    have := in60 k hk
    omega⟩
  have pO : pl 1 (.tuple (nD (outO cs es c 0))) = true := pl_tup fun _ _ => rfl
  have pL : pl 1 (.list (nD (outO cs es c 0))) = true := pl_lst fun _ _ => rfl
  have neO := pl_ne pO pO (by decide) (by decide) rfl
  have neL := pl_ne pL pL (by decide) (by decide) rfl
  have nin := (nD_in (outO cs es c 0)).symm
  have lnO : (nD (outO cs es c 0)).length ≤ 1000000 := by rw [nD_len]; have := ol1 es; omega
  have neI := pl_ne (x := .int ((few cs es c : Nat) : Int)) (y := .int ((few cs es c : Nat) : Int)) (n := 0) (m := 0) rfl rfl (by decide) (by decide) rfl
  have sb : ((es.length : Nat) : Int) - ((es.length - few cs es c : Nat) : Int) = ((few cs es c : Nat) : Int) := by omega
  have ks : ∀ env : Sl, kSrtTI [.nt (nD (outO cs es c 0))] env = some (.tmp (.ls (nD (outO cs es c 0))), env) := fun env => by
    simp only [kSrtTI, z_ctn2, iO]
    rw [if_pos in4, us, nin]
  generalize outO cs es c 0 = O2 at *
  refine wS_seq ?_
  refine wS_of (fl := .nx) (e := ((G.set 2 (some (.mu .own (penK p7)))).set 9 (some (.pd (.str (rowS es))))).set 10 (some (.nt (nD O2)))) (by
    simp [m4, m5, lo2, free_ne_set, fG, lG, -z_free, -getElem?_pos]) ?_
  rw [nxt_nx, go]
  refine wS_gen fun W hW => ?_
  have AW : Al 0 12 W := by rw [hW]; repeat (first | exact AG | refine Al.set ?_ rfl)
  have w0 : W[0]? = some (some (.pd s)) := by rw [hW]; simpa using m0
  have w2 : W[2]? = some (some (.mu .own (penK p7))) := by rw [hW]; simp [lG]
  have w4 : W[4]? = some (some (.nt (cs.map clD))) := by rw [hW]; simpa using m4
  have w5 : W[5]? = some (some (.pd (clD c))) := by rw [hW]; simpa using m5
  have w7 : W[7]? = some (some (.pd (.str tp))) := by rw [hW]; simpa using m7
  have w9 : W[9]? = some (some (.pd (.str (rowS es)))) := by rw [hW]; simp [lG]
  have w10 : W[10]? = some (some (.nt (nD O2))) := by rw [hW]; simp [lG]
  clear hW m0 m2 m4 m5 m6 m7 m8
  have lW := AW.len
  have fW := AW.fre
  refine wS_seq ?_
  refine wS_of (fl := .nx) (e := W) (by simp [w4, w5, w9, w10, rt3, ll, kNex, kOr, nn, -getElem?_pos]) ?_
  rw [nxt_nx, go]
  refine wS_seq ?_
  refine wS_of (fl := .nx) (e := W) (by
    simp [w4, w5, w9, w10, lO, lr, ms, kSub, oI, sb, kNex, kOr, oNeS, neI, kL, oList, lnO, ks, neL, -getElem?_pos]) ?_
  rw [nxt_nx, go]
  refine wS_seq ?_
  refine wS_of (fl := .nx) (e := W) (by simp [w4, w5, w9, w10, wsp, il, lo2, kNex, kOr, oNeS, neO, -getElem?_pos]) ?_
  rw [nxt_nx, go]
  refine wS_of (fl := .nx) (e := W) (by simp [w4, w5, w7, T3.kTup, datas, T3.data1, rp, kNex, kOr, nn, -getElem?_pos]) ?_
  rw [← hTP]
  exact ⟨.inl rfl, AW, w0, p7, w2, by omega⟩
end
end L59

end
section
set_option Elab.async false
set_option linter.all false
set_option maxRecDepth 100000
open PySem PySem.W PyProof.Rows
set_option maxHeartbeats 0 in
open_top hd59 for PySem.Challenge.rw_tumblemarks_k59_rolls_left_out

end
section
set_option linter.all false
set_option autoImplicit false
set_option Elab.async false
set_option maxRecDepth 100000
set_option maxHeartbeats 4000000
namespace L59
open PySem L2 T3
noncomputable section
theorem fin {P : Program} {w : World} {K : PySem.W.Frag} {h : Heap} {mg : Str → Option Value} {fa : Addr} (X : K.In h) (G : h.Ns mainGlobals mg) (hfa : mg "law" = some (.ref fa))
    {f0 : Addr} {oc0 kV0 dc0 pm0 cd0 ct0 : Value} {od0 an0 : Option Addr} {sl0 : Array (Option Value)}
    (a0 : PySem.W.nsIn K mainGlobals "is_whole" = some (some (.ref f0))) (l0 : K.lookup f0 = some ⟨oc0, od0, .func (PySem.W.fnOf "is_whole" "is_whole" (defArgs s_is_whole) (defBody s_is_whole) (defScope s_is_whole) .none kV0 dc0 pm0 an0 cd0 ct0), sl0⟩) (c0 : PySem.W.codeIn K cd0 "is_whole" = true) (k0 : PySem.W.keepIn K (.ref f0) = true)
    {f1 : Addr} {oc1 kV1 dc1 pm1 cd1 ct1 : Value} {od1 an1 : Option Addr} {sl1 : Array (Option Value)}
    (a1 : PySem.W.nsIn K mainGlobals "is_cell" = some (some (.ref f1))) (l1 : K.lookup f1 = some ⟨oc1, od1, .func (PySem.W.fnOf "is_cell" "is_cell" (defArgs s_is_cell) (defBody s_is_cell) (defScope s_is_cell) .none kV1 dc1 pm1 an1 cd1 ct1), sl1⟩) (c1 : PySem.W.codeIn K cd1 "is_cell" = true) (k1 : PySem.W.keepIn K (.ref f1) = true)
    {f2 : Addr} {oc2 kV2 dc2 pm2 cd2 ct2 : Value} {od2 an2 : Option Addr} {sl2 : Array (Option Value)}
    (a2 : PySem.W.nsIn K mainGlobals "is_rising" = some (some (.ref f2))) (l2 : K.lookup f2 = some ⟨oc2, od2, .func (PySem.W.fnOf "is_rising" "is_rising" (defArgs s_is_rising) (defBody s_is_rising) (defScope s_is_rising) .none kV2 dc2 pm2 an2 cd2 ct2), sl2⟩) (c2 : PySem.W.codeIn K cd2 "is_rising" = true) (k2 : PySem.W.keepIn K (.ref f2) = true)
    {f3 : Addr} {oc3 kV3 dc3 pm3 cd3 ct3 : Value} {od3 an3 : Option Addr} {sl3 : Array (Option Value)}
    (a3 : PySem.W.nsIn K mainGlobals "is_floor" = some (some (.ref f3))) (l3 : K.lookup f3 = some ⟨oc3, od3, .func (PySem.W.fnOf "is_floor" "is_floor" (defArgs s_is_floor) (defBody s_is_floor) (defScope s_is_floor) .none kV3 dc3 pm3 an3 cd3 ct3), sl3⟩) (c3 : PySem.W.codeIn K cd3 "is_floor" = true) (k3 : PySem.W.keepIn K (.ref f3) = true)
    {f4 : Addr} {oc4 kV4 dc4 pm4 cd4 ct4 : Value} {od4 an4 : Option Addr} {sl4 : Array (Option Value)}
    (a4 : PySem.W.nsIn K mainGlobals "is_cell_of" = some (some (.ref f4))) (l4 : K.lookup f4 = some ⟨oc4, od4, .func (PySem.W.fnOf "is_cell_of" "is_cell_of" (defArgs s_is_cell_of) (defBody s_is_cell_of) (defScope s_is_cell_of) .none kV4 dc4 pm4 an4 cd4 ct4), sl4⟩) (c4 : PySem.W.codeIn K cd4 "is_cell_of" = true) (k4 : PySem.W.keepIn K (.ref f4) = true)
    {f5 : Addr} {oc5 kV5 dc5 pm5 cd5 ct5 : Value} {od5 an5 : Option Addr} {sl5 : Array (Option Value)}
    (a5 : PySem.W.nsIn K mainGlobals "is_letter" = some (some (.ref f5))) (l5 : K.lookup f5 = some ⟨oc5, od5, .func (PySem.W.fnOf "is_letter" "is_letter" (defArgs s_is_letter) (defBody s_is_letter) (defScope s_is_letter) .none kV5 dc5 pm5 an5 cd5 ct5), sl5⟩) (c5 : PySem.W.codeIn K cd5 "is_letter" = true) (k5 : PySem.W.keepIn K (.ref f5) = true)
    {f6 : Addr} {oc6 kV6 dc6 pm6 cd6 ct6 : Value} {od6 an6 : Option Addr} {sl6 : Array (Option Value)}
    (a6 : PySem.W.nsIn K mainGlobals "is_row" = some (some (.ref f6))) (l6 : K.lookup f6 = some ⟨oc6, od6, .func (PySem.W.fnOf "is_row" "is_row" (defArgs s_is_row) (defBody s_is_row) (defScope s_is_row) .none kV6 dc6 pm6 an6 cd6 ct6), sl6⟩) (c6 : PySem.W.codeIn K cd6 "is_row" = true) (k6 : PySem.W.keepIn K (.ref f6) = true)
    {f7 : Addr} {oc7 kV7 dc7 pm7 cd7 ct7 : Value} {od7 an7 : Option Addr} {sl7 : Array (Option Value)}
    (a7 : PySem.W.nsIn K mainGlobals "need_floor" = some (some (.ref f7))) (l7 : K.lookup f7 = some ⟨oc7, od7, .func (PySem.W.fnOf "need_floor" "need_floor" (defArgs s_need_floor) (defBody s_need_floor) (defScope s_need_floor) .none kV7 dc7 pm7 an7 cd7 ct7), sl7⟩) (c7 : PySem.W.codeIn K cd7 "need_floor" = true) (k7 : PySem.W.keepIn K (.ref f7) = true)
    {f8 : Addr} {oc8 kV8 dc8 pm8 cd8 ct8 : Value} {od8 an8 : Option Addr} {sl8 : Array (Option Value)}
    (a8 : PySem.W.nsIn K mainGlobals "need_cell" = some (some (.ref f8))) (l8 : K.lookup f8 = some ⟨oc8, od8, .func (PySem.W.fnOf "need_cell" "need_cell" (defArgs s_need_cell) (defBody s_need_cell) (defScope s_need_cell) .none kV8 dc8 pm8 an8 cd8 ct8), sl8⟩) (c8 : PySem.W.codeIn K cd8 "need_cell" = true) (k8 : PySem.W.keepIn K (.ref f8) = true)
    {f9 : Addr} {oc9 kV9 dc9 pm9 cd9 ct9 : Value} {od9 an9 : Option Addr} {sl9 : Array (Option Value)}
    (a9 : PySem.W.nsIn K mainGlobals "need_row" = some (some (.ref f9))) (l9 : K.lookup f9 = some ⟨oc9, od9, .func (PySem.W.fnOf "need_row" "need_row" (defArgs s_need_row) (defBody s_need_row) (defScope s_need_row) .none kV9 dc9 pm9 an9 cd9 ct9), sl9⟩) (c9 : PySem.W.codeIn K cd9 "need_row" = true) (k9 : PySem.W.keepIn K (.ref f9) = true)
    {f10 : Addr} {oc10 kV10 dc10 pm10 cd10 ct10 : Value} {od10 an10 : Option Addr} {sl10 : Array (Option Value)}
    (a10 : PySem.W.nsIn K mainGlobals "rolled_cell" = some (some (.ref f10))) (l10 : K.lookup f10 = some ⟨oc10, od10, .func (PySem.W.fnOf "rolled_cell" "rolled_cell" (defArgs s_rolled_cell) (defBody s_rolled_cell) (defScope s_rolled_cell) .none kV10 dc10 pm10 an10 cd10 ct10), sl10⟩) (c10 : PySem.W.codeIn K cd10 "rolled_cell" = true) (k10 : PySem.W.keepIn K (.ref f10) = true)
    {f11 : Addr} {oc11 kV11 dc11 pm11 cd11 ct11 : Value} {od11 an11 : Option Addr} {sl11 : Array (Option Value)}
    (a11 : PySem.W.nsIn K mainGlobals "need_asked" = some (some (.ref f11))) (l11 : K.lookup f11 = some ⟨oc11, od11, .func (PySem.W.fnOf "need_asked" "need_asked" (defArgs s_need_asked) (defBody s_need_asked) (defScope s_need_asked) .none kV11 dc11 pm11 an11 cd11 ct11), sl11⟩) (c11 : PySem.W.codeIn K cd11 "need_asked" = true) (k11 : PySem.W.keepIn K (.ref f11) = true)
    {f12 : Addr} {oc12 kV12 dc12 pm12 cd12 ct12 : Value} {od12 an12 : Option Addr} {sl12 : Array (Option Value)}
    (a12 : PySem.W.nsIn K mainGlobals "fewest_at" = some (some (.ref f12))) (l12 : K.lookup f12 = some ⟨oc12, od12, .func (PySem.W.fnOf "fewest_at" "fewest_at" (defArgs s_fewest_at) (defBody s_fewest_at) (defScope s_fewest_at) .none kV12 dc12 pm12 an12 cd12 ct12), sl12⟩) (c12 : PySem.W.codeIn K cd12 "fewest_at" = true) (k12 : PySem.W.keepIn K (.ref f12) = true)
    {f13 : Addr} {oc13 kV13 dc13 pm13 cd13 ct13 : Value} {od13 an13 : Option Addr} {sl13 : Array (Option Value)}
    (a13 : PySem.W.nsIn K mainGlobals "fewest_left" = some (some (.ref f13))) (l13 : K.lookup f13 = some ⟨oc13, od13, .func (PySem.W.fnOf "fewest_left" "fewest_left" (defArgs s_fewest_left) (defBody s_fewest_left) (defScope s_fewest_left) .none kV13 dc13 pm13 an13 cd13 ct13), sl13⟩) (c13 : PySem.W.codeIn K cd13 "fewest_left" = true) (k13 : PySem.W.keepIn K (.ref f13) = true)
    {f14 : Addr} {oc14 kV14 dc14 pm14 cd14 ct14 : Value} {od14 an14 : Option Addr} {sl14 : Array (Option Value)}
    (a14 : PySem.W.nsIn K mainGlobals "left_out" = some (some (.ref f14))) (l14 : K.lookup f14 = some ⟨oc14, od14, .func (PySem.W.fnOf "left_out" "left_out" (defArgs s_left_out) (defBody s_left_out) (defScope s_left_out) .none kV14 dc14 pm14 an14 cd14 ct14), sl14⟩) (c14 : PySem.W.codeIn K cd14 "left_out" = true) (k14 : PySem.W.keepIn K (.ref f14) = true)
    {f15 : Addr} {oc15 kV15 dc15 pm15 cd15 ct15 : Value} {od15 an15 : Option Addr} {sl15 : Array (Option Value)}
    (a15 : PySem.W.nsIn K mainGlobals "_law_cell" = some (some (.ref f15))) (l15 : K.lookup f15 = some ⟨oc15, od15, .func (PySem.W.fnOf "_law_cell" "_law_cell" (defArgs s__law_cell) (defBody s__law_cell) (defScope s__law_cell) .none kV15 dc15 pm15 an15 cd15 ct15), sl15⟩) (c15 : PySem.W.codeIn K cd15 "_law_cell" = true) (k15 : PySem.W.keepIn K (.ref f15) = true)
    {f16 : Addr} {oc16 kV16 dc16 pm16 cd16 ct16 : Value} {od16 an16 : Option Addr} {sl16 : Array (Option Value)}
    (a16 : PySem.W.nsIn K mainGlobals "_law_pen" = some (some (.ref f16))) (l16 : K.lookup f16 = some ⟨oc16, od16, .func (PySem.W.fnOf "_law_pen" "_law_pen" (defArgs s__law_pen) (defBody s__law_pen) (defScope s__law_pen) .none kV16 dc16 pm16 an16 cd16 ct16), sl16⟩) (c16 : PySem.W.codeIn K cd16 "_law_pen" = true) (k16 : PySem.W.keepIn K (.ref f16) = true)
    {f17 : Addr} {oc17 kV17 dc17 pm17 cd17 ct17 : Value} {od17 an17 : Option Addr} {sl17 : Array (Option Value)}
    (a17 : PySem.W.nsIn K mainGlobals "_law_draw" = some (some (.ref f17))) (l17 : K.lookup f17 = some ⟨oc17, od17, .func (PySem.W.fnOf "_law_draw" "_law_draw" (defArgs s__law_draw) (defBody s__law_draw) (defScope s__law_draw) .none kV17 dc17 pm17 an17 cd17 ct17), sl17⟩) (c17 : PySem.W.codeIn K cd17 "_law_draw" = true) (k17 : PySem.W.keepIn K (.ref f17) = true)
    {f18 : Addr} {oc18 kV18 dc18 pm18 cd18 ct18 : Value} {od18 an18 : Option Addr} {sl18 : Array (Option Value)}
    (a18 : PySem.W.nsIn K mainGlobals "_law_pick" = some (some (.ref f18))) (l18 : K.lookup f18 = some ⟨oc18, od18, .func (PySem.W.fnOf "_law_pick" "_law_pick" (defArgs s__law_pick) (defBody s__law_pick) (defScope s__law_pick) .none kV18 dc18 pm18 an18 cd18 ct18), sl18⟩) (c18 : PySem.W.codeIn K cd18 "_law_pick" = true) (k18 : PySem.W.keepIn K (.ref f18) = true)
    {f19 : Addr} {oc19 kV19 dc19 pm19 cd19 ct19 : Value} {od19 an19 : Option Addr} {sl19 : Array (Option Value)}
    (a19 : PySem.W.nsIn K mainGlobals "_law_beside" = some (some (.ref f19))) (l19 : K.lookup f19 = some ⟨oc19, od19, .func (PySem.W.fnOf "_law_beside" "_law_beside" (defArgs s__law_beside) (defBody s__law_beside) (defScope s__law_beside) .none kV19 dc19 pm19 an19 cd19 ct19), sl19⟩) (c19 : PySem.W.codeIn K cd19 "_law_beside" = true) (k19 : PySem.W.keepIn K (.ref f19) = true)
    {f20 : Addr} {oc20 kV20 dc20 pm20 cd20 ct20 : Value} {od20 an20 : Option Addr} {sl20 : Array (Option Value)}
    (a20 : PySem.W.nsIn K mainGlobals "_law_others" = some (some (.ref f20))) (l20 : K.lookup f20 = some ⟨oc20, od20, .func (PySem.W.fnOf "_law_others" "_law_others" (defArgs s__law_others) (defBody s__law_others) (defScope s__law_others) .none kV20 dc20 pm20 an20 cd20 ct20), sl20⟩) (c20 : PySem.W.codeIn K cd20 "_law_others" = true) (k20 : PySem.W.keepIn K (.ref f20) = true)
    {f21 : Addr} {oc21 kV21 dc21 pm21 cd21 ct21 : Value} {od21 an21 : Option Addr} {sl21 : Array (Option Value)}
    (a21 : PySem.W.nsIn K mainGlobals "_law_floor" = some (some (.ref f21))) (l21 : K.lookup f21 = some ⟨oc21, od21, .func (PySem.W.fnOf "_law_floor" "_law_floor" (defArgs s__law_floor) (defBody s__law_floor) (defScope s__law_floor) .none kV21 dc21 pm21 an21 cd21 ct21), sl21⟩) (c21 : PySem.W.codeIn K cd21 "_law_floor" = true) (k21 : PySem.W.keepIn K (.ref f21) = true)
    {f22 : Addr} {oc22 kV22 dc22 pm22 cd22 ct22 : Value} {od22 an22 : Option Addr} {sl22 : Array (Option Value)}
    (a22 : PySem.W.nsIn K mainGlobals "_law_row" = some (some (.ref f22))) (l22 : K.lookup f22 = some ⟨oc22, od22, .func (PySem.W.fnOf "_law_row" "_law_row" (defArgs s__law_row) (defBody s__law_row) (defScope s__law_row) .none kV22 dc22 pm22 an22 cd22 ct22), sl22⟩) (c22 : PySem.W.codeIn K cd22 "_law_row" = true) (k22 : PySem.W.keepIn K (.ref f22) = true)
    {f23 : Addr} {oc23 kV23 dc23 pm23 cd23 ct23 : Value} {od23 an23 : Option Addr} {sl23 : Array (Option Value)}
    (a23 : PySem.W.nsIn K mainGlobals "_law_is_let" = some (some (.ref f23))) (l23 : K.lookup f23 = some ⟨oc23, od23, .func (PySem.W.fnOf "_law_is_let" "_law_is_let" (defArgs s__law_is_let) (defBody s__law_is_let) (defScope s__law_is_let) .none kV23 dc23 pm23 an23 cd23 ct23), sl23⟩) (c23 : PySem.W.codeIn K cd23 "_law_is_let" = true) (k23 : PySem.W.keepIn K (.ref f23) = true)
    {f24 : Addr} {oc24 kV24 dc24 pm24 cd24 ct24 : Value} {od24 an24 : Option Addr} {sl24 : Array (Option Value)}
    (a24 : PySem.W.nsIn K mainGlobals "_law_without" = some (some (.ref f24))) (l24 : K.lookup f24 = some ⟨oc24, od24, .func (PySem.W.fnOf "_law_without" "_law_without" (defArgs s__law_without) (defBody s__law_without) (defScope s__law_without) .none kV24 dc24 pm24 an24 cd24 ct24), sl24⟩) (c24 : PySem.W.codeIn K cd24 "_law_without" = true) (k24 : PySem.W.keepIn K (.ref f24) = true)
    {f25 : Addr} {oc25 kV25 dc25 pm25 cd25 ct25 : Value} {od25 an25 : Option Addr} {sl25 : Array (Option Value)}
    (a25 : PySem.W.nsIn K mainGlobals "_law_lots" = some (some (.ref f25))) (l25 : K.lookup f25 = some ⟨oc25, od25, .func (PySem.W.fnOf "_law_lots" "_law_lots" (defArgs s__law_lots) (defBody s__law_lots) (defScope s__law_lots) .none kV25 dc25 pm25 an25 cd25 ct25), sl25⟩) (c25 : PySem.W.codeIn K cd25 "_law_lots" = true) (k25 : PySem.W.keepIn K (.ref f25) = true)
    {f26 : Addr} {oc26 kV26 dc26 pm26 cd26 ct26 : Value} {od26 an26 : Option Addr} {sl26 : Array (Option Value)}
    (a26 : PySem.W.nsIn K mainGlobals "_law_least" = some (some (.ref f26))) (l26 : K.lookup f26 = some ⟨oc26, od26, .func (PySem.W.fnOf "_law_least" "_law_least" (defArgs s__law_least) (defBody s__law_least) (defScope s__law_least) .none kV26 dc26 pm26 an26 cd26 ct26), sl26⟩) (c26 : PySem.W.codeIn K cd26 "_law_least" = true) (k26 : PySem.W.keepIn K (.ref f26) = true)
    {f27 : Addr} {oc27 kV27 dc27 pm27 cd27 ct27 : Value} {od27 an27 : Option Addr} {sl27 : Array (Option Value)}
    (a27 : PySem.W.nsIn K mainGlobals "_law_most" = some (some (.ref f27))) (l27 : K.lookup f27 = some ⟨oc27, od27, .func (PySem.W.fnOf "_law_most" "_law_most" (defArgs s__law_most) (defBody s__law_most) (defScope s__law_most) .none kV27 dc27 pm27 an27 cd27 ct27), sl27⟩) (c27 : PySem.W.codeIn K cd27 "_law_most" = true) (k27 : PySem.W.keepIn K (.ref f27) = true)
    {f28 : Addr} {oc28 kV28 dc28 pm28 cd28 ct28 : Value} {od28 an28 : Option Addr} {sl28 : Array (Option Value)}
    (a28 : PySem.W.nsIn K mainGlobals "_law_few" = some (some (.ref f28))) (l28 : K.lookup f28 = some ⟨oc28, od28, .func (PySem.W.fnOf "_law_few" "_law_few" (defArgs s__law_few) (defBody s__law_few) (defScope s__law_few) .none kV28 dc28 pm28 an28 cd28 ct28), sl28⟩) (c28 : PySem.W.codeIn K cd28 "_law_few" = true) (k28 : PySem.W.keepIn K (.ref f28) = true)
    {f29 : Addr} {oc29 kV29 dc29 pm29 cd29 ct29 : Value} {od29 an29 : Option Addr} {sl29 : Array (Option Value)}
    (a29 : PySem.W.nsIn K mainGlobals "_law_least_long" = some (some (.ref f29))) (l29 : K.lookup f29 = some ⟨oc29, od29, .func (PySem.W.fnOf "_law_least_long" "_law_least_long" (defArgs s__law_least_long) (defBody s__law_least_long) (defScope s__law_least_long) .none kV29 dc29 pm29 an29 cd29 ct29), sl29⟩) (c29 : PySem.W.codeIn K cd29 "_law_least_long" = true) (k29 : PySem.W.keepIn K (.ref f29) = true)
    {f30 : Addr} {oc30 kV30 dc30 pm30 cd30 ct30 : Value} {od30 an30 : Option Addr} {sl30 : Array (Option Value)}
    (a30 : PySem.W.nsIn K mainGlobals "law" = some (some (.ref f30))) (l30 : K.lookup f30 = some ⟨oc30, od30, .func (PySem.W.fnOf "law" "law" (defArgs s_law) (defBody s_law) (defScope s_law) .none kV30 dc30 pm30 an30 cd30 ct30), sl30⟩) (c30 : PySem.W.codeIn K cd30 "law" = true) (k30 : PySem.W.keepIn K (.ref f30) = true)
    (z_isinstance : PySem.W.nsIn K mainGlobals "isinstance" = some none)
    (z_bool : PySem.W.nsIn K mainGlobals "bool" = some none)
    (z_int : PySem.W.nsIn K mainGlobals "int" = some none)
    (z_len : PySem.W.nsIn K mainGlobals "len" = some none)
    (z_tuple : PySem.W.nsIn K mainGlobals "tuple" = some none)
    (z_all : PySem.W.nsIn K mainGlobals "all" = some none)
    (z_zip : PySem.W.nsIn K mainGlobals "zip" = some none)
    (z_str : PySem.W.nsIn K mainGlobals "str" = some none)
    (z_min : PySem.W.nsIn K mainGlobals "min" = some none)
    (z_enumerate : PySem.W.nsIn K mainGlobals "enumerate" = some none)
    (z_max : PySem.W.nsIn K mainGlobals "max" = some none)
    (z_range : PySem.W.nsIn K mainGlobals "range" = some none)
    (z_sorted : PySem.W.nsIn K mainGlobals "sorted" = some none)
    (z_dict : PySem.W.nsIn K mainGlobals "dict" = some none)
    (z_list : PySem.W.nsIn K mainGlobals "list" = some none)
    (z_repr : PySem.W.nsIn K mainGlobals "repr" = some none)
    (z_set : PySem.W.nsIn K mainGlobals "set" = some none)
    {u_LAST_LINE : Value} (ca_LAST_LINE : PySem.W.nsIn K mainGlobals "LAST_LINE" = some (some u_LAST_LINE)) (cb_LAST_LINE : kvB K 9 u_LAST_LINE v_LAST_LINE = true)
    {u_MOST_CELLS : Value} (ca_MOST_CELLS : PySem.W.nsIn K mainGlobals "MOST_CELLS" = some (some u_MOST_CELLS)) (cb_MOST_CELLS : kvB K 9 u_MOST_CELLS v_MOST_CELLS = true)
    {u_LETTERS : Value} (ca_LETTERS : PySem.W.nsIn K mainGlobals "LETTERS" = some (some u_LETTERS)) (cb_LETTERS : kvB K 9 u_LETTERS v_LETTERS = true)
    {d_STEPS : Addr} {es_STEPS : Array DictEntry} {n_STEPS : Nat} (da_STEPS : PySem.W.nsIn K mainGlobals "STEPS" = some (some (.ref d_STEPS))) (dl_STEPS : K.lookup d_STEPS = some ⟨.type "dict", none, .dict es_STEPS n_STEPS, #[]⟩) (dk_STEPS : PySem.W.KeysLit w.params es_STEPS.toList) (db_STEPS : kdB K d_STEPS v_STEPS = true) :
    ∃ fd : FuncData, (∀ (s : Shared) (v : Value), BindsTo s fd ⟨[v], []⟩ [("_law_script", v)]) ∧ ∀ base : Heap, K.In base → base.Ns mainGlobals mg → FnG P w K mg base 7 fa fd ["_law_script"] (spF K f_law 1) := by
  have e := hfa.symm.trans (PySem.W.mg_of X G a30)
  cases e
  have Z_isinstance := PySem.W.mg_none_of X G z_isinstance
  have Z_bool := PySem.W.mg_none_of X G z_bool
  have Z_int := PySem.W.mg_none_of X G z_int
  have Z_len := PySem.W.mg_none_of X G z_len
  have Z_tuple := PySem.W.mg_none_of X G z_tuple
  have Z_all := PySem.W.mg_none_of X G z_all
  have Z_zip := PySem.W.mg_none_of X G z_zip
  have Z_str := PySem.W.mg_none_of X G z_str
  have Z_min := PySem.W.mg_none_of X G z_min
  have Z_enumerate := PySem.W.mg_none_of X G z_enumerate
  have Z_max := PySem.W.mg_none_of X G z_max
  have Z_range := PySem.W.mg_none_of X G z_range
  have Z_sorted := PySem.W.mg_none_of X G z_sorted
  have Z_dict := PySem.W.mg_none_of X G z_dict
  have Z_list := PySem.W.mg_none_of X G z_list
  have Z_repr := PySem.W.mg_none_of X G z_repr
  have Z_set := PySem.W.mg_none_of X G z_set
  have C_LAST_LINE : KC K mg "LAST_LINE" v_LAST_LINE := kc_by X G ca_LAST_LINE cb_LAST_LINE
  have C_MOST_CELLS : KC K mg "MOST_CELLS" v_MOST_CELLS := kc_by X G ca_MOST_CELLS cb_MOST_CELLS
  have C_LETTERS : KC K mg "LETTERS" v_LETTERS := kc_by X G ca_LETTERS cb_LETTERS
  have D_STEPS : KD K w mg "STEPS" v_STEPS := kd_mk X G da_STEPS dl_STEPS dk_STEPS db_STEPS
  have A_is_whole : At0 K mg "is_whole" s_is_whole ["thing", "most"] := at0_mk X G a0 l0 c0 k0 fun _ _ _ _ _ _ us hl => match us, hl with | [_, _], _ => rfl
  have A_is_cell : At0 K mg "is_cell" s_is_cell ["thing"] := at0_mk X G a1 l1 c1 k1 fun _ _ _ _ _ _ us hl => match us, hl with | [_], _ => rfl
  have A_is_rising : At0 K mg "is_rising" s_is_rising ["things"] := at0_mk X G a2 l2 c2 k2 fun _ _ _ _ _ _ us hl => match us, hl with | [_], _ => rfl
  have A_is_floor : At0 K mg "is_floor" s_is_floor ["thing"] := at0_mk X G a3 l3 c3 k3 fun _ _ _ _ _ _ us hl => match us, hl with | [_], _ => rfl
  have A_is_cell_of : At0 K mg "is_cell_of" s_is_cell_of ["floor", "thing"] := at0_mk X G a4 l4 c4 k4 fun _ _ _ _ _ _ us hl => match us, hl with | [_, _], _ => rfl
  have A_is_letter : At0 K mg "is_letter" s_is_letter ["thing"] := at0_mk X G a5 l5 c5 k5 fun _ _ _ _ _ _ us hl => match us, hl with | [_], _ => rfl
  have A_is_row : At0 K mg "is_row" s_is_row ["thing"] := at0_mk X G a6 l6 c6 k6 fun _ _ _ _ _ _ us hl => match us, hl with | [_], _ => rfl
  have A_need_floor : At0 K mg "need_floor" s_need_floor ["floor"] := at0_mk X G a7 l7 c7 k7 fun _ _ _ _ _ _ us hl => match us, hl with | [_], _ => rfl
  have A_need_cell : At0 K mg "need_cell" s_need_cell ["floor", "cell"] := at0_mk X G a8 l8 c8 k8 fun _ _ _ _ _ _ us hl => match us, hl with | [_, _], _ => rfl
  have A_need_row : At0 K mg "need_row" s_need_row ["row"] := at0_mk X G a9 l9 c9 k9 fun _ _ _ _ _ _ us hl => match us, hl with | [_], _ => rfl
  have A_rolled_cell : At0 K mg "rolled_cell" s_rolled_cell ["cell", "letter"] := at0_mk X G a10 l10 c10 k10 fun _ _ _ _ _ _ us hl => match us, hl with | [_, _], _ => rfl
  have A_need_asked : At0 K mg "need_asked" s_need_asked ["floor", "cell", "row"] := at0_mk X G a11 l11 c11 k11 fun _ _ _ _ _ _ us hl => match us, hl with | [_, _, _], _ => rfl
  have A_fewest_at : At0 K mg "fewest_at" s_fewest_at ["floor", "cell", "letter", "behind"] := at0_mk X G a12 l12 c12 k12 fun _ _ _ _ _ _ us hl => match us, hl with | [_, _, _, _], _ => rfl
  have A_fewest_left : At0 K mg "fewest_left" s_fewest_left ["floor", "row"] := at0_mk X G a13 l13 c13 k13 fun _ _ _ _ _ _ us hl => match us, hl with | [_, _], _ => rfl
  have A_left_out : At0 K mg "left_out" s_left_out ["floor", "cell", "row"] := at0_mk X G a14 l14 c14 k14 fun _ _ _ _ _ _ us hl => match us, hl with | [_, _, _], _ => rfl
  have A__law_cell : At0 K mg "_law_cell" s__law_cell ["_law_script", "_law_k"] := at0_mk X G a15 l15 c15 k15 fun _ _ _ _ _ _ us hl => match us, hl with | [_, _], _ => rfl
  have A__law_pen : At0 K mg "_law_pen" s__law_pen ["_law_cell_here"] := at0_mk X G a16 l16 c16 k16 fun _ _ _ _ _ _ us hl => match us, hl with | [_], _ => rfl
  have A__law_draw : At0 K mg "_law_draw" s__law_draw ["_law_pen_here", "_law_many"] := at0_mk X G a17 l17 c17 k17 fun _ _ _ _ _ _ us hl => match us, hl with | [_, _], _ => rfl
  have A__law_pick : At0 K mg "_law_pick" s__law_pick ["_law_pen_here", "_law_things"] := at0_mk X G a18 l18 c18 k18 fun _ _ _ _ _ _ us hl => match us, hl with | [_, _], _ => rfl
  have A__law_beside : At0 K mg "_law_beside" s__law_beside ["_law_cell_here", "_law_letter"] := at0_mk X G a19 l19 c19 k19 fun _ _ _ _ _ _ us hl => match us, hl with | [_, _], _ => rfl
  have A__law_others : At0 K mg "_law_others" s__law_others ["_law_cells"] := at0_mk X G a20 l20 c20 k20 fun _ _ _ _ _ _ us hl => match us, hl with | [_], _ => rfl
  have A__law_floor : At0 K mg "_law_floor" s__law_floor ["_law_pen_here", "_law_least_here", "_law_most_here"] := at0_mk X G a21 l21 c21 k21 fun _ _ _ _ _ _ us hl => match us, hl with | [_, _, _], _ => rfl
  have A__law_row : At0 K mg "_law_row" s__law_row ["_law_pen_here", "_law_many"] := at0_mk X G a22 l22 c22 k22 fun _ _ _ _ _ _ us hl => match us, hl with | [_, _], _ => rfl
  have A__law_is_let : At0 K mg "_law_is_let" s__law_is_let ["_law_floor_here", "_law_cell_here", "_law_row_here"] := at0_mk X G a23 l23 c23 k23 fun _ _ _ _ _ _ us hl => match us, hl with | [_, _, _], _ => rfl
  have A__law_without : At0 K mg "_law_without" s__law_without ["_law_row_here", "_law_places"] := at0_mk X G a24 l24 c24 k24 fun _ _ _ _ _ _ us hl => match us, hl with | [_, _], _ => rfl
  have A__law_lots : At0 K mg "_law_lots" s__law_lots ["_law_many"] := at0_mk X G a25 l25 c25 k25 fun _ _ _ _ _ _ us hl => match us, hl with | [_], _ => rfl
  have A__law_least : At0 K mg "_law_least" s__law_least ["_law_floor_here", "_law_cell_here", "_law_row_here"] := at0_mk X G a26 l26 c26 k26 fun _ _ _ _ _ _ us hl => match us, hl with | [_, _, _], _ => rfl
  have A__law_most : At0 K mg "_law_most" s__law_most ["_law_floor_here", "_law_cell_here", "_law_row_here"] := at0_mk X G a27 l27 c27 k27 fun _ _ _ _ _ _ us hl => match us, hl with | [_, _, _], _ => rfl
  have A__law_few : At0 K mg "_law_few" s__law_few ["_law_floor_here", "_law_row_here"] := at0_mk X G a28 l28 c28 k28 fun _ _ _ _ _ _ us hl => match us, hl with | [_, _], _ => rfl
  have A__law_least_long : At0 K mg "_law_least_long" s__law_least_long ["_law_floor_here", "_law_cell_here", "_law_row_here"] := at0_mk X G a29 l29 c29 k29 fun _ _ _ _ _ _ us hl => match us, hl with | [_, _, _], _ => rfl
  refine ⟨PySem.W.fnOf "law" "law" (defArgs s_law) (defBody s_law) (defScope s_law) .none kV30 dc30 pm30 an30 cd30 ct30, fun s v => .of_eq rfl, fun base _ _ => ?_⟩
  have H_is_whole : Has P w K mg base "is_whole" 2 f_is_whole 1 := p_is_whole A_is_whole Z_isinstance Z_bool Z_int
  have H_is_cell : Has P w K mg base "is_cell" 1 f_is_cell 2 := p_is_cell A_is_cell H_is_whole Z_len Z_isinstance Z_tuple C_LAST_LINE
  have H_is_rising : Has P w K mg base "is_rising" 1 f_is_rising 1 := p_is_rising A_is_rising Z_all Z_zip
  have H_is_floor : Has P w K mg base "is_floor" 1 f_is_floor 3 := p_is_floor A_is_floor H_is_rising H_is_cell Z_len Z_isinstance Z_tuple Z_all C_MOST_CELLS
  have H_is_cell_of : Has P w K mg base "is_cell_of" 2 f_is_cell_of 3 := p_is_cell_of A_is_cell_of H_is_cell
  have H_is_letter : Has P w K mg base "is_letter" 1 f_is_letter 1 := p_is_letter A_is_letter Z_isinstance Z_str C_LETTERS
  have H_is_row : Has P w K mg base "is_row" 1 f_is_row 2 := p_is_row A_is_row H_is_letter Z_all Z_isinstance Z_str
  have H_need_floor : Has P w K mg base "need_floor" 1 f_need_floor 4 := p_need_floor A_need_floor H_is_floor
  have H_need_cell : Has P w K mg base "need_cell" 2 f_need_cell 4 := p_need_cell A_need_cell H_is_cell_of
  have H_need_row : Has P w K mg base "need_row" 1 f_need_row 3 := p_need_row A_need_row H_is_row
  have H_rolled_cell : Has P w K mg base "rolled_cell" 2 f_rolled_cell 1 := p_rolled_cell A_rolled_cell D_STEPS
  have H_need_asked : Has P w K mg base "need_asked" 3 f_need_asked 5 := p_need_asked A_need_asked H_need_floor H_need_cell H_need_row
  have H_fewest_at : Has P w K mg base "fewest_at" 4 f_fewest_at 2 := p_fewest_at A_fewest_at H_rolled_cell Z_min
  have H_fewest_left : Has P w K mg base "fewest_left" 2 f_fewest_left 3 := p_fewest_left A_fewest_left H_fewest_at
  have H_left_out : Has P w K mg base "left_out" 3 f_left_out 6 := p_left_out A_left_out H_need_asked H_fewest_left H_rolled_cell Z_enumerate Z_tuple
  have H__law_cell : Has P w K mg base "_law_cell" 2 f__law_cell 1 := p__law_cell A__law_cell Z_len
  have H__law_pen : Has P w K mg base "_law_pen" 1 f__law_pen 1 := p__law_pen A__law_pen Z_max
  have H__law_draw : Has P w K mg base "_law_draw" 2 f__law_draw 1 := p__law_draw A__law_draw 
  have H__law_pick : Has P w K mg base "_law_pick" 2 f__law_pick 2 := p__law_pick A__law_pick H__law_draw Z_len
  have H__law_beside : Has P w K mg base "_law_beside" 2 f__law_beside 1 := p__law_beside A__law_beside 
  have H__law_others : Has P w K mg base "_law_others" 1 f__law_others 1 := p__law_others A__law_others Z_range
  have H__law_floor : Has P w K mg base "_law_floor" 3 f__law_floor 3 := p__law_floor A__law_floor H__law_draw H__law_others H__law_beside H__law_pick Z_range Z_tuple Z_sorted
  have H__law_row : Has P w K mg base "_law_row" 2 f__law_row 2 := p__law_row A__law_row H__law_draw Z_range
  have H__law_is_let : Has P w K mg base "_law_is_let" 3 f__law_is_let 2 := p__law_is_let A__law_is_let H__law_beside
  have H__law_without : Has P w K mg base "_law_without" 2 f__law_without 1 := p__law_without A__law_without Z_enumerate
  have H__law_lots : Has P w K mg base "_law_lots" 1 f__law_lots 1 := p__law_lots A__law_lots Z_range Z_sorted Z_len
  have H__law_least : Has P w K mg base "_law_least" 3 f__law_least 3 := p__law_least A__law_least H__law_lots H__law_is_let H__law_without Z_len
  have H__law_most : Has P w K mg base "_law_most" 3 f__law_most 2 := p__law_most A__law_most H__law_beside Z_dict Z_list Z_max
  have H__law_few : Has P w K mg base "_law_few" 2 f__law_few 2 := p__law_few A__law_few H__law_beside Z_dict Z_min
  have H__law_least_long : Has P w K mg base "_law_least_long" 3 f__law_least_long 3 := p__law_least_long A__law_least_long H__law_few H__law_beside Z_enumerate Z_tuple
  exact q_law (fun_mk (st := s_law) l30 c30 k30) H__law_pen H__law_cell H__law_floor H__law_row H__law_draw H__law_pick H__law_least H_left_out H__law_least_long H__law_most H__law_is_let H__law_without Z_range Z_max Z_min Z_len Z_list Z_repr Z_sorted Z_set
end
end L59
open PySem PySem.W PyProof.Rows
theorem main59 (hmath : ∀ ns : List Int, ns.length ≤ 63 → ∃ as, L59.f_law [.pd (.list (ns.map .int))] = some (.pd (.bool true), as)) : PySem.Challenge.rw_tumblemarks_k59_rolls_left_out.Holds := by
  refine hd59 ?_
  k_fill
  refine T3.walkG (l := PySem.Challenge.rw_tumblemarks_k59_rolls_left_out) (n := 63) (k := 7) (x := "_law_script") (sp := fun w => T3.spF _ L59.f_law 1) rfl (by decide) rfl ⟨rfl, by decide, by decide⟩ (fun w h Y => PySem.W.kIn_of Y) ?F (fun _ H a ns hl O hS => T3.law_sp (hmath ns hl) O hS)
  case F =>
    intro w mg fa h KX G hmg
    refine' L59.fin KX G hmg ?a0 ?l0 ?c0 ?k0 ?a1 ?l1 ?c1 ?k1 ?a2 ?l2 ?c2 ?k2 ?a3 ?l3 ?c3 ?k3 ?a4 ?l4 ?c4 ?k4 ?a5 ?l5 ?c5 ?k5 ?a6 ?l6 ?c6 ?k6 ?a7 ?l7 ?c7 ?k7 ?a8 ?l8 ?c8 ?k8 ?a9 ?l9 ?c9 ?k9 ?a10 ?l10 ?c10 ?k10 ?a11 ?l11 ?c11 ?k11 ?a12 ?l12 ?c12 ?k12 ?a13 ?l13 ?c13 ?k13 ?a14 ?l14 ?c14 ?k14 ?a15 ?l15 ?c15 ?k15 ?a16 ?l16 ?c16 ?k16 ?a17 ?l17 ?c17 ?k17 ?a18 ?l18 ?c18 ?k18 ?a19 ?l19 ?c19 ?k19 ?a20 ?l20 ?c20 ?k20 ?a21 ?l21 ?c21 ?k21 ?a22 ?l22 ?c22 ?k22 ?a23 ?l23 ?c23 ?k23 ?a24 ?l24 ?c24 ?k24 ?a25 ?l25 ?c25 ?k25 ?a26 ?l26 ?c26 ?k26 ?a27 ?l27 ?c27 ?k27 ?a28 ?l28 ?c28 ?k28 ?a29 ?l29 ?c29 ?k29 ?a30 ?l30 ?c30 ?k30 ?z_isinstance ?z_bool ?z_int ?z_len ?z_tuple ?z_all ?z_zip ?z_str ?z_min ?z_enumerate ?z_max ?z_range ?z_sorted ?z_dict ?z_list ?z_repr ?z_set ?ca_LAST_LINE ?cb_LAST_LINE ?ca_MOST_CELLS ?cb_MOST_CELLS ?ca_LETTERS ?cb_LETTERS ?da_STEPS ?dl_STEPS ?dk_STEPS ?db_STEPS
    case a0 => k_is
    case l0 => k_is
    case c0 => k_is
    case k0 => k_is
    case a1 => k_is
    case l1 => k_is
    case c1 => k_is
    case k1 => k_is
    case a2 => k_is
    case l2 => k_is
    case c2 => k_is
    case k2 => k_is
    case a3 => k_is
    case l3 => k_is
    case c3 => k_is
    case k3 => k_is
    case a4 => k_is
    case l4 => k_is
    case c4 => k_is
    case k4 => k_is
    case a5 => k_is
    case l5 => k_is
    case c5 => k_is
    case k5 => k_is
    case a6 => k_is
    case l6 => k_is
    case c6 => k_is
    case k6 => k_is
    case a7 => k_is
    case l7 => k_is
    case c7 => k_is
    case k7 => k_is
    case a8 => k_is
    case l8 => k_is
    case c8 => k_is
    case k8 => k_is
    case a9 => k_is
    case l9 => k_is
    case c9 => k_is
    case k9 => k_is
    case a10 => k_is
    case l10 => k_is
    case c10 => k_is
    case k10 => k_is
    case a11 => k_is
    case l11 => k_is
    case c11 => k_is
    case k11 => k_is
    case a12 => k_is
    case l12 => k_is
    case c12 => k_is
    case k12 => k_is
    case a13 => k_is
    case l13 => k_is
    case c13 => k_is
    case k13 => k_is
    case a14 => k_is
    case l14 => k_is
    case c14 => k_is
    case k14 => k_is
    case a15 => k_is
    case l15 => k_is
    case c15 => k_is
    case k15 => k_is
    case a16 => k_is
    case l16 => k_is
    case c16 => k_is
    case k16 => k_is
    case a17 => k_is
    case l17 => k_is
    case c17 => k_is
    case k17 => k_is
    case a18 => k_is
    case l18 => k_is
    case c18 => k_is
    case k18 => k_is
    case a19 => k_is
    case l19 => k_is
    case c19 => k_is
    case k19 => k_is
    case a20 => k_is
    case l20 => k_is
    case c20 => k_is
    case k20 => k_is
    case a21 => k_is
    case l21 => k_is
    case c21 => k_is
    case k21 => k_is
    case a22 => k_is
    case l22 => k_is
    case c22 => k_is
    case k22 => k_is
    case a23 => k_is
    case l23 => k_is
    case c23 => k_is
    case k23 => k_is
    case a24 => k_is
    case l24 => k_is
    case c24 => k_is
    case k24 => k_is
    case a25 => k_is
    case l25 => k_is
    case c25 => k_is
    case k25 => k_is
    case a26 => k_is
    case l26 => k_is
    case c26 => k_is
    case k26 => k_is
    case a27 => k_is
    case l27 => k_is
    case c27 => k_is
    case k27 => k_is
    case a28 => k_is
    case l28 => k_is
    case c28 => k_is
    case k28 => k_is
    case a29 => k_is
    case l29 => k_is
    case c29 => k_is
    case k29 => k_is
    case a30 => k_is
    case l30 => k_is
    case c30 => k_is
    case k30 => k_is
    case z_isinstance => k_is
    case z_bool => k_is
    case z_int => k_is
    case z_len => k_is
    case z_tuple => k_is
    case z_all => k_is
    case z_zip => k_is
    case z_str => k_is
    case z_min => k_is
    case z_enumerate => k_is
    case z_max => k_is
    case z_range => k_is
    case z_sorted => k_is
    case z_dict => k_is
    case z_list => k_is
    case z_repr => k_is
    case z_set => k_is
    case ca_LAST_LINE => k_is
    case cb_LAST_LINE => first | k_is | (decide +kernel) | rfl
    case ca_MOST_CELLS => k_is
    case cb_MOST_CELLS => first | k_is | (decide +kernel) | rfl
    case ca_LETTERS => k_is
    case cb_LETTERS => first | k_is | (decide +kernel) | rfl
    case da_STEPS => k_is
    case dl_STEPS => k_is
    case dk_STEPS => k_keys
    case db_STEPS => first | k_is | (decide +kernel) | rfl

end
theorem PySem.Challenge.cw_tumblemarks_k59_rolls_left_out_holds : PySem.Challenge.rw_tumblemarks_k59_rolls_left_out.Holds := by
  exact main59 L59.hmath

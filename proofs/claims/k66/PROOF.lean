import PyProof.Rows.All
import Wide.All
import OpenK.AllK
import Wide.FinOn
import HandS.ForMost
import HandS.Spec
import KE.KeyNested
import KE.KDictPairs
import HandS.Lambda
import HandS.EndTab
import HandS.Zip
import HandS.Conv
import HandS.IsInst
import HandS.Deep
import HandS.TupAny
import HandS.TupMul
import HandS.Wide
import KE.DataCmp
import KE.DataMinMax
import HandS.Sort
import PyProof.EnumMake
import KE.GoesMore
import PyProof.Draws
import HandS.Text
import HandS.Style
import PyProof.SeqIndex
import HandS.More
import HandS.SortInts
import HandS.TupSets
import HandS.Ends
import PyProof.ReprRoads
import HandS.Replace
import KE.KRevSl
import KE.KDictZip
import HandS.Zip0
import HandS.ListItems
import KE.KDictDisplayH
import PyProof.StrBlock2
import HandS.SetFor
import HandS.CallLocal
import KE.KDictCopyH
import PyProof.ReprLen
import PyProof.Rows.ReprShort
import HandS.TupLe
import HandS.Iter
import HandS.Defaults
import KE.KTupSum
import HandS.Nested
import HandS.EndOwn
import KE.KDictWalk
import HandS.DictComp
import KE.SortCalls
import KE.SortData
import HandS.Strs
import HandS.Star
import KE.GoesEnumKw
import HandS.SortKw
import KE.KDictLaws
import HandS.RaiseMore
import HandS.Exc
import PyProof.ReprDict
import HandS.ExcCtx
import HandS.ExcOwn
import HandS.ExcIs
import HandS.WordsExc
import HandS.HotCalls
import PyProof.Rows.FactsCmp_str
import PyProof.PureStr
import PyProof.WalkInts
import PySem.Challenge.RW_tumblemarks_k66_whole_how_many_add
section
set_option linter.all false
set_option autoImplicit false
set_option Elab.async false
namespace T3
open PySem L2

inductive Md where | own | bor | fro
  deriving DecidableEq
inductive Ct where
  | ls (xs : List PyData)
  | dk (kvs : List (Key × PyData))
  | dn (kvs : List (NestedKey × PyData))
inductive S where
  | pd (x : PyData)
  | nt (xs : List PyData)
  | mu (m : Md) (c : Ct)
inductive R where
  | pd (x : PyData)
  | nt (xs : List PyData)
  | tmp (c : Ct)
  | var (i : Nat)
abbrev Sl := List (Option S)
abbrev Mset := Addr → Prop

def Imm : HO → Prop
  | .tup _ => True
  | .frz _ _ => True
  | _ => False
def NT (o : HO) : Prop := ∀ ps, o ≠ .tbl ps
class TabL where
  l : List (Addr × (Nat → Nat → Str))
instance (priority := low) TabL.no : TabL := ⟨[]⟩
variable [TabL]

def FnK (K : PySem.W.Frag) (nm : Str) (a : Addr) : Prop := PySem.W.nsIn K mainGlobals nm = some (some (.ref a))
abbrev fnV (nm : Str) : PyData := .dict [(.str nm, .none)]
abbrev ntD (xs : List PyData) : PyData := .dict [(.bool true, .tuple xs)]
abbrev exD (a : Addr) : PyData := .dict [(.bool false, .int (a : Nat))]
abbrev lamD (f c a : Addr) (q : Str) (xs : List PyData) : PyData := .dict [(.int (f : Nat), .none), (.int (c : Nat), .none), (.str q, .none), (.int (a : Nat), .tuple xs)]
def NkOk (k : NestedKey) : Prop := k.depth ≤ 8 ∧ (∀ w w', NestedKey.hash w k = NestedKey.hash w' k) ∧ ∃ ks, k = .tup ks
structure DEs where
  o : Obj
  ep : Nat
  es : List DictEntry
def DnO (a : Addr) (z : DEs) : HO := .ext fun h => (a == sysModules) = false ∧ z.es.length ≤ sizeLine ∧ h.get? a = some z.o ∧ z.o.ExactDict ∧ z.o.data = .dict z.es.toArray z.ep
abbrev dcD (kvs : List (NestedKey × PyData)) : PyData := .dict ((.list [], .none) :: kvs.map fun q => (q.1.data, q.2))
def keyD : Key → PyData
  | .inl i => .int i
  | .inr x => .str x
abbrev dkD (kvs : List (Key × PyData)) : PyData := .dict ((.list [.none], .none) :: kvs.map fun q => (keyD q.1, q.2))
inductive Dn4 : List DictEntry → List V → List V → List NestedKey → Prop
  | nil : Dn4 [] [] [] []
  | cons {e : DictEntry} {es : List DictEntry} {b : Addr} {v : V} {ks vs : List V} {n : NestedKey} {ns : List NestedKey} : NkOk n → (∀ w, NestedKey.hash w n = e.hash) → e.key = .ref b → RelV v e.val → Dn4 es ks vs ns → Dn4 (e :: es) (.ref b :: ks) (v :: vs) (n :: ns)
mutual
inductive Rp (K : PySem.W.Frag) (B : Mset) (H : Hp) : V → PyData → Prop
  | non : Rp K B H .non .none
  | bl (b : Bool) : Rp K B H (.bl b) (.bool b)
  | int (i : Int) : Rp K B H (.int i) (.int i)
  | str (x : Str) : Rp K B H (.str x) (.str x)
  | tup {a : Addr} {xs : List V} {ds : List PyData} : SqT K H a xs → RpA K B H xs ds → Rp K B H (.ref a) (.tuple ds)
  | lst {a : Addr} {xs : List V} {ds : List PyData} : H a = some (.lst xs) → ¬ B a → RpA K B H xs ds → Rp K B H (.ref a) (.list ds)
  | frz {a : Addr} {o : Obj} {xs : List V} {ds : List PyData} : H a = some (.frz o (.lst xs)) → RpA K B H xs ds → Rp K B H (.ref a) (.list ds)
  | kls {a : Addr} {o : Obj} {its : Array Value} {n : Nat} {xs : List V} {ds : List PyData} : K.lookup a = some o → o.cls = .type "list" → o.dict = none → o.data = .seq its n → its.size ≤ sizeLine → Vals xs its.toList → RpA K B H xs ds → Rp K B H (.ref a) (.list ds)
  | fn {a : Addr} {nm : Str} : FnK K nm a → Rp K B H (.ref a) (fnV nm)
  | exn {a : Addr} : Rp K B H (.ref a) (exD a)
  | ntp {a : Addr} {o : Obj} {vs : List V} {xs : List PyData} : H a = some (.frz o (.tup vs)) → o.dict = none → RpA K B H vs xs → Rp K B H (.ref a) (ntD xs)
  | lam {f c a : Addr} {q : Str} {o : Obj} {vs : List V} {xs : List PyData} : H c = some (LamX.CodeO c q) → ¬ B c → H a = some (.frz o (.tup vs)) → o.dict = none → RpA K B H vs xs → Rp K B H (.ref f) (lamD f c a q xs)
  | dct {a : Addr} {z : DEs} {ks vs : List V} {kvs : List (NestedKey × PyData)} : H a = some (DnO a z) → ¬ B a → Dn4 z.es ks vs (kvs.map (·.1)) → (kvs.map (·.1)).Nodup → RpA K B H ks (kvs.map fun q => q.1.data) → RpA K B H vs (kvs.map (·.2)) → Rp K B H (.ref a) (dcD kvs)
  | dck {a : Addr} {ws : List (Key × V)} {kvs : List (Key × PyData)} : H a = some (.dK ws) → ¬ B a → ws.map (·.1) = kvs.map (·.1) → RpA K B H (ws.map (·.2)) (kvs.map (·.2)) → Rp K B H (.ref a) (dkD kvs)
inductive RpA (K : PySem.W.Frag) (B : Mset) (H : Hp) : List V → List PyData → Prop
  | nil : RpA K B H [] []
  | cons {v : V} {vs : List V} {d : PyData} {ds : List PyData} : Rp K B H v d → RpA K B H vs ds → RpA K B H (v :: vs) (d :: ds)
end

structure Grow (B : Mset) (H : Hp) (B' : Mset) (H' : Hp) : Prop where
  keep : ∀ a o, H a = some o → (¬ B a ∧ NT o ∨ Imm o) → H' a = some o
  new : ∀ a, B' a → B a ∨ H a = none

theorem SqT.grow {K : PySem.W.Frag} {B B' : Mset} {H H' : Hp} (g : Grow B H B' H') {a : Addr} {xs : List V} (h : SqT K H a xs) : SqT K H' a xs := by
  rcases h with (h | ⟨o, h⟩) | h
  · exact .inl (.inl (g.keep _ _ h (.inr trivial)))
  · exact .inl (.inr ⟨o, g.keep _ _ h (.inr trivial)⟩)
  · exact .inr h

mutual
theorem Rp.grow {K : PySem.W.Frag} {B B' : Mset} {H H' : Hp} (g : Grow B H B' H') : ∀ {v : V} {d : PyData}, Rp K B H v d → Rp K B' H' v d
  | _, _, .non => .non
  | _, _, .bl b => .bl b
  | _, _, .int i => .int i
  | _, _, .str x => .str x
  | _, _, .tup h r => .tup (SqT.grow g h) (RpA.grow g r)
  | _, _, .lst h nb r => .lst (g.keep _ _ h (.inl ⟨nb, fun _ z => nomatch z⟩)) (fun q => by
      rcases g.new _ q with q | q
      · exact nb q
      · rw [h] at q; cases q) (RpA.grow g r)
  | _, _, .frz h r => .frz (g.keep _ _ h (.inr trivial)) (RpA.grow g r)
  | _, _, .kls h1 h2 h3 h4 h5 h6 r => .kls h1 h2 h3 h4 h5 h6 (RpA.grow g r)
  | _, _, .fn h => .fn h
  | _, _, .exn => .exn
  | _, _, .ntp h1 h2 r => .ntp (g.keep _ _ h1 (.inr trivial)) h2 (RpA.grow g r)
  | _, _, .lam h1 nb h2 h3 r => .lam (g.keep _ _ h1 (.inl ⟨nb, LamX.codeO_ne⟩)) (fun q => by
      rcases g.new _ q with q | q
      · exact nb q
      · rw [h1] at q; cases q) (g.keep _ _ h2 (.inr trivial)) h3 (RpA.grow g r)
  | _, _, .dct h nb h4 nd r1 r2 => .dct (g.keep _ _ h (.inl ⟨nb, fun _ z => nomatch z⟩)) (fun q => by
      rcases g.new _ q with q | q
      · exact nb q
      · rw [h] at q; cases q) h4 nd (RpA.grow g r1) (RpA.grow g r2)
  | _, _, .dck h nb hk r => .dck (g.keep _ _ h (.inl ⟨nb, fun _ z => nomatch z⟩)) (fun q => by
      rcases g.new _ q with q | q
      · exact nb q
      · rw [h] at q; cases q) hk (RpA.grow g r)
theorem RpA.grow {K : PySem.W.Frag} {B B' : Mset} {H H' : Hp} (g : Grow B H B' H') : ∀ {vs : List V} {ds : List PyData}, RpA K B H vs ds → RpA K B' H' vs ds
  | _, _, .nil => .nil
  | _, _, .cons h r => .cons (Rp.grow g h) (RpA.grow g r)
end

theorem RpA.length {K : PySem.W.Frag} {B : Mset} {H : Hp} : ∀ {vs : List V} {ds : List PyData}, RpA K B H vs ds → vs.length = ds.length
  | _, _, .nil => rfl
  | _, _, .cons _ r => by simp [RpA.length r]
theorem RpA.get {K : PySem.W.Frag} {B : Mset} {H : Hp} : ∀ {vs : List V} {ds : List PyData} {i : Nat} {d : PyData}, RpA K B H vs ds → ds[i]? = some d → ∃ v, vs[i]? = some v ∧ Rp K B H v d
  | _, _, _, _, .nil, e => by simp at e
  | _, _, 0, _, .cons h _, e => by simp at e; subst e; exact ⟨_, rfl, h⟩
  | _, _, i + 1, d, .cons _ r, e => by
    obtain ⟨v, h1, h2⟩ := RpA.get (i := i) (d := d) r (by simpa using e)
    exact ⟨v, by simpa using h1, h2⟩
theorem RpA.getV {K : PySem.W.Frag} {B : Mset} {H : Hp} : ∀ {vs : List V} {ds : List PyData} {i : Nat} {v : V}, RpA K B H vs ds → vs[i]? = some v → ∃ d, ds[i]? = some d ∧ Rp K B H v d
  | _, _, _, _, .nil, e => by simp at e
  | _, _, 0, _, .cons h _, e => by simp at e; subst e; exact ⟨_, rfl, h⟩
  | _, _, i + 1, d, .cons _ r, e => by
    obtain ⟨v, h1, h2⟩ := RpA.getV (i := i) (v := d) r (by simpa using e)
    exact ⟨v, by simpa using h1, h2⟩
theorem RpA.append {K : PySem.W.Frag} {B : Mset} {H : Hp} : ∀ {vs ws : List V} {ds es : List PyData}, RpA K B H vs ds → RpA K B H ws es → RpA K B H (vs ++ ws) (ds ++ es)
  | _, _, _, _, .nil, q => q
  | _, _, _, _, .cons h r, q => .cons h (RpA.append r q)
theorem RpA.take {K : PySem.W.Frag} {B : Mset} {H : Hp} : ∀ {vs : List V} {ds : List PyData} (n : Nat), RpA K B H vs ds → RpA K B H (vs.take n) (ds.take n)
  | _, _, 0, _ => .nil
  | _, _, _ + 1, .nil => .nil
  | _, _, n + 1, .cons h r => .cons h (RpA.take n r)
theorem RpA.drop {K : PySem.W.Frag} {B : Mset} {H : Hp} : ∀ {vs : List V} {ds : List PyData} (n : Nat), RpA K B H vs ds → RpA K B H (vs.drop n) (ds.drop n)
  | _, _, 0, q => q
  | _, _, _ + 1, .nil => .nil
  | _, _, n + 1, .cons h r => RpA.drop n r
theorem RpA.set {K : PySem.W.Frag} {B : Mset} {H : Hp} {v : V} {d : PyData} (q : Rp K B H v d) : ∀ {vs : List V} {ds : List PyData} (n : Nat), RpA K B H vs ds → RpA K B H (vs.set n v) (ds.set n d)
  | _, _, _, .nil => .nil
  | _, _, 0, .cons _ r => .cons q r
  | _, _, n + 1, .cons h r => .cons h (RpA.set q n r)
theorem RpA.reverse {K : PySem.W.Frag} {B : Mset} {H : Hp} : ∀ {vs : List V} {ds : List PyData}, RpA K B H vs ds → RpA K B H vs.reverse ds.reverse
  | _, _, .nil => .nil
  | _, _, .cons h r => by
    rw [List.reverse_cons, List.reverse_cons]
    exact (RpA.reverse r).append (.cons h .nil)
theorem RpA.ints {K : PySem.W.Frag} {B : Mset} {H : Hp} : ∀ {vs : List V} {ns : List Int}, RpA K B H vs (ns.map .int) → vs = ns.map V.int
  | _, [], .nil => rfl
  | _, n :: ns, .cons h r => by
    cases h
    rw [RpA.ints r]
    rfl
theorem RpA.of_ints {K : PySem.W.Frag} {B : Mset} {H : Hp} : ∀ (ns : List Int), RpA K B H (ns.map V.int) (ns.map .int)
  | [] => .nil
  | n :: ns => .cons (.int n) (RpA.of_ints ns)
theorem RpA.bls {K : PySem.W.Frag} {B : Mset} {H : Hp} : ∀ {vs : List V} {ns : List Bool}, RpA K B H vs (ns.map .bool) → vs = ns.map V.bl
  | _, [], .nil => rfl
  | _, n :: ns, .cons h r => by
    cases h
    rw [RpA.bls r]
    rfl
mutual
theorem Rp.dp0 {K : PySem.W.Frag} {B : Mset} {H : Hp} : ∀ {v : V} {d : PyData}, Rp K B H v d → d.canLay0 = true → Dp K H v d
  | _, _, .non, _ => .non
  | _, _, .bl b, _ => .bl b
  | _, _, .int i, _ => .int i
  | _, _, .str x, _ => .str x
  | _, _, .tup h r, l => .tup h (RpA.dp0 r (by simpa [PyData.canLay0] using l))
  | _, _, .lst h _ r, l => .lst (.inl (.inl h)) (RpA.dp0 r (by simpa [PyData.canLay0] using l))
  | _, _, .frz h r, l => .lst (.inl (.inr ⟨_, h⟩)) (RpA.dp0 r (by simpa [PyData.canLay0] using l))
  | _, _, .kls h1 h2 h3 h4 h5 h6 r, l => .lst (.inr ⟨_, _, _, h1, h2, h3, h4, h5, h6⟩) (RpA.dp0 r (by simpa [PyData.canLay0] using l))
  | _, _, .fn _, l => by simp [PyData.canLay0] at l
  | _, _, .exn, l => by simp [PyData.canLay0] at l
  | _, _, .ntp _ _ _, l => by simp [PyData.canLay0] at l
  | _, _, .lam _ _ _ _ _, l => by simp [PyData.canLay0] at l
  | _, _, .dct _ _ _ _ _ _, l => by simp [PyData.canLay0] at l
  | _, _, .dck _ _ _ _, l => by simp [PyData.canLay0] at l
theorem RpA.dp0 {K : PySem.W.Frag} {B : Mset} {H : Hp} : ∀ {vs : List V} {ds : List PyData}, RpA K B H vs ds → PyData.canLayAll0 ds = true → DpAll K H vs ds
  | _, _, .nil, _ => .nil
  | _, _, .cons h r, l => .cons (Rp.dp0 h (by simp [PyData.canLayAll0] at l; exact l.1)) (RpA.dp0 r (by simp [PyData.canLayAll0] at l; exact l.2))
end

def KvR (K : PySem.W.Frag) (B : Mset) (H : Hp) : List (Key × V) → List (Key × PyData) → Prop := Paired fun p q => p.1 = q.1 ∧ Rp K B H p.2 q.2
def DnE (K : PySem.W.Frag) (B : Mset) (H : Hp) (e : DictEntry) (q : NestedKey × PyData) : Prop :=
  NkOk q.1 ∧ (∀ w, NestedKey.hash w q.1 = e.hash) ∧ (∃ b, e.key = .ref b ∧ Rp K B H (.ref b) q.1.data) ∧ ∃ v, RelV v e.val ∧ Rp K B H v q.2
structure DnR (K : PySem.W.Frag) (B : Mset) (H : Hp) (es : DEs) (kvs : List (NestedKey × PyData)) : Prop where
  ent : Paired (DnE K B H) es.es kvs
  nd : (kvs.map (·.1)).Nodup
theorem DnR.grow {K : PySem.W.Frag} {B B' : Mset} {H H' : Hp} (g : Grow B H B' H') {es : DEs} {kvs : List (NestedKey × PyData)} (h : DnR K B H es kvs) : DnR K B' H' es kvs :=
  ⟨Paired.mapP h.ent fun _ _ ⟨a, b, ⟨c, d, e⟩, v, f, x⟩ => ⟨a, b, ⟨c, d, e.grow g⟩, v, f, x.grow g⟩, h.nd⟩
def CtR (K : PySem.W.Frag) (B : Mset) (H : Hp) (a : Addr) : Ct → Prop
  | .ls xs => ∃ vs, H a = some (.lst vs) ∧ RpA K B H vs xs
  | .dk kvs => ∃ ws, H a = some (.dK ws) ∧ KvR K B H ws kvs
  | .dn kvs => ∃ es, H a = some (DnO a es) ∧ DnR K B H es kvs

theorem dn_split {K : PySem.W.Frag} {B : Mset} {H : Hp} : ∀ {es : List DictEntry} {kvs : List (NestedKey × PyData)}, Paired (DnE K B H) es kvs → ∃ ks vs, Dn4 es ks vs (kvs.map (·.1)) ∧ RpA K B H ks (kvs.map fun q => q.1.data) ∧ RpA K B H vs (kvs.map (·.2))
  | _, _, .nil => ⟨[], [], .nil, .nil, .nil⟩
  | _, _, .cons ⟨h1, h2, ⟨b, h3, h4⟩, v, h5, h6⟩ t => by
    obtain ⟨ks, vs, a1, a2, a3⟩ := dn_split t
    exact ⟨.ref b :: ks, v :: vs, .cons h1 h2 h3 h5 a1, .cons h4 a2, .cons h6 a3⟩
theorem dn_join {K : PySem.W.Frag} {B : Mset} {H : Hp} : ∀ {es : List DictEntry} {ks vs : List V} {kvs : List (NestedKey × PyData)}, Dn4 es ks vs (kvs.map (·.1)) → RpA K B H ks (kvs.map fun q => q.1.data) → RpA K B H vs (kvs.map (·.2)) → Paired (DnE K B H) es kvs
  | es, ks, vs, [], h, _, _ => by
    simp only [List.map_nil] at h
    cases h
    exact .nil
  | es, ks, vs, q :: kvs, h, r1, r2 => by
    simp only [List.map_cons] at h r1 r2
    cases h with
    | cons h1 h2 h3 h4 t =>
      cases r1 with
      | cons k1 k2 =>
        cases r2 with
        | cons v1 v2 => exact .cons ⟨h1, h2, ⟨_, h3, k1⟩, _, h4, v1⟩ (dn_join t k2 v2)
theorem kv_split {K : PySem.W.Frag} {B : Mset} {H : Hp} : ∀ {ws : List (Key × V)} {kvs : List (Key × PyData)}, KvR K B H ws kvs → ws.map (·.1) = kvs.map (·.1) ∧ RpA K B H (ws.map (·.2)) (kvs.map (·.2))
  | _, _, .nil => ⟨rfl, .nil⟩
  | _, _, .cons ⟨h1, h2⟩ t => by
    obtain ⟨a, b⟩ := kv_split t
    exact ⟨by simp [h1, a], .cons h2 b⟩
theorem kv_join {K : PySem.W.Frag} {B : Mset} {H : Hp} : ∀ {ws : List (Key × V)} {kvs : List (Key × PyData)}, ws.map (·.1) = kvs.map (·.1) → RpA K B H (ws.map (·.2)) (kvs.map (·.2)) → KvR K B H ws kvs
  | [], [], _, _ => .nil
  | [], _ :: _, h, _ => by simp at h
  | _ :: _, [], h, _ => by simp at h
  | w :: ws, q :: kvs, h, r => by
    simp only [List.map_cons, List.cons.injEq] at h r
    cases r with
    | cons r1 r2 => exact .cons ⟨h.1, r1⟩ (kv_join h.2 r2)
theorem CtR.hop {K : PySem.W.Frag} {B B' : Mset} {H H' : Hp} {a : Addr} {c : Ct} (h : CtR K B H a c) (g : Grow B H B' H') (k : ∀ o, H a = some o → H' a = some o) : CtR K B' H' a c := by
  cases c with
  | ls zs => obtain ⟨ws, h1, h2⟩ := h; exact ⟨ws, k _ h1, h2.grow g⟩
  | dk kvs => obtain ⟨ws, h1, h2⟩ := h; exact ⟨ws, k _ h1, Paired.mapP h2 fun _ _ q => ⟨q.1, q.2.grow g⟩⟩
  | dn kvs => obtain ⟨ws, h1, h2⟩ := h; exact ⟨ws, k _ h1, h2.grow g⟩
def ctD : Ct → PyData
  | .ls xs => .list xs
  | .dk kvs => dkD kvs
  | .dn kvs => dcD kvs
theorem CtR.rp {K : PySem.W.Frag} {B : Mset} {H : Hp} {a : Addr} {c : Ct} (h : CtR K B H a c) (nb : ¬ B a) : Rp K B H (.ref a) (ctD c) := by
  cases c with
  | ls xs => obtain ⟨vs, h1, h2⟩ := h; exact .lst h1 nb h2
  | dk kvs => obtain ⟨ws, h1, h2⟩ := h; obtain ⟨a, b⟩ := kv_split h2; exact .dck h1 nb a b
  | dn kvs => obtain ⟨es, h1, h2⟩ := h; obtain ⟨ks, vs, x, y, z⟩ := dn_split h2.ent; exact .dct h1 nb x h2.nd y z

def NtR (K : PySem.W.Frag) (B : Mset) (H : Hp) (a : Addr) (xs : List PyData) : Prop := ∃ o vs, H a = some (.frz o (.tup vs)) ∧ o.dict = none ∧ RpA K B H vs xs
theorem NtR.grow {K : PySem.W.Frag} {B B' : Mset} {H H' : Hp} (g : Grow B H B' H') {a : Addr} {xs : List PyData} (h : NtR K B H a xs) : NtR K B' H' a xs := by
  obtain ⟨o, vs, h1, h2, h3⟩ := h
  exact ⟨o, vs, g.keep _ _ h1 (.inr trivial), h2, h3.grow g⟩
theorem NtR.rp {K : PySem.W.Frag} {B : Mset} {H : Hp} {a : Addr} {xs : List PyData} (h : NtR K B H a xs) : Rp K B H (.ref a) (.tuple xs) := by
  obtain ⟨o, vs, h1, h2, h3⟩ := h
  exact .tup (.inl (.inr ⟨o, h1⟩)) h3
def Wof (σ : St) (env : Sl) : Mset := fun a => ∃ (i : Nat) (m : Md) (c : Ct), env[i]? = some (some (.mu m c)) ∧ m ≠ .fro ∧ σ[i]? = some (some (.ref a))

def TbB (B : Mset) (H : Hp) : Prop := ∀ p ∈ TabL.l, ∃ ps : Array Value, H p.1 = some (.tbl ps) ∧ ¬ B p.1 ∧ TriplesOk ps.toList ∧ ∀ (pos : Pos) (cv : Value), codeAmong pos ps.toList = some cv → ∃ c, cv = .ref c ∧ H c = some (LamX.CodeO c (p.2 pos.line pos.col)) ∧ ¬ B c
theorem TbB.on {B B' : Mset} {H H' : Hp} (h : TbB B H) (k : ∀ a o, H a = some o → ¬ B a → H' a = some o) (n : ∀ a, B' a → B a ∨ H a = none) : TbB B' H' := fun p hp => by
  obtain ⟨ps, h1, h2, h3, h4⟩ := h p hp
  have nb : ∀ a o, H a = some o → ¬ B a → ¬ B' a := fun a o e q z => by
    rcases n a z with z | z
    · exact q z
    · rw [e] at z; cases z
  refine ⟨ps, k _ _ h1 h2, nb _ _ h1 h2, h3, fun pos cv hc => ?_⟩
  obtain ⟨c, e1, e2, e3⟩ := h4 pos cv hc
  exact ⟨c, e1, k _ _ e2 e3, nb _ _ e2 e3⟩
structure EnvR (K : PySem.W.Frag) (B : Mset) (H : Hp) (σ : St) (env : Sl) : Prop where
  len : env.length = σ.length
  pd : ∀ (i : Nat) x, env[i]? = some (some (.pd x)) → ∃ v, σ[i]? = some (some v) ∧ Rp K B H v x
  nt : ∀ (i : Nat) xs, env[i]? = some (some (.nt xs)) → ∃ a, σ[i]? = some (some (.ref a)) ∧ NtR K B H a xs
  mu : ∀ (i : Nat) m c, env[i]? = some (some (.mu m c)) → ∃ a, σ[i]? = some (some (.ref a)) ∧ B a ∧ CtR K B H a c
  inj : ∀ (i j : Nat) m n c d a, env[i]? = some (some (.mu m c)) → env[j]? = some (some (.mu n d)) → σ[i]? = some (some (.ref a)) → σ[j]? = some (some (.ref a)) → i = j
  dom : ∀ a, B a → ∃ o, H a = some o
  tb : TbB B H

structure Stp (W B : Mset) (H : Hp) (W' B' : Mset) (H' : Hp) : Prop where
  keep : ∀ a o, H a = some o → (¬ W a ∧ NT o ∨ Imm o) → H' a = some o
  new : ∀ a, B' a → B a ∨ H a = none
  old : ∀ a, B a → ¬ W a → B' a
  sub : ∀ a, W' a → W a ∨ H a = none
  liv : ∀ a, H' a = none → H a = none

theorem EnvR.wb {K : PySem.W.Frag} {B : Mset} {H : Hp} {σ : St} {env : Sl} (e : EnvR K B H σ env) : ∀ a, Wof σ env a → B a := by
  rintro a ⟨i, m, c, h1, _, h3⟩
  obtain ⟨a', h4, h5, _⟩ := e.mu i m c h1
  rw [h3] at h4
  cases h4
  exact h5

theorem Stp.grow {W B W' B' : Mset} {H H' : Hp} (s : Stp W B H W' B' H') (wb : ∀ a, W a → B a) : Grow B H B' H' :=
  ⟨fun a o h q => s.keep a o h (q.imp (fun n => ⟨fun w => n.1 (wb a w), n.2⟩) id), s.new⟩

theorem Stp.refl {W B : Mset} {H : Hp} : Stp W B H W B H := ⟨fun _ _ h _ => h, fun _ h => .inl h, fun _ h _ => h, fun _ h => .inl h, fun _ h => h⟩

theorem Stp.trans {W B W1 B1 W2 B2 : Mset} {H H1 H2 : Hp} (s : Stp W B H W1 B1 H1) (t : Stp W1 B1 H1 W2 B2 H2) (wb : ∀ a, W a → B a) (dom : ∀ a, B a → ∃ o, H a = some o) : Stp W B H W2 B2 H2 where
  keep a o h q := by
    refine t.keep a o (s.keep a o h q) ?_
    rcases q with q | q
    · refine .inl ⟨fun w => ?_, q.2⟩
      rcases s.sub a w with w | w
      · exact q.1 w
      · rw [h] at w; cases w
    · exact .inr q
  new a h := by
    rcases t.new a h with h | h
    · exact s.new a h
    · exact .inr (s.liv a h)
  old a h w := by
    refine t.old a (s.old a h w) fun w1 => ?_
    rcases s.sub a w1 with q | q
    · exact w q
    · obtain ⟨o, e⟩ := dom a h
      rw [e] at q; cases q
  sub a h := by
    rcases t.sub a h with h | h
    · exact s.sub a h
    · exact .inr (s.liv a h)
  liv a h := s.liv a (t.liv a h)

def RR (K : PySem.W.Frag) (H₀ : Hp) (B : Mset) (H : Hp) (σ : St) (env : Sl) (v : V) : R → Prop
  | .pd x => Rp K B H v x
  | .nt xs => ∃ a, v = .ref a ∧ NtR K B H a xs
  | .tmp c => ∃ a, v = .ref a ∧ H₀ a = none ∧ B a ∧ CtR K B H a c ∧ ∀ (i : Nat) m d, env[i]? = some (some (S.mu m d)) → σ[i]? ≠ some (some (V.ref a))
  | .var i => σ[i]? = some (some v) ∧ ∃ m c, env[i]? = some (some (.mu m c))

structure At (K : PySem.W.Frag) (σ : St) (B : Mset) (H : Hp) (env : Sl) (B' : Mset) (H' : Hp) (env' : Sl) : Prop where
  st : Stp (Wof σ env) B H (Wof σ env') B' H'
  en : EnvR K B' H' σ env'
  sm : ∀ (i : Nat) m c, env'[i]? = some (some (.mu m c)) → ∃ c', env[i]? = some (some (.mu m c'))
  ks : ∀ (i : Nat) m c, env[i]? = some (some (.mu m c)) → ∃ c', env'[i]? = some (some (.mu m c'))

abbrev EE := Sl → Option (R × Sl)
abbrev EA := Sl → Option (List R × Sl)

def tE (K : PySem.W.Frag) (f : EE) : TE := fun σ H Q => ∃ B env d env', EnvR K B H σ env ∧ f env = some (d, env') ∧
  ∀ B' H' v, At K σ B H env B' H' env' → RR K H B' H' σ env' v d → Q v H'

theorem PE.imp {X : Cx} {e : Expr} {t t' : TE} (h : PE X e t) (i : ∀ σ H Q, t' σ H Q → t σ H Q) : PE X e t' := ⟨fun pins s σ H Q I q => h.run pins s σ H Q I (i σ H Q q)⟩
theorem PS.imp {X : Cx} {e : Stmt} {t t' : TS} (h : PS X e t) (i : ∀ D σ H, t' D σ H → t D σ H) : PS X e t' := ⟨fun pins s σ H D I q => h.run pins s σ H D I (i D σ H q)⟩
theorem PSs.imp {X : Cx} {e : List Stmt} {t t' : TS} (h : PSs X e t) (i : ∀ D σ H, t' D σ H → t D σ H) : PSs X e t' := ⟨fun pins s σ H D I q => h.run pins s σ H D I (i D σ H q)⟩
theorem PT.imp {X : Cx} {e : Expr} {t t' : TT} (h : PT X e t) (i : ∀ σ H Q, t' σ H Q → t σ H Q) : PT X e t' := ⟨fun pins s σ H Q I q => h.run pins s σ H Q I (i σ H Q q)⟩
theorem PA.imp {X : Cx} {e : List Expr} {t t' : TA} (h : PA X e t) (i : ∀ σ H Q, t' σ H Q → t σ H Q) : PA X e t' := ⟨fun pos pins s σ H Q I q => h.run pos pins s σ H Q I (i σ H Q q)⟩

theorem At.refl {K : PySem.W.Frag} {σ : St} {B : Mset} {H : Hp} {env : Sl} (e : EnvR K B H σ env) : At K σ B H env B H env := ⟨.refl, e, fun _ _ c h => ⟨c, h⟩, fun _ _ c h => ⟨c, h⟩⟩
theorem At.trans {K : PySem.W.Frag} {σ : St} {B B1 B2 : Mset} {H H1 H2 : Hp} {env env1 env2 : Sl} (e : EnvR K B H σ env) (a : At K σ B H env B1 H1 env1) (b : At K σ B1 H1 env1 B2 H2 env2) : At K σ B H env B2 H2 env2 :=
  ⟨a.st.trans b.st e.wb e.dom, b.en, fun i m c h => let ⟨c1, h1⟩ := b.sm i m c h; a.sm i m c1 h1, fun i m c h => let ⟨c1, h1⟩ := a.ks i m c h; b.ks i m c1 h1⟩
theorem At.grow {K : PySem.W.Frag} {σ : St} {B B1 : Mset} {H H1 : Hp} {env env1 : Sl} (e : EnvR K B H σ env) (a : At K σ B H env B1 H1 env1) : Grow B H B1 H1 := a.st.grow e.wb

theorem KvR.grow {K : PySem.W.Frag} {B B' : Mset} {H H' : Hp} (g : Grow B H B' H') {ws : List (Key × V)} {kvs : List (Key × PyData)} (h : KvR K B H ws kvs) : KvR K B' H' ws kvs :=
  Paired.mapP h fun _ _ q => ⟨q.1, q.2.grow g⟩

theorem CtR.keep {K : PySem.W.Frag} {W B W' B' : Mset} {H H' : Hp} {a : Addr} {c : Ct} (h : CtR K B H a c) (s : Stp W B H W' B' H') (wb : ∀ a, W a → B a) (hw : ¬ W a) : CtR K B' H' a c := by
  cases c with
  | ls xs =>
    obtain ⟨vs, h1, h2⟩ := h
    exact ⟨vs, s.keep _ _ h1 (.inl ⟨hw, fun _ z => nomatch z⟩), h2.grow (s.grow wb)⟩
  | dk kvs =>
    obtain ⟨vs, h1, h2⟩ := h
    exact ⟨vs, s.keep _ _ h1 (.inl ⟨hw, fun _ z => nomatch z⟩), h2.grow (s.grow wb)⟩
  | dn kvs =>
    obtain ⟨vs, h1, h2⟩ := h
    exact ⟨vs, s.keep _ _ h1 (.inl ⟨hw, fun _ z => nomatch z⟩), h2.grow (s.grow wb)⟩

theorem RR.later {K : PySem.W.Frag} {H₀ : Hp} {σ : St} {B B1 : Mset} {H H1 : Hp} {env env1 : Sl} {v : V} {d : R} (e : EnvR K B H σ env) (a : At K σ B H env B1 H1 env1) (h : RR K H₀ B H σ env v d) (hd : ∀ i, d ≠ .var i) : RR K H₀ B1 H1 σ env1 v d := by
  cases d with
  | pd x => exact Rp.grow (a.grow e) h
  | nt xs => obtain ⟨p, e1, h1⟩ := h; exact ⟨p, e1, h1.grow (a.grow e)⟩
  | var i => exact absurd rfl (hd i)
  | tmp c =>
    obtain ⟨p, rfl, h0, hb, hc, hn⟩ := h
    have hw : ¬ Wof σ env p := by
      rintro ⟨i, m, c', h1, _, h3⟩
      exact hn i m c' h1 h3
    refine ⟨p, rfl, h0, a.st.old p hb hw, hc.keep a.st e.wb hw, fun i m d h1 h2 => ?_⟩
    obtain ⟨c', h3⟩ := a.sm i m d h1
    exact hn i m c' h3 h2
end T3

end
section
set_option linter.all false
set_option autoImplicit false
set_option Elab.async false
namespace T3
open PySem L2
variable [TabL]

def RA (K : PySem.W.Frag) (H₀ : Hp) (B : Mset) (H : Hp) (σ : St) (env : Sl) (v : V) : R → Prop
  | .pd x => Rp K B H v x
  | .nt xs => ∃ a, v = .ref a ∧ NtR K B H a xs
  | .tmp c => ∃ a, v = .ref a ∧ H₀ a = none ∧ B a ∧ CtR K B H a c ∧ ∀ (i : Nat) m d, env[i]? = some (some (S.mu m d)) → σ[i]? ≠ some (some (V.ref a))
  | .var i => σ[i]? = some (some v)
structure RRA (K : PySem.W.Frag) (H₀ : Hp) (B : Mset) (H : Hp) (σ : St) (env : Sl) (vs : List V) (ds : List R) : Prop where
  len : vs.length = ds.length
  each : ∀ (k : Nat) v d, vs[k]? = some v → ds[k]? = some d → RA K H₀ B H σ env v d
  apart : ∀ (k l : Nat) c c' v, k ≠ l → ds[k]? = some (.tmp c) → ds[l]? = some (.tmp c') → vs[k]? = some v → vs[l]? = some v → False

theorem RR.ra {K : PySem.W.Frag} {H₀ H : Hp} {B : Mset} {σ : St} {env : Sl} {v : V} {d : R} (h : RR K H₀ B H σ env v d) : RA K H₀ B H σ env v d := by
  cases d with
  | pd x => exact h
  | nt x => exact h
  | tmp c => exact h
  | var i => exact h.1
theorem RR.from {K : PySem.W.Frag} {H₀ H₁ H : Hp} {B : Mset} {σ : St} {env : Sl} {v : V} {d : R} (h : RR K H₁ B H σ env v d) (l : ∀ a, H₁ a = none → H₀ a = none) : RR K H₀ B H σ env v d := by
  cases d with
  | pd x => exact h
  | nt x => exact h
  | tmp c => obtain ⟨a, h1, h2, h3⟩ := h; exact ⟨a, h1, l a h2, h3⟩
  | var i => exact h
theorem RA.later {K : PySem.W.Frag} {H₀ : Hp} {σ : St} {B B1 : Mset} {H H1 : Hp} {env env1 : Sl} {v : V} {d : R} (e : EnvR K B H σ env) (a : At K σ B H env B1 H1 env1) (h : RA K H₀ B H σ env v d) : RA K H₀ B1 H1 σ env1 v d := by
  cases d with
  | pd x => exact RR.later (d := .pd x) (H₀ := H₀) e a h (fun _ => nofun)
  | nt x => exact RR.later (d := .nt x) (H₀ := H₀) e a h (fun _ => nofun)
  | var i => exact h
  | tmp c => exact RR.later (d := .tmp c) e a h (fun _ => nofun)

def tA (K : PySem.W.Frag) (f : EA) : TA := fun σ H Q => ∃ B env ds env', EnvR K B H σ env ∧ f env = some (ds, env') ∧
  ∀ B' H' vs, At K σ B H env B' H' env' → RRA K H B' H' σ env' vs ds → Q vs H'
def eNil : EA := fun env => some ([], env)
def eCons (fa : EE) (fr : EA) : EA := fun env => match fa env with
  | none => none
  | some (d, e1) => match fr e1 with
    | none => none
    | some (ds, e2) => some (d :: ds, e2)

theorem rd_cons {K : PySem.W.Frag} {fa : EE} {fr : EA} {σ : St} {H : Hp} {Q : List V → Hp → Prop} (h : tA K (eCons fa fr) σ H Q) : tCons (tE K fa) (tA K fr) σ H Q := by
  obtain ⟨B, env, ds, env', en, ev, q⟩ := h
  unfold eCons at ev
  split at ev
  · cases ev
  rename_i d e1 h1
  split at ev
  · cases ev
  rename_i ds1 e2 h2
  cases ev
  refine ⟨B, env, d, e1, en, h1, fun B1 H1 v a1 r1 => ⟨B1, e1, ds1, _, a1.en, h2, fun B2 H2 vs a2 r2 => q B2 H2 (v :: vs) (a1.trans en a2) ?_⟩⟩
  refine ⟨by simp [r2.len], fun k w d' hv hd => ?_, fun k l c c' w hkl hk hl vk vl => ?_⟩
  · cases k with
    | zero =>
      simp at hv hd
      subst hv hd
      exact (r1.ra).later a1.en a2
    | succ k =>
      have := r2.each k w d' (by simpa using hv) (by simpa using hd)
      cases d' with
      | pd x => exact this
      | nt x => exact this
      | var i => exact this
      | tmp c => obtain ⟨a, e1, e2, e3⟩ := this; exact ⟨a, e1, a1.st.liv a e2, e3⟩
  · have fresh : ∀ (k : Nat) c', ds1[k]? = some (.tmp c') → vs[k]? = some w → ∀ c, d = .tmp c → v = w → False := by
      intro kk c' gk gv c hd hw
      subst hd hw
      obtain ⟨a, rfl, _, ba, _, _⟩ := r1
      obtain ⟨a', e, h0, _⟩ := r2.each kk _ _ gv gk
      cases e
      obtain ⟨o, ho⟩ := a1.en.dom a ba
      rw [ho] at h0
      cases h0
    cases k with
    | zero =>
      cases l with
      | zero => exact hkl rfl
      | succ l => exact fresh l c' (by simpa using hl) (by simpa using vl) c (by simpa using hk) (by simpa using vk)
    | succ k =>
      cases l with
      | zero => exact fresh k c (by simpa using hk) (by simpa using vk) c' (by simpa using hl) (by simpa using vl)
      | succ l => exact r2.apart k l c c' w (by omega) (by simpa using hk) (by simpa using hl) (by simpa using vk) (by simpa using vl)
theorem rd_nil {K : PySem.W.Frag} {σ : St} {H : Hp} {Q : List V → Hp → Prop} (h : tA K eNil σ H Q) : tNil σ H Q := by
  obtain ⟨B, env, ds, env', en, ev, q⟩ := h
  cases ev
  exact q B H [] (.refl en) ⟨rfl, fun k v d h => by simp at h, fun k l c c' v _ h => by simp at h⟩

section
variable {X : Cx} {e : Expr} {es : List Expr} {K : PySem.W.Frag}
theorem a_nil : PA X [] (tA K eNil) := PA.imp pa_nil fun _ _ _ h => rd_nil h
theorem a_cons {fa : EE} {fr : EA} (ha : PE X e (tE K fa)) (hr : PA X es (tA K fr)) (hs : starEach (e :: es) X.env = (false, eval e X.env) :: starEach es X.env := by rfl) : PA X (e :: es) (tA K (eCons fa fr)) :=
  PA.imp (pa_cons ha hr hs) fun _ _ _ h => rd_cons h
end

def eVar (i : Nat) : EE := fun env => match env[i]? with
  | some (some (.pd x)) => some (.pd x, env)
  | some (some (.nt x)) => some (.nt x, env)
  | some (some (.mu _ _)) => some (.var i, env)
  | _ => none
def eC (x : PyData) : EE := fun env => some (.pd x, env)
theorem e_var {X : Cx} {e : Expr} {i : Nat} (h : PE X e (tVar i)) : PE X e (tE X.K (eVar i)) := PE.imp h fun σ H Q t => by
  obtain ⟨B, env, d, env', en, ev, q⟩ := t
  unfold eVar at ev
  split at ev
  · rename_i x hx
    cases ev
    obtain ⟨v, hv, r⟩ := en.pd _ _ hx
    exact ⟨v, hv, q B H v (.refl en) r⟩
  · rename_i x hx
    cases ev
    obtain ⟨a, hv, r⟩ := en.nt _ _ hx
    exact ⟨_, hv, q B H _ (.refl en) ⟨a, rfl, r⟩⟩
  · rename_i m c hx
    cases ev
    obtain ⟨a, hv, _, r⟩ := en.mu _ _ _ hx
    exact ⟨_, hv, q B H _ (.refl en) ⟨hv, _, _, hx⟩⟩
  · cases ev
theorem e_c {X : Cx} {e : Expr} {v : V} {x : PyData} (h : PE X e (tC v)) (r : ∀ B H, Rp X.K B H v x) : PE X e (tE X.K (eC x)) := PE.imp h fun σ H Q t => by
  obtain ⟨B, env, d, env', en, ev, q⟩ := t
  cases ev
  exact q B H v (.refl en) (r B H)

def ctn (env : Sl) : R → Option PyData
  | .pd x => some x
  | .nt xs => some (.tuple xs)
  | .tmp (.ls xs) => some (.list xs)
  | .tmp (.dk _) => none
  | .tmp (.dn _) => none
  | .var i => match env[i]? with
    | some (some (.mu _ (.ls xs))) => some (.list xs)
    | _ => none
def ctns (env : Sl) : List R → Option (List PyData)
  | [] => some []
  | d :: ds => match ctn env d with
    | none => none
    | some x => match ctns env ds with
      | none => none
      | some xs => some (x :: xs)
inductive Cn (K : PySem.W.Frag) (B : Mset) (H : Hp) : V → PyData → Prop
  | rp {v : V} {x : PyData} : Rp K B H v x → Cn K B H v x
  | ct {a : Addr} {vs : List V} {xs : List PyData} : H a = some (.lst vs) → RpA K B H vs xs → Cn K B H (.ref a) (.list xs)
inductive CnA (K : PySem.W.Frag) (B : Mset) (H : Hp) : List V → List PyData → Prop
  | nil : CnA K B H [] []
  | cons {v : V} {vs : List V} {d : PyData} {ds : List PyData} : Cn K B H v d → CnA K B H vs ds → CnA K B H (v :: vs) (d :: ds)
theorem Cn.of {K : PySem.W.Frag} {H₀ : Hp} {B : Mset} {H : Hp} {σ : St} {env : Sl} {v : V} {d : R} {x : PyData} (en : EnvR K B H σ env) (h : RA K H₀ B H σ env v d) (c : ctn env d = some x) : Cn K B H v x := by
  cases d with
  | pd y => cases c; exact .rp h
  | nt y => cases c; obtain ⟨a, rfl, h⟩ := h; exact .rp h.rp
  | tmp t =>
    cases t with
    | ls xs =>
      cases c
      obtain ⟨a, rfl, _, _, ⟨vs, h1, h2⟩, _⟩ := h
      exact .ct h1 h2
    | dk _ => cases c
    | dn _ => cases c
  | var i =>
    simp only [ctn] at c
    split at c
    · rename_i m xs hx
      cases c
      obtain ⟨a, h1, _, vs, h2, h3⟩ := en.mu _ _ _ hx
      have h : σ[i]? = some (some v) := h
      rw [h] at h1
      cases h1
      exact .ct h2 h3
    · cases c
theorem CnA.of {K : PySem.W.Frag} {H₀ : Hp} {B : Mset} {H : Hp} {σ : St} {env : Sl} (en : EnvR K B H σ env) : ∀ {vs : List V} {ds : List R} {xs : List PyData}, RRA K H₀ B H σ env vs ds → ctns env ds = some xs → CnA K B H vs xs
  | [], [], xs, _, c => by cases c; exact .nil
  | v :: vs, d :: ds, xs, r, c => by
    unfold ctns at c
    split at c
    · cases c
    rename_i x hx
    split at c
    · cases c
    rename_i ys hy
    cases c
    refine .cons (Cn.of en (r.each 0 v d rfl rfl) hx) (CnA.of en ⟨by have := r.len; simpa using this, fun k w e h1 h2 => r.each (k + 1) w e (by simpa using h1) (by simpa using h2), fun k l c c' w h0 h1 h2 h3 h4 => r.apart (k + 1) (l + 1) c c' w (by omega) (by simpa using h1) (by simpa using h2) (by simpa using h3) (by simpa using h4)⟩ hy)
  | [], _ :: _, _, r, _ => by have := r.len; simp at this
  | _ :: _, [], _, r, _ => by have := r.len; simp at this
theorem Cn.dp {K : PySem.W.Frag} {B : Mset} {H : Hp} {v : V} {x : PyData} (h : Cn K B H v x) (l : SeqAt.shaped x = true) : Dp K H v x := by
  have l0 : x.canLay0 = true := by
    unfold SeqAt.shaped at l
    rw [Bool.and_eq_true] at l
    exact l.1
  cases h with
  | rp h => exact h.dp0 l0
  | ct h r => exact .lst (.inl (.inl h)) (r.dp0 (by simpa [PyData.canLay0] using l0))
theorem Cn.list {K : PySem.W.Frag} {B : Mset} {H : Hp} {v : V} {xs : List PyData} (h : Cn K B H v (.list xs)) : ∃ a vs, v = .ref a ∧ SqL K H a vs ∧ RpA K B H vs xs := by
  cases h with
  | rp h =>
    cases h with
    | lst h _ r => exact ⟨_, _, rfl, .inl (.inl h), r⟩
    | frz h r => exact ⟨_, _, rfl, .inl (.inr ⟨_, h⟩), r⟩
    | kls h1 h2 h3 h4 h5 h6 r => exact ⟨_, _, rfl, .inr ⟨_, _, _, h1, h2, h3, h4, h5, h6⟩, r⟩
  | ct h r => exact ⟨_, _, rfl, .inl (.inl h), r⟩
theorem Cn.tuple {K : PySem.W.Frag} {B : Mset} {H : Hp} {v : V} {xs : List PyData} (h : Cn K B H v (.tuple xs)) : ∃ a vs, v = .ref a ∧ SqT K H a vs ∧ RpA K B H vs xs := by
  cases h with
  | rp h =>
    cases h with
    | tup h r => exact ⟨_, _, rfl, h, r⟩
theorem Cn.int {K : PySem.W.Frag} {B : Mset} {H : Hp} {v : V} {i : Int} (h : Cn K B H v (.int i)) : v = .int i := by
  cases h with
  | rp h => cases h; rfl
theorem Cn.str {K : PySem.W.Frag} {B : Mset} {H : Hp} {v : V} {i : Str} (h : Cn K B H v (.str i)) : v = .str i := by
  cases h with
  | rp h => cases h; rfl
theorem Cn.bool {K : PySem.W.Frag} {B : Mset} {H : Hp} {v : V} {i : Bool} (h : Cn K B H v (.bool i)) : v = .bl i := by
  cases h with
  | rp h => cases h; rfl
theorem Cn.none {K : PySem.W.Frag} {B : Mset} {H : Hp} {v : V} (h : Cn K B H v .none) : v = .non := by
  cases h with
  | rp h => cases h; rfl

theorem At.alloc {K : PySem.W.Frag} {σ : St} {B B1 : Mset} {H H1 : Hp} {env env1 : Sl} {p : Addr} (en : EnvR K B H σ env) (a : At K σ B H env B1 H1 env1) (np : H1 p = none) (o : HO) (mt : Prop) (fz : Mset)
    (hf : ∀ q, fz q → H q = none ∧ ∀ (i : Nat) m d, env1[i]? = some (some (S.mu m d)) → σ[i]? ≠ some (some (V.ref q))) :
    Grow B1 H1 (fun q => (B1 q ∧ ¬ fz q) ∨ (mt ∧ q = p)) (upd H1 p o) ∧ At K σ B H env (fun q => (B1 q ∧ ¬ fz q) ∨ (mt ∧ q = p)) (upd H1 p o) env1 := by
  have ne : ∀ {q o'}, H1 q = some o' → q ≠ p := fun {q o'} h e => by rw [e, np] at h; cases h
  have g : Grow B1 H1 (fun q => (B1 q ∧ ¬ fz q) ∨ (mt ∧ q = p)) (upd H1 p o) := ⟨fun q o' h _ => by rw [upd_ne (ne h)]; exact h, fun q h => by
    rcases h with h | h
    · exact .inl h.1
    · rw [h.2]; exact .inr np⟩
  refine ⟨g, ⟨fun q o' h c => ?_, fun q h => ?_, fun q h w => ?_, a.st.sub, fun q h => ?_⟩, ⟨a.en.len, fun i x h => ?_, fun i x h => ?_, fun i m c h => ?_, a.en.inj, fun q h => ?_, a.en.tb.on (fun q o' h _ => by rw [upd_ne (ne h)]; exact h) g.new⟩, a.sm, a.ks⟩
  · have h1 := a.st.keep q o' h c
    rw [upd_ne (ne h1)]; exact h1
  · rcases h with h | h
    · exact a.st.new q h.1
    · rw [h.2]; exact .inr (a.st.liv _ np)
  · refine .inl ⟨a.st.old q h w, fun f => ?_⟩
    obtain ⟨o', ho⟩ := en.dom q h
    rw [(hf q f).1] at ho; cases ho
  · by_cases e : q = p
    · rw [e]; exact a.st.liv _ np
    · rw [upd_ne e] at h; exact a.st.liv _ h
  · obtain ⟨v, h1, h2⟩ := a.en.pd i x h
    exact ⟨v, h1, h2.grow g⟩
  · obtain ⟨v, h1, h2⟩ := a.en.nt i x h
    exact ⟨v, h1, h2.grow g⟩
  · obtain ⟨q, h1, h2, h3⟩ := a.en.mu i m c h
    refine ⟨q, h1, .inl ⟨h2, fun f => (hf q f).2 i m c h h1⟩, ?_⟩
    cases c with
    | ls xs => obtain ⟨vs, h4, h5⟩ := h3; exact ⟨vs, by rw [upd_ne (ne h4)]; exact h4, h5.grow g⟩
    | dk xs => obtain ⟨vs, h4, h5⟩ := h3; exact ⟨vs, by rw [upd_ne (ne h4)]; exact h4, h5.grow g⟩
    | dn xs => obtain ⟨vs, h4, h5⟩ := h3; exact ⟨vs, by rw [upd_ne (ne h4)]; exact h4, h5.grow g⟩
  · rcases h with h | h
    · obtain ⟨o', ho⟩ := a.en.dom q h.1
      exact ⟨o', by rw [upd_ne (ne ho)]; exact ho⟩
    · rw [h.2]; exact ⟨o, upd_same⟩

abbrev KK := List R → Sl → Option (R × Sl)
def eThen (f : EA) (k : KK) : EE := fun env => match f env with
  | none => none
  | some (ds, e1) => k ds e1
def Con (K : PySem.W.Frag) (k : KK) (r : List V → Hp → VK → Prop) : Prop := ∀ σ H B env B1 H1 env1 vs ds d e2 Q, EnvR K B H σ env → At K σ B H env B1 H1 env1 → RRA K H B1 H1 σ env1 vs ds → k ds env1 = some (d, e2) →
  (∀ B' H' v, At K σ B H env B' H' e2 → RR K H B' H' σ e2 v d → Q v H') → r vs H1 Q
theorem rd_then {K : PySem.W.Frag} {f : EA} {k : KK} {r : List V → Hp → VK → Prop} (c : Con K k r) {σ : St} {H : Hp} {Q : VK} (h : tE K (eThen f k) σ H Q) : tA K f σ H (fun vs H1 => r vs H1 Q) := by
  obtain ⟨B, env, d, env', en, ev, q⟩ := h
  unfold eThen at ev
  split at ev
  · cases ev
  rename_i ds e1 h1
  exact ⟨B, env, ds, e1, en, h1, fun B1 H1 vs a1 r1 => c σ H B env B1 H1 e1 vs ds d env' Q en a1 r1 ev q⟩
def l2 (r : R2) : List V → Hp → VK → Prop := fun vs H Q => ∀ x y, vs = [x, y] → r x y H Q
def l1 (r : V → Hp → VK → Prop) : List V → Hp → VK → Prop := fun vs H Q => ∀ x, vs = [x] → r x H Q
def eTwo (fa fb : EE) : EA := eCons fa (eCons fb eNil)
def eOne (fa : EE) : EA := eCons fa eNil
theorem rd_two {K : PySem.W.Frag} {fa fb : EE} {k : KK} {r : R2} (c : Con K k (l2 r)) {σ : St} {H : Hp} {Q : VK} (h : tE K (eThen (eTwo fa fb) k) σ H Q) : tOp r (tE K fa) (tE K fb) σ H Q := by
  have h := rd_cons (rd_then c h)
  obtain ⟨B, env, d, env', en, ev, q⟩ := h
  refine ⟨B, env, d, env', en, ev, fun B1 H1 x a1 r1 => ?_⟩
  have h2 := rd_cons (q B1 H1 x a1 r1)
  obtain ⟨B, env, d, env', en, ev, q⟩ := h2
  refine ⟨B, env, d, env', en, ev, fun B2 H2 y a2 r2 => ?_⟩
  exact rd_nil (q B2 H2 y a2 r2) x y rfl
theorem rd_one {K : PySem.W.Frag} {fa : EE} {k : KK} {r : V → Hp → VK → Prop} (c : Con K k (l1 r)) {σ : St} {H : Hp} {Q : VK} (h : tE K (eThen (eOne fa) k) σ H Q) : tUn r (tE K fa) σ H Q := by
  have h := rd_cons (rd_then c h)
  obtain ⟨B, env, d, env', en, ev, q⟩ := h
  refine ⟨B, env, d, env', en, ev, fun B1 H1 x a1 r1 => ?_⟩
  exact rd_nil (q B1 H1 x a1 r1) x rfl

def kE (o : List PyData → Option PyData) : KK := fun ds env => match ctns env ds with
  | none => none
  | some xs => match o xs with
    | none => none
    | some z => some (.pd z, env)
def OkE (K : PySem.W.Frag) (o : List PyData → Option PyData) (r : List V → Hp → VK → Prop) : Prop := ∀ B H vs xs z Q, CnA K B H vs xs → o xs = some z → (∀ v, Rp K B H v z → Q v H) → r vs H Q
theorem con_E {K : PySem.W.Frag} {o : List PyData → Option PyData} {r : List V → Hp → VK → Prop} (h : OkE K o r) : Con K (kE o) r := by
  intro σ H B env B1 H1 env1 vs ds d e2 Q en a rr hk q
  unfold kE at hk
  split at hk
  · cases hk
  rename_i xs hx
  split at hk
  · cases hk
  rename_i z hz
  cases hk
  exact h B1 H1 vs xs z _ (CnA.of a.en rr hx) hz fun v hv => q B1 H1 v a hv
def kT (o : List PyData → Option (List PyData)) : KK := fun ds env => match ctns env ds with
  | none => none
  | some xs => match o xs with
    | none => none
    | some z => some (.pd (.tuple z), env)
def OkT (K : PySem.W.Frag) (o : List PyData → Option (List PyData)) (r : List V → Hp → VK → Prop) : Prop := ∀ B H vs xs z Q, CnA K B H vs xs → o xs = some z → (∀ v, Rp K B H v (.tuple z) → Q v H) → (∀ ws p, RpA K B H ws z → H p = none → Q (.ref p) (upd H p (.tup ws))) → r vs H Q
theorem con_T {K : PySem.W.Frag} {o : List PyData → Option (List PyData)} {r : List V → Hp → VK → Prop} (h : OkT K o r) : Con K (kT o) r := by
  intro σ H B env B1 H1 env1 vs ds d e2 Q en a rr hk q
  unfold kT at hk
  split at hk
  · cases hk
  rename_i xs hx
  split at hk
  · cases hk
  rename_i z hz
  cases hk
  refine h B1 H1 vs xs z _ (CnA.of a.en rr hx) hz (fun v hv => q B1 H1 v a hv) fun ws p hw np => ?_
  obtain ⟨g, a2⟩ := a.alloc en np (.tup ws) False (fun _ => False) (fun _ f => f.elim)
  exact q _ _ _ a2 (.tup (.inl (.inl upd_same)) (hw.grow g))
def kL (o : List PyData → Option (List PyData)) : KK := fun ds env => match ctns env ds with
  | none => none
  | some xs => match o xs with
    | none => none
    | some z => some (.tmp (.ls z), env)
def OkL (K : PySem.W.Frag) (o : List PyData → Option (List PyData)) (r : List V → Hp → VK → Prop) : Prop := ∀ B H vs xs z Q, CnA K B H vs xs → o xs = some z → (∀ ws p, RpA K B H ws z → H p = none → Q (.ref p) (upd H p (.lst ws))) → r vs H Q
theorem con_L {K : PySem.W.Frag} {o : List PyData → Option (List PyData)} {r : List V → Hp → VK → Prop} (h : OkL K o r) : Con K (kL o) r := by
  intro σ H B env B1 H1 env1 vs ds d e2 Q en a rr hk q
  unfold kL at hk
  split at hk
  · cases hk
  rename_i xs hx
  split at hk
  · cases hk
  rename_i z hz
  cases hk
  refine h B1 H1 vs xs z _ (CnA.of a.en rr hx) hz fun ws p hw np => ?_
  obtain ⟨g, a2⟩ := a.alloc en np (.lst ws) True (fun _ => False) (fun _ f => f.elim)
  refine q _ _ _ a2 ⟨p, rfl, a.st.liv _ np, .inr ⟨trivial, rfl⟩, ⟨ws, upd_same, hw.grow g⟩, fun i m d h1 h2 => ?_⟩
  obtain ⟨b, h3, h4, _⟩ := a.en.mu i m d h1
  rw [h3] at h2
  cases h2
  obtain ⟨o', ho⟩ := a.en.dom _ h4
  rw [np] at ho; cases ho
end T3

end
section
set_option linter.all false
set_option autoImplicit false
set_option Elab.async false
namespace T3
open PySem L2
variable [TabL]

def data1 : R → Option PyData
  | .pd x => some x
  | .nt xs => some (.tuple xs)
  | .tmp c => some (ctD c)
  | .var _ => none
def datas : List R → Option (List PyData)
  | [] => some []
  | d :: ds => match data1 d with
    | none => none
    | some x => match datas ds with
      | none => none
      | some xs => some (x :: xs)
def fzOf (vs : List V) (ds : List R) : Mset := fun q => ∃ (k : Nat) (c : Ct), ds[k]? = some (.tmp c) ∧ vs[k]? = some (.ref q)
theorem RRA.fz {K : PySem.W.Frag} {H₀ : Hp} {B : Mset} {H : Hp} {σ : St} {env : Sl} {vs : List V} {ds : List R} (r : RRA K H₀ B H σ env vs ds) : ∀ q, fzOf vs ds q → H₀ q = none ∧ ∀ (i : Nat) m d, env[i]? = some (some (S.mu m d)) → σ[i]? ≠ some (some (V.ref q)) := by
  rintro q ⟨k, c, h1, h2⟩
  obtain ⟨a, e, h3, _, _, h5⟩ := r.each k _ _ h2 h1
  cases e
  exact ⟨h3, h5⟩
theorem RRA.tail {K : PySem.W.Frag} {H₀ : Hp} {B : Mset} {H : Hp} {σ : St} {env : Sl} {v : V} {d : R} {vs : List V} {ds : List R} (r : RRA K H₀ B H σ env (v :: vs) (d :: ds)) : RRA K H₀ B H σ env vs ds :=
  ⟨by have := r.len; simpa using this, fun k w e h1 h2 => r.each (k + 1) w e (by simpa using h1) (by simpa using h2), fun k l c c' w h0 h1 h2 h3 h4 => r.apart (k + 1) (l + 1) c c' w (by omega) (by simpa using h1) (by simpa using h2) (by simpa using h3) (by simpa using h4)⟩
theorem RRA.data {K : PySem.W.Frag} {H₀ : Hp} {B B' : Mset} {H H' : Hp} {σ : St} {env : Sl} (g : Grow B H B' H') (hk : ∀ a o, H a = some o → H' a = some o) : ∀ {vs : List V} {ds : List R} {xs : List PyData}, RRA K H₀ B H σ env vs ds → (∀ q, fzOf vs ds q → ¬ B' q) → datas ds = some xs → RpA K B' H' vs xs
  | [], [], xs, _, _, c => by cases c; exact .nil
  | v :: vs, d :: ds, xs, r, nb, c => by
    unfold datas at c
    split at c
    · cases c
    rename_i x hx
    split at c
    · cases c
    rename_i ys hy
    cases c
    refine .cons ?_ (RRA.data g hk r.tail (fun q ⟨k, c, h1, h2⟩ => nb q ⟨k + 1, c, by simpa using h1, by simpa using h2⟩) hy)
    have h := r.each 0 v d rfl rfl
    cases d with
    | pd y => cases hx; exact Rp.grow g h
    | nt y => cases hx; obtain ⟨a, rfl, h⟩ := h; exact h.rp.grow g
    | var i => cases hx
    | tmp t =>
      cases hx
      obtain ⟨a, rfl, _, _, hc, _⟩ := h
      refine CtR.rp ?_ (nb a ⟨0, _, rfl, rfl⟩)
      exact hc.hop g (hk _)
  | [], _ :: _, _, r, _, _ => by have := r.len; simp at this
  | _ :: _, [], _, r, _, _ => by have := r.len; simp at this
theorem datas_len : ∀ {ds : List R} {xs : List PyData}, datas ds = some xs → xs.length = ds.length
  | [], xs, c => by cases c; rfl
  | d :: ds, xs, c => by
    unfold datas at c
    split at c
    · cases c
    split at c
    · cases c
    rename_i h
    cases c
    simp [datas_len h]
def kTup : KK := fun ds env => match datas ds with
  | none => none
  | some xs => if xs.length ≤ 1000 then some (.pd (.tuple xs), env) else none
def kLst : KK := fun ds env => match datas ds with
  | none => none
  | some xs => if xs.length ≤ 1000 then some (.tmp (.ls xs), env) else none
theorem keep_upd {H : Hp} {p : Addr} {o : HO} (np : H p = none) : ∀ a o', H a = some o' → upd H p o a = some o' := fun a o' h => by
  rw [upd_ne (fun e => by rw [e, np] at h; cases h)]; exact h
theorem con_tup {K : PySem.W.Frag} : Con K kTup (fun xs H1 Q => xs.length ≤ sizeLine ∧ ∀ p, H1 p = none → Q (.ref p) (upd H1 p (.tup xs))) := by
  intro σ H B env B1 H1 env1 vs ds d e2 Q en a rr hk q
  unfold kTup at hk
  split at hk
  · cases hk
  rename_i xs hx
  split at hk
  · rename_i hl
    cases hk
    refine ⟨by rw [rr.len, ← datas_len hx]; exact Nat.le_of_lt (small1000 hl), fun p np => ?_⟩
    obtain ⟨g, a2⟩ := a.alloc en np (.tup vs) False (fzOf vs ds) rr.fz
    exact q _ _ _ a2 (.tup (.inl (.inl upd_same)) (rr.data g (keep_upd np) (fun q f h => h.elim (fun h => h.2 f) (fun h => h.1)) hx))
  · cases hk
theorem con_lst {K : PySem.W.Frag} : Con K kLst (fun xs H1 Q => xs.length ≤ sizeLine ∧ ∀ p, H1 p = none → Q (.ref p) (upd H1 p (.lst xs))) := by
  intro σ H B env B1 H1 env1 vs ds d e2 Q en a rr hk q
  unfold kLst at hk
  split at hk
  · cases hk
  rename_i xs hx
  split at hk
  · rename_i hl
    cases hk
    refine ⟨by rw [rr.len, ← datas_len hx]; exact Nat.le_of_lt (small1000 hl), fun p np => ?_⟩
    obtain ⟨g, a2⟩ := a.alloc en np (.lst vs) True (fzOf vs ds) rr.fz
    have nfp : ∀ q, fzOf vs ds q → q ≠ p := by
      rintro q ⟨k, c, h1, h2⟩ e
      obtain ⟨b, e2, _, h4, _⟩ := rr.each k _ _ h2 h1
      cases e2
      obtain ⟨o, ho⟩ := a.en.dom _ h4
      rw [e, np] at ho; cases ho
    refine q _ _ _ a2 ⟨p, rfl, a.st.liv _ np, .inr ⟨trivial, rfl⟩, ⟨vs, upd_same, rr.data g (keep_upd np) (fun q f h => h.elim (fun h => h.2 f) (fun h => nfp q f h.2)) hx⟩, fun i m d h1 h2 => ?_⟩
    obtain ⟨b, h3, h4, _⟩ := a.en.mu i m d h1
    rw [h3] at h2
    cases h2
    obtain ⟨o', ho⟩ := a.en.dom _ h4
    rw [np] at ho; cases ho
  · cases hk
section
variable {X : Cx} {e : Expr} {es : List Expr} {pos : Pos} {f : EA} {fa fb : EE}
theorem e_tup {k : Nat} (h : PA X es (tA X.K f)) : PE X (.Tuple es k pos) (tE X.K (eThen f kTup)) := PE.imp (pe_tup h) fun _ _ _ t => rd_then con_tup t
theorem e_lst (h : PA X es (tA X.K f)) : PE X (.List es pos) (tE X.K (eThen f kLst)) := PE.imp (pe_lst h) fun _ _ _ t => rd_then con_lst t
theorem e_op {a b : Expr} {op : Operator} {r : R2} {k : KK} (ho : OpR X (binaryOp op) r) (c : Con X.K k (l2 r)) (ha : PE X a (tE X.K fa)) (hb : PE X b (tE X.K fb)) : PE X (.BinOp a op b pos) (tE X.K (eThen (eTwo fa fb) k)) :=
  PE.imp (pe_op ho ha hb) fun _ _ _ t => rd_two c t
theorem e_un {a : Expr} {op : UnaryOp} {r : V → Hp → VK → Prop} {k : KK} (ho : UnR X (unaryOp op) r) (c : Con X.K k (l1 r)) (ha : PE X a (tE X.K fa)) : PE X (.UnaryOp op a pos) (tE X.K (eThen (eOne fa) k)) :=
  PE.imp (pe_un ho ha) fun _ _ _ t => rd_one c t
theorem e_cmp {a b : Expr} {op : CmpOp} {r : R2} {k : KK} (ho : OpR X (compareOp op) r) (c : Con X.K k (l2 r)) (ha : PE X a (tE X.K fa)) (hb : PE X b (tE X.K fb)) (hm : behindInMarks op b = false := by rfl) : PE X (.Compare a [op] [b] pos) (tE X.K (eThen (eTwo fa fb) k)) :=
  PE.imp (pe_cmpR ho ha hb hm) fun _ _ _ t => rd_two c t
theorem e_ix {a b : Expr} {r : R2} {k : KK} (ho : IxR X r) (c : Con X.K k (l2 r)) (ha : PE X a (tE X.K fa)) (hb : PE X b (tE X.K fb)) (hs : PlainIx b := by exact fun _ _ => rfl) : PE X (.Subscript a b pos) (tE X.K (eThen (eTwo fa fb) k)) :=
  PE.imp (pe_ix ho ha hb hs) fun _ _ _ t => rd_two c t
theorem e_callB {id : String} {x : Str} {p : Pos} {r : List V → Hp → VK → Prop} {k : KK} (hc : CallR X (.builtin id) r) (c : Con X.K k r) (hg : Gl X x) (hm : X.mg x = none) (hv : bootBuiltins x = some (.builtin id)) (ha : PA X (e :: es) (tA X.K f)) (hn : x ≠ "__name__" := by decide) (hdb : (x == ("__debug__" : Str)) = false := by decide) (he : starEach (e :: es) X.env = (false, eval e X.env) :: starEach es X.env := by rfl) (hpl : (backTo pos (starEach es X.env)).any (·.1) = false := by rfl) :
    PE X (.Call (.Name x p) (e :: es) [] pos) (tE X.K (eThen f k)) :=
  PE.imp (pe_callB hc hg hm hv ha hn hdb he hpl) fun _ _ _ t => rd_then c t
theorem e_callTy {T : String} {x : Str} {p : Pos} {r : List V → Hp → VK → Prop} {k : KK} (hc : CallR X (.type T) r) (c : Con X.K k r) (hg : Gl X x) (hm : X.mg x = none) (hv : bootBuiltins x = some (.type T)) (ha : PA X (e :: es) (tA X.K f)) (hn : x ≠ "__name__" := by decide) (hdb : (x == ("__debug__" : Str)) = false := by decide) (he : starEach (e :: es) X.env = (false, eval e X.env) :: starEach es X.env := by rfl) (hpl : (backTo pos (starEach es X.env)).any (·.1) = false := by rfl) :
    PE X (.Call (.Name x p) (e :: es) [] pos) (tE X.K (eThen f k)) :=
  PE.imp (pe_callTy hc hg hm hv ha hn hdb he hpl) fun _ _ _ t => rd_then c t
end

abbrev EB := Sl → Option (Bool × Sl)
def tT (K : PySem.W.Frag) (f : EB) : TT := fun σ H Q => ∃ B env b env', EnvR K B H σ env ∧ f env = some (b, env') ∧ ∀ B' H', At K σ B H env B' H' env' → Q b H'
def bT (f : EE) : EB := fun env => match f env with
  | some (.pd (.bool b), e) => some (b, e)
  | _ => none
theorem rd_test {K : PySem.W.Frag} {f : EE} {σ : St} {H : Hp} {Q : Bool → Hp → Prop} (h : tT K (bT f) σ H Q) : tTest (tE K f) σ H Q := by
  obtain ⟨B, env, b, env', en, ev, q⟩ := h
  unfold bT at ev
  split at ev
  · rename_i b' e' h1
    cases ev
    refine ⟨B, env, _, env', en, h1, fun B' H' v a r => ?_⟩
    have r : Rp K B' H' v (.bool b) := r
    cases r
    exact ⟨_, rfl, q _ _ a⟩
  · cases ev
def bAnd (f g : EB) : EB := fun env => match f env with
  | none => none
  | some (b, e) => if b = true then g e else some (false, e)
def bOr (f g : EB) : EB := fun env => match f env with
  | none => none
  | some (b, e) => if b = true then some (true, e) else g e
def bNot (f : EB) : EB := fun env => match f env with
  | none => none
  | some (b, e) => some (!b, e)
theorem tT.later {K : PySem.W.Frag} {f : EB} {σ : St} {H : Hp} {Q : Bool → Hp → Prop} {B B1 : Mset} {H1 : Hp} {env e1 env' : Sl} {b : Bool} (en : EnvR K B H σ env) (a1 : At K σ B H env B1 H1 e1) (ev : f e1 = some (b, env')) (q : ∀ B' H', At K σ B H env B' H' env' → Q b H') : tT K f σ H1 Q :=
  ⟨B1, e1, b, env', a1.en, ev, fun B2 H2 a2 => q B2 H2 (a1.trans en a2)⟩
theorem rd_or {K : PySem.W.Frag} {f g : EB} {σ : St} {H : Hp} {Q : Bool → Hp → Prop} (h : tT K (bOr f g) σ H Q) : tOr (tT K f) (tT K g) σ H Q := by
  obtain ⟨B, env, b, env', en, ev, q⟩ := h
  unfold bOr at ev
  split at ev
  · cases ev
  rename_i b1 e1 h1
  refine ⟨B, env, b1, e1, en, h1, fun B1 H1 a1 => ?_⟩
  cases b1 with
  | false => simp at ev ⊢; exact tT.later en a1 ev q
  | true => simp at ev ⊢; obtain ⟨rfl, rfl⟩ := ev; exact q _ _ a1
theorem rd_not {K : PySem.W.Frag} {f : EB} {σ : St} {H : Hp} {Q : Bool → Hp → Prop} (h : tT K (bNot f) σ H Q) : tNot (tT K f) σ H Q := by
  obtain ⟨B, env, b, env', en, ev, q⟩ := h
  unfold bNot at ev
  split at ev
  · cases ev
  rename_i b1 e1 h1
  cases ev
  exact ⟨B, env, b1, env', en, h1, fun B1 H1 a1 => q _ _ a1⟩
def eB (f : EB) : EE := fun env => match f env with
  | none => none
  | some (b, e) => some (.pd (.bool b), e)
theorem rd_eT {K : PySem.W.Frag} {f : EE} {σ : St} {H : Hp} {Q : VK} (h : tE K (eB (bT f)) σ H Q) : tE K f σ H Q := by
  obtain ⟨B, env, d, env', en, ev, q⟩ := h
  unfold eB bT at ev
  split at ev
  · cases ev
  rename_i b e1 h1
  cases ev
  split at h1
  · rename_i h2
    cases h1
    exact ⟨B, env, _, _, en, h2, q⟩
  · cases h1
theorem rd_andV {K : PySem.W.Frag} {f g : EB} {σ : St} {H : Hp} {Q : VK} (h : tE K (eB (bAnd f g)) σ H Q) : tAndV (tE K (eB f)) (tE K (eB g)) σ H Q := by
  obtain ⟨B, env, d, env', en, ev, q⟩ := h
  unfold eB bAnd at ev
  split at ev
  · cases ev
  rename_i b0 e0 h0
  cases ev
  split at h0
  · cases h0
  rename_i b1 e1 h1
  refine ⟨B, env, .pd (.bool b1), e1, en, by unfold eB; rw [h1], fun B1 H1 v a1 r1 => ?_⟩
  have r1 : Rp K B1 H1 v (.bool b1) := r1
  cases r1
  refine ⟨b1, rfl, ?_⟩
  cases b1 with
  | true => simp at h0 ⊢; exact ⟨B1, e1, _, _, a1.en, by unfold eB; rw [h0], fun B2 H2 v a2 r2 => q B2 H2 v (a1.trans en a2) (RR.from (H₁ := H1) r2 a1.st.liv)⟩
  | false => simp at h0 ⊢; obtain ⟨rfl, rfl⟩ := h0; exact q _ _ _ a1 (.bl _)
theorem rd_orV {K : PySem.W.Frag} {f g : EB} {σ : St} {H : Hp} {Q : VK} (h : tE K (eB (bOr f g)) σ H Q) : tOrV (tE K (eB f)) (tE K (eB g)) σ H Q := by
  obtain ⟨B, env, d, env', en, ev, q⟩ := h
  unfold eB bOr at ev
  split at ev
  · cases ev
  rename_i b0 e0 h0
  cases ev
  split at h0
  · cases h0
  rename_i b1 e1 h1
  refine ⟨B, env, .pd (.bool b1), e1, en, by unfold eB; rw [h1], fun B1 H1 v a1 r1 => ?_⟩
  have r1 : Rp K B1 H1 v (.bool b1) := r1
  cases r1
  refine ⟨b1, rfl, ?_⟩
  cases b1 with
  | false => simp at h0 ⊢; exact ⟨B1, e1, _, _, a1.en, by unfold eB; rw [h0], fun B2 H2 v a2 r2 => q B2 H2 v (a1.trans en a2) (RR.from (H₁ := H1) r2 a1.st.liv)⟩
  | true => simp at h0 ⊢; obtain ⟨rfl, rfl⟩ := h0; exact q _ _ _ a1 (.bl _)
theorem rd_notV {K : PySem.W.Frag} {f : EB} {σ : St} {H : Hp} {Q : VK} (h : tE K (eB (bNot f)) σ H Q) : tNotV (tE K (eB f)) σ H Q := by
  obtain ⟨B, env, d, env', en, ev, q⟩ := h
  unfold eB bNot at ev
  split at ev
  · cases ev
  rename_i b0 e0 h0
  cases ev
  split at h0
  · cases h0
  rename_i b1 e1 h1
  cases h0
  refine ⟨B, env, .pd (.bool b1), _, en, by unfold eB; rw [h1], fun B1 H1 v a1 r1 => ?_⟩
  have r1 : Rp K B1 H1 v (.bool b1) := r1
  cases r1
  exact ⟨b1, rfl, q _ _ _ a1 (.bl _)⟩
def eIf (c : EB) (f g : EE) : EE := fun env => match c env with
  | none => none
  | some (b, e) => if b = true then f e else g e
theorem tE.later {K : PySem.W.Frag} {f : EE} {σ : St} {H : Hp} {Q : VK} {B B1 : Mset} {H1 : Hp} {env e1 env' : Sl} {d : R} (en : EnvR K B H σ env) (a1 : At K σ B H env B1 H1 e1) (ev : f e1 = some (d, env')) (q : ∀ B' H' v, At K σ B H env B' H' env' → RR K H B' H' σ env' v d → Q v H') : tE K f σ H1 Q :=
  ⟨B1, e1, d, env', a1.en, ev, fun B2 H2 v a2 r2 => q B2 H2 v (a1.trans en a2) (r2.from a1.st.liv)⟩
theorem rd_if {K : PySem.W.Frag} {c : EB} {f g : EE} {σ : St} {H : Hp} {Q : VK} (h : tE K (eIf c f g) σ H Q) : tIf (tT K c) (tE K f) (tE K g) σ H Q := by
  obtain ⟨B, env, d, env', en, ev, q⟩ := h
  unfold eIf at ev
  split at ev
  · cases ev
  rename_i b1 e1 h1
  refine ⟨B, env, b1, e1, en, h1, fun B1 H1 a1 => ?_⟩
  cases b1 with
  | true => simp at ev ⊢; exact tE.later en a1 ev q
  | false => simp at ev ⊢; exact tE.later en a1 ev q
section
variable {X : Cx} {a b c : Expr} {rest : List Expr} {pos : Pos} {f g : EB} {fa fb fc : EE}
theorem b_of {t : TE} (h : PT X a (tTest t)) (i : ∀ σ H Q, tE X.K fa σ H Q → t σ H Q) : PT X a (tT X.K (bT fa)) := PT.imp h fun σ H Q q => i _ _ _ (rd_test q)
theorem b_cmp {op : CmpOp} {r : R2} {k : KK} (ho : OpR X (compareOp op) r) (cn : Con X.K k (l2 r)) (ha : PE X a (tE X.K fa)) (hb : PE X b (tE X.K fb)) (hm : behindInMarks op b = false := by rfl) : PT X (.Compare a [op] [b] pos) (tT X.K (bT (eThen (eTwo fa fb) k))) :=
  b_of (pt_cmpR ho ha hb hm) fun _ _ _ t => rd_two cn t
theorem b_or1 (ha : PT X a (tT X.K f)) : PW X (.BoolOp .Or [a] pos) (tT X.K f) := pw_or1 ha
theorem PW.imp {e : Expr} {t t' : TT} (h : PW X e t) (i : ∀ σ H Q, t' σ H Q → t σ H Q) : PW X e t' := ⟨fun w pins s σ H Q I q => h.run w pins s σ H Q I (i σ H Q q)⟩
theorem b_or (ha : PT X a (tT X.K f)) (hb : PW X (.BoolOp .Or (b :: rest) pos) (tT X.K g)) : PW X (.BoolOp .Or (a :: b :: rest) pos) (tT X.K (bOr f g)) := PW.imp (pw_or ha hb) fun _ _ _ t => rd_or t
theorem b_not (ha : PT X a (tT X.K f)) : PT X (.UnaryOp .Not a pos) (tT X.K (bNot f)) := PT.imp (pt_not ha) fun _ _ _ t => rd_not t
theorem e_and1 {op} (ha : PE X a (tE X.K fa)) : PE X (.BoolOp op [a] pos) (tE X.K (eB (bT fa))) := PE.imp (pe_one ha) fun _ _ _ t => rd_eT t
theorem e_bool (ha : PE X a (tE X.K fa)) : PE X a (tE X.K (eB (bT fa))) := PE.imp ha fun _ _ _ t => rd_eT t
theorem e_and (ha : PE X a (tE X.K (eB f))) (hb : PE X (.BoolOp .And (b :: rest) pos) (tE X.K (eB g))) : PE X (.BoolOp .And (a :: b :: rest) pos) (tE X.K (eB (bAnd f g))) := PE.imp (pe_and ha hb) fun _ _ _ t => rd_andV t
theorem e_or (ha : PE X a (tE X.K (eB f))) (hb : PE X (.BoolOp .Or (b :: rest) pos) (tE X.K (eB g))) : PE X (.BoolOp .Or (a :: b :: rest) pos) (tE X.K (eB (bOr f g))) := PE.imp (pe_or ha hb) fun _ _ _ t => rd_orV t
theorem e_not (ha : PE X a (tE X.K (eB f))) : PE X (.UnaryOp .Not a pos) (tE X.K (eB (bNot f))) := PE.imp (pe_not ha) fun _ _ _ t => rd_notV t
theorem e_if (hc : PT X c (tT X.K f)) (ha : PE X a (tE X.K fa)) (hb : PE X b (tE X.K fb)) : PE X (.IfExp c a b pos) (tE X.K (eIf f fa fb)) := PE.imp (pe_ifExp hc ha hb) fun _ _ _ t => rd_if t
end
end T3

end
section
set_option linter.all false
set_option autoImplicit false
set_option Elab.async false
namespace T3
open PySem L2
variable [TabL]

inductive Fl where | nx | bk | ct | rt (d : R)
abbrev SS := Sl → Option (Fl × Sl)
def Bor (σ : St) (env : Sl) (σ' : St) (env' : Sl) : Prop := ∀ (i : Nat) m c, env[i]? = some (some (S.mu m c)) → m ≠ .own → σ'[i]? = σ[i]? ∧ ∃ c', env'[i]? = some (some (S.mu m c'))
structure AtS (K : PySem.W.Frag) (σ : St) (B : Mset) (H : Hp) (env : Sl) (σ' : St) (B' : Mset) (H' : Hp) (env' : Sl) : Prop where
  st : Stp (Wof σ env) B H (Wof σ' env') B' H'
  en : EnvR K B' H' σ' env'
  bo : Bor σ env σ' env'
theorem Bor.refl {σ : St} {env : Sl} : Bor σ env σ env := fun i m c h _ => ⟨rfl, c, h⟩
theorem Bor.trans {σ σ1 σ2 : St} {env env1 env2 : Sl} (a : Bor σ env σ1 env1) (b : Bor σ1 env1 σ2 env2) : Bor σ env σ2 env2 := fun i m c h hm => by
  obtain ⟨h1, c1, h2⟩ := a i m c h hm
  obtain ⟨h3, h4⟩ := b i m c1 h2 hm
  exact ⟨h3.trans h1, h4⟩
theorem AtS.refl {K : PySem.W.Frag} {σ : St} {B : Mset} {H : Hp} {env : Sl} (e : EnvR K B H σ env) : AtS K σ B H env σ B H env := ⟨.refl, e, .refl⟩
theorem AtS.trans {K : PySem.W.Frag} {σ σ1 σ2 : St} {B B1 B2 : Mset} {H H1 H2 : Hp} {env env1 env2 : Sl} (e : EnvR K B H σ env) (a : AtS K σ B H env σ1 B1 H1 env1) (b : AtS K σ1 B1 H1 env1 σ2 B2 H2 env2) : AtS K σ B H env σ2 B2 H2 env2 :=
  ⟨a.st.trans b.st e.wb e.dom, b.en, a.bo.trans b.bo⟩
def Fin (K : PySem.W.Frag) (D : Ends) (H : Hp) (fl : Fl) (B' : Mset) (σ' : St) (H' : Hp) (env' : Sl) : Prop := match fl with
  | .nx => D.nx σ' H'
  | .bk => D.bk σ' H'
  | .ct => D.ct σ' H'
  | .rt d => ∀ v, RR K H B' H' σ' env' v d → D.rt v H'
def tS (K : PySem.W.Frag) (f : SS) : TS := fun D σ H => ∃ B env fl env', EnvR K B H σ env ∧ f env = some (fl, env') ∧ ∀ B' σ' H', AtS K σ B H env σ' B' H' env' → Fin K D H fl B' σ' H' env'
def sPass : SS := fun env => some (.nx, env)
def sSeq (f g : SS) : SS := fun env => match f env with
  | none => none
  | some (.nx, e1) => g e1
  | some (fl, e1) => some (fl, e1)
theorem tS.later {K : PySem.W.Frag} {f : SS} {D : Ends} {σ σ1 : St} {H H1 : Hp} {B B1 : Mset} {env e1 env' : Sl} {fl : Fl} (en : EnvR K B H σ env) (a1 : AtS K σ B H env σ1 B1 H1 e1) (ev : f e1 = some (fl, env')) (q : ∀ B' σ' H', AtS K σ B H env σ' B' H' env' → Fin K D H fl B' σ' H' env') : tS K f D σ1 H1 := by
  refine ⟨B1, e1, fl, env', a1.en, ev, fun B2 σ2 H2 a2 => ?_⟩
  have h := q B2 σ2 H2 (a1.trans en a2)
  cases fl with
  | nx => exact h
  | bk => exact h
  | ct => exact h
  | rt d => exact fun v r => h v (r.from a1.st.liv)
theorem rd_seq {K : PySem.W.Frag} {f g : SS} {D : Ends} {σ : St} {H : Hp} (h : tS K (sSeq f g) D σ H) : tSeq (tS K f) (tS K g) D σ H := by
  obtain ⟨B, env, fl, env', en, ev, q⟩ := h
  unfold sSeq at ev
  split at ev
  · cases ev
  · rename_i e1 h1
    exact ⟨B, env, .nx, e1, en, h1, fun B1 σ1 H1 a1 => tS.later en a1 ev q⟩
  · rename_i fl1 e1 hn h1
    cases ev
    refine ⟨B, env, fl, env', en, h1, fun B1 σ1 H1 a1 => ?_⟩
    have h := q B1 σ1 H1 a1
    cases fl with
    | nx => exact (hn rfl).elim
    | bk => exact h
    | ct => exact h
    | rt d => exact h
theorem rd_pass {K : PySem.W.Frag} {D : Ends} {σ : St} {H : Hp} (h : tS K sPass D σ H) : tNext D σ H := by
  obtain ⟨B, env, fl, env', en, ev, q⟩ := h
  cases ev
  exact q B σ H (.refl en)
theorem At.s {K : PySem.W.Frag} {σ : St} {B B1 : Mset} {H H1 : Hp} {env env1 : Sl} (a : At K σ B H env B1 H1 env1) : AtS K σ B H env σ B1 H1 env1 :=
  ⟨a.st, a.en, fun i m c h _ => ⟨rfl, a.ks i m c h⟩⟩
def sIf (c : EB) (f g : SS) : SS := fun env => match c env with
  | none => none
  | some (b, e) => if b = true then f e else g e
theorem rd_ifS {K : PySem.W.Frag} {c : EB} {f g : SS} {D : Ends} {σ : St} {H : Hp} (h : tS K (sIf c f g) D σ H) : tIfS (tT K c) (tS K f) (tS K g) D σ H := by
  obtain ⟨B, env, fl, env', en, ev, q⟩ := h
  unfold sIf at ev
  split at ev
  · cases ev
  rename_i b1 e1 h1
  refine ⟨B, env, b1, e1, en, h1, fun B1 H1 a1 => ?_⟩
  cases b1 with
  | true => simp at ev ⊢; exact tS.later en a1.s ev q
  | false => simp at ev ⊢; exact tS.later en a1.s ev q
def sRet (f : EE) : SS := fun env => match f env with
  | none => none
  | some (d, e) => some (.rt d, e)
theorem rd_ret {K : PySem.W.Frag} {f : EE} {D : Ends} {σ : St} {H : Hp} (h : tS K (sRet f) D σ H) : tRet (tE K f) D σ H := by
  obtain ⟨B, env, fl, env', en, ev, q⟩ := h
  unfold sRet at ev
  split at ev
  · cases ev
  rename_i d e1 h1
  cases ev
  exact ⟨B, env, d, _, en, h1, fun B1 H1 v a1 r1 => q B1 σ H1 a1.s v r1⟩
def sExpr (f : EE) : SS := fun env => match f env with
  | none => none
  | some (_, e) => some (.nx, e)
theorem rd_expr {K : PySem.W.Frag} {f : EE} {D : Ends} {σ : St} {H : Hp} (h : tS K (sExpr f) D σ H) : tDrop (tE K f) D σ H := by
  obtain ⟨B, env, fl, env', en, ev, q⟩ := h
  unfold sExpr at ev
  split at ev
  · cases ev
  rename_i d e1 h1
  cases ev
  exact ⟨B, env, d, _, en, h1, fun B1 H1 v a1 r1 => q B1 σ H1 a1.s⟩
def sNever : SS := fun _ => none
theorem rd_never {K : PySem.W.Frag} {D : Ends} {σ : St} {H : Hp} (h : tS K sNever D σ H) : tNever D σ H := by
  obtain ⟨B, env, fl, env', en, ev, q⟩ := h
  cases ev

def free (env : Sl) (i : Nat) : Bool := match env[i]? with
  | some (some (.mu .own _)) => true
  | some (some (.pd _)) => true
  | some (some (.nt _)) => true
  | some none => true
  | _ => false
def setR (i : Nat) (d : R) (env : Sl) : Option Sl := if free env i = true then match d with
    | .pd x => some (env.set i (some (.pd x)))
    | .nt x => some (env.set i (some (.nt x)))
    | .tmp c => some (env.set i (some (.mu .own c)))
    | .var _ => none
  else none
theorem free_ne {env : Sl} {i : Nat} (h : free env i = true) : i < env.length ∧ ∀ m c, env[i]? = some (some (S.mu m c)) → m = .own := by
  unfold free at h
  split at h
  · rename_i h1; refine ⟨(List.getElem?_eq_some_iff.mp h1).1, fun m c e => ?_⟩; rw [h1] at e; cases e; rfl
  · rename_i h1; refine ⟨(List.getElem?_eq_some_iff.mp h1).1, fun m c e => ?_⟩; rw [h1] at e; cases e
  · rename_i h1; refine ⟨(List.getElem?_eq_some_iff.mp h1).1, fun m c e => ?_⟩; rw [h1] at e; cases e
  · rename_i h1; refine ⟨(List.getElem?_eq_some_iff.mp h1).1, fun m c e => ?_⟩; rw [h1] at e; cases e
  · cases h
theorem get_set {α : Type} {l : List α} {i j : Nat} {x y : α} (h : (l.set i x)[j]? = some y) : (i = j ∧ y = x) ∨ (i ≠ j ∧ l[j]? = some y) := by
  by_cases e : i = j
  · subst e
    by_cases hl : i < l.length
    · rw [List.getElem?_set_self hl] at h; cases h; exact .inl ⟨rfl, rfl⟩
    · rw [List.getElem?_eq_none (by simpa using hl)] at h; cases h
  · rw [List.getElem?_set_ne e] at h; exact .inr ⟨e, h⟩
theorem AtS.set {K : PySem.W.Frag} {σ₀ σ : St} {B B1 : Mset} {H H1 : Hp} {env e1 e2 : Sl} {i : Nat} {v : V} {d : R} (en : EnvR K B H σ₀ env) (a : AtS K σ₀ B H env σ B1 H1 e1) (r : RA K H B1 H1 σ e1 v d) (hs : setR i d e1 = some e2) : AtS K σ₀ B H env (σ.set i (some v)) B1 H1 e2 := by
  unfold setR at hs
  split at hs
  · rename_i hf
    obtain ⟨hi, hm⟩ := free_ne hf
    have hiσ : i < σ.length := by rw [← a.en.len]; exact hi
    have bor : ∀ x, Bor σ₀ env (σ.set i (some v)) (e1.set i x) := fun x j m c h hn => by
      obtain ⟨h1, c', h2⟩ := a.bo j m c h hn
      have hj : i ≠ j := fun z => by subst z; exact hn (hm _ _ h2)
      exact ⟨by rw [List.getElem?_set_ne hj]; exact h1, c', by rw [List.getElem?_set_ne hj]; exact h2⟩
    cases d with
    | var _ => cases hs
    | pd x =>
      cases hs
      have wsub : ∀ q, Wof (σ.set i (some v)) (e1.set i (some (.pd x))) q → Wof σ e1 q := by
        rintro q ⟨j, m, c, h1, h2, h3⟩
        rcases get_set h1 with ⟨e, e'⟩ | ⟨e, h1⟩
        · cases e'
        · rw [List.getElem?_set_ne e] at h3; exact ⟨j, m, c, h1, h2, h3⟩
      refine ⟨⟨a.st.keep, a.st.new, a.st.old, fun q w => a.st.sub q (wsub q w), a.st.liv⟩, ⟨by simp [a.en.len], fun j y h => ?_, fun j y h => ?_, fun j m c h => ?_, fun j k m n c c' q h1 h2 h3 h4 => ?_, a.en.dom, a.en.tb⟩, bor _⟩
      · rcases get_set h with ⟨e, e'⟩ | ⟨e, h⟩
        · cases e'; subst e; exact ⟨v, by rw [List.getElem?_set_self hiσ], r⟩
        · obtain ⟨w, h1, h2⟩ := a.en.pd j y h
          exact ⟨w, by rw [List.getElem?_set_ne e]; exact h1, h2⟩
      · rcases get_set h with ⟨e, e'⟩ | ⟨e, h⟩
        · cases e'
        · obtain ⟨w, h1, h2⟩ := a.en.nt j y h
          exact ⟨w, by rw [List.getElem?_set_ne e]; exact h1, h2⟩
      · rcases get_set h with ⟨e, e'⟩ | ⟨e, h⟩
        · cases e'
        · obtain ⟨w, h1, h2⟩ := a.en.mu j m c h
          exact ⟨w, by rw [List.getElem?_set_ne e]; exact h1, h2⟩
      · rcases get_set h1 with ⟨e, e'⟩ | ⟨e, h1⟩
        · cases e'
        rcases get_set h2 with ⟨f, e'⟩ | ⟨f, h2⟩
        · cases e'
        rw [List.getElem?_set_ne e] at h3
        rw [List.getElem?_set_ne f] at h4
        exact a.en.inj j k m n c c' q h1 h2 h3 h4
    | nt x =>
      cases hs
      obtain ⟨p, rfl, r⟩ := r
      have wsub : ∀ q, Wof (σ.set i (some (.ref p))) (e1.set i (some (.nt x))) q → Wof σ e1 q := by
        rintro q ⟨j, m, c, h1, h2, h3⟩
        rcases get_set h1 with ⟨e, e'⟩ | ⟨e, h1⟩
        · cases e'
        · rw [List.getElem?_set_ne e] at h3; exact ⟨j, m, c, h1, h2, h3⟩
      refine ⟨⟨a.st.keep, a.st.new, a.st.old, fun q w => a.st.sub q (wsub q w), a.st.liv⟩, ⟨by simp [a.en.len], fun j y h => ?_, fun j y h => ?_, fun j m c h => ?_, fun j k m n c c' q h1 h2 h3 h4 => ?_, a.en.dom, a.en.tb⟩, bor _⟩
      · rcases get_set h with ⟨e, e'⟩ | ⟨e, h⟩
        · cases e'
        · obtain ⟨w, h1, h2⟩ := a.en.pd j y h
          exact ⟨w, by rw [List.getElem?_set_ne e]; exact h1, h2⟩
      · rcases get_set h with ⟨e, e'⟩ | ⟨e, h⟩
        · cases e'; subst e; exact ⟨p, by rw [List.getElem?_set_self hiσ], r⟩
        · obtain ⟨w, h1, h2⟩ := a.en.nt j y h
          exact ⟨w, by rw [List.getElem?_set_ne e]; exact h1, h2⟩
      · rcases get_set h with ⟨e, e'⟩ | ⟨e, h⟩
        · cases e'
        · obtain ⟨w, h1, h2⟩ := a.en.mu j m c h
          exact ⟨w, by rw [List.getElem?_set_ne e]; exact h1, h2⟩
      · rcases get_set h1 with ⟨e, e'⟩ | ⟨e, h1⟩
        · cases e'
        rcases get_set h2 with ⟨f, e'⟩ | ⟨f, h2⟩
        · cases e'
        rw [List.getElem?_set_ne e] at h3
        rw [List.getElem?_set_ne f] at h4
        exact a.en.inj j k m n c c' q h1 h2 h3 h4
    | tmp t =>
      cases hs
      obtain ⟨p, rfl, h0, hb, hc, hns⟩ := r
      refine ⟨⟨a.st.keep, a.st.new, a.st.old, fun q w => ?_, a.st.liv⟩, ⟨by simp [a.en.len], fun j y h => ?_, fun j y h => ?_, fun j m c h => ?_, fun j k m n c c' q h1 h2 h3 h4 => ?_, a.en.dom, a.en.tb⟩, bor _⟩
      · obtain ⟨j, m, c, h1, h2, h3⟩ := w
        rcases get_set h1 with ⟨e, e'⟩ | ⟨e, h1⟩
        · subst e
          rw [List.getElem?_set_self hiσ] at h3
          cases h3
          exact .inr h0
        · rw [List.getElem?_set_ne e] at h3; exact a.st.sub q ⟨j, m, c, h1, h2, h3⟩
      · rcases get_set h with ⟨e, e'⟩ | ⟨e, h⟩
        · cases e'
        · obtain ⟨w, h1, h2⟩ := a.en.pd j y h
          exact ⟨w, by rw [List.getElem?_set_ne e]; exact h1, h2⟩
      · rcases get_set h with ⟨e, e'⟩ | ⟨e, h⟩
        · cases e'
        · obtain ⟨w, h1, h2⟩ := a.en.nt j y h
          exact ⟨w, by rw [List.getElem?_set_ne e]; exact h1, h2⟩
      · rcases get_set h with ⟨e, e'⟩ | ⟨e, h⟩
        · cases e'; subst e; exact ⟨p, by rw [List.getElem?_set_self hiσ], hb, hc⟩
        · obtain ⟨w, h1, h2⟩ := a.en.mu j m c h
          exact ⟨w, by rw [List.getElem?_set_ne e]; exact h1, h2⟩
      · rcases get_set h1 with ⟨e, e'⟩ | ⟨e, h1⟩
        · subst e
          rw [List.getElem?_set_self hiσ] at h3
          cases h3
          rcases get_set h2 with ⟨f, e''⟩ | ⟨f, h2⟩
          · exact f
          · rw [List.getElem?_set_ne f] at h4
            exact absurd h4 (hns _ _ _ h2)
        · rw [List.getElem?_set_ne e] at h3
          rcases get_set h2 with ⟨f, e''⟩ | ⟨f, h2⟩
          · subst f
            rw [List.getElem?_set_self hiσ] at h4
            cases h4
            exact absurd h3 (hns _ _ _ h1)
          · rw [List.getElem?_set_ne f] at h4
            exact a.en.inj j k m n c c' q h1 h2 h3 h4
  · cases hs
def sSet (i : Nat) (f : EE) : SS := fun env => match f env with
  | none => none
  | some (d, e) => match setR i d e with
    | none => none
    | some e2 => some (.nx, e2)
theorem rd_set {K : PySem.W.Frag} {i : Nat} {f : EE} {D : Ends} {σ : St} {H : Hp} (h : tS K (sSet i f) D σ H) : tAsg (tE K f) (gName i) D σ H := by
  obtain ⟨B, env, fl, env', en, ev, q⟩ := h
  unfold sSet at ev
  split at ev
  · cases ev
  rename_i d e1 h1
  split at ev
  · cases ev
  rename_i e2 h2
  cases ev
  exact ⟨B, env, d, _, en, h1, fun B1 H1 v a1 r1 => q B1 _ H1 (AtS.set en a1.s r1.ra h2)⟩
abbrev GG := PyData → Sl → Option Sl
def tG (K : PySem.W.Frag) (g : GG) : TG := fun v σ H Q => ∃ B env x env', EnvR K B H σ env ∧ Rp K B H v x ∧ g x env = some env' ∧ ∀ B' σ' H', AtS K σ B H env σ' B' H' env' → Q σ' H'
def gN (i : Nat) : GG := fun x env => setR i (.pd x) env
theorem rd_gN {K : PySem.W.Frag} {i : Nat} {v : V} {σ : St} {H : Hp} {Q : St → Hp → Prop} (h : tG K (gN i) v σ H Q) : gName i v σ H Q := by
  obtain ⟨B, env, x, env', en, r, ev, q⟩ := h
  exact q B _ H (AtS.set en (.refl en) (d := .pd x) r ev)
abbrev GGs := List PyData → Sl → Option Sl
def tGs (K : PySem.W.Frag) (g : GGs) : TGs := fun vs σ H Q => ∃ B env xs env', EnvR K B H σ env ∧ RpA K B H vs xs ∧ g xs env = some env' ∧ ∀ B' σ' H', AtS K σ B H env σ' B' H' env' → Q σ' H'
def gNl : GGs := fun xs env => match xs with
  | [] => some env
  | _ => none
def gCn (g : GG) (gs : GGs) : GGs := fun xs env => match xs with
  | [] => none
  | x :: xs => match g x env with
    | none => none
    | some e => gs xs e
theorem rd_gNl {K : PySem.W.Frag} {vs : List V} {σ : St} {H : Hp} {Q : St → Hp → Prop} (h : tGs K gNl vs σ H Q) : gNil vs σ H Q := by
  obtain ⟨B, env, x, env', en, r, ev, q⟩ := h
  unfold gNl at ev
  split at ev
  · cases ev; cases r; exact ⟨rfl, q B _ H (.refl en)⟩
  · cases ev
theorem rd_gCn {K : PySem.W.Frag} {g : GG} {gs : GGs} {vs : List V} {σ : St} {H : Hp} {Q : St → Hp → Prop} (h : tGs K (gCn g gs) vs σ H Q) : gCons (tG K g) (tGs K gs) vs σ H Q := by
  obtain ⟨B, env, xs, env', en, r, ev, q⟩ := h
  unfold gCn at ev
  split at ev
  · cases ev
  rename_i x xs
  split at ev
  · cases ev
  rename_i e1 h1
  cases r with
  | cons r1 r2 =>
    exact ⟨_, _, rfl, B, env, x, e1, en, r1, h1, fun B1 σ1 H1 a1 => ⟨B1, e1, xs, env', a1.en, r2.grow (a1.st.grow en.wb), ev, fun B2 σ2 H2 a2 => q B2 σ2 H2 (a1.trans en a2)⟩⟩
def gT (n : Nat) (gs : GGs) : GG := fun x env => match x with
  | .tuple xs => if xs.length = n then gs xs env else none
  | _ => none
theorem rd_gT {K : PySem.W.Frag} {n : Nat} {gs : GGs} {v : V} {σ : St} {H : Hp} {Q : St → Hp → Prop} (h : tG K (gT n gs) v σ H Q) : gTup K n (tGs K gs) v σ H Q := by
  obtain ⟨B, env, x, env', en, r, ev, q⟩ := h
  unfold gT at ev
  split at ev
  · split at ev
    · rename_i xs hl
      obtain ⟨a, vs, rfl, h1, h2⟩ := Cn.tuple (.rp r)
      exact ⟨a, vs, rfl, h1, by rw [h2.length]; exact hl, B, env, xs, env', en, h2, ev, q⟩
    · cases ev
  · cases ev
def putL (j : Nat) (i : Int) (x : PyData) (env : Sl) : Option Sl := match env[j]? with
  | some (some (.mu m (.ls xs))) => if m = .fro then none else match ixN xs.length i with
    | none => none
    | some k => some (env.set j (some (.mu m (.ls (xs.set k x)))))
  | _ => none
theorem AtS.write {K : PySem.W.Frag} {σ : St} {B : Mset} {H : Hp} {env : Sl} {j : Nat} {m : Md} {c c' : Ct} {a : Addr} {o : HO} (en : EnvR K B H σ env) (hj : env[j]? = some (some (.mu m c))) (hm : m ≠ .fro) (ha : σ[j]? = some (some (.ref a))) (ni : ∀ o', H a = some o' → ¬ Imm o')
    (hc : ∀ H', (∀ q o', q ≠ a → H q = some o' → H' q = some o') → H' a = some o → Grow B H B H' → CtR K B H' a c') : Grow B H B (upd H a o) ∧ At K σ B H env B (upd H a o) (env.set j (some (.mu m c'))) := by
  have hjl : j < env.length := (List.getElem?_eq_some_iff.mp hj).1
  obtain ⟨a', ha', hb, _⟩ := en.mu j m c hj
  rw [ha] at ha'
  cases ha'
  have w : Wof σ env a := ⟨j, m, c, hj, hm, ha⟩
  have g : Grow B H B (upd H a o) := ⟨fun q o' h n => by
    by_cases e : q = a
    · subst e
      rcases n with n | n
      · exact absurd hb n.1
      · exact absurd n (ni _ h)
    · rw [upd_ne e]; exact h, fun q h => .inl h⟩
  refine ⟨g, ⟨fun q o' h n => ?_, fun q h => .inl h, fun q h _ => h, fun q w' => ?_, fun q h => ?_⟩, ⟨by simp [en.len], fun i x h => ?_, fun i x h => ?_, fun i m' d h => ?_, fun i k m1 m2 c1 c2 q h1 h2 h3 h4 => ?_, fun q h => ?_, en.tb.on (fun q o' h n => by rw [upd_ne (fun e => n (by rw [e]; exact hb))]; exact h) g.new⟩, fun i m1 c1 h => ?_, fun i m1 c1 h => ?_⟩
  · by_cases e : q = a
    · subst e
      rcases n with n | n
      · exact absurd w n.1
      · exact absurd n (ni _ h)
    · rw [upd_ne e]; exact h
  · obtain ⟨i, m1, c1, h1, h2, h3⟩ := w'
    rcases get_set h1 with ⟨e, e'⟩ | ⟨e, h1⟩
    · subst e; rw [ha] at h3; cases h3; exact .inl w
    · exact .inl ⟨i, m1, c1, h1, h2, h3⟩
  · by_cases e : q = a
    · subst e; rw [upd_same] at h; cases h
    · rw [upd_ne e] at h; exact h
  · rcases get_set h with ⟨e, e'⟩ | ⟨e, h⟩
    · cases e'
    · obtain ⟨v, h1, h2⟩ := en.pd i x h
      exact ⟨v, h1, h2.grow g⟩
  · rcases get_set h with ⟨e, e'⟩ | ⟨e, h⟩
    · cases e'
    · obtain ⟨v, h1, h2⟩ := en.nt i x h
      exact ⟨v, h1, h2.grow g⟩
  · rcases get_set h with ⟨e, e'⟩ | ⟨e, h⟩
    · cases e'
      subst e
      exact ⟨a, ha, hb, hc _ (fun q o' n h => by rw [upd_ne n]; exact h) upd_same g⟩
    · obtain ⟨b, h1, h2, h3⟩ := en.mu i m' d h
      refine ⟨b, h1, h2, ?_⟩
      have nb : b ≠ a := fun z => by subst z; exact e (en.inj j i m m' c d b hj h ha h1)
      cases d with
      | ls xs => obtain ⟨vs, h4, h5⟩ := h3; exact ⟨vs, by rw [upd_ne nb]; exact h4, h5.grow g⟩
      | dk xs => obtain ⟨vs, h4, h5⟩ := h3; exact ⟨vs, by rw [upd_ne nb]; exact h4, h5.grow g⟩
      | dn xs => obtain ⟨vs, h4, h5⟩ := h3; exact ⟨vs, by rw [upd_ne nb]; exact h4, h5.grow g⟩
  · have f : ∀ {i : Nat} {m1 : Md} {c1 : Ct}, (env.set j (some (S.mu m c')))[i]? = some (some (.mu m1 c1)) → ∃ m2 c2, env[i]? = some (some (.mu m2 c2)) := fun {i m1 c1} h => by
      rcases get_set h with ⟨e, e'⟩ | ⟨e, h⟩
      · subst e; exact ⟨m, c, hj⟩
      · exact ⟨_, _, h⟩
    obtain ⟨_, _, g1⟩ := f h1
    obtain ⟨_, _, g2⟩ := f h2
    exact en.inj i k _ _ _ _ q g1 g2 h3 h4
  · by_cases e : q = a
    · subst e; exact ⟨_, upd_same⟩
    · rw [upd_ne e]; exact en.dom q h
  · rcases get_set h with ⟨e, e'⟩ | ⟨e, h⟩
    · cases e'; subst e; exact ⟨c, hj⟩
    · exact ⟨_, h⟩
  · by_cases e : j = i
    · subst e; rw [hj] at h; cases h; exact ⟨c', by rw [List.getElem?_set_self hjl]⟩
    · exact ⟨c1, by rw [List.getElem?_set_ne e]; exact h⟩
end T3

end
section
set_option linter.all false
set_option autoImplicit false
set_option Elab.async false
namespace T3
open PySem L2
variable [TabL]

structure Wk (K : PySem.W.Frag) (J : It) (pr : Mset) (G : Mset → Hp → Prop) (xs : List PyData) : Prop where
  go : ∀ i B H, G B H → i < xs.length → J.go i H
  stop : ∀ B H, G B H → J.stop xs.length H
  yld : ∀ (i : Nat) B H x H' d, G B H → xs[i]? = some d → J.yld i H x H' → (H' = H ∨ (∃ T vs, H T = none ∧ H' = upd H T (.tup vs)) ∨ ∃ T vs T2 vs2, H T = none ∧ upd H T (.tup vs) T2 = none ∧ H' = upd (upd H T (.tup vs)) T2 (.tup vs2)) ∧ Rp K B H' x d
  keep : ∀ W B H W' B' H', G B H → Stp W B H W' B' H' → (∀ a, W a → B a) → (∀ a, pr a → ¬ W a) → G B' H'

abbrev Lk := Option (Nat × Md)
abbrev EI := Sl → Option (List PyData × Lk × Sl)
def Locked (lk : Lk) (e e' : Sl) : Prop := match lk with
  | none => e' = e
  | some (i, m) => ∃ c, e[i]? = some (some (S.mu m c)) ∧ e' = e.set i (some (.mu .fro c))
def unlock (lk : Lk) (env : Sl) : Sl := match lk with
  | none => env
  | some (i, m) => match env[i]? with
    | some (some (.mu _ c)) => env.set i (some (.mu m c))
    | _ => env
def tI (K : PySem.W.Frag) (f : EI) : TI := fun σ H R => ∃ B env xs lk env', EnvR K B H σ env ∧ f env = some (xs, lk, env') ∧
  ∀ B' H' J pr G e1, At K σ B H env B' H' e1 → Locked lk e1 env' → Wk K J pr G xs → G B' H' → (∀ a, pr a → ¬ Wof σ env' a ∧ ∃ o, H' a = some o) → R J H'

theorem EnvR.mode {K : PySem.W.Frag} {B : Mset} {H : Hp} {σ : St} {env : Sl} {i : Nat} {m m' : Md} {c : Ct} (en : EnvR K B H σ env) (h : env[i]? = some (some (.mu m c))) : EnvR K B H σ (env.set i (some (.mu m' c))) := by
  have f : ∀ {j : Nat} {m1 : Md} {c1 : Ct}, (env.set i (some (S.mu m' c)))[j]? = some (some (.mu m1 c1)) → ∃ m2, env[j]? = some (some (.mu m2 c1)) := fun {j m1 c1} h1 => by
    rcases get_set h1 with ⟨e, e'⟩ | ⟨e, h1⟩
    · cases e'; subst e; exact ⟨m, h⟩
    · exact ⟨_, h1⟩
  refine ⟨by simp [en.len], fun j x h1 => ?_, fun j x h1 => ?_, fun j m1 c1 h1 => ?_, fun j k m1 m2 c1 c2 a h1 h2 h3 h4 => ?_, en.dom, en.tb⟩
  · rcases get_set h1 with ⟨e, e'⟩ | ⟨e, h1⟩
    · cases e'
    · exact en.pd j x h1
  · rcases get_set h1 with ⟨e, e'⟩ | ⟨e, h1⟩
    · cases e'
    · exact en.nt j x h1
  · obtain ⟨m2, h2⟩ := f h1
    exact en.mu j m2 c1 h2
  · obtain ⟨_, g1⟩ := f h1
    obtain ⟨_, g2⟩ := f h2
    exact en.inj j k _ _ _ _ a g1 g2 h3 h4
theorem Locked.en {K : PySem.W.Frag} {B : Mset} {H : Hp} {σ : St} {lk : Lk} {e e' : Sl} (l : Locked lk e e') (en : EnvR K B H σ e) : EnvR K B H σ e' := by
  cases lk with
  | none => cases l; exact en
  | some p => obtain ⟨i, m⟩ := p; obtain ⟨c, h1, rfl⟩ := l; exact en.mode h1
theorem Locked.sub {σ : St} {lk : Lk} {e e' : Sl} (l : Locked lk e e') : ∀ a, Wof σ e' a → Wof σ e a := by
  cases lk with
  | none => cases l; exact fun _ h => h
  | some p =>
    obtain ⟨i, m⟩ := p
    obtain ⟨c, h1, rfl⟩ := l
    rintro a ⟨j, m1, c1, h2, h3, h4⟩
    rcases get_set h2 with ⟨e, e'⟩ | ⟨e, h2⟩
    · cases e'; exact absurd rfl h3
    · exact ⟨j, m1, c1, h2, h3, h4⟩
theorem Locked.stp {W B B1 : Mset} {H H1 : Hp} {σ : St} {lk : Lk} {e e' : Sl} (l : Locked lk e e') (s : Stp W B H (Wof σ e) B1 H1) : Stp W B H (Wof σ e') B1 H1 := ⟨s.keep, s.new, s.old, fun a h => s.sub a (l.sub a h), s.liv⟩
theorem AtS.through {K : PySem.W.Frag} {σ σ2 : St} {B B1 B2 : Mset} {H H1 H2 : Hp} {env e1 e1' e2 : Sl} {lk : Lk} (en : EnvR K B H σ env) (a : At K σ B H env B1 H1 e1) (l : Locked lk e1 e1') (b : AtS K σ B1 H1 e1' σ2 B2 H2 e2) : AtS K σ B H env σ2 B2 H2 (unlock lk e2) := by
  have t : Stp (Wof σ env) B H (Wof σ2 e2) B2 H2 := (l.stp a.st).trans b.st en.wb en.dom
  cases lk with
  | none =>
    cases l
    exact ⟨t, b.en, fun i m c h hm => by
      obtain ⟨c1, h1⟩ := a.ks i m c h
      exact b.bo i m c1 h1 hm⟩
  | some p =>
    obtain ⟨i, m⟩ := p
    obtain ⟨c, h1, rfl⟩ := l
    have hi : i < e1.length := (List.getElem?_eq_some_iff.mp h1).1
    obtain ⟨hσ, c2, h2⟩ := b.bo i .fro c (by rw [List.getElem?_set_self hi]) (by decide)
    have hi2 : i < e2.length := (List.getElem?_eq_some_iff.mp h2).1
    have eu : unlock (some (i, m)) e2 = e2.set i (some (.mu m c2)) := by simp only [unlock, h2]
    rw [eu]
    refine ⟨⟨t.keep, t.new, t.old, fun q w => ?_, t.liv⟩, b.en.mode h2, fun j n d h hn => ?_⟩
    · obtain ⟨j, m1, d, g1, g2, g3⟩ := w
      rcases get_set g1 with ⟨e, e'⟩ | ⟨e, g1⟩
      · cases e'
        subst e
        rw [hσ] at g3
        exact a.st.sub q ⟨i, m, c, h1, g2, g3⟩
      · exact t.sub q ⟨j, m1, d, g1, g2, g3⟩
    · obtain ⟨d1, g1⟩ := a.ks j n d h
      by_cases e : i = j
      · subst e
        rw [h1] at g1
        cases g1
        exact ⟨hσ, c2, by rw [List.getElem?_set_self hi2]⟩
      · obtain ⟨g2, d2, g3⟩ := b.bo j n d1 (by rw [List.getElem?_set_ne e]; exact g1) hn
        exact ⟨g2, d2, by rw [List.getElem?_set_ne e]; exact g3⟩
theorem RR.relock {K : PySem.W.Frag} {H₀ H : Hp} {B : Mset} {σ : St} {env : Sl} {v : V} {d : R} {lk : Lk} (h : RR K H₀ B H σ env v d) : RR K H₀ B H σ (T3.unlock lk env) v d := by
  cases lk with
  | none => exact h
  | some p =>
    obtain ⟨i, m⟩ := p
    simp only [T3.unlock]
    split
    · rename_i m1 c h1
      have hi := (List.getElem?_eq_some_iff.mp h1).1
      cases d with
      | pd x => exact h
      | nt x => exact h
      | tmp t =>
        obtain ⟨a, e, h2, h3, h4, h5⟩ := h
        refine ⟨a, e, h2, h3, h4, fun j n d g => ?_⟩
        rcases get_set g with ⟨e, e'⟩ | ⟨e, g⟩
        · subst e; exact h5 i _ _ h1
        · exact h5 j n d g
      | var j =>
        obtain ⟨h2, n, d, h3⟩ := h
        refine ⟨h2, ?_⟩
        by_cases q : i = j
        · subst q; exact ⟨m, c, by rw [List.getElem?_set_self hi]⟩
        · exact ⟨n, d, by rw [List.getElem?_set_ne q]; exact h3⟩
    · exact h
theorem At.pair {K : PySem.W.Frag} {σ : St} {B : Mset} {H : Hp} {env : Sl} {T : Addr} {vs : List V} (en : EnvR K B H σ env) (nT : H T = none) : At K σ B H env B (upd H T (.tup vs)) env := by
  have ne : ∀ {q o'}, H q = some o' → q ≠ T := fun {q o'} h e => by rw [e, nT] at h; cases h
  have g : Grow B H B (upd H T (.tup vs)) := ⟨fun q o' h _ => by rw [upd_ne (ne h)]; exact h, fun q h => .inl h⟩
  refine ⟨⟨fun q o' h c => by rw [upd_ne (ne h)]; exact h, fun q h => .inl h, fun q h _ => h, fun q h => .inl h, fun q h => ?_⟩, ⟨en.len, fun i x h => ?_, fun i x h => ?_, fun i m c h => ?_, en.inj, fun q h => ?_, en.tb.on (fun q o' h _ => by rw [upd_ne (ne h)]; exact h) g.new⟩, fun i m c h => ⟨c, h⟩, fun i m c h => ⟨c, h⟩⟩
  · by_cases e : q = T
    · rw [e]; exact nT
    · rw [upd_ne e] at h; exact h
  · obtain ⟨v, h1, h2⟩ := en.pd i x h
    exact ⟨v, h1, h2.grow g⟩
  · obtain ⟨v, h1, h2⟩ := en.nt i x h
    exact ⟨v, h1, h2.grow g⟩
  · obtain ⟨q, h1, h2, h3⟩ := en.mu i m c h
    refine ⟨q, h1, h2, ?_⟩
    cases c with
    | ls xs => obtain ⟨vs, h4, h5⟩ := h3; exact ⟨vs, by rw [upd_ne (ne h4)]; exact h4, h5.grow g⟩
    | dk xs => obtain ⟨vs, h4, h5⟩ := h3; exact ⟨vs, by rw [upd_ne (ne h4)]; exact h4, h5.grow g⟩
    | dn xs => obtain ⟨vs, h4, h5⟩ := h3; exact ⟨vs, by rw [upd_ne (ne h4)]; exact h4, h5.grow g⟩
  · obtain ⟨o', ho⟩ := en.dom q h
    exact ⟨o', by rw [upd_ne (ne ho)]; exact ho⟩

def forL (g : GG) (body : SS) : List PyData → SS
  | [], env => some (.nx, env)
  | x :: xs, env => match g x env with
    | none => none
    | some e1 => match body e1 with
      | none => none
      | some (.nx, e2) => forL g body xs e2
      | some (.ct, e2) => forL g body xs e2
      | some (.bk, e2) => some (.nx, e2)
      | some (.rt d, e2) => some (.rt d, e2)
def sFor (it : EI) (g : GG) (body : SS) : SS := fun env => match it env with
  | none => none
  | some (xs, lk, e1) => match forL g body xs e1 with
    | none => none
    | some (fl, e2) => some (fl, unlock lk e2)
theorem rd_for {K : PySem.W.Frag} {it : EI} {g : GG} {body : SS} {D : Ends} {σ : St} {H : Hp} (h : tS K (sFor it g body) D σ H) : tFor (tI K it) (tG K g) (tS K body) D σ H := by
  obtain ⟨B, env, fl, env', en, ev, q⟩ := h
  unfold sFor at ev
  split at ev
  · cases ev
  rename_i xs lk e1 h1
  split at ev
  · cases ev
  rename_i fl' e2 h2
  cases ev
  refine ⟨B, env, xs, lk, e1, en, h1, fun B1 H1 J pr G e0 a1 lkd wk g0 hpr => ?_⟩
  have en1 : EnvR K B1 H1 σ e1 := lkd.en a1.en
  -- the walked thing stands wherever one comes
  have stays : ∀ {σi Bi Hi ei}, AtS K σ B1 H1 e1 σi Bi Hi ei → G Bi Hi := fun {σi Bi Hi ei} a => wk.keep _ _ _ _ _ _ g0 a.st en1.wb fun x hx => (hpr x hx).1
  have done : ∀ {σi Bi Hi ei}, AtS K σ B1 H1 e1 σi Bi Hi ei → ei = e2 → Fin K D H fl Bi σi Hi (unlock lk e2) := fun {σi Bi Hi ei} a e => by
    subst e
    exact q Bi σi Hi (AtS.through en a1 lkd a)
  refine ⟨fun i m σi Hi => i ≤ xs.length ∧ m = xs.length - i ∧ ∃ Bi ei, AtS K σ B1 H1 e1 σi Bi Hi ei ∧ forL g body (xs.drop i) ei = some (fl, e2), ⟨_, Nat.zero_le _, rfl, B1, e1, .refl en1, h2⟩, ?_⟩
  rintro i m σi Hi ⟨hi, rfl, Bi, ei, ai, fi⟩
  have gi := stays ai
  by_cases hlt : i < xs.length
  · have hd : xs.drop i = xs[i] :: xs.drop (i + 1) := List.drop_eq_getElem_cons hlt
    rw [hd] at fi
    unfold forL at fi
    split at fi
    · cases fi
    rename_i e3 h3
    refine .inr ⟨wk.go i Bi Hi gi hlt, fun σ' H' => ∃ B' e', AtS K σ B1 H1 e1 σ' B' H' e' ∧ forL g body (xs.drop (i + 1)) e' = some (fl, e2), fun σ' H' ⟨B', e', a', f'⟩ => ⟨xs.length - (i + 1), by omega, hlt, rfl, B', e', a', f'⟩, fun x H' hy => ?_⟩
    obtain ⟨hH, rx⟩ := wk.yld i Bi Hi x H' xs[i] gi (List.getElem?_eq_getElem hlt) hy
    have ay : At K σi Bi Hi ei Bi H' ei := by
      rcases hH with e | ⟨T, vs, nT, e⟩ | ⟨T, vs, T2, vs2, nT, nT2, e⟩
      · subst e; exact .refl ai.en
      · subst e; exact At.pair ai.en nT
      · subst e; exact (At.pair ai.en nT).trans ai.en (At.pair (At.pair ai.en nT).en nT2)
    have ai' : AtS K σ B1 H1 e1 σi Bi H' ei := ai.trans en1 ay.s
    refine ⟨Bi, ei, xs[i], e3, ay.en, rx, h3, fun B3 σ3 H3 a3 => ?_⟩
    have a3' : AtS K σ B1 H1 e1 σ3 B3 H3 e3 := ai'.trans en1 a3
    split at fi
    · cases fi
    · rename_i e4 h4
      exact ⟨B3, e3, .nx, e4, a3.en, h4, fun B4 σ4 H4 a4 => ⟨B4, e4, a3'.trans en1 a4, fi⟩⟩
    · rename_i e4 h4
      exact ⟨B3, e3, .ct, e4, a3.en, h4, fun B4 σ4 H4 a4 => ⟨B4, e4, a3'.trans en1 a4, fi⟩⟩
    · rename_i e4 h4
      cases fi
      exact ⟨B3, e3, .bk, _, a3.en, h4, fun B4 σ4 H4 a4 => done (a3'.trans en1 a4) rfl⟩
    · rename_i d e4 h4
      cases fi
      refine ⟨B3, e3, .rt d, _, a3.en, h4, fun B4 σ4 H4 a4 v r => ?_⟩
      have z := done (a3'.trans en1 a4) rfl
      exact z v ((r.from fun a h => a1.st.liv a (a3'.st.liv a h)).relock)
  · have e : i = xs.length := by omega
    subst e
    rw [List.drop_length] at fi
    cases fi
    exact .inl ⟨wk.stop Bi Hi gi, done ai rfl⟩
end T3

end
section
set_option linter.all false
set_option autoImplicit false
set_option Elab.async false
namespace T3
open PySem L2
variable [TabL]

def whileN (c : EB) (body : SS) : Nat → SS
  | 0, _ => none
  | n + 1, env => match c env with
    | none => none
    | some (false, e) => some (.nx, e)
    | some (true, e) => match body e with
      | none => none
      | some (.nx, e2) => whileN c body n e2
      | some (.ct, e2) => whileN c body n e2
      | some (.bk, e2) => some (.nx, e2)
      | some (.rt d, e2) => some (.rt d, e2)
theorem whileN_more {c : EB} {body : SS} : ∀ {n m : Nat} {env : Sl} {r : Fl × Sl}, whileN c body n env = some r → n ≤ m → whileN c body m env = some r
  | 0, _, _, _, h, _ => by cases h
  | n + 1, 0, _, _, _, hm => by omega
  | n + 1, m + 1, env, r, h, hm => by
    unfold whileN at h ⊢
    cases hc : c env with
    | none => rw [hc] at h; cases h
    | some p =>
      obtain ⟨b, e⟩ := p
      rw [hc] at h
      cases b with
      | false => exact h
      | true =>
        simp only at h ⊢
        cases hb : body e with
        | none => rw [hb] at h; cases h
        | some q =>
          obtain ⟨fl, e2⟩ := q
          rw [hb] at h
          cases fl with
          | nx => exact whileN_more (n := n) (m := m) h (by omega)
          | ct => exact whileN_more (n := n) (m := m) h (by omega)
          | bk => exact h
          | rt d => exact h
open Classical in
noncomputable def sWhile (c : EB) (body : SS) : SS := fun env => if h : ∃ r, ∃ n, whileN c body n env = some r then some (choose h) else none
theorem sWhile_of {c : EB} {body : SS} {n : Nat} {env : Sl} {r : Fl × Sl} (h : whileN c body n env = some r) : sWhile c body env = some r := by
  have ex : ∃ r, ∃ n, whileN c body n env = some r := ⟨r, n, h⟩
  unfold sWhile
  rw [dif_pos ex]
  obtain ⟨m, hm⟩ := Classical.choose_spec ex
  have h1 := whileN_more h (Nat.le_max_left n m)
  have h2 := whileN_more hm (Nat.le_max_right n m)
  rw [h1] at h2
  rw [← Option.some.inj h2]
theorem sWhile_ex {c : EB} {body : SS} {env : Sl} {r : Fl × Sl} (h : sWhile c body env = some r) : ∃ n, whileN c body n env = some r := by
  unfold sWhile at h
  split at h
  · rename_i ex
    obtain ⟨m, hm⟩ := Classical.choose_spec ex
    exact ⟨m, by rw [hm]; exact h⟩
  · cases h
theorem rd_while {K : PySem.W.Frag} {c : EB} {body : SS} {D : Ends} {σ : St} {H : Hp} (h : tS K (sWhile c body) D σ H) : tWhile (tT K c) (tS K body) D σ H := by
  obtain ⟨B, env, fl, env', en, ev, q⟩ := h
  obtain ⟨n, hn⟩ := sWhile_ex ev
  refine ⟨fun m σi Hi => ∃ Bi ei, AtS K σ B H env σi Bi Hi ei ∧ whileN c body m ei = some (fl, env'), ⟨n, B, env, .refl en, hn⟩, ?_⟩
  rintro m σi Hi ⟨Bi, ei, ai, fi⟩
  cases m with
  | zero => cases fi
  | succ m =>
    unfold whileN at fi
    split at fi
    · cases fi
    · rename_i e h1
      cases fi
      refine ⟨Bi, ei, false, _, ai.en, h1, fun B1 H1 a1 => ?_⟩
      simp
      exact q B1 σi H1 (ai.trans en a1.s)
    · rename_i e h1
      refine ⟨Bi, ei, true, e, ai.en, h1, fun B1 H1 a1 => ?_⟩
      have a1' := ai.trans en a1.s
      simp
      refine ⟨fun σ' H' => ∃ B' e', AtS K σ B H env σ' B' H' e' ∧ whileN c body m e' = some (fl, env'), fun σ' H' ⟨B', e', a', f'⟩ => ⟨m, by omega, B', e', a', f'⟩, ?_⟩
      split at fi
      · cases fi
      · rename_i e2 h2
        exact ⟨B1, e, .nx, e2, a1.en, h2, fun B2 σ2 H2 a2 => ⟨B2, e2, a1'.trans en a2, fi⟩⟩
      · rename_i e2 h2
        exact ⟨B1, e, .ct, e2, a1.en, h2, fun B2 σ2 H2 a2 => ⟨B2, e2, a1'.trans en a2, fi⟩⟩
      · rename_i e2 h2
        cases fi
        exact ⟨B1, e, .bk, _, a1.en, h2, fun B2 σ2 H2 a2 => q B2 σ2 H2 (a1'.trans en a2)⟩
      · rename_i d e2 h2
        cases fi
        exact ⟨B1, e, .rt d, _, a1.en, h2, fun B2 σ2 H2 a2 v r => q B2 σ2 H2 (a1'.trans en a2) v (r.from a1'.st.liv)⟩

abbrev FnD := List S → Option (R × List S)
def outR (env : Sl) : R → Option R
  | .pd x => some (.pd x)
  | .nt x => some (.nt x)
  | .tmp c => some (.tmp c)
  | .var i => match env[i]? with
    | some (some (.mu .own c)) => some (.tmp c)
    | _ => none
def finals : List S → Sl → Option (List S)
  | [], _ => some []
  | .pd x :: as, _ :: env => match finals as env with
    | none => none
    | some l => some (.pd x :: l)
  | .nt x :: as, _ :: env => match finals as env with
    | none => none
    | some l => some (.nt x :: l)
  | .mu m _ :: as, some (.mu m' c') :: env => if m = m' ∧ m ≠ .own then match finals as env with
      | none => none
      | some l => some (.mu m c' :: l)
    else none
  | _ :: _, _ => none
def startE (n : Nat) (as : List S) : Sl := as.map some ++ List.replicate (n - as.length) none
def runFn (n : Nat) (b : SS) : FnD := fun as => match b (startE n as) with
  | some (.rt d, e) => match outR e d with
    | none => none
    | some d' => match finals as e with
      | none => none
      | some as' => some (d', as')
  | some (.nx, e) => match finals as e with
    | none => none
    | some as' => some (.pd .none, as')
  | _ => none
def spF (K : PySem.W.Frag) (F : FnD) (n : Nat) : Sp := fun vs H Q _ => vs.length = n ∧ ∃ B as d as', EnvR K B H (vs.map some) (as.map some) ∧ F as = some (d, as') ∧
  ∀ B' H' v, At K (vs.map some) B H (as.map some) B' H' (as'.map some) → RR K H B' H' (vs.map some) (as'.map some) v d → (∀ i, d ≠ .var i) → Q v H'

theorem finals_get : ∀ {as : List S} {env : Sl} {as' : List S}, finals as env = some as' → as'.length = as.length ∧ ∀ (i : Nat) s, as[i]? = some s → (∃ x, s = .pd x ∧ as'[i]? = some (.pd x)) ∨ (∃ x, s = .nt x ∧ as'[i]? = some (.nt x)) ∨ (∃ m c c', s = .mu m c ∧ m ≠ .own ∧ env[i]? = some (some (.mu m c')) ∧ as'[i]? = some (.mu m c'))
  | [], _, _, h => by cases h; exact ⟨rfl, fun i s h => by simp at h⟩
  | .pd x :: as, [], _, h => by cases h
  | .nt x :: as, [], _, h => by cases h
  | .mu _ _ :: as, [], _, h => by cases h
  | .pd x :: as, e :: env, as', h => by
    unfold finals at h
    split at h
    · cases h
    rename_i l hl
    cases h
    obtain ⟨h1, h2⟩ := finals_get hl
    refine ⟨by simp [h1], fun i s hs => ?_⟩
    cases i with
    | zero => simp at hs; subst hs; exact .inl ⟨x, rfl, rfl⟩
    | succ i => simpa using h2 i s (by simpa using hs)
  | .nt x :: as, e :: env, as', h => by
    unfold finals at h
    split at h
    · cases h
    rename_i l hl
    cases h
    obtain ⟨h1, h2⟩ := finals_get hl
    refine ⟨by simp [h1], fun i s hs => ?_⟩
    cases i with
    | zero => simp at hs; subst hs; exact .inr (.inl ⟨x, rfl, rfl⟩)
    | succ i => simpa using h2 i s (by simpa using hs)
  | .mu m c :: as, none :: env, _, h => by cases h
  | .mu m c :: as, some (.pd _) :: env, _, h => by cases h
  | .mu m c :: as, some (.nt _) :: env, _, h => by cases h
  | .mu m c :: as, some (.mu m' c') :: env, as', h => by
    unfold finals at h
    split at h
    · rename_i hm
      obtain ⟨rfl, hm⟩ := hm
      split at h
      · cases h
      rename_i l hl
      cases h
      obtain ⟨h1, h2⟩ := finals_get hl
      refine ⟨by simp [h1], fun i s hs => ?_⟩
      cases i with
      | zero => simp at hs; subst hs; exact .inr (.inr ⟨m, c, c', rfl, hm, rfl, rfl⟩)
      | succ i => simpa using h2 i s (by simpa using hs)
    · cases h

theorem startE_get {n : Nat} {as : List S} {i : Nat} {s : S} : (startE n as)[i]? = some (some s) ↔ as[i]? = some s := by
  unfold startE
  by_cases h : i < as.length
  · rw [List.getElem?_append_left (by simpa using h), List.getElem?_map, List.getElem?_eq_getElem h]
    simp
  · rw [List.getElem?_append_right (by simpa using h), List.getElem?_eq_none (l := as) (by omega)]
    simp only [List.length_map]
    constructor
    · intro q
      by_cases z : i - as.length < n - as.length
      · rw [List.getElem?_replicate, if_pos z] at q; cases q
      · rw [List.getElem?_replicate, if_neg z] at q; cases q
    · intro q; cases q
theorem start_get {N : List Str} {vs : List V} {i : Nat} {v : V} : (start N vs)[i]? = some (some v) ↔ vs[i]? = some v := by
  unfold L2.start
  by_cases h : i < vs.length
  · rw [List.getElem?_append_left (by simpa using h), List.getElem?_map, List.getElem?_eq_getElem h]
    simp
  · rw [List.getElem?_append_right (by simpa using h), List.getElem?_eq_none (l := vs) (by omega)]
    simp only [List.length_map]
    constructor
    · intro q
      by_cases z : i - vs.length < N.length - vs.length
      · rw [List.getElem?_replicate, if_pos z] at q; cases q
      · rw [List.getElem?_replicate, if_neg z] at q; cases q
    · intro q; cases q
theorem map_get {α : Type} {l : List α} {i : Nat} {x : α} : (l.map some)[i]? = some (some x) ↔ l[i]? = some x := by
  rw [List.getElem?_map]
  cases l[i]? <;> simp
theorem fn_body {K : PySem.W.Frag} {n : Nat} {N : List Str} {b : SS} {vs : List V} {H : Hp} {Q : VK} {E : XK} (h : spF K (runFn N.length b) n vs H Q E) : tS K b { nx := fun _ H' => Q .non H', rt := Q } (start N vs) H := by
  obtain ⟨hn, B, as, d, as', en, hF, q⟩ := h
  have hl : as.length = vs.length := by simpa using en.len
  have en0 : EnvR K B H (start N vs) (startE N.length as) := by
    refine ⟨by simp [startE, L2.start, hl], fun i x h => ?_, fun i x h => ?_, fun i m c h => ?_, fun i j m m' c c' a h1 h2 h3 h4 => ?_, en.dom, en.tb⟩
    · obtain ⟨v, h1, h2⟩ := en.pd i x (map_get.mpr (startE_get.mp h))
      exact ⟨v, start_get.mpr (map_get.mp h1), h2⟩
    · obtain ⟨v, h1, h2⟩ := en.nt i x (map_get.mpr (startE_get.mp h))
      exact ⟨v, start_get.mpr (map_get.mp h1), h2⟩
    · obtain ⟨v, h1, h2⟩ := en.mu i m c (map_get.mpr (startE_get.mp h))
      exact ⟨v, start_get.mpr (map_get.mp h1), h2⟩
    · exact en.inj i j m m' c c' a (map_get.mpr (startE_get.mp h1)) (map_get.mpr (startE_get.mp h2)) (map_get.mpr (start_get.mp h3)) (map_get.mpr (start_get.mp h4))
  have wiff : ∀ a, Wof (start N vs) (startE N.length as) a ↔ Wof (vs.map some) (as.map some) a := fun a => by
    constructor
    · rintro ⟨i, m, c, h1, h2, h3⟩; exact ⟨i, m, c, map_get.mpr (startE_get.mp h1), h2, map_get.mpr (start_get.mp h3)⟩
    · rintro ⟨i, m, c, h1, h2, h3⟩; exact ⟨i, m, c, startE_get.mpr (map_get.mp h1), h2, start_get.mpr (map_get.mp h3)⟩
  -- where the body ends
  have key : ∀ {e : Sl} {B' σ' H'}, finals as e = some as' → AtS K (start N vs) B H (startE N.length as) σ' B' H' e → At K (vs.map some) B H (as.map some) B' H' (as'.map some) ∧ (∀ (i : Nat) m c, as'[i]? = some (.mu m c) → m ≠ .own ∧ e[i]? = some (some (.mu m c)) ∧ ∀ v, vs[i]? = some v → σ'[i]? = some (some v)) := by
    intro e B' σ' H' hf a
    obtain ⟨f1, f2⟩ := finals_get hf
    have back : ∀ (i : Nat) m c, as'[i]? = some (.mu m c) → m ≠ .own ∧ e[i]? = some (some (.mu m c)) ∧ (∃ c0, as[i]? = some (.mu m c0)) ∧ ∀ v, vs[i]? = some v → σ'[i]? = some (some v) := by
      intro i m c h
      have hi : i < as.length := by rw [← f1]; exact (List.getElem?_eq_some_iff.mp h).1
      rcases f2 i as[i] (List.getElem?_eq_getElem hi) with ⟨x, e1, e2⟩ | ⟨x, e1, e2⟩ | ⟨m1, c1, c2, e1, e2, e3, e4⟩
      · rw [h] at e2; cases e2
      · rw [h] at e2; cases e2
      · rw [h] at e4
        cases e4
        have hs : as[i]? = some (.mu m c1) := by rw [List.getElem?_eq_getElem hi, e1]
        refine ⟨e2, e3, ⟨c1, hs⟩, fun v hv => ?_⟩
        obtain ⟨g1, _⟩ := a.bo i m c1 (startE_get.mpr hs) e2
        rw [g1]
        exact start_get.mpr hv
    have wsub : ∀ q, Wof (vs.map some) (as'.map some) q → Wof (vs.map some) (as.map some) q := by
      rintro q ⟨i, m, c, h1, h2, h3⟩
      obtain ⟨_, _, ⟨c0, h4⟩, _⟩ := back i m c (map_get.mp h1)
      exact ⟨i, m, c0, map_get.mpr h4, h2, h3⟩
    have st : Stp (Wof (vs.map some) (as.map some)) B H (Wof (vs.map some) (as'.map some)) B' H' :=
      ⟨fun q o h c => a.st.keep q o h (c.imp (fun n => ⟨fun w => n.1 ((wiff q).mp w), n.2⟩) id), a.st.new, fun q h w => a.st.old q h fun w' => w ((wiff q).mp w'), fun q w => .inl (wsub q w), a.st.liv⟩
    refine ⟨⟨st, ⟨by simp [f1, hl], fun i x h => ?_, fun i x h => ?_, fun i m c h => ?_, fun i j m m' c c' p h1 h2 h3 h4 => ?_, a.en.dom, a.en.tb⟩, fun i m c h => ?_, fun i m c h => ?_⟩, fun i m c h => ⟨(back i m c h).1, (back i m c h).2.1, (back i m c h).2.2.2⟩⟩
    · have h := map_get.mp h
      have hi : i < as.length := by rw [← f1]; exact (List.getElem?_eq_some_iff.mp h).1
      rcases f2 i as[i] (List.getElem?_eq_getElem hi) with ⟨y, e1, e2⟩ | ⟨y, e1, e2⟩ | ⟨m1, c1, c2, e1, e2, e3, e4⟩
      · rw [h] at e2
        cases e2
        obtain ⟨v, g1, g2⟩ := en.pd i x (map_get.mpr (by rw [List.getElem?_eq_getElem hi, e1]))
        exact ⟨v, g1, g2.grow (a.st.grow en0.wb)⟩
      · rw [h] at e2; cases e2
      · rw [h] at e4; cases e4
    · have h := map_get.mp h
      have hi : i < as.length := by rw [← f1]; exact (List.getElem?_eq_some_iff.mp h).1
      rcases f2 i as[i] (List.getElem?_eq_getElem hi) with ⟨y, e1, e2⟩ | ⟨y, e1, e2⟩ | ⟨m1, c1, c2, e1, e2, e3, e4⟩
      · rw [h] at e2; cases e2
      · rw [h] at e2
        cases e2
        obtain ⟨v, g1, g2⟩ := en.nt i x (map_get.mpr (by rw [List.getElem?_eq_getElem hi, e1]))
        exact ⟨v, g1, g2.grow (a.st.grow en0.wb)⟩
      · rw [h] at e4; cases e4
    · obtain ⟨g0, g1, ⟨c0, g2⟩, g3⟩ := back i m c (map_get.mp h)
      obtain ⟨p, k1, k2, k3⟩ := a.en.mu i m c g1
      obtain ⟨p', k4, _⟩ := en.mu i m c0 (map_get.mpr g2)
      rw [g3 _ (map_get.mp k4)] at k1
      cases k1
      exact ⟨_, k4, k2, k3⟩
    · obtain ⟨_, _, ⟨c1, g1⟩, _⟩ := back i m c (map_get.mp h1)
      obtain ⟨_, _, ⟨c2, g2⟩, _⟩ := back j m' c' (map_get.mp h2)
      exact en.inj i j m m' c1 c2 p (map_get.mpr g1) (map_get.mpr g2) h3 h4
    · obtain ⟨_, _, ⟨c1, g1⟩, _⟩ := back i m c (map_get.mp h)
      exact ⟨c1, map_get.mpr g1⟩
    · have h := map_get.mp h
      rcases f2 i _ h with ⟨y, e1, e2⟩ | ⟨y, e1, e2⟩ | ⟨m1, c1, c2, e1, e2, e3, e4⟩
      · cases e1
      · cases e1
      · cases e1; exact ⟨c2, map_get.mpr e4⟩
  unfold runFn at hF
  split at hF
  · rename_i d0 e hb
    split at hF
    · cases hF
    rename_i d1 ho
    split at hF
    · cases hF
    rename_i as1 hf
    cases hF
    refine ⟨B, startE N.length as, .rt d0, e, en0, hb, fun B' σ' H' a v r => ?_⟩
    obtain ⟨at_, bk⟩ := key hf a
    cases d0 with
    | pd x => cases ho; exact q B' H' v at_ r (fun _ => nofun)
    | nt x => cases ho; exact q B' H' v at_ r (fun _ => nofun)
    | tmp c =>
      cases ho
      obtain ⟨p, rfl, r1, r2, r3, r4⟩ := r
      refine q B' H' _ at_ ⟨p, rfl, r1, r2, r3, fun i m c h1 h2 => ?_⟩ (fun _ => nofun)
      obtain ⟨_, g1, g2⟩ := bk i m c (map_get.mp h1)
      exact r4 i m c g1 (g2 _ (map_get.mp h2))
    | var j =>
      simp only [outR] at ho
      split at ho
      · rename_i c hc
        cases ho
        obtain ⟨r1, _⟩ := r
        obtain ⟨p, k1, k2, k3⟩ := a.en.mu j _ _ hc
        rw [k1] at r1
        cases r1
        have nsl : ∀ (i : Nat) m c, as'[i]? = some (.mu m c) → vs[i]? ≠ some (.ref p) := fun i m c' h1 h2 => by
          obtain ⟨g0, g1, g2⟩ := bk i m c' h1
          have e := a.en.inj j i _ _ _ _ p hc g1 k1 (g2 _ h2)
          subst e
          rw [hc] at g1
          cases g1
          exact g0 rfl
        refine q B' H' _ at_ ⟨p, rfl, ?_, k2, k3, fun i m c h1 h2 => nsl i m c (map_get.mp h1) (map_get.mp h2)⟩ (fun _ => nofun)
        rcases a.st.sub p ⟨j, _, _, hc, by decide, k1⟩ with w | w
        · obtain ⟨i, m, c0, h1, h2, h3⟩ := w
          obtain ⟨c1, h4⟩ := at_.ks i m c0 (map_get.mpr (startE_get.mp h1))
          exact absurd (start_get.mp h3) (nsl i m c1 (map_get.mp h4))
        · exact w
      · cases ho
  · rename_i e hb
    split at hF
    · cases hF
    rename_i as1 hf
    cases hF
    refine ⟨B, startE N.length as, .nx, e, en0, hb, fun B' σ' H' a => ?_⟩
    obtain ⟨at_, bk⟩ := key hf a
    exact q B' H' _ at_ .non (fun _ => nofun)
  · cases hF
theorem spF_len {K : PySem.W.Frag} {F : FnD} {n : Nat} {ps : List Str} (h : n = ps.length) : ∀ vs H Q E, spF K F n vs H Q E → vs.length = ps.length := fun vs H Q E q => by rw [← h]; exact q.1
end T3

end
section
set_option linter.all false
set_option autoImplicit false
set_option Elab.async false
namespace T3
open PySem L2
variable [TabL]

def toArg (env : Sl) : R → Option S
  | .pd x => some (.pd x)
  | .nt x => some (.nt x)
  | .tmp c => some (.mu .bor c)
  | .var i => match env[i]? with
    | some (some (.mu .fro c)) => some (.mu .fro c)
    | some (some (.mu _ c)) => some (.mu .bor c)
    | _ => none
def toArgs (env : Sl) : List R → Option (List S)
  | [] => some []
  | d :: ds => match toArg env d with
    | none => none
    | some a => match toArgs env ds with
      | none => none
      | some as => some (a :: as)
def hasVar (i : Nat) : List R → Bool
  | [] => false
  | .var j :: ds => decide (i = j) || hasVar i ds
  | _ :: ds => hasVar i ds
def varsApart : List R → Bool
  | [] => true
  | .var j :: ds => !hasVar j ds && varsApart ds
  | _ :: ds => varsApart ds
def back : List R → List S → Sl → Sl
  | .var i :: ds, .mu _ c :: as, env => match env[i]? with
    | some (some (.mu m _)) => back ds as (env.set i (some (.mu m c)))
    | _ => back ds as env
  | _ :: ds, _ :: as, env => back ds as env
  | _, _, env => env
def eCall (F : FnD) (f : EA) : EE := eThen f fun ds env => match toArgs env ds with
  | none => none
  | some as => if varsApart ds = true then match F as with
      | none => none
      | some (.var _, _) => none
      | some (d, as') => some (d, back ds as' env)
    else none

theorem toArgs_get {env : Sl} : ∀ {ds : List R} {as : List S}, toArgs env ds = some as → as.length = ds.length ∧ ∀ (k : Nat) d, ds[k]? = some d → ∃ s, as[k]? = some s ∧ toArg env d = some s
  | [], as, h => by cases h; exact ⟨rfl, fun k d h => by simp at h⟩
  | d :: ds, as, h => by
    unfold toArgs at h
    split at h
    · cases h
    rename_i a ha
    split at h
    · cases h
    rename_i as1 h1
    cases h
    obtain ⟨g1, g2⟩ := toArgs_get h1
    refine ⟨by simp [g1], fun k d' hd => ?_⟩
    cases k with
    | zero => simp at hd; subst hd; exact ⟨a, rfl, ha⟩
    | succ k => simpa using g2 k d' (by simpa using hd)
theorem hasVar_get {i : Nat} : ∀ {ds : List R} {k : Nat}, ds[k]? = some (.var i) → hasVar i ds = true
  | [], k, h => by simp at h
  | d :: ds, 0, h => by simp at h; subst h; simp [hasVar]
  | d :: ds, k + 1, h => by
    have := hasVar_get (ds := ds) (k := k) (by simpa using h)
    cases d <;> simp [hasVar, this]
theorem varsApart_get : ∀ {ds : List R} {k l i : Nat}, varsApart ds = true → ds[k]? = some (.var i) → ds[l]? = some (.var i) → k = l
  | [], k, _, _, _, h, _ => by simp at h
  | d :: ds, 0, 0, _, _, _, _ => rfl
  | d :: ds, 0, l + 1, i, hv, h, h' => by
    simp at h
    subst h
    have := hasVar_get (ds := ds) (k := l) (by simpa using h')
    simp [varsApart, this] at hv
  | d :: ds, k + 1, 0, i, hv, h, h' => by
    simp at h'
    subst h'
    have := hasVar_get (ds := ds) (k := k) (by simpa using h)
    simp [varsApart, this] at hv
  | d :: ds, k + 1, l + 1, i, hv, h, h' => by
    have hv' : varsApart ds = true := by cases d <;> simp [varsApart] at hv <;> first | exact hv | exact hv.2
    rw [varsApart_get (ds := ds) (k := k) (l := l) (i := i) hv' (by simpa using h) (by simpa using h')]
theorem varsApart_tail {d : R} {ds : List R} (h : varsApart (d :: ds) = true) : varsApart ds = true := by cases d <;> simp [varsApart] at h <;> first | exact h | exact h.2
theorem back_get : ∀ {ds : List R} {as : List S} {env : Sl}, varsApart ds = true → as.length = ds.length → (∀ (k : Nat) i, ds[k]? = some (.var i) → ∃ m c, env[i]? = some (some (.mu m c))) → (∀ (k : Nat) i, ds[k]? = some (.var i) → ∃ m c, as[k]? = some (.mu m c)) →
    (back ds as env).length = env.length ∧ (∀ j, (∀ k : Nat, ds[k]? ≠ some (.var j)) → (back ds as env)[j]? = env[j]?) ∧ ∀ (k : Nat) i m c m' c', ds[k]? = some (.var i) → env[i]? = some (some (.mu m c)) → as[k]? = some (.mu m' c') → (back ds as env)[i]? = some (some (.mu m c'))
  | [], [], env, _, _, _, _ => ⟨rfl, fun j _ => rfl, fun k i m c m' c' h => by simp at h⟩
  | [], _ :: _, _, _, h, _, _ => by simp at h
  | _ :: _, [], _, _, h, _, _ => by simp at h
  | d :: ds, a :: as, env, hv, hl, hm, hc => by
    have hl' : as.length = ds.length := by simpa using hl
    have hv' := varsApart_tail hv
    have plain : (∀ i, d ≠ .var i) → back (d :: ds) (a :: as) env = back ds as env := fun h => by
      cases d with
      | var i => exact absurd rfl (h i)
      | pd x => rfl
      | nt x => rfl
      | tmp c => rfl
    by_cases hd : ∃ i, d = .var i
    · obtain ⟨i, rfl⟩ := hd
      obtain ⟨m, c, h1⟩ := hm 0 i rfl
      obtain ⟨m', c', h2⟩ := hc 0 i rfl
      simp at h2
      subst h2
      have hi : i < env.length := (List.getElem?_eq_some_iff.mp h1).1
      have e : back (.var i :: ds) (.mu m' c' :: as) env = back ds as (env.set i (some (.mu m c'))) := by simp only [back, h1]
      have ni : ∀ k : Nat, ds[k]? ≠ some (.var i) := fun k z => by
        have := varsApart_get (ds := .var i :: ds) (k := 0) (l := k + 1) (i := i) hv rfl (by simpa using z)
        omega
      obtain ⟨b1, b2, b3⟩ := back_get (ds := ds) (as := as) (env := env.set i (some (.mu m c'))) hv' hl' (fun k j h => by
        obtain ⟨m1, c1, g⟩ := hm (k + 1) j (by simpa using h)
        have : i ≠ j := fun z => by subst z; exact ni k h
        exact ⟨m1, c1, by rw [List.getElem?_set_ne this]; exact g⟩) (fun k j h => by simpa using hc (k + 1) j (by simpa using h))
      rw [e]
      refine ⟨by simp [b1], fun j hj => ?_, fun k j m1 c1 m2 c2 g1 g2 g3 => ?_⟩
      · have n1 : i ≠ j := fun z => by subst z; exact hj 0 rfl
        rw [b2 j (fun k z => hj (k + 1) (by simpa using z)), List.getElem?_set_ne n1]
      · cases k with
        | zero =>
          simp at g1 g3
          subst g1
          rw [b2 _ ni, List.getElem?_set_self hi]
          rw [h1] at g2
          cases g2
          obtain ⟨_, rfl⟩ := g3
          rfl
        | succ k =>
          have g1' : ds[k]? = some (.var j) := by simpa using g1
          have n1 : i ≠ j := fun z => by subst z; exact ni k g1'
          exact b3 k j m1 c1 m2 c2 g1' (by rw [List.getElem?_set_ne n1]; exact g2) (by simpa using g3)
    · have hd' : ∀ i, d ≠ .var i := fun i z => hd ⟨i, z⟩
      rw [plain hd']
      obtain ⟨b1, b2, b3⟩ := back_get (ds := ds) (as := as) (env := env) hv' hl' (fun k j h => by simpa using hm (k + 1) j (by simpa using h)) (fun k j h => by simpa using hc (k + 1) j (by simpa using h))
      refine ⟨b1, fun j hj => b2 j (fun k z => hj (k + 1) (by simpa using z)), fun k j m1 c1 m2 c2 g1 g2 g3 => ?_⟩
      cases k with
      | zero => simp at g1; exact absurd g1 (hd' j)
      | succ k => exact b3 k j m1 c1 m2 c2 (by simpa using g1) g2 (by simpa using g3)

theorem rd_callS {K : PySem.W.Frag} {F : FnD} {f : EA} {n : Nat} {σ : St} {H : Hp} {Q : VK} {E : XK} {B : Mset} {env : Sl} {d : R} {env' : Sl} (hn : ∀ ds e e', f e = some (ds, e') → ds.length = n) (en : EnvR K B H σ env) (ev : eCall F f env = some (d, env')) (q : ∀ B' H' v, At K σ B H env B' H' env' → RR K H B' H' σ env' v d → Q v H') :
    ∃ ds e1, f env = some (ds, e1) ∧ ∀ B1 H1 vs, At K σ B H env B1 H1 e1 → RRA K H B1 H1 σ e1 vs ds → spF K F n vs H1 Q E := by
  unfold eCall eThen at ev
  split at ev
  · cases ev
  rename_i ds e1 h1
  dsimp only at ev
  split at ev
  · cases ev
  rename_i as h2
  split at ev
  rotate_left
  · cases ev
  rename_i hv
  refine ⟨ds, e1, h1, fun B1 H1 vs a1 rr => ?_⟩
  have lds : ds.length = n := hn _ _ _ h1
  obtain ⟨la, ga⟩ := toArgs_get h2
  have hlv : vs.length = ds.length := rr.len
  have hls : as.length = vs.length := by omega
  -- what an argument is
  have kind : ∀ (k : Nat) s v, as[k]? = some s → vs[k]? = some v → (∃ x, s = .pd x ∧ Rp K B1 H1 v x ∧ ∃ d, ds[k]? = some d ∧ ∀ i, d ≠ .var i) ∨ (∃ x p, s = .nt x ∧ v = .ref p ∧ NtR K B1 H1 p x) ∨ (∃ c p, s = .mu .bor c ∧ ds[k]? = some (.tmp c) ∧ v = .ref p ∧ H p = none ∧ B1 p ∧ CtR K B1 H1 p c ∧ ∀ (i : Nat) m d, e1[i]? = some (some (S.mu m d)) → σ[i]? ≠ some (some (V.ref p))) ∨
      (∃ i m c p, s = .mu (if m = .fro then .fro else .bor) c ∧ ds[k]? = some (.var i) ∧ e1[i]? = some (some (.mu m c)) ∧ v = .ref p ∧ σ[i]? = some (some (.ref p)) ∧ B1 p ∧ CtR K B1 H1 p c) := by
    intro k s v hs hv'
    have hk : k < ds.length := by rw [← la]; exact (List.getElem?_eq_some_iff.mp hs).1
    obtain ⟨s', g1, g2⟩ := ga k ds[k] (List.getElem?_eq_getElem hk)
    rw [hs] at g1
    cases g1
    have hdk : ds[k]? = some ds[k] := List.getElem?_eq_getElem hk
    have hr := rr.each k v ds[k] hv' hdk
    revert g2 hr hdk
    generalize ds[k] = d
    intro g2 hdk hr
    cases d with
    | pd x => cases g2; exact .inl ⟨x, rfl, hr, _, hdk, fun _ => nofun⟩
    | nt x => cases g2; obtain ⟨p, e1, e2⟩ := hr; exact .inr (.inl ⟨x, p, rfl, e1, e2⟩)
    | tmp c =>
      cases g2
      obtain ⟨p, rfl, r1, r2, r3, r4⟩ := hr
      exact .inr (.inr (.inl ⟨c, p, rfl, hdk, rfl, r1, r2, r3, r4⟩))
    | var i =>
      simp only [toArg] at g2
      have hr : σ[i]? = some (some v) := hr
      split at g2
      · rename_i c hc
        cases g2
        obtain ⟨p, k1, k2, k3⟩ := a1.en.mu i _ _ hc
        rw [hr] at k1
        cases k1
        exact .inr (.inr (.inr ⟨i, .fro, c, p, by simp, hdk, hc, rfl, hr, k2, k3⟩))
      · rename_i m c hnf hc
        cases g2
        obtain ⟨p, k1, k2, k3⟩ := a1.en.mu i _ _ hc
        rw [hr] at k1
        cases k1
        refine .inr (.inr (.inr ⟨i, m, c, p, ?_, hdk, hc, rfl, hr, k2, k3⟩))
        have hm : m ≠ .fro := fun z => hnf z
        rw [if_neg hm]
      · cases g2
  have enA : EnvR K B1 H1 (vs.map some) (as.map some) := by
    refine ⟨by simp [hls], fun k x h => ?_, fun k x h => ?_, fun k m c h => ?_, fun k l m m' c c' p g1 g2 g3 g4 => ?_, a1.en.dom, a1.en.tb⟩
    · have h := map_get.mp h
      have hk : k < vs.length := by rw [← hls]; exact (List.getElem?_eq_some_iff.mp h).1
      have hvk : vs[k]? = some vs[k] := List.getElem?_eq_getElem hk
      rcases kind k _ _ h hvk with ⟨y, e, r, _⟩ | ⟨y, p, e, _⟩ | ⟨c, p, e, _⟩ | ⟨i, m, c, p, e, _⟩
      · cases e; exact ⟨vs[k], map_get.mpr hvk, r⟩
      · cases e
      · cases e
      · cases e
    · have h := map_get.mp h
      have hk : k < vs.length := by rw [← hls]; exact (List.getElem?_eq_some_iff.mp h).1
      have hvk : vs[k]? = some vs[k] := List.getElem?_eq_getElem hk
      rcases kind k _ _ h hvk with ⟨y, e, r, _⟩ | ⟨y, p, e, e2, r⟩ | ⟨c, p, e, _⟩ | ⟨i, m, c, p, e, _⟩
      · cases e
      · cases e; exact ⟨p, map_get.mpr (by rw [hvk, e2]), r⟩
      · cases e
      · cases e
    · have h := map_get.mp h
      have hk : k < vs.length := by rw [← hls]; exact (List.getElem?_eq_some_iff.mp h).1
      have hvk : vs[k]? = some vs[k] := List.getElem?_eq_getElem hk
      rcases kind k _ _ h hvk with ⟨y, e, r, _⟩ | ⟨y, p, e, _⟩ | ⟨c1, p, e, _, ev, _, r2, r3, _⟩ | ⟨i, m1, c1, p, e, _, _, ev, _, r2, r3⟩
      · cases e
      · cases e
      · cases e; exact ⟨p, map_get.mpr (by rw [hvk, ev]), r2, r3⟩
      · cases e; exact ⟨p, map_get.mpr (by rw [hvk, ev]), r2, r3⟩
    · have g1 := map_get.mp g1
      have g2 := map_get.mp g2
      have g3 := map_get.mp g3
      have g4 := map_get.mp g4
      rcases kind k _ _ g1 g3 with ⟨y, e, r, _⟩ | ⟨y, p, e, _⟩ | ⟨c1, p1, e, d1, ev1, _, _, _, n1⟩ | ⟨i1, m1, c1, p1, e, d1, s1, ev1, t1, _⟩
      · cases e
      · cases e
      · cases ev1
        rcases kind l _ _ g2 g4 with ⟨y, e', r, _⟩ | ⟨y, p, e', _⟩ | ⟨c2, p2, e', d2, ev2, _, _, _, n2⟩ | ⟨i2, m2, c2, p2, e', d2, s2, ev2, t2, _⟩
        · cases e'
        · cases e'
        · cases ev2
          by_cases z : k = l
          · exact z
          · exact (rr.apart k l _ _ _ z d1 d2 g3 g4).elim
        · cases ev2; exact absurd t2 (n1 _ _ _ s2)
      · cases ev1
        rcases kind l _ _ g2 g4 with ⟨y, e', r, _⟩ | ⟨y, p, e', _⟩ | ⟨c2, p2, e', d2, ev2, _, _, _, n2⟩ | ⟨i2, m2, c2, p2, e', d2, s2, ev2, t2, _⟩
        · cases e'
        · cases e'
        · cases ev2; exact absurd t1 (n2 _ _ _ s1)
        · cases ev2
          have z := a1.en.inj i1 i2 _ _ _ _ _ s1 s2 t1 t2
          subst z
          exact varsApart_get hv d1 d2
  split at ev
  · cases ev
  · cases ev
  rename_i d0 as1 hd0 hF
  cases ev
  refine ⟨by omega, B1, as, d, as1, enA, hF, fun B2 H2 v a2 r2 nv => ?_⟩
  have las1 : as1.length = vs.length := by simpa using a2.en.len
  have bk := back_get (ds := ds) (as := as1) (env := e1) hv (by omega) (fun k i h => by
      obtain ⟨s, g1, g2⟩ := ga k _ h
      simp only [toArg] at g2
      split at g2
      · rename_i hc; exact ⟨_, _, hc⟩
      · rename_i hc; exact ⟨_, _, hc⟩
      · cases g2) (fun k i h => by
      obtain ⟨s, g1, g2⟩ := ga k _ h
      have : ∃ m c, s = .mu m c := by
        simp only [toArg] at g2
        split at g2
        · cases g2; exact ⟨_, _, rfl⟩
        · cases g2; exact ⟨_, _, rfl⟩
        · cases g2
      obtain ⟨m, c, rfl⟩ := this
      obtain ⟨c', h'⟩ := a2.ks k m c (map_get.mpr g1)
      exact ⟨m, c', map_get.mp h'⟩)
  obtain ⟨bl, bo, bv⟩ := bk
  -- W of the call: of the caller's or new
  have wcall : ∀ p, Wof (vs.map some) (as.map some) p → (∃ (k i : Nat) (m : Md) (c : Ct), ds[k]? = some (R.var i) ∧ e1[i]? = some (some (S.mu m c)) ∧ m ≠ .fro ∧ σ[i]? = some (some (V.ref p))) ∨ (H p = none ∧ ∀ (i : Nat) m d, e1[i]? = some (some (S.mu m d)) → σ[i]? ≠ some (some (V.ref p))) := by
    rintro p ⟨k, m, c, g1, g2, g3⟩
    rcases kind k _ _ (map_get.mp g1) (map_get.mp g3) with ⟨y, e, r, _⟩ | ⟨y, p, e, _⟩ | ⟨c1, p1, e, d1, ev1, h0, _, _, n1⟩ | ⟨i1, m1, c1, p1, e, d1, s1, ev1, t1, _⟩
    · cases e
    · cases e
    · cases ev1; exact .inr ⟨h0, n1⟩
    · cases ev1
      cases e
      refine .inl ⟨k, i1, m1, _, d1, s1, fun z => ?_, t1⟩
      rw [if_pos z] at g2
      exact g2 rfl
  have wW : ∀ p, Wof (vs.map some) (as.map some) p → Wof σ env p ∨ H p = none := fun p w => by
    rcases wcall p w with ⟨k, i, m, c, g1, g2, g3, g4⟩ | ⟨h0, _⟩
    · exact a1.st.sub p ⟨i, m, c, g2, g3, g4⟩
    · exact .inr h0
  have same : ∀ (j : Nat) m c, (back ds as1 e1)[j]? = some (some (S.mu m c)) → ∃ c', e1[j]? = some (some (.mu m c')) := fun j m c h => by
    by_cases z : ∃ k : Nat, ds[k]? = some (.var j)
    · obtain ⟨k, hk⟩ := z
      obtain ⟨s, g1, g2⟩ := ga k _ hk
      have : ∃ m c, e1[j]? = some (some (.mu m c)) ∧ ∃ m', s = .mu m' c := by
        simp only [toArg] at g2
        split at g2
        · rename_i hc; cases g2; exact ⟨_, _, hc, _, rfl⟩
        · rename_i hc; cases g2; exact ⟨_, _, hc, _, rfl⟩
        · cases g2
      obtain ⟨m1, c1, h3, m2, rfl⟩ := this
      obtain ⟨c2, h4⟩ := a2.ks k m2 c1 (map_get.mpr g1)
      rw [bv k j m1 c1 m2 c2 hk h3 (map_get.mp h4)] at h
      cases h
      exact ⟨c1, h3⟩
    · rw [bo j (fun k hk => z ⟨k, hk⟩)] at h
      exact ⟨c, h⟩
  have same' : ∀ (j : Nat) m c, e1[j]? = some (some (S.mu m c)) → ∃ c', (back ds as1 e1)[j]? = some (some (.mu m c')) ∧ ((∀ k : Nat, ds[k]? ≠ some (.var j)) ∧ c' = c ∨ ∃ (k : Nat) (m' : Md), ds[k]? = some (R.var j) ∧ as1[k]? = some (S.mu m' c')) := fun j m c h => by
    by_cases z : ∃ k : Nat, ds[k]? = some (.var j)
    · obtain ⟨k, hk⟩ := z
      obtain ⟨s, g1, g2⟩ := ga k _ hk
      have : ∃ m', s = .mu m' c := by
        simp only [toArg] at g2
        split at g2
        · rename_i hc; rw [h] at hc; cases hc; cases g2; exact ⟨_, rfl⟩
        · rename_i hc; rw [h] at hc; cases hc; cases g2; exact ⟨_, rfl⟩
        · cases g2
      obtain ⟨m2, rfl⟩ := this
      obtain ⟨c2, h4⟩ := a2.ks k m2 c (map_get.mpr g1)
      exact ⟨c2, bv k j m c m2 c2 hk h (map_get.mp h4), .inr ⟨k, m2, hk, map_get.mp h4⟩⟩
    · exact ⟨c, by rw [bo j (fun k hk => z ⟨k, hk⟩)]; exact h, .inl ⟨fun k hk => z ⟨k, hk⟩, rfl⟩⟩
  have gr : Grow B1 H1 B2 H2 := a2.grow enA
  have enE : EnvR K B2 H2 σ (back ds as1 e1) := by
    refine ⟨by rw [bl]; exact a1.en.len, fun j x h => ?_, fun j x h => ?_, fun j m c h => ?_, fun j k m m' c c' p g1 g2 g3 g4 => ?_, a2.en.dom, a2.en.tb⟩
    · have h' : e1[j]? = some (some (.pd x)) := by
        by_cases z : ∃ k : Nat, ds[k]? = some (.var j)
        · obtain ⟨k, hk⟩ := z
          obtain ⟨s, g1, g2⟩ := ga k _ hk
          have : ∃ m c, e1[j]? = some (some (.mu m c)) := by
            simp only [toArg] at g2
            split at g2
            · rename_i hc; exact ⟨_, _, hc⟩
            · rename_i hc; exact ⟨_, _, hc⟩
            · cases g2
          obtain ⟨m, c, h3⟩ := this
          obtain ⟨c', h4, _⟩ := same' j m c h3
          rw [h4] at h
          cases h
        · rw [bo j (fun k hk => z ⟨k, hk⟩)] at h; exact h
      obtain ⟨w, g1, g2⟩ := a1.en.pd j x h'
      exact ⟨w, g1, g2.grow gr⟩
    · have h' : e1[j]? = some (some (.nt x)) := by
        by_cases z : ∃ k : Nat, ds[k]? = some (.var j)
        · obtain ⟨k, hk⟩ := z
          obtain ⟨s, g1, g2⟩ := ga k _ hk
          have : ∃ m c, e1[j]? = some (some (.mu m c)) := by
            simp only [toArg] at g2
            split at g2
            · rename_i hc; exact ⟨_, _, hc⟩
            · rename_i hc; exact ⟨_, _, hc⟩
            · cases g2
          obtain ⟨m, c, h3⟩ := this
          obtain ⟨c', h4, _⟩ := same' j m c h3
          rw [h4] at h
          cases h
        · rw [bo j (fun k hk => z ⟨k, hk⟩)] at h; exact h
      obtain ⟨w, g1, g2⟩ := a1.en.nt j x h'
      exact ⟨w, g1, g2.grow gr⟩
    · obtain ⟨c0, h0⟩ := same j m c h
      obtain ⟨p, g1, g2, g3⟩ := a1.en.mu j m c0 h0
      obtain ⟨c', h4, hc⟩ := same' j m c0 h0
      rw [h] at h4
      cases h4
      rcases hc with ⟨hno, rfl⟩ | ⟨k, m', hk, ha⟩
      · have nw : ¬ Wof (vs.map some) (as.map some) p := fun w => by
          rcases wcall p w with ⟨k, i, m1, c1, k1, k2, k3, k4⟩ | ⟨_, hns⟩
          · have z := a1.en.inj j i _ _ _ _ p h0 k2 g1 k4
            subst z
            exact hno k k1
          · exact hns j m _ h0 g1
        exact ⟨p, g1, a2.st.old p g2 nw, g3.keep a2.st enA.wb nw⟩
      · obtain ⟨p', k1, k2, k3⟩ := a2.en.mu k m' c (map_get.mpr ha)
        have hvk : vs[k]? = some (.ref p') := map_get.mp k1
        have := rr.each k _ _ hvk hk
        have this : σ[j]? = some (some (.ref p')) := this
        rw [g1] at this
        cases this
        exact ⟨p, g1, k2, k3⟩
    · obtain ⟨c1, h1'⟩ := same j m c g1
      obtain ⟨c2, h2'⟩ := same k m' c' g2
      exact a1.en.inj j k m m' c1 c2 p h1' h2' g3 g4
  refine q B2 H2 v ⟨⟨fun p o h c => ?_, fun p h => ?_, fun p h w => ?_, fun p w => ?_, fun p h => a1.st.liv p (a2.st.liv p h)⟩, enE, fun j m c h => ?_, fun j m c h => ?_⟩ ?_
  · refine a2.st.keep p o (a1.st.keep p o h c) ?_
    rcases c with c | c
    · refine .inl ⟨fun w => ?_, c.2⟩
      rcases wW p w with w | w
      · exact c.1 w
      · rw [h] at w; cases w
    · exact .inr c
  · rcases a2.st.new p h with h | h
    · exact a1.st.new p h
    · exact .inr (a1.st.liv p h)
  · refine a2.st.old p (a1.st.old p h w) fun w' => ?_
    rcases wW p w' with z | z
    · exact w z
    · obtain ⟨o, ho⟩ := en.dom p h
      rw [z] at ho; cases ho
  · obtain ⟨j, m, c, g1, g2, g3⟩ := w
    obtain ⟨c0, h0⟩ := same j m c g1
    exact a1.st.sub p ⟨j, m, c0, h0, g2, g3⟩
  · obtain ⟨c0, h0⟩ := same j m c h
    exact a1.sm j m c0 h0
  · obtain ⟨c0, h0⟩ := a1.ks j m c h
    obtain ⟨c', h4, _⟩ := same' j m c0 h0
    exact ⟨c', h4⟩
  · cases d with
    | pd x => exact r2
    | nt x => exact r2
    | var i => exact absurd rfl (nv i)
    | tmp c =>
      obtain ⟨p, rfl, k1, k2, k3, k4⟩ := r2
      refine ⟨p, rfl, a1.st.liv p k1, k2, k3, fun j m d h1 h2 => ?_⟩
      obtain ⟨c0, h0⟩ := same j m d h1
      obtain ⟨p', g1, g2, g3⟩ := a1.en.mu j m c0 h0
      rw [h2] at g1
      cases g1
      obtain ⟨o, ho⟩ := a1.en.dom p g2
      rw [k1] at ho; cases ho
theorem rd_call {K : PySem.W.Frag} {F : FnD} {f : EA} {n : Nat} {σ : St} {H : Hp} {Q : VK} {E : XK} (hn : ∀ ds e e', f e = some (ds, e') → ds.length = n) (h : tE K (eCall F f) σ H Q) : tCall (spF K F n) [] E (tA K f) σ H Q := by
  obtain ⟨B, env, d, env', en, ev, q⟩ := h
  obtain ⟨ds, e1, h1, h2⟩ := rd_callS (E := E) hn en ev q
  exact ⟨B, env, ds, e1, en, h1, fun B1 H1 vs a1 rr => by
    show spF K F n (vs ++ []) H1 Q E
    rw [List.append_nil]
    exact h2 B1 H1 vs a1 rr⟩
end T3

end
section
set_option linter.all false
set_option autoImplicit false
set_option Elab.async false
namespace T3
open PySem L2
variable [TabL]

theorem small {n : Nat} (h : n ≤ 1000000) : n < sizeLine := by rw [sizeLine_eq]; omega

def wipeE (env : Sl) : List Nat → Sl
  | [] => env
  | v :: vs => (wipeE env vs).set v none
def unwipe (env : Sl) (e : Sl) : List Nat → Sl
  | [] => e
  | v :: vs => (unwipe env e vs).set v (env.getD v none)
theorem wipeE_len {env : Sl} : ∀ {vs : List Nat}, (wipeE env vs).length = env.length
  | [] => rfl
  | v :: vs => by simp [wipeE, wipeE_len (vs := vs)]
theorem wipeE_in {env : Sl} {s : S} : ∀ {vs : List Nat} {i : Nat}, (wipeE env vs)[i]? = some (some s) → i ∉ vs ∧ env[i]? = some (some s)
  | [], i, h => ⟨by simp, h⟩
  | v :: vs, i, h => by
    unfold wipeE at h
    rcases get_set h with ⟨e, e'⟩ | ⟨e, h⟩
    · cases e'
    · obtain ⟨h1, h2⟩ := wipeE_in h
      exact ⟨by simp only [List.mem_cons, not_or]; exact ⟨fun z => e z.symm, h1⟩, h2⟩
theorem wipeE_out {env : Sl} : ∀ {vs : List Nat} {i : Nat}, i ∉ vs → (wipeE env vs)[i]? = env[i]?
  | [], i, h => rfl
  | v :: vs, i, h => by
    simp only [List.mem_cons, not_or] at h
    unfold wipeE
    rw [List.getElem?_set_ne (fun z => h.1 z.symm), wipeE_out h.2]
theorem wipe_out {σ : St} : ∀ {vs : List Nat} {i : Nat}, i ∉ vs → (wipe σ vs)[i]? = σ[i]?
  | [], i, h => rfl
  | v :: vs, i, h => by
    simp only [List.mem_cons, not_or] at h
    unfold wipe
    rw [List.getElem?_set_ne (fun z => h.1 z.symm), wipe_out h.2]
theorem unwipe_len {env e : Sl} : ∀ {vs : List Nat}, (unwipe env e vs).length = e.length
  | [] => rfl
  | v :: vs => by simp [unwipe, unwipe_len (vs := vs)]
theorem unwipe_out {env e : Sl} : ∀ {vs : List Nat} {i : Nat}, i ∉ vs → (unwipe env e vs)[i]? = e[i]?
  | [], i, h => rfl
  | v :: vs, i, h => by
    simp only [List.mem_cons, not_or] at h
    unfold unwipe
    rw [List.getElem?_set_ne (fun z => h.1 z.symm), unwipe_out h.2]
theorem unwipe_in {env e : Sl} (hl : e.length = env.length) : ∀ {vs : List Nat} {i : Nat}, i ∈ vs → (unwipe env e vs)[i]? = env[i]?
  | [], i, h => by simp at h
  | v :: vs, i, h => by
    unfold unwipe
    by_cases z : v = i
    · subst z
      by_cases q : v < e.length
      · rw [List.getElem?_set_self (by rw [unwipe_len]; exact q)]
        rw [List.getD_eq_getElem?_getD, List.getElem?_eq_getElem (by omega)]
        rfl
      · rw [List.getElem?_eq_none (by simp [unwipe_len]; omega), List.getElem?_eq_none (by omega)]
    · rw [List.getElem?_set_ne z]
      refine unwipe_in hl ?_
      simp only [List.mem_cons] at h
      rcases h with h | h
      · exact absurd h.symm z
      · exact h
def Only (g : GG) (vs : List Nat) : Prop := ∀ x e e', g x e = some e' → ∀ j, j ∉ vs → e'[j]? = e[j]?
def tGv (K : PySem.W.Frag) (g : GG) (vs : List Nat) : TG := fun v σ H Q => ∃ B env x env', EnvR K B H σ env ∧ Rp K B H v x ∧ g x env = some env' ∧ ∀ B' σ' H', AtS K σ B H env σ' B' H' env' → wipe σ' vs = wipe σ vs → Q σ' H'
theorem wipe_set {σ : St} {x : Option V} : ∀ {vs : List Nat} {i : Nat}, i ∈ vs → wipe (σ.set i x) vs = wipe σ vs
  | [], i, h => by simp at h
  | v :: vs, i, h => by
    unfold wipe
    by_cases z : i ∈ vs
    · rw [wipe_set z]
    · have e : i = v := by
        simp only [List.mem_cons] at h
        rcases h with h | h
        · exact h
        · exact absurd h z
      subst e
      have : ∀ {ws : List Nat}, i ∉ ws → wipe (σ.set i x) ws = (wipe σ ws).set i x := by
        intro ws
        induction ws with
        | nil => intro _; rfl
        | cons w ws ih =>
          intro hw
          simp only [List.mem_cons, not_or] at hw
          show (wipe (σ.set i x) ws).set w none = ((wipe σ ws).set w none).set i x
          rw [ih hw.2, List.set_comm _ _ hw.1]
      rw [this z, List.set_set]
theorem wipe_idem {σ : St} : ∀ {vs : List Nat}, wipe (wipe σ vs) vs = wipe σ vs := fun {vs} => by
  have : ∀ (us ws : List Nat), (∀ u ∈ us, u ∈ ws) → wipe (wipe σ us) ws = wipe σ ws := by
    intro us
    induction us with
    | nil => intro ws _; rfl
    | cons u us ih =>
      intro ws h
      show wipe ((wipe σ us).set u none) ws = wipe σ ws
      rw [wipe_set (h u (by simp)), ih ws (fun z hz => h z (by simp [hz]))]
  exact this vs vs (fun _ h => h)
theorem rd_gNv {K : PySem.W.Frag} {i : Nat} {vs : List Nat} (hi : i ∈ vs) {v : V} {σ : St} {H : Hp} {Q : St → Hp → Prop} (h : tGv K (gN i) vs v σ H Q) : gName i v σ H Q := by
  obtain ⟨B, env, x, env', en, r, ev, q⟩ := h
  exact q B _ H (AtS.set en (.refl en) (d := .pd x) r ev) (wipe_set hi)
theorem only_gN {i : Nat} {vs : List Nat} (hi : i ∈ vs) : Only (gN i) vs := by
  intro x e e' h j hj
  have hij : i ≠ j := fun z => by subst z; exact hj hi
  simp only [gN, setR] at h
  split at h
  · cases h; rw [List.getElem?_set_ne hij]
  · cases h
def tGsv (K : PySem.W.Frag) (g : GGs) (vs : List Nat) : TGs := fun ws σ H Q => ∃ B env xs env', EnvR K B H σ env ∧ RpA K B H ws xs ∧ g xs env = some env' ∧ ∀ B' σ' H', AtS K σ B H env σ' B' H' env' → wipe σ' vs = wipe σ vs → Q σ' H'
def OnlyS (g : GGs) (vs : List Nat) : Prop := ∀ x e e', g x e = some e' → ∀ j, j ∉ vs → e'[j]? = e[j]?
theorem rd_gNlv {K : PySem.W.Frag} {us : List Nat} {vs : List V} {σ : St} {H : Hp} {Q : St → Hp → Prop} (h : tGsv K gNl us vs σ H Q) : gNil vs σ H Q := by
  obtain ⟨B, env, x, env', en, r, ev, q⟩ := h
  unfold gNl at ev
  split at ev
  · cases ev; cases r; exact ⟨rfl, q B _ H (.refl en) rfl⟩
  · cases ev
theorem rd_gCnv {K : PySem.W.Frag} {us : List Nat} {g : GG} {gs : GGs} {vs : List V} {σ : St} {H : Hp} {Q : St → Hp → Prop} (h : tGsv K (gCn g gs) us vs σ H Q) : gCons (tGv K g us) (tGsv K gs us) vs σ H Q := by
  obtain ⟨B, env, xs, env', en, r, ev, q⟩ := h
  unfold gCn at ev
  split at ev
  · cases ev
  rename_i x xs
  split at ev
  · cases ev
  rename_i e1 h1
  cases r with
  | cons r1 r2 =>
    exact ⟨_, _, rfl, B, env, x, e1, en, r1, h1, fun B1 σ1 H1 a1 w1 => ⟨B1, e1, xs, env', a1.en, r2.grow (a1.st.grow en.wb), ev, fun B2 σ2 H2 a2 w2 => q B2 σ2 H2 (a1.trans en a2) (w2.trans w1)⟩⟩
theorem rd_gTv {K : PySem.W.Frag} {us : List Nat} {n : Nat} {gs : GGs} {v : V} {σ : St} {H : Hp} {Q : St → Hp → Prop} (h : tGv K (gT n gs) us v σ H Q) : gTup K n (tGsv K gs us) v σ H Q := by
  obtain ⟨B, env, x, env', en, r, ev, q⟩ := h
  unfold gT at ev
  split at ev
  · split at ev
    · rename_i xs hl
      obtain ⟨a, vs, rfl, h1, h2⟩ := Cn.tuple (.rp r)
      exact ⟨a, vs, rfl, h1, by rw [h2.length]; exact hl, B, env, xs, env', en, h2, ev, q⟩
    · cases ev
  · cases ev
theorem only_gNl {vs : List Nat} : OnlyS gNl vs := by
  intro x e e' h j hj
  unfold gNl at h
  split at h
  · cases h; rfl
  · cases h
theorem only_gCn {vs : List Nat} {g : GG} {gs : GGs} (h1 : Only g vs) (h2 : OnlyS gs vs) : OnlyS (gCn g gs) vs := by
  intro x e e' h j hj
  unfold gCn at h
  split at h
  · cases h
  split at h
  · cases h
  rename_i e1 k1
  rw [h2 _ _ _ h j hj, h1 _ _ _ k1 j hj]
theorem only_gT {vs : List Nat} {n : Nat} {gs : GGs} (h1 : OnlyS gs vs) : Only (gT n gs) vs := by
  intro x e e' h j hj
  unfold gT at h
  split at h
  · split at h
    · exact h1 _ _ _ h j hj
    · cases h
  · cases h

theorem EnvR.wiped {K : PySem.W.Frag} {B : Mset} {H : Hp} {σ : St} {env : Sl} (en : EnvR K B H σ env) (vs : List Nat) : EnvR K B H (wipe σ vs) (wipeE env vs) := by
  refine ⟨by rw [wipeE_len, wipe_length]; exact en.len, fun i x h => ?_, fun i x h => ?_, fun i m c h => ?_, fun i j m n c d a h1 h2 h3 h4 => ?_, en.dom, en.tb⟩
  · obtain ⟨h1, h2⟩ := wipeE_in h
    rw [wipe_out h1]
    exact en.pd i x h2
  · obtain ⟨h1, h2⟩ := wipeE_in h
    rw [wipe_out h1]
    exact en.nt i x h2
  · obtain ⟨h1, h2⟩ := wipeE_in h
    rw [wipe_out h1]
    exact en.mu i m c h2
  · obtain ⟨k1, k2⟩ := wipeE_in h1
    obtain ⟨k3, k4⟩ := wipeE_in h2
    rw [wipe_out k1] at h3
    rw [wipe_out k3] at h4
    exact en.inj i j m n c d a k2 k4 h3 h4
theorem At.unwiped {K : PySem.W.Frag} {σ σ2 : St} {B B2 B4 : Mset} {H H2 H4 : Hp} {e e2 e4 : Sl} {vs : List Nat} (en : EnvR K B H σ e) (a : AtS K (wipe σ vs) B H (wipeE e vs) σ2 B2 H2 e2) (hw : wipe σ2 vs = wipe σ vs) (ho : ∀ j, j ∉ vs → e2[j]? = (wipeE e vs)[j]?)
    (b : At K σ2 B2 H2 e2 B4 H4 e4) : At K σ B H e B4 H4 (unwipe e e4 vs) := by
  have ew := en.wiped vs
  have t : Stp (Wof (wipe σ vs) (wipeE e vs)) B H (Wof σ2 e4) B4 H4 := a.st.trans b.st ew.wb ew.dom
  have hσ : ∀ j, j ∉ vs → σ2[j]? = σ[j]? := fun j hj => by rw [← wipe_out hj, hw, wipe_out hj]
  have l2 : e2.length = e.length := by rw [a.en.len, ← wipe_length σ2 vs, hw, wipe_length, en.len]
  have l4 : e4.length = e.length := by rw [b.en.len, ← a.en.len, l2]
  have wsub : ∀ p, Wof (wipe σ vs) (wipeE e vs) p → Wof σ e p := by
    rintro p ⟨i, m, c, h1, h2, h3⟩
    obtain ⟨k1, k2⟩ := wipeE_in h1
    rw [wipe_out k1] at h3
    exact ⟨i, m, c, k2, h2, h3⟩
  have hid : ∀ {i p}, i ∈ vs → (∃ m c, e[i]? = some (some (S.mu m c))) → σ[i]? = some (some (.ref p)) → ¬ Wof (wipe σ vs) (wipeE e vs) p := by
    rintro i p hi ⟨m, c, hm⟩ hp ⟨j, m1, c1, h1, h2, h3⟩
    obtain ⟨k1, k2⟩ := wipeE_in h1
    rw [wipe_out k1] at h3
    have z := en.inj i j _ _ _ _ p hm k2 hp h3
    subst z
    exact k1 hi
  have vis : ∀ (i : Nat) m c, i ∉ vs → e4[i]? = some (some (S.mu m c)) → ∃ c', e[i]? = some (some (.mu m c')) := fun i m c hi h => by
    obtain ⟨c1, h1⟩ := b.sm i m c h
    rw [ho i hi, wipeE_out hi] at h1
    exact ⟨c1, h1⟩
  have src : ∀ (i : Nat) m c, (unwipe e e4 vs)[i]? = some (some (S.mu m c)) → ∃ c', e[i]? = some (some (.mu m c')) := fun i m c h => by
    by_cases hi : i ∈ vs
    · rw [unwipe_in l4 hi] at h; exact ⟨c, h⟩
    · rw [unwipe_out hi] at h; exact vis i m c hi h
  refine ⟨⟨fun q o h c => t.keep q o h (c.imp (fun n => ⟨fun w => n.1 (wsub q w), n.2⟩) id), t.new, fun q h w => t.old q h fun w' => w (wsub q w'), fun q w => ?_, t.liv⟩, ⟨by rw [unwipe_len, l4, en.len], fun i x h => ?_, fun i x h => ?_, fun i m c h => ?_, fun i j m n c d p h1 h2 h3 h4 => ?_, b.en.dom, b.en.tb⟩, src, fun i m c h => ?_⟩
  · obtain ⟨i, m, c, h1, h2, h3⟩ := w
    obtain ⟨c', h4⟩ := src i m c h1
    exact .inl ⟨i, m, c', h4, h2, h3⟩
  · by_cases hi : i ∈ vs
    · rw [unwipe_in l4 hi] at h
      obtain ⟨v, k1, k2⟩ := en.pd i x h
      exact ⟨v, k1, k2.grow (t.grow ew.wb)⟩
    · rw [unwipe_out hi] at h
      obtain ⟨v, k1, k2⟩ := b.en.pd i x h
      rw [hσ i hi] at k1
      exact ⟨v, k1, k2⟩
  · by_cases hi : i ∈ vs
    · rw [unwipe_in l4 hi] at h
      obtain ⟨v, k1, k2⟩ := en.nt i x h
      exact ⟨v, k1, k2.grow (t.grow ew.wb)⟩
    · rw [unwipe_out hi] at h
      obtain ⟨v, k1, k2⟩ := b.en.nt i x h
      rw [hσ i hi] at k1
      exact ⟨v, k1, k2⟩
  · by_cases hi : i ∈ vs
    · rw [unwipe_in l4 hi] at h
      obtain ⟨p, k1, k2, k3⟩ := en.mu i m c h
      have nw := hid hi ⟨m, c, h⟩ k1
      exact ⟨p, k1, t.old p k2 nw, k3.keep t ew.wb nw⟩
    · rw [unwipe_out hi] at h
      obtain ⟨p, k1, k2, k3⟩ := b.en.mu i m c h
      rw [hσ i hi] at k1
      exact ⟨p, k1, k2, k3⟩
  · obtain ⟨c1, g1⟩ := src i m c h1
    obtain ⟨c2, g2⟩ := src j n d h2
    exact en.inj i j m n c1 c2 p g1 g2 h3 h4
  · by_cases hi : i ∈ vs
    · exact ⟨c, by rw [unwipe_in l4 hi]; exact h⟩
    · have h1 : e2[i]? = some (some (.mu m c)) := by rw [ho i hi, wipeE_out hi]; exact h
      obtain ⟨c', h2⟩ := b.ks i m c h1
      exact ⟨c', by rw [unwipe_out hi]; exact h2⟩
theorem At.app {K : PySem.W.Frag} {σ : St} {B B4 : Mset} {H H4 : Hp} {e e4 : Sl} {D : Addr} {ws ws' : List V} (en : EnvR K B H σ e) (a : At K σ B H e B4 H4 e4) (nD : H D = none) (bD : B4 D) (hD : H4 D = some (.lst ws)) (sD : ∀ (i : Nat) m d, e4[i]? = some (some (S.mu m d)) → σ[i]? ≠ some (some (V.ref D)))
    (fz : Mset) (hf : ∀ q, fz q → q ≠ D ∧ H q = none ∧ ∀ (i : Nat) m d, e4[i]? = some (some (S.mu m d)) → σ[i]? ≠ some (some (V.ref q))) :
    Grow B4 H4 (fun q => B4 q ∧ ¬ fz q) (upd H4 D (.lst ws')) ∧ At K σ B H e (fun q => B4 q ∧ ¬ fz q) (upd H4 D (.lst ws')) e4 := by
  have g : Grow B4 H4 (fun q => B4 q ∧ ¬ fz q) (upd H4 D (.lst ws')) := by
    refine ⟨fun q o h c => ?_, fun q h => .inl h.1⟩
    have : q ≠ D := fun z => by
      subst z
      rcases c with c | c
      · exact c.1 bD
      · rw [hD] at h; cases h; exact c
    rw [upd_ne this]; exact h
  refine ⟨g, ⟨fun q o h c => ?_, fun q h => a.st.new q h.1, fun q h w => ⟨a.st.old q h w, fun f => ?_⟩, a.st.sub, fun q h => ?_⟩, ⟨a.en.len, fun i x h => ?_, fun i x h => ?_, fun i m c h => ?_, a.en.inj, fun q h => ?_, a.en.tb.on (fun q o h n => by rw [upd_ne (fun z => n (by rw [z]; exact bD))]; exact h) g.new⟩, a.sm, a.ks⟩
  · have : q ≠ D := fun z => by rw [z, nD] at h; cases h
    rw [upd_ne this]; exact a.st.keep q o h c
  · obtain ⟨o, ho⟩ := en.dom q h
    rw [(hf q f).2.1] at ho; cases ho
  · by_cases z : q = D
    · rw [z]; exact nD
    · rw [upd_ne z] at h; exact a.st.liv q h
  · obtain ⟨v, k1, k2⟩ := a.en.pd i x h
    exact ⟨v, k1, k2.grow g⟩
  · obtain ⟨v, k1, k2⟩ := a.en.nt i x h
    exact ⟨v, k1, k2.grow g⟩
  · obtain ⟨p, k1, k2, k3⟩ := a.en.mu i m c h
    have np : p ≠ D := fun z => by subst z; exact sD i m c h k1
    refine ⟨p, k1, ⟨k2, fun f => (hf p f).2.2 i m c h k1⟩, ?_⟩
    cases c with
    | ls xs => obtain ⟨vs, h4, h5⟩ := k3; exact ⟨vs, by rw [upd_ne np]; exact h4, h5.grow g⟩
    | dk xs => obtain ⟨vs, h4, h5⟩ := k3; exact ⟨vs, by rw [upd_ne np]; exact h4, h5.grow g⟩
    | dn xs => obtain ⟨vs, h4, h5⟩ := k3; exact ⟨vs, by rw [upd_ne np]; exact h4, h5.grow g⟩
  · by_cases z : q = D
    · rw [z]; exact ⟨_, upd_same⟩
    · rw [upd_ne z]; exact a.en.dom q h.1

def lcL (g : GG) (t : EB) (f : EE) (vs : List Nat) : List PyData → Sl → List PyData → Option (List PyData × Sl)
  | [], env, acc => some (acc, env)
  | x :: xs, env, acc => match g x (wipeE env vs) with
    | none => none
    | some e1 => match t e1 with
      | none => none
      | some (b, e2) => if b = true then match f e2 with
          | none => none
          | some (d, e3) => match data1 d with
            | none => none
            | some y => lcL g t f vs xs (unwipe env e3 vs) (acc ++ [y])
        else lcL g t f vs xs (unwipe env e2 vs) acc
def eLc (it : EI) (g : GG) (t : EB) (f : EE) (vs : List Nat) : EE := fun env => match it env with
  | none => none
  | some (xs, lk, e1) => if xs.length ≤ 1000000 then match lcL g t f vs xs e1 [] with
      | none => none
      | some (acc, e2) => some (.tmp (.ls acc), unlock lk e2)
    else none
def bYes : EB := fun env => some (true, env)
theorem rd_yes {K : PySem.W.Frag} {σ : St} {H : Hp} {Q : Bool → Hp → Prop} (h : tT K bYes σ H Q) : tYes σ H Q := by
  obtain ⟨B, env, b, env', en, ev, q⟩ := h
  cases ev
  exact q B H (.refl en)
theorem At.through {K : PySem.W.Frag} {σ : St} {B B1 B2 : Mset} {H H1 H2 : Hp} {env e1 e1' e2 : Sl} {lk : Lk} (en : EnvR K B H σ env) (a : At K σ B H env B1 H1 e1) (l : Locked lk e1 e1') (b : At K σ B1 H1 e1' B2 H2 e2) : At K σ B H env B2 H2 (unlock lk e2) := by
  have h := AtS.through en a l b.s
  refine ⟨h.st, h.en, ?_, ?_⟩
  · cases lk with
    | none =>
      cases l
      exact fun i m c q => let ⟨c1, h1⟩ := b.sm i m c q; a.sm i m c1 h1
    | some p =>
      obtain ⟨i, m⟩ := p
      obtain ⟨c, h1, rfl⟩ := l
      have hi : i < e1.length := (List.getElem?_eq_some_iff.mp h1).1
      obtain ⟨c2, h2⟩ := b.ks i .fro c (by rw [List.getElem?_set_self hi])
      have eu : unlock (some (i, m)) e2 = e2.set i (some (.mu m c2)) := by simp only [unlock, h2]
      rw [eu]
      intro j n d q
      rcases get_set q with ⟨z, z'⟩ | ⟨z, q⟩
      · cases z'; subst z; exact a.sm i m c h1
      · obtain ⟨d1, q1⟩ := b.sm j n d q
        rw [List.getElem?_set_ne z] at q1
        exact a.sm j n d1 q1
  · cases lk with
    | none =>
      cases l
      exact fun i m c q => let ⟨c1, h1⟩ := a.ks i m c q; b.ks i m c1 h1
    | some p =>
      obtain ⟨i, m⟩ := p
      obtain ⟨c, h1, rfl⟩ := l
      have hi : i < e1.length := (List.getElem?_eq_some_iff.mp h1).1
      obtain ⟨c2, h2⟩ := b.ks i .fro c (by rw [List.getElem?_set_self hi])
      have hi2 : i < e2.length := (List.getElem?_eq_some_iff.mp h2).1
      have eu : unlock (some (i, m)) e2 = e2.set i (some (.mu m c2)) := by simp only [unlock, h2]
      rw [eu]
      intro j n d q
      obtain ⟨d1, q1⟩ := a.ks j n d q
      by_cases z : i = j
      · subst z
        rw [h1] at q1
        cases q1
        exact ⟨c2, by rw [List.getElem?_set_self hi2]⟩
      · obtain ⟨d2, q2⟩ := b.ks j n d1 (by rw [List.getElem?_set_ne z]; exact q1)
        exact ⟨d2, by rw [List.getElem?_set_ne z]; exact q2⟩

theorem rd_lc {K : PySem.W.Frag} {it : EI} {g : GG} {t : EB} {f : EE} {vs : List Nat} (hg : Only g vs) {σ : St} {H : Hp} {Q : VK} (h : tE K (eLc it g t f vs) σ H Q) : tLc (tI K it) (tGv K g vs) (tT K t) (tE K f) vs σ H Q := by
  obtain ⟨B, env, d, env', en, ev, q⟩ := h
  unfold eLc at ev
  split at ev
  · cases ev
  rename_i xs lk e1 h1
  split at ev
  rotate_left
  · cases ev
  rename_i hlen
  split at ev
  · cases ev
  rename_i accF e2 h2
  cases ev
  refine ⟨B, env, xs, lk, e1, en, h1, fun B1 H1 J pr G e0 a1 lkd wk g0 hpr D nD => ?_⟩
  have en1 : EnvR K B1 H1 σ e1 := lkd.en a1.en
  have stays : ∀ {Bi Hi ei}, At K σ B1 H1 e1 Bi Hi ei → G Bi Hi := fun {Bi Hi ei} a => wk.keep _ _ _ _ _ _ g0 a.st en1.wb fun x hx => (hpr x hx).1
  have slotNone : ∀ {Bi Hi ei}, At K σ B1 H1 e1 Bi Hi ei → ∀ p, H1 p = none → ∀ (i : Nat) m d, ei[i]? = some (some (S.mu m d)) → σ[i]? ≠ some (some (V.ref p)) := fun {Bi Hi ei} a p np i m d h3 h4 => by
    obtain ⟨c0, k0⟩ := a.sm i m d h3
    obtain ⟨p', k1, k2, _⟩ := en1.mu i m c0 k0
    rw [h4] at k1
    cases k1
    obtain ⟨o, ho⟩ := en1.dom p k2
    rw [np] at ho; cases ho
  let Iv : Nat → Hp → List PyData → Sl → Mset → Prop := fun i Hi acc ei Bi => At K σ B1 H1 e1 Bi Hi ei ∧ Bi D ∧ acc.length ≤ i ∧ (∃ ws, Hi D = some (.lst ws) ∧ RpA K Bi Hi ws acc) ∧ lcL g t f vs (xs.drop i) ei acc = some (accF, e2)
  refine ⟨fun i m Hi => i ≤ xs.length ∧ m = xs.length - i ∧ ∃ acc ei Bi, Iv i Hi acc ei Bi, ⟨_, Nat.zero_le _, rfl, [], e1, (fun q => (B1 q ∧ ¬ False) ∨ (True ∧ q = D)), ?_⟩, ?_⟩
  · obtain ⟨_, a2⟩ := (At.refl en1).alloc en1 nD (.lst []) True (fun _ => False) (fun _ z => z.elim)
    exact ⟨a2, .inr ⟨trivial, rfl⟩, Nat.le_refl _, ⟨[], upd_same, .nil⟩, h2⟩
  rintro i m Hi ⟨hi, rfl, acc, ei, Bi, ai, bD, hacc, ⟨ws, hD, rw_⟩, fi⟩
  have gi := stays ai
  by_cases hlt : i < xs.length
  · have hd : xs.drop i = xs[i] :: xs.drop (i + 1) := List.drop_eq_getElem_cons hlt
    rw [hd] at fi
    unfold lcL at fi
    split at fi
    · cases fi
    rename_i e3 h3
    refine .inr ⟨wk.go i Bi Hi gi hlt, fun H' => ∃ acc ei Bi, Iv (i + 1) H' acc ei Bi, fun H' ⟨acc', e', B', z⟩ => ⟨xs.length - (i + 1), by omega, hlt, rfl, acc', e', B', z⟩, fun x H' hy => ?_⟩
    obtain ⟨hH, rx⟩ := wk.yld i Bi Hi x H' xs[i] gi (List.getElem?_eq_getElem hlt) hy
    have ay : At K σ Bi Hi ei Bi H' ei := by
      rcases hH with e | ⟨T, vs, nT, e⟩ | ⟨T, vs, T2, vs2, nT, nT2, e⟩
      · subst e; exact .refl ai.en
      · subst e; exact At.pair ai.en nT
      · subst e; exact (At.pair ai.en nT).trans ai.en (At.pair (At.pair ai.en nT).en nT2)
    have ai' : At K σ B1 H1 e1 Bi H' ei := ai.trans en1 ay
    have hD' : H' D = some (.lst ws) := by
      rcases hH with e | ⟨T, us, nT, e⟩ | ⟨T, us, T2, us2, nT, nT2, e⟩
      · rw [e]; exact hD
      · rw [e, upd_ne (fun z => by rw [← z, hD] at nT; cases nT)]; exact hD
      · have h1 : upd Hi T (.tup us) D = some (.lst ws) := by rw [upd_ne (fun z => by rw [← z, hD] at nT; cases nT)]; exact hD
        rw [e, upd_ne (fun z => by rw [← z, h1] at nT2; cases nT2)]; exact h1
    have rw' : RpA K Bi H' ws acc := rw_.grow (ay.grow ai.en)
    refine ⟨Bi, wipeE ei vs, xs[i], e3, ay.en.wiped vs, rx, h3, fun B3 σ3 H3 a3 w3' => ?_⟩
    have w3 : wipe σ3 vs = wipe σ vs := w3'.trans wipe_idem
    refine ⟨w3, ?_⟩
    have ho : ∀ j, j ∉ vs → e3[j]? = (wipeE ei vs)[j]? := hg _ _ _ h3
    -- what lies behind some step of the block
    have out : ∀ {B4 H4 e4}, At K σ3 B3 H3 e3 B4 H4 e4 → At K σ B1 H1 e1 B4 H4 (unwipe ei e4 vs) ∧ B4 D ∧ H4 D = some (.lst ws) ∧ RpA K B4 H4 ws acc := fun {B4 H4 e4} b => by
      have u := At.unwiped ay.en a3 w3 ho b
      have nw : ¬ Wof σ ei D := by
        rintro ⟨j, m, c, k1, _, k3⟩
        exact slotNone ai' D nD j m c k1 k3
      exact ⟨ai'.trans en1 u, u.st.old D bD nw, u.st.keep D _ hD' (.inl ⟨nw, fun _ z => nomatch z⟩), rw'.grow (u.grow ay.en)⟩
    split at fi
    · cases fi
    rename_i b e4 h4
    refine ⟨B3, e3, b, e4, a3.en, h4, fun B4 H4 a4 => ?_⟩
    cases b with
    | false =>
      simp at fi ⊢
      obtain ⟨o1, o2, o3, o4⟩ := out a4
      exact ⟨acc, _, B4, o1, o2, by omega, ⟨ws, o3, o4⟩, fi⟩
    | true =>
      simp at fi ⊢
      split at fi
      · cases fi
      rename_i d e5 h5
      split at fi
      · cases fi
      rename_i y hy'
      refine ⟨B4, e4, d, e5, a4.en, h5, fun B5 H5 v a5 r5 => ?_⟩
      have a45 := a4.trans a3.en a5
      obtain ⟨o1, o2, o3, o4⟩ := out a45
      refine ⟨ws, o3, ?_, ?_⟩
      · have := o4.length; exact Nat.lt_of_le_of_lt (by omega) (small (n := i) (by omega))
      have hH1 : ∀ p, H4 p = none → H1 p = none := fun p z => (out a4).1.st.liv p z
      cases d with
      | var j => cases hy'
      | nt z =>
        cases hy'
        obtain ⟨p, rfl, r5⟩ := r5
        obtain ⟨g6, a6⟩ := o1.app (ws' := ws ++ [.ref p]) en1 nD o2 o3 (slotNone o1 D nD) (fun _ => False) (fun _ z => z.elim)
        exact ⟨_, _, _, a6, ⟨o2, id⟩, by simp; omega, ⟨_, upd_same, (o4.grow g6).append (.cons (r5.rp.grow g6) .nil)⟩, fi⟩
      | pd z =>
        cases hy'
        obtain ⟨g6, a6⟩ := o1.app (ws' := ws ++ [v]) en1 nD o2 o3 (slotNone o1 D nD) (fun _ => False) (fun _ z => z.elim)
        exact ⟨acc ++ [y], _, _, a6, ⟨o2, id⟩, by simp; omega, ⟨_, upd_same, (o4.grow g6).append (.cons (Rp.grow g6 r5) .nil)⟩, fi⟩
      | tmp c =>
        cases hy'
        obtain ⟨p, rfl, k1, k2, k3, k4⟩ := r5
        have npD : p ≠ D := fun z => by
          subst z
          obtain ⟨_, _, q3, _⟩ := out a4
          rw [q3] at k1; cases k1
        obtain ⟨g6, a6⟩ := o1.app (ws' := ws ++ [.ref p]) en1 nD o2 o3 (slotNone o1 D nD) (fun q => q = p) (fun q z => by subst z; exact ⟨npD, hH1 q k1, slotNone o1 q (hH1 q k1)⟩)
        exact ⟨acc ++ [ctD c], _, _, a6, ⟨o2, fun z => npD z.symm⟩, by simp; omega, ⟨_, upd_same, (o4.grow g6).append (.cons ((k3.hop g6 (fun o z => by rw [upd_ne npD]; exact z)).rp (fun z => z.2 rfl)) .nil)⟩, fi⟩
  · have e : i = xs.length := by omega
    subst e
    rw [List.drop_length] at fi
    cases fi
    refine .inl ⟨wk.stop Bi Hi gi, q Bi Hi _ (At.through en a1 lkd ai) (RR.relock (d := .tmp (.ls accF)) ⟨D, rfl, a1.st.liv D nD, bD, ⟨ws, hD, rw_⟩, slotNone ai D nD⟩)⟩
end T3

end
section
set_option linter.all false
set_option autoImplicit false
set_option Elab.async false
namespace T3
open PySem L2
variable [TabL]

theorem PI.imp {X : Cx} {tg e : Expr} {t t' : TI} (h : PI X tg e t) (i : ∀ σ H Q, t' σ H Q → t σ H Q) : PI X tg e t' := ⟨fun pins s σ H Q I q => h.run pins s σ H Q I (i σ H Q q)⟩
theorem PI.or {X : Cx} {tg e : Expr} {t t' : TI} (h : PI X tg e t) (h' : PI X tg e t') : PI X tg e (fun σ H Q => t σ H Q ∨ t' σ H Q) := ⟨fun pins s σ H Q I q => q.elim (h.run pins s σ H Q I) (h'.run pins s σ H Q I)⟩
def signs (s : Str) : List PyData := s.cps.toList.map fun c => .str ⟨#[c]⟩
def iSeq (f : EE) : EI := fun env => match f env with
  | some (.pd (.tuple xs), e) => some (xs, none, e)
  | some (.nt xs, e) => some (xs, none, e)
  | some (.pd (.list xs), e) => some (xs, none, e)
  | some (.pd (.str s), e) => some (signs s, none, e)
  | some (.tmp (.ls xs), e) => some (xs, none, e)
  | some (.var i, e) => match e[i]? with
    | some (some (.mu m (.ls xs))) => some (xs, some (i, m), e.set i (some (.mu .fro (.ls xs))))
    | _ => none
  | _ => none
theorem wk_tup {K : PySem.W.Frag} {a : Addr} {xs : List PyData} : Wk K (Itt K a) (fun _ => False) (fun B H => Rp K B H (.ref a) (.tuple xs)) xs where
  go i B H g hi := by
    obtain ⟨a', vs, e, h1, h2⟩ := Cn.tuple (.rp g)
    cases e
    exact ⟨vs, vs[i]'(by rw [h2.length]; exact hi), h1, by simp⟩
  stop B H g := by
    obtain ⟨a', vs, e, h1, h2⟩ := Cn.tuple (.rp g)
    cases e
    exact ⟨vs, h1, by rw [h2.length]; exact Nat.le_refl _⟩
  yld i B H x H' d g hd hy := by
    obtain ⟨a', vs, e, h1, h2⟩ := Cn.tuple (.rp g)
    cases e
    obtain ⟨rfl, hy⟩ := hy
    obtain ⟨v, k1, k2⟩ := h2.get hd
    rw [hy vs h1] at k1
    cases k1
    exact ⟨.inl rfl, k2⟩
  keep W B H W' B' H' g s wb _ := g.grow (s.grow wb)
theorem wk_lst {K : PySem.W.Frag} {a : Addr} {xs : List PyData} : Wk K (Itl K a) (fun _ => False) (fun B H => Rp K B H (.ref a) (.list xs)) xs where
  go i B H g hi := by
    obtain ⟨a', vs, e, h1, h2⟩ := Cn.list (.rp g)
    cases e
    exact ⟨vs, vs[i]'(by rw [h2.length]; exact hi), h1, by simp⟩
  stop B H g := by
    obtain ⟨a', vs, e, h1, h2⟩ := Cn.list (.rp g)
    cases e
    exact ⟨vs, h1, by rw [h2.length]; exact Nat.le_refl _⟩
  yld i B H x H' d g hd hy := by
    obtain ⟨a', vs, e, h1, h2⟩ := Cn.list (.rp g)
    cases e
    obtain ⟨rfl, hy⟩ := hy
    obtain ⟨v, k1, k2⟩ := h2.get hd
    rw [hy vs h1] at k1
    cases k1
    exact ⟨.inl rfl, k2⟩
  keep W B H W' B' H' g s wb _ := g.grow (s.grow wb)
theorem wk_mut {K : PySem.W.Frag} {a : Addr} {xs : List PyData} : Wk K (Itl K a) (fun q => q = a) (fun B H => ∃ vs, H a = some (.lst vs) ∧ RpA K B H vs xs) xs where
  go i B H g hi := by
    obtain ⟨vs, h1, h2⟩ := g
    exact ⟨vs, vs[i]'(by rw [h2.length]; exact hi), .inl (.inl h1), by simp⟩
  stop B H g := by
    obtain ⟨vs, h1, h2⟩ := g
    exact ⟨vs, .inl (.inl h1), by rw [h2.length]; exact Nat.le_refl _⟩
  yld i B H x H' d g hd hy := by
    obtain ⟨vs, h1, h2⟩ := g
    obtain ⟨rfl, hy⟩ := hy
    obtain ⟨v, k1, k2⟩ := h2.get hd
    rw [hy vs (.inl (.inl h1))] at k1
    cases k1
    exact ⟨.inl rfl, k2⟩
  keep W B H W' B' H' g s wb hp := by
    obtain ⟨vs, h1, h2⟩ := g
    exact ⟨vs, s.keep _ _ h1 (.inl ⟨hp a rfl, fun _ z => nomatch z⟩), h2.grow (s.grow wb)⟩
theorem signs_len {s : Str} : (signs s).length = s.cps.size := by simp [signs]
theorem wk_str {K : PySem.W.Frag} {s : Str} : Wk K (Its s) (fun _ => False) (fun _ _ => True) (signs s) where
  go i B H g hi := by rw [signs_len] at hi; exact hi
  stop B H g := by rw [signs_len]; exact Nat.le_refl _
  yld i B H x H' d g hd hy := by
    obtain ⟨rfl, c, h1, rfl⟩ := hy
    refine ⟨.inl rfl, ?_⟩
    simp only [signs, List.getElem?_map, Array.getElem?_toList, h1] at hd
    cases hd
    exact .str _
  keep W B H W' B' H' g s wb hp := trivial
theorem rd_seq_ {K : PySem.W.Frag} {f : EE} {σ : St} {H : Hp} {R : It → Hp → Prop} (h : tI K (iSeq f) σ H R) : iList K (tE K f) σ H R ∨ iTup K (tE K f) σ H R ∨ iStr (tE K f) σ H R := by
  obtain ⟨B, env, xs, lk, env', en, ev, q⟩ := h
  unfold iSeq at ev
  split at ev
  · rename_i ys e h1
    cases ev
    refine .inr (.inl ⟨B, env, _, _, en, h1, fun B1 H1 v a1 r1 => ?_⟩)
    have r1 : Rp K B1 H1 v (.tuple xs) := r1
    obtain ⟨a, vs, rfl, h2, h3⟩ := Cn.tuple (.rp r1)
    exact ⟨a, rfl, ⟨vs, h2⟩, q B1 H1 _ _ _ _ a1 rfl wk_tup r1 (fun _ z => z.elim)⟩
  · rename_i ys e h1
    cases ev
    refine .inr (.inl ⟨B, env, _, _, en, h1, fun B1 H1 v a1 r1 => ?_⟩)
    obtain ⟨p, rfl, r1⟩ := r1
    obtain ⟨a, vs, e, h2, h3⟩ := Cn.tuple (.rp r1.rp)
    cases e
    exact ⟨_, rfl, ⟨vs, h2⟩, q B1 H1 _ _ _ _ a1 rfl wk_tup r1.rp (fun _ z => z.elim)⟩
  · rename_i ys e h1
    cases ev
    refine .inl ⟨B, env, _, _, en, h1, fun B1 H1 v a1 r1 => ?_⟩
    have r1 : Rp K B1 H1 v (.list xs) := r1
    obtain ⟨a, vs, rfl, h2, h3⟩ := Cn.list (.rp r1)
    exact ⟨a, rfl, ⟨vs, h2⟩, q B1 H1 _ _ _ _ a1 rfl wk_lst r1 (fun _ z => z.elim)⟩
  · rename_i s e h1
    cases ev
    refine .inr (.inr ⟨B, env, _, _, en, h1, fun B1 H1 v a1 r1 => ?_⟩)
    have r1 : Rp K B1 H1 v (.str s) := r1
    cases r1
    exact ⟨s, rfl, q B1 H1 _ _ _ _ a1 rfl wk_str trivial (fun _ z => z.elim)⟩
  · rename_i ys e h1
    cases ev
    refine .inl ⟨B, env, _, _, en, h1, fun B1 H1 v a1 r1 => ?_⟩
    obtain ⟨a, rfl, k0, k1, ⟨vs, k2, k3⟩, k4⟩ := r1
    refine ⟨a, rfl, ⟨vs, .inl (.inl k2)⟩, q B1 H1 _ _ _ _ a1 rfl wk_mut ⟨vs, k2, k3⟩ (fun p z => ?_)⟩
    subst z
    exact ⟨fun ⟨i, m, c, g1, _, g3⟩ => k4 i m c g1 g3, _, k2⟩
  · rename_i i e h1
    split at ev
    · rename_i m ys h2
      cases ev
      refine .inl ⟨B, env, _, _, en, h1, fun B1 H1 v a1 r1 => ?_⟩
      obtain ⟨k1, _⟩ := r1
      obtain ⟨a, g1, g2, vs, g3, g4⟩ := a1.en.mu i _ _ h2
      rw [k1] at g1
      cases g1
      refine ⟨a, rfl, ⟨vs, .inl (.inl g3)⟩, q B1 H1 _ _ _ _ a1 ⟨_, h2, rfl⟩ wk_mut ⟨vs, g3, g4⟩ (fun p z => ?_)⟩
      subst z
      refine ⟨fun ⟨j, m', c, z1, z2, z3⟩ => ?_, _, g3⟩
      rcases get_set z1 with ⟨e1, e2⟩ | ⟨e1, z1⟩
      · cases e2; exact z2 rfl
      · exact e1 (a1.en.inj i j _ _ _ _ _ h2 z1 k1 z3)
    · cases ev
  · cases ev
theorem i_seq {X : Cx} {tg l : Expr} {f : EE} (h : PE X l (tE X.K f)) : PI X tg l (tI X.K (iSeq f)) := PI.imp (PI.or (pi_list h) (PI.or (pi_tup h) (pi_str h))) fun _ _ _ t => rd_seq_ t
def rgD (i : Int) (n : Nat) (c : Int) : List PyData := (List.range n).map fun k => .int (i + (k : Nat) * c)
theorem rgD_get {i c : Int} {n k : Nat} {d : PyData} (h : (rgD i n c)[k]? = some d) : d = .int (i + (k : Nat) * c) := by
  simp only [rgD, List.getElem?_map] at h
  by_cases z : k < n
  · rw [List.getElem?_range z] at h; cases h; rfl
  · rw [List.getElem?_eq_none (by simpa using z)] at h; cases h
theorem wk_rng {K : PySem.W.Frag} {i : Int} {n : Nat} : Wk K (Itr i n) (fun _ => False) (fun _ _ => True) (rgD i n 1) where
  go k B H g hi := by simp [rgD] at hi; exact hi
  stop B H g := by simp [rgD, Itr, Itc]
  yld k B H x H' d g hd hy := by
    obtain ⟨rfl, rfl⟩ := hy
    have := rgD_get hd
    subst this
    rw [Int.mul_one]
    exact ⟨.inl rfl, .int _⟩
  keep W B H W' B' H' g s wb hp := trivial
def RgI1 (j : Int) : Prop := -(2 ^ 62) ≤ j ∧ j < 2 ^ 62
def RgI2 (i j : Int) : Prop := -(2 ^ 62) ≤ i ∧ i < 2 ^ 62 ∧ -(2 ^ 62) ≤ j ∧ j < 2 ^ 62
noncomputable instance (j : Int) : Decidable (RgI1 j) := Classical.propDecidable _
noncomputable instance (i j : Int) : Decidable (RgI2 i j) := Classical.propDecidable _
noncomputable def iRg1 (f : EA) : EI := fun env => match f env with
  | some ([.pd (.int j)], e) => if RgI1 j then some (rgD 0 j.toNat 1, none, e) else none
  | _ => none
theorem RRA.int1 {K : PySem.W.Frag} {H₀ : Hp} {B : Mset} {H : Hp} {σ : St} {env : Sl} {vs : List V} {j : Int} (r : RRA K H₀ B H σ env vs [.pd (.int j)]) : vs = [.int j] := by
  match vs, r with
  | [v], r =>
    have := r.each 0 v _ rfl rfl
    have this : Rp K B H v (.int j) := this
    cases this
    rfl
  | [], r => have := r.len; simp at this
  | _ :: _ :: _, r => have := r.len; simp at this
theorem rd_rg1 {K : PySem.W.Frag} {f : EA} {σ : St} {H : Hp} {R : It → Hp → Prop} (h : tI K (iRg1 f) σ H R) : iRng1 (tA K f) σ H R := by
  obtain ⟨B, env, xs, lk, env', en, ev, q⟩ := h
  unfold iRg1 at ev
  split at ev
  · rename_i j e h1
    split at ev
    · rename_i hb
      cases ev
      refine ⟨B, env, _, _, en, h1, fun B1 H1 vs a1 r1 => ⟨j, r1.int1, hb.1, hb.2, q B1 H1 _ _ _ _ a1 rfl wk_rng trivial (fun _ z => z.elim)⟩⟩
    · cases ev
  · cases ev
theorem i_rg1 {X : Cx} {tg a : Expr} {f : EA} {p pos : Pos} (hg : Gl X "range") (hm : X.mg "range" = none) (ha : PA X [a] (tA X.K f)) (hs : starEach [a] X.env = [(false, eval a X.env)] := by rfl) : PI X tg (.Call (.Name "range" p) [a] [] pos) (tI X.K (iRg1 f)) :=
  PI.imp (pi_range1 hg hm ha hs) fun _ _ _ t => rd_rg1 t
end T3

end
section
set_option linter.all false
set_option autoImplicit false
set_option Elab.async false
namespace T3
open PySem L2
variable [TabL]

theorem CnA.one {K : PySem.W.Frag} {B : Mset} {H : Hp} {vs : List V} {x : PyData} (h : CnA K B H vs [x]) : ∃ v, vs = [v] ∧ Cn K B H v x := by
  cases h with
  | cons h1 h2 => cases h2; exact ⟨_, rfl, h1⟩
theorem CnA.two {K : PySem.W.Frag} {B : Mset} {H : Hp} {vs : List V} {x y : PyData} (h : CnA K B H vs [x, y]) : ∃ v w, vs = [v, w] ∧ Cn K B H v x ∧ Cn K B H w y := by
  cases h with
  | cons h1 h2 => obtain ⟨w, rfl, h3⟩ := h2.one; exact ⟨_, _, rfl, h1, h3⟩
def kOr (k1 k2 : KK) : KK := fun ds env => match k1 ds env with
  | some r => some r
  | none => k2 ds env
theorem con_or {K : PySem.W.Frag} {k1 k2 : KK} {r1 r2 : List V → Hp → VK → Prop} (h1 : Con K k1 r1) (h2 : Con K k2 r2) : Con K (kOr k1 k2) (fun vs H Q => r1 vs H Q ∨ r2 vs H Q) := by
  intro σ H B env B1 H1 env1 vs ds d e2 Q en a rr hk q
  unfold kOr at hk
  split at hk
  · rename_i r hr
    cases hk
    exact .inl (h1 σ H B env B1 H1 env1 vs ds d e2 Q en a rr hr q)
  · exact .inr (h2 σ H B env B1 H1 env1 vs ds d e2 Q en a rr hk q)
theorem con_or2 {K : PySem.W.Frag} {k1 k2 : KK} {r1 r2 : R2} (h1 : Con K k1 (l2 r1)) (h2 : Con K k2 (l2 r2)) : Con K (kOr k1 k2) (l2 fun x y H Q => r1 x y H Q ∨ r2 x y H Q) := by
  intro σ H B env B1 H1 env1 vs ds d e2 Q en a rr hk q x y e
  exact (con_or h1 h2 σ H B env B1 H1 env1 vs ds d e2 Q en a rr hk q).imp (fun z => z x y e) (fun z => z x y e)

def oI (C : Int → Int → Prop) [∀ i j, Decidable (C i j)] (g : Int → Int → PyData) : List PyData → Option PyData
  | [.int i, .int j] => if C i j then some (g i j) else none
  | _ => none
theorem ok_I {K : PySem.W.Frag} {C : Int → Int → Prop} [∀ i j, Decidable (C i j)] {g : Int → Int → Int} : OkE K (oI C fun i j => .int (g i j)) (l2 (rI C fun i j => .int (g i j))) := by
  intro B H vs xs z Q cn ho q x y e
  unfold oI at ho
  split at ho
  · split at ho
    · rename_i i j hc
      cases ho
      obtain ⟨v, w, e2, c1, c2⟩ := cn.two
      rw [e] at e2
      cases e2
      exact ⟨i, j, c1.int, c2.int, hc, q _ (.int _)⟩
    · cases ho
  · cases ho
theorem ok_I0 {K : PySem.W.Frag} {g : Int → Int → Int} : OkE K (oI (fun _ _ => True) fun i j => .int (g i j)) (l2 (rI0 fun i j => .int (g i j))) := by
  intro B H vs xs z Q cn ho q x y e
  obtain ⟨i, j, h1, h2, _, h3⟩ := ok_I (C := fun _ _ => True) (g := g) B H vs xs z Q cn ho q x y e
  exact ⟨i, j, h1, h2, h3⟩
theorem ok_B0 {K : PySem.W.Frag} {g : Int → Int → Bool} : OkE K (oI (fun _ _ => True) fun i j => .bool (g i j)) (l2 (rI0 fun i j => .bl (g i j))) := by
  intro B H vs xs z Q cn ho q x y e
  unfold oI at ho
  split at ho
  · rename_i i j
    simp at ho
    cases ho
    obtain ⟨v, w, e2, c1, c2⟩ := cn.two
    rw [e] at e2
    cases e2
    exact ⟨i, j, c1.int, c2.int, q _ (.bl _)⟩
  · cases ho
noncomputable instance (i j : Int) : Decidable (CMul i j) := Classical.propDecidable _
noncomputable instance (i j : Int) : Decidable (CDivW i j) := Classical.propDecidable _
noncomputable instance (i j : Int) : Decidable (CPow i j) := Classical.propDecidable _
def kSub : KK := kE (oI (fun _ _ => True) fun i j => .int (i - j))
theorem cdv (i j : Int) (h1 : 0 < j) (h2 : j < 1000000000000000) : CDivW i j := by
  refine ⟨h1, ?_⟩
  have : j.natAbs.log2 < 50 := (Nat.log2_lt (by omega)).mpr (by omega)
  omega
noncomputable def kFdiv : KK := kE (oI CDivW fun i j => .int (i / j))
def kMod : KK := kE (oI (fun _ j => 0 < j) fun i j => .int (i % j))
noncomputable def kPow : KK := kE (oI CPow fun i j => .int (i ^ j.toNat))
def kLt0 : KK := kE (oI (fun _ _ => True) fun i j => .bool (decide (i < j)))
def kLe : KK := kE (oI (fun _ _ => True) fun i j => .bool (decide (i ≤ j)))
def oLtG : List PyData → Option PyData
  | [.tuple xs, .tuple ys] => if SeqAt.shaped (.tuple xs) = true ∧ SeqAt.shaped (.tuple ys) = true ∧ PySem.W.alike (.tuple xs) (.tuple ys) = true ∧ (PyData.tuple xs).depth ≤ 30 then some (.bool (PySem.W.dataLt (.tuple xs) (.tuple ys))) else none
  | _ => none
def oGtG : List PyData → Option PyData
  | [.tuple xs, .tuple ys] => if SeqAt.shaped (.tuple xs) = true ∧ SeqAt.shaped (.tuple ys) = true ∧ PySem.W.alike (.tuple xs) (.tuple ys) = true ∧ (PyData.tuple xs).depth ≤ 30 then some (.bool (PySem.W.dataLt (.tuple ys) (.tuple xs))) else none
  | _ => none
def rLtG (K : PySem.W.Frag) : R2 := fun x y H Q => ∃ d e, Dp K H x d ∧ Dp K H y e ∧ PySem.W.alike d e = true ∧ d ≠ .none ∧ d.depth ≤ 30 ∧ Q (.bl (PySem.W.dataLt d e)) H
def rGtG (K : PySem.W.Frag) : R2 := fun x y H Q => ∃ d e, Dp K H x d ∧ Dp K H y e ∧ PySem.W.alike d e = true ∧ d ≠ .none ∧ d.depth ≤ 30 ∧ Q (.bl (PySem.W.dataLt e d)) H
theorem op_ltG {X : Cx} (hu : X.A.units + 64 < cLine) : OpR X (compareOp .Lt) (rLtG X.K) := by
  intro pins s σ H x y v u Q I rx ry h
  obtain ⟨d, e, hd, he, al, nn, dp, q⟩ := h
  obtain ⟨as, r1⟩ := Dp.reads I d x v hd rx
  obtain ⟨bs, r2⟩ := Dp.reads I e y u he ry
  exact PySem.W.lt_data r1 r2 al nn (by omega) ⟨.bl _, H, I, rfl, q⟩
theorem op_gtG {X : Cx} (hu : X.A.units + 64 < cLine) : OpR X (compareOp .Gt) (rGtG X.K) := by
  intro pins s σ H x y v u Q I rx ry h
  obtain ⟨d, e, hd, he, al, nn, dp, q⟩ := h
  obtain ⟨as, r1⟩ := Dp.reads I d x v hd rx
  obtain ⟨bs, r2⟩ := Dp.reads I e y u he ry
  exact PySem.W.gt_data r1 r2 al nn (by omega) ⟨.bl _, H, I, rfl, q⟩
theorem ok_ltG {K : PySem.W.Frag} : OkE K oLtG (l2 (rLtG K)) := by
  intro B H vs xs z Q cn ho q x y e
  unfold oLtG at ho
  split at ho
  · split at ho
    · rename_i a b hs
      cases ho
      obtain ⟨v, w, e2, c1, c2⟩ := cn.two
      rw [e] at e2
      cases e2
      exact ⟨_, _, c1.dp hs.1, c2.dp hs.2.1, hs.2.2.1, by simp, hs.2.2.2, q _ (.bl _)⟩
    · cases ho
  · cases ho
theorem ok_gtG {K : PySem.W.Frag} : OkE K oGtG (l2 (rGtG K)) := by
  intro B H vs xs z Q cn ho q x y e
  unfold oGtG at ho
  split at ho
  · split at ho
    · rename_i a b hs
      cases ho
      obtain ⟨v, w, e2, c1, c2⟩ := cn.two
      rw [e] at e2
      cases e2
      exact ⟨_, _, c1.dp hs.1, c2.dp hs.2.1, hs.2.2.1, by simp, hs.2.2.2, q _ (.bl _)⟩
    · cases ho
  · cases ho
def kGt : KK := kOr (kE (oI (fun _ _ => True) fun i j => .bool (decide (j < i)))) (kE oGtG)
def oNeg : List PyData → Option PyData
  | [.int i] => some (.int (-i))
  | _ => none
def kNeg : KK := kE oNeg
theorem c_neg {K : PySem.W.Frag} : Con K kNeg (l1 (rU fun i => .int (-i))) := con_E <| by
  intro B H vs xs z Q cn ho q x e
  unfold oNeg at ho
  split at ho
  · cases ho
    obtain ⟨v, e2, c1⟩ := cn.one
    rw [e] at e2
    cases e2
    exact ⟨_, c1.int, q _ (.int _)⟩
  · cases ho

def oCatS : List PyData → Option PyData
  | [.str i, .str j] => if i.length + j.length ≤ 1000000 then some (.str (i ++ j)) else none
  | _ => none
def rCatS : R2 := fun x y H Q => ∃ i j, x = .str i ∧ y = .str j ∧ i.length + j.length ≤ sizeLine ∧ Q (.str (i ++ j)) H
theorem ok_catS {K : PySem.W.Frag} : OkE K oCatS (l2 rCatS) := by
  intro B H vs xs z Q cn ho q x y e
  unfold oCatS at ho
  split at ho
  · split at ho
    · rename_i hl
      cases ho
      obtain ⟨v, w, e2, c1, c2⟩ := cn.two
      rw [e] at e2
      cases e2
      exact ⟨_, _, c1.str, c2.str, Nat.le_of_lt (small hl), q _ (.str _)⟩
    · cases ho
  · cases ho
def oCatT : List PyData → Option (List PyData)
  | [.tuple xs, .tuple ys] => if xs.length + ys.length ≤ 1000000 then some (xs ++ ys) else none
  | _ => none
theorem ok_catT {K : PySem.W.Frag} : OkT K oCatT (l2 (rCatA K)) := by
  intro B H vs xs z Q cn ho q0 q x y e
  unfold oCatT at ho
  split at ho
  · split at ho
    · rename_i xs ys hl
      cases ho
      obtain ⟨v, w, e2, c1, c2⟩ := cn.two
      rw [e] at e2
      cases e2
      obtain ⟨a, us, rfl, h1, h2⟩ := c1.tuple
      obtain ⟨b, ws, rfl, h3, h4⟩ := c2.tuple
      refine ⟨a, b, us, ws, rfl, rfl, h1, h3, ?_, fun z => ?_, fun z z2 => ?_, fun z z2 p np => q _ p (h2.append h4) np⟩
      · rw [h2.length, h4.length]; exact Nat.le_of_lt (small hl)
      · subst z; cases h2; exact q0 _ (.tup h3 h4)
      · subst z2; cases h4; rw [List.append_nil] at q0; exact q0 _ (.tup h1 h2)
    · cases ho
  · cases ho
def lsOf (env : Sl) : R → Option (List PyData)
  | .tmp (.ls xs) => some xs
  | .var i => match env[i]? with
    | some (some (.mu _ (.ls xs))) => some xs
    | _ => none
  | _ => none
theorem lsOf_at {K : PySem.W.Frag} {H₀ : Hp} {B : Mset} {H : Hp} {σ : St} {env : Sl} {v : V} {d : R} {xs : List PyData} (en : EnvR K B H σ env) (h : RA K H₀ B H σ env v d) (c : lsOf env d = some xs) : ∃ a vs, v = .ref a ∧ H a = some (.lst vs) ∧ RpA K B H vs xs := by
  cases d with
  | pd y => cases c
  | nt y => cases c
  | tmp t =>
    cases t with
    | ls ys => cases c; obtain ⟨a, rfl, _, _, ⟨vs, h1, h2⟩, _⟩ := h; exact ⟨a, vs, rfl, h1, h2⟩
    | dk _ => cases c
    | dn _ => cases c
  | var i =>
    simp only [lsOf] at c
    split at c
    · rename_i m ys hx
      cases c
      obtain ⟨a, h1, _, vs, h2, h3⟩ := en.mu _ _ _ hx
      have h : σ[i]? = some (some v) := h
      rw [h] at h1
      cases h1
      exact ⟨a, vs, rfl, h2, h3⟩
    · cases c
def kCatL : KK := fun ds env => match ds with
  | [d1, d2] => match lsOf env d1 with
    | none => none
    | some xs => match lsOf env d2 with
      | none => none
      | some ys => if xs.length + ys.length ≤ 1000000 then some (.tmp (.ls (xs ++ ys)), env) else none
  | _ => none
theorem con_new {K : PySem.W.Frag} {σ : St} {B B1 : Mset} {H H1 : Hp} {env env1 : Sl} {p : Addr} {ws : List V} {xs : List PyData} {Q : VK} (en : EnvR K B H σ env) (a : At K σ B H env B1 H1 env1) (np : H1 p = none) (hw : RpA K B1 H1 ws xs)
    (q : ∀ B' H' v, At K σ B H env B' H' env1 → RR K H B' H' σ env1 v (.tmp (.ls xs)) → Q v H') : Q (.ref p) (upd H1 p (.lst ws)) := by
  obtain ⟨g, a2⟩ := a.alloc en np (.lst ws) True (fun _ => False) (fun _ f => f.elim)
  refine q _ _ _ a2 ⟨p, rfl, a.st.liv _ np, .inr ⟨trivial, rfl⟩, ⟨ws, upd_same, hw.grow g⟩, fun i m d h1 h2 => ?_⟩
  obtain ⟨b, h3, h4, _⟩ := a.en.mu i m d h1
  rw [h3] at h2
  cases h2
  obtain ⟨o', ho⟩ := a.en.dom _ h4
  rw [np] at ho; cases ho
theorem c_catL {K : PySem.W.Frag} : Con K kCatL (l2 rCat) := by
  intro σ H B env B1 H1 env1 vs ds d e2 Q en a rr hk q x y e
  unfold kCatL at hk
  split at hk
  · rename_i d1 d2
    split at hk
    · cases hk
    rename_i xs hx
    split at hk
    · cases hk
    rename_i ys hy
    split at hk
    · rename_i hl
      cases hk
      subst e
      obtain ⟨p, us, rfl, h1, h2⟩ := lsOf_at a.en (rr.each 0 x d1 rfl rfl) hx
      obtain ⟨p2, ws, rfl, h3, h4⟩ := lsOf_at a.en (rr.each 1 y d2 rfl rfl) hy
      exact ⟨p, p2, us, ws, rfl, rfl, h1, h3, by rw [h2.length, h4.length]; exact Nat.le_of_lt (small hl), fun r nr => con_new en a nr (h2.append h4) q⟩
    · cases hk
  · cases hk
def kAdd : KK := kOr (kE (oI (fun _ _ => True) fun i j => .int (i + j))) (kOr (kE oCatS) (kOr (kT oCatT) kCatL))
def oRepT : List PyData → Option (List PyData)
  | [.tuple xs, .int k] => if xs ≠ [] ∧ 2 ≤ k ∧ k ≤ 1000 ∧ xs.length ≤ 1000 then some (List.replicate k.toNat xs).flatten else none
  | _ => none
theorem RpA.rep {K : PySem.W.Frag} {B : Mset} {H : Hp} {vs : List V} {xs : List PyData} (h : RpA K B H vs xs) : ∀ k : Nat, RpA K B H (List.replicate k vs).flatten (List.replicate k xs).flatten
  | 0 => .nil
  | k + 1 => by
    rw [List.replicate_succ, List.replicate_succ, List.flatten_cons, List.flatten_cons]
    exact h.append (RpA.rep h k)
theorem ok_repT {K : PySem.W.Frag} : OkT K oRepT (l2 (rRepT K)) := by
  intro B H vs xs z Q cn ho q0 q x y e
  unfold oRepT at ho
  split at ho
  · split at ho
    · rename_i xs k hl
      cases ho
      obtain ⟨v, w, e2, c1, c2⟩ := cn.two
      rw [e] at e2
      cases e2
      obtain ⟨a, us, rfl, h1, h2⟩ := c1.tuple
      refine ⟨a, k, us, rfl, c2.int, h1, fun z => ?_, hl.2.1, hl.2.2.1, by rw [h2.length]; exact hl.2.2.2, fun p np => q _ p (h2.rep _) np⟩
      subst z
      cases h2
      exact hl.1 rfl
    · cases ho
  · cases ho
noncomputable def kMul : KK := kOr (kE (oI CMul fun i j => .int (i * j))) (kT oRepT)

def oEq : List PyData → Option PyData
  | [x, y] => if SeqAt.shaped x = true ∧ SeqAt.shaped y = true then some (.bool (PyData.eqv x y)) else none
  | _ => none
def oNe : List PyData → Option PyData
  | [x, y] => if SeqAt.shaped x = true ∧ SeqAt.shaped y = true then some (.bool (!PyData.eqv x y)) else none
  | _ => none
theorem ok_eq {K : PySem.W.Frag} : OkE K oEq (l2 (rEqD K)) := by
  intro B H vs xs z Q cn ho q x y e
  unfold oEq at ho
  split at ho
  · split at ho
    · rename_i a b hs
      cases ho
      obtain ⟨v, w, e2, c1, c2⟩ := cn.two
      rw [e] at e2
      cases e2
      exact ⟨a, b, c1.dp hs.1, c2.dp hs.2, hs.1, hs.2, q _ (.bl _)⟩
    · cases ho
  · cases ho
theorem ok_ne {K : PySem.W.Frag} : OkE K oNe (l2 (rNeD K)) := by
  intro B H vs xs z Q cn ho q x y e
  unfold oNe at ho
  split at ho
  · split at ho
    · rename_i a b hs
      cases ho
      obtain ⟨v, w, e2, c1, c2⟩ := cn.two
      rw [e] at e2
      cases e2
      exact ⟨a, b, c1.dp hs.1, c2.dp hs.2, hs.1, hs.2, q _ (.bl _)⟩
    · cases ho
  · cases ho
def rInT (K : PySem.W.Frag) (neg : Bool) : R2 := fun x y H Q => ∃ d ds, Dp K H x d ∧ Dp K H y (.tuple ds) ∧ SeqAt.shaped d = true ∧ SeqAt.shaped (.tuple ds) = true ∧ Q (.bl (if neg = true then !ds.any (fun z => PyData.eqv z d) else ds.any (fun z => PyData.eqv z d))) H
theorem room_in {A : Around} {xs : List PyData} {d : PyData} (hd : SeqAt.shaped d = true) (hu : A.units + 65 < cLine) : A.units + 1 + min (PyData.depthAll xs) d.depth < cLine := by
  have h1 := SeqAt.depth_of_shaped hd
  have h2 := Nat.min_le_right (PyData.depthAll xs) d.depth
  omega
theorem op_inT {X : Cx} (hu : X.A.units + 65 < cLine) : OpR X (compareOp .In) (rInT X.K false) := by
  intro pins s σ H x y v u Q I rx ry h
  obtain ⟨d, ds, hd, he, sd, se, q⟩ := h
  obtain ⟨as, r1⟩ := Dp.reads I d x v hd rx
  obtain ⟨bs, r2⟩ := Dp.reads I _ y u he ry
  have hl : PyData.canLayAll0 ds = true := SeqAt.canLay_of_shaped se
  exact SeqAt.in_tuple_reads r2 r1 hl (SeqAt.canLay_of_shaped sd) (room_in sd hu) ⟨.bl _, H, I, rfl, by simpa using q⟩
theorem op_notInT {X : Cx} (hu : X.A.units + 65 < cLine) : OpR X (compareOp .NotIn) (rInT X.K true) := by
  intro pins s σ H x y v u Q I rx ry h
  obtain ⟨d, ds, hd, he, sd, se, q⟩ := h
  obtain ⟨as, r1⟩ := Dp.reads I d x v hd rx
  obtain ⟨bs, r2⟩ := Dp.reads I _ y u he ry
  have hl : PyData.canLayAll0 ds = true := SeqAt.canLay_of_shaped se
  exact SeqAt.notIn_tuple_reads r2 r1 hl (SeqAt.canLay_of_shaped sd) (room_in sd hu) ⟨.bl _, H, I, rfl, by simpa using q⟩
def oIn (neg : Bool) : List PyData → Option PyData
  | [x, .list ys] => if SeqAt.shaped x = true ∧ SeqAt.shaped (.list ys) = true then some (.bool (if neg = true then !ys.any (fun z => PyData.eqv z x) else ys.any (fun z => PyData.eqv z x))) else none
  | [x, .tuple ys] => if SeqAt.shaped x = true ∧ SeqAt.shaped (.tuple ys) = true then some (.bool (if neg = true then !ys.any (fun z => PyData.eqv z x) else ys.any (fun z => PyData.eqv z x))) else none
  | _ => none
theorem ok_in {K : PySem.W.Frag} : OkE K (oIn false) (l2 fun x y H Q => rInD K x y H Q ∨ rInT K false x y H Q) := by
  intro B H vs xs z Q cn ho q x y e
  unfold oIn at ho
  split at ho
  · split at ho
    · rename_i a b hs
      cases ho
      obtain ⟨v, w, e2, c1, c2⟩ := cn.two
      rw [e] at e2
      cases e2
      exact .inl ⟨_, _, c1.dp hs.1, c2.dp hs.2, hs.1, hs.2, q _ (.bl _)⟩
    · cases ho
  · split at ho
    · rename_i a b hs
      cases ho
      obtain ⟨v, w, e2, c1, c2⟩ := cn.two
      rw [e] at e2
      cases e2
      exact .inr ⟨_, _, c1.dp hs.1, c2.dp hs.2, hs.1, hs.2, q _ (.bl _)⟩
    · cases ho
  · cases ho
theorem ok_notin {K : PySem.W.Frag} : OkE K (oIn true) (l2 fun x y H Q => rNotInD K x y H Q ∨ rInT K true x y H Q) := by
  intro B H vs xs z Q cn ho q x y e
  unfold oIn at ho
  split at ho
  · split at ho
    · rename_i a b hs
      cases ho
      obtain ⟨v, w, e2, c1, c2⟩ := cn.two
      rw [e] at e2
      cases e2
      exact .inl ⟨_, _, c1.dp hs.1, c2.dp hs.2, hs.1, hs.2, q _ (.bl _)⟩
    · cases ho
  · split at ho
    · rename_i a b hs
      cases ho
      obtain ⟨v, w, e2, c1, c2⟩ := cn.two
      rw [e] at e2
      cases e2
      exact .inr ⟨_, _, c1.dp hs.1, c2.dp hs.2, hs.1, hs.2, q _ (.bl _)⟩
    · cases ho
  · cases ho
def isN : PyData → Bool
  | .none => true
  | _ => false
def oIsN (neg : Bool) : List PyData → Option PyData
  | [x, .none] => some (.bool (if neg = true then !isN x else isN x))
  | _ => none
theorem Cn.isN {K : PySem.W.Frag} {B : Mset} {H : Hp} {v : V} {x : PyData} (h : Cn K B H v x) : decide (v = .non) = isN x := by
  cases h with
  | ct => rfl
  | rp h => cases h <;> rfl
theorem ok_notN {K : PySem.W.Frag} : OkE K (oIsN true) (l2 fun x y H Q => y = .non ∧ Q (.bl (!decide (x = .non))) H) := by
  intro B H vs xs z Q cn ho q x y e
  unfold oIsN at ho
  split at ho
  · cases ho
    obtain ⟨v, w, e2, c1, c2⟩ := cn.two
    rw [e] at e2
    cases e2
    refine ⟨c2.none, ?_⟩
    rw [c1.isN]
    exact q _ (.bl _)
  · cases ho
def ints? : List PyData → Option (List Int)
  | [] => some []
  | .int i :: xs => match ints? xs with
    | none => none
    | some ns => some (i :: ns)
  | _ => none
theorem ints_map : ∀ {xs : List PyData} {ns : List Int}, ints? xs = some ns → xs = ns.map .int
  | [], ns, h => by cases h; rfl
  | .int i :: xs, ns, h => by
    unfold ints? at h
    split at h
    · cases h
    rename_i ms hm
    cases h
    rw [ints_map hm]
    rfl
  | .none :: _, _, h => by cases h
  | .bool _ :: _, _, h => by cases h
  | .str _ :: _, _, h => by cases h
  | .list _ :: _, _, h => by cases h
  | .tuple _ :: _, _, h => by cases h
  | .dict _ :: _, _, h => by cases h
def oLtT : List PyData → Option PyData
  | [.tuple xs, .tuple ys] => match ints? xs with
    | none => none
    | some ns => match ints? ys with
      | none => none
      | some ms => some (.bool (HT.lexLt ns ms))
  | _ => none
theorem ok_ltT {K : PySem.W.Frag} : OkE K oLtT (l2 (rLtT K)) := by
  intro B H vs xs z Q cn ho q x y e
  unfold oLtT at ho
  split at ho
  · split at ho
    · cases ho
    rename_i ns h1
    split at ho
    · cases ho
    rename_i ms h2
    cases ho
    obtain ⟨v, w, e2, c1, c2⟩ := cn.two
    rw [e] at e2
    cases e2
    obtain ⟨a, us, rfl, h3, h4⟩ := c1.tuple
    obtain ⟨b, ws, rfl, h5, h6⟩ := c2.tuple
    rw [ints_map h1] at h4
    rw [ints_map h2] at h6
    have e1 := h4.ints
    have e2 := h6.ints
    subst e1 e2
    exact ⟨a, b, ns, ms, rfl, rfl, h3, h5, q _ (.bl _)⟩
  · cases ho
def kLt : KK := kOr kLt0 (kOr (kE oLtT) (kE oLtG))
def oIx : List PyData → Option PyData
  | [.list xs, .int i] => atI xs i
  | [.tuple xs, .int i] => atI xs i
  | [.str s, .int i] => if s.length ≤ 1000000 then (atI s.cps.toList i).map fun c => .str ⟨#[c]⟩ else none
  | _ => none
theorem at_rp {K : PySem.W.Frag} {B : Mset} {H : Hp} {vs : List V} {xs : List PyData} {i : Int} {z : PyData} (r : RpA K B H vs xs) (h : atI xs i = some z) : ∃ v, atI vs i = some v ∧ Rp K B H v z := by
  unfold atI at h ⊢
  rw [r.length]
  cases e : ixN xs.length i with
  | none => rw [e] at h; cases h
  | some j =>
    rw [e] at h
    exact r.get h
theorem ok_ix {K : PySem.W.Frag} : OkE K oIx (l2 (rIx K)) := by
  intro B H vs xs z Q cn ho q x y e
  unfold oIx at ho
  split at ho
  · obtain ⟨v, w, e2, c1, c2⟩ := cn.two
    rw [e] at e2
    cases e2
    obtain ⟨a, us, rfl, h1, h2⟩ := c1.list
    obtain ⟨v, h3, h4⟩ := at_rp h2 ho
    exact .inl ⟨a, us, _, v, rfl, c2.int, h1, h3, q v h4⟩
  · obtain ⟨v, w, e2, c1, c2⟩ := cn.two
    rw [e] at e2
    cases e2
    obtain ⟨a, us, rfl, h1, h2⟩ := c1.tuple
    obtain ⟨v, h3, h4⟩ := at_rp h2 ho
    exact .inr (.inl ⟨a, us, _, v, rfl, c2.int, h1, h3, q v h4⟩)
  · split at ho
    · rename_i s i hl
      obtain ⟨v, w, e2, c1, c2⟩ := cn.two
      rw [e] at e2
      cases e2
      cases hc : atI s.cps.toList i with
      | none => rw [hc] at ho; cases ho
      | some c =>
        rw [hc] at ho
        cases ho
        exact .inr (.inr ⟨s, i, c, c1.str, c2.int, Nat.le_of_lt (small hl), hc, q _ (.str _)⟩)
    · cases ho
  · cases ho
end T3

end
section
set_option linter.all false
set_option autoImplicit false
set_option Elab.async false
namespace T3
open PySem L2
variable [TabL]

def cOr (r r' : List V → Hp → VK → Prop) : List V → Hp → VK → Prop := fun vs H Q => r vs H Q ∨ r' vs H Q
def oLen : List PyData → Option PyData
  | [.list xs] => some (.int xs.length)
  | [.tuple xs] => some (.int xs.length)
  | [.str s] => if s.length ≤ 1000000 then some (.int s.length) else none
  | _ => none
def rLen (K : PySem.W.Frag) : List V → Hp → VK → Prop := cOr (fun xs H Q => ∃ p ys, xs = [.ref p] ∧ (SqL K H p ys ∨ SqT K H p ys) ∧ Q (.int ys.length) H) (fun xs H Q => ∃ z, xs = [.str z] ∧ z.length ≤ sizeLine ∧ Q (.int z.length) H)
theorem cr_len {X : Cx} : CallR X (.builtin "len") (rLen X.K) := CallR.or call_len_seq call_len_str
theorem c_len {K : PySem.W.Frag} : Con K (kE oLen) (rLen K) := con_E <| by
  intro B H vs xs z Q cn ho q
  unfold oLen at ho
  split at ho
  · cases ho
    obtain ⟨v, rfl, c1⟩ := cn.one
    obtain ⟨a, us, rfl, h1, h2⟩ := c1.list
    refine .inl ⟨a, us, rfl, .inl h1, ?_⟩
    rw [h2.length]
    exact q _ (.int _)
  · cases ho
    obtain ⟨v, rfl, c1⟩ := cn.one
    obtain ⟨a, us, rfl, h1, h2⟩ := c1.tuple
    refine .inl ⟨a, us, rfl, .inr h1, ?_⟩
    rw [h2.length]
    exact q _ (.int _)
  · split at ho
    · rename_i hl
      cases ho
      obtain ⟨v, rfl, c1⟩ := cn.one
      exact .inr ⟨_, by rw [c1.str], Nat.le_of_lt (small hl), q _ (.int _)⟩
    · cases ho
  · cases ho
def bools? : List PyData → Option (List Bool)
  | [] => some []
  | .bool i :: xs => match bools? xs with
    | none => none
    | some ns => some (i :: ns)
  | _ => none
theorem bools_map : ∀ {xs : List PyData} {ns : List Bool}, bools? xs = some ns → xs = ns.map .bool
  | [], ns, h => by cases h; rfl
  | .bool i :: xs, ns, h => by
    unfold bools? at h
    split at h
    · cases h
    rename_i ms hm
    cases h
    rw [bools_map hm]
    rfl
  | .none :: _, _, h => by cases h
  | .int _ :: _, _, h => by cases h
  | .str _ :: _, _, h => by cases h
  | .list _ :: _, _, h => by cases h
  | .tuple _ :: _, _, h => by cases h
  | .dict _ :: _, _, h => by cases h
def oAll : List PyData → Option PyData
  | [.list xs] => match bools? xs with
    | none => none
    | some bs => some (.bool (bs.all id))
  | _ => none
theorem c_all {K : PySem.W.Frag} : Con K (kE oAll) (rAll K) := con_E <| by
  intro B H vs xs z Q cn ho q
  unfold oAll at ho
  split at ho
  · split at ho
    · cases ho
    rename_i bs hb
    cases ho
    obtain ⟨v, rfl, c1⟩ := cn.one
    obtain ⟨a, us, rfl, h1, h2⟩ := c1.list
    rw [bools_map hb] at h2
    have e := h2.bls
    subst e
    exact ⟨a, bs, rfl, h1, q _ (.bl _)⟩
  · cases ho
def oAbs : List PyData → Option PyData
  | [.int i] => some (.int (if i < 0 then -i else i))
  | _ => none
def rMinT (K : PySem.W.Frag) : List V → Hp → VK → Prop := fun vs H Q => ∃ (a : Addr) (n : Int) (ns : List Int), vs = [V.ref a] ∧ SqT K H a ((n :: ns).map V.int) ∧ Q (.int (ns.foldl min n)) H
def rMaxT (K : PySem.W.Frag) : List V → Hp → VK → Prop := fun vs H Q => ∃ (a : Addr) (n : Int) (ns : List Int), vs = [V.ref a] ∧ SqT K H a ((n :: ns).map V.int) ∧ Q (.int (ns.foldl max n)) H
theorem DpAll.ints {K : PySem.W.Frag} {H : Hp} : ∀ ns : List Int, DpAll K H (ns.map V.int) (ns.map .int)
  | [] => .nil
  | n :: ns => .cons (.int n) (DpAll.ints ns)
theorem alike_ints (ns : List Int) : PySem.W.AlikeAll (ns.map .int) := by
  constructor
  · intro x hx y hy
    obtain ⟨i, _, rfl⟩ := List.mem_map.mp hx
    obtain ⟨j, _, rfl⟩ := List.mem_map.mp hy
    rfl
  · intro x hx
    obtain ⟨i, _, rfl⟩ := List.mem_map.mp hx
    intro z
    cases z
theorem depth_ints : ∀ ns : List Int, PyData.depthAll (ns.map .int) = 0
  | [] => by simp [PyData.depthAll]
  | n :: ns => by simp [PyData.depthAll, PyData.depth, depth_ints ns]
theorem reads_int {h : Heap} {v : Value} {i : Int} {as : List Addr} (r : Reads h v (.int i) as) : ∃ t, v = .int i t := by
  cases r with
  | int _ t => exact ⟨t, rfl⟩
theorem cr_minT {X : Cx} (hc : X.calm = true) (hu : X.A.units + 64 < cLine) : CallR X (.builtin "min") (rMinT X.K) := by
  intro pins s σ H vs us Q I r h
  obtain ⟨a, n, ns, rfl, hs, q⟩ := h
  obtain ⟨its, rv, ⟨o, ho, hcl, m, hd⟩, hz⟩ := I.tuple hs
  rw [Vals.ref1 r]
  obtain ⟨as, hr⟩ := Dp.readsAll I _ _ its (DpAll.ints (n :: ns)) rv
  refine PySem.W.min_tuple_data (vs := its.toArray) (I.ok.hd hc) ⟨o, ho, hcl, m, hd⟩ (x := .int n) (xs := ns.map .int) hr (alike_ints (n :: ns)) (by have := depth_ints (n :: ns); simp only [List.map_cons] at this; rw [this]; omega) fun i v h' tk bs hv hrd hk => ?_
  rw [PySem.W.minD_ints] at hrd
  obtain ⟨t, rfl⟩ := reads_int hrd
  exact ⟨.int _, H, I.kept hk, ⟨t, rfl⟩, q⟩
theorem cr_maxT {X : Cx} (hc : X.calm = true) (hu : X.A.units + 64 < cLine) : CallR X (.builtin "max") (rMaxT X.K) := by
  intro pins s σ H vs us Q I r h
  obtain ⟨a, n, ns, rfl, hs, q⟩ := h
  obtain ⟨its, rv, ⟨o, ho, hcl, m, hd⟩, hz⟩ := I.tuple hs
  rw [Vals.ref1 r]
  obtain ⟨as, hr⟩ := Dp.readsAll I _ _ its (DpAll.ints (n :: ns)) rv
  refine PySem.W.max_tuple_data (vs := its.toArray) (I.ok.hd hc) ⟨o, ho, hcl, m, hd⟩ (x := .int n) (xs := ns.map .int) hr (alike_ints (n :: ns)) (by have := depth_ints (n :: ns); simp only [List.map_cons] at this; rw [this]; omega) fun i v h' tk bs hv hrd hk => ?_
  rw [PySem.W.maxD_ints] at hrd
  obtain ⟨t, rfl⟩ := reads_int hrd
  exact ⟨.int _, H, I.kept hk, ⟨t, rfl⟩, q⟩
def rMm (K : PySem.W.Frag) (mx : Bool) : List V → Hp → VK → Prop := if mx = true then cOr (fun xs H Q => ∃ i j, xs = [.int i, .int j] ∧ Q (.int (if j > i then j else i)) H) (cOr (rMaxT K) (rMax K)) else cOr (fun xs H Q => ∃ i j, xs = [.int i, .int j] ∧ Q (.int (if j < i then j else i)) H) (cOr (rMinT K) (rMin K))
theorem cr_mx {X : Cx} (hc : X.calm = true) (hu : X.A.units + 64 < cLine) : CallR X (.builtin "max") (rMm X.K true) := CallR.or (call_max2 hc) (CallR.or (cr_maxT hc hu) (cr_max hc))
theorem cr_mn {X : Cx} (hc : X.calm = true) (hu : X.A.units + 64 < cLine) : CallR X (.builtin "min") (rMm X.K false) := CallR.or (call_min2 hc) (CallR.or (cr_minT hc hu) (cr_min hc))
def oMax : List PyData → Option PyData
  | [.int i, .int j] => some (.int (if j > i then j else i))
  | [.tuple xs] => match ints? xs with
    | some (n :: ns) => some (.int (ns.foldl max n))
    | _ => none
  | [.list xs] => match ints? xs with
    | some (n :: ns) => some (.int (ns.foldl max n))
    | _ => none
  | _ => none
def oMin : List PyData → Option PyData
  | [.int i, .int j] => some (.int (if j < i then j else i))
  | [.tuple xs] => match ints? xs with
    | some (n :: ns) => some (.int (ns.foldl min n))
    | _ => none
  | [.list xs] => match ints? xs with
    | some (n :: ns) => some (.int (ns.foldl min n))
    | _ => none
  | _ => none
theorem foldl_max : ∀ (ns : List Int) (n m : Int), m ∈ n :: ns → (∀ y, y ∈ n :: ns → y ≤ m) → ns.foldl max n = m
  | [], n, m, h, _ => by simp at h; simp [h]
  | k :: ns, n, m, h, hb => by
    show ns.foldl max (max n k) = m
    have h1 := hb n (by simp)
    have h2 := hb k (by simp)
    refine foldl_max ns _ m ?_ fun y hy => ?_
    · simp only [List.mem_cons] at h ⊢
      rcases h with h | h | h
      · left; omega
      · left; omega
      · right; exact h
    · simp only [List.mem_cons] at hy
      rcases hy with hy | hy
      · omega
      · exact hb y (by simp [hy])
theorem foldl_min : ∀ (ns : List Int) (n m : Int), m ∈ n :: ns → (∀ y, y ∈ n :: ns → m ≤ y) → ns.foldl min n = m
  | [], n, m, h, _ => by simp at h; simp [h]
  | k :: ns, n, m, h, hb => by
    show ns.foldl min (min n k) = m
    have h1 := hb n (by simp)
    have h2 := hb k (by simp)
    refine foldl_min ns _ m ?_ fun y hy => ?_
    · simp only [List.mem_cons] at h ⊢
      rcases h with h | h | h
      · left; omega
      · left; omega
      · right; exact h
    · simp only [List.mem_cons] at hy
      rcases hy with hy | hy
      · omega
      · exact hb y (by simp [hy])
theorem c_mx {K : PySem.W.Frag} : Con K (kE oMax) (rMm K true) := con_E <| by
  intro B H vs xs z Q cn ho q
  unfold oMax at ho
  split at ho
  · cases ho
    obtain ⟨v, w, rfl, c1, c2⟩ := cn.two
    exact .inl ⟨_, _, by rw [c1.int, c2.int], q _ (.int _)⟩
  · split at ho
    · rename_i n ns hb
      cases ho
      obtain ⟨v, rfl, c1⟩ := cn.one
      obtain ⟨a, us, rfl, h1, h2⟩ := c1.tuple
      rw [ints_map hb] at h2
      have e := h2.ints
      subst e
      exact .inr (.inl ⟨a, n, ns, rfl, h1, q _ (.int _)⟩)
    · cases ho
  · split at ho
    · rename_i n ns hb
      cases ho
      obtain ⟨v, rfl, c1⟩ := cn.one
      obtain ⟨a, us, rfl, h1, h2⟩ := c1.list
      rw [ints_map hb] at h2
      have e := h2.ints
      subst e
      refine .inr (.inr ⟨a, n :: ns, rfl, h1, by simp, fun m hm hb' => ?_⟩)
      rw [← foldl_max ns n m hm hb']
      exact q _ (.int _)
    · cases ho
  · cases ho
theorem c_mn {K : PySem.W.Frag} : Con K (kE oMin) (rMm K false) := con_E <| by
  intro B H vs xs z Q cn ho q
  unfold oMin at ho
  split at ho
  · cases ho
    obtain ⟨v, w, rfl, c1, c2⟩ := cn.two
    exact .inl ⟨_, _, by rw [c1.int, c2.int], q _ (.int _)⟩
  · split at ho
    · rename_i n ns hb
      cases ho
      obtain ⟨v, rfl, c1⟩ := cn.one
      obtain ⟨a, us, rfl, h1, h2⟩ := c1.tuple
      rw [ints_map hb] at h2
      have e := h2.ints
      subst e
      exact .inr (.inl ⟨a, n, ns, rfl, h1, q _ (.int _)⟩)
    · cases ho
  · split at ho
    · rename_i n ns hb
      cases ho
      obtain ⟨v, rfl, c1⟩ := cn.one
      obtain ⟨a, us, rfl, h1, h2⟩ := c1.list
      rw [ints_map hb] at h2
      have e := h2.ints
      subst e
      refine .inr (.inr ⟨a, n :: ns, rfl, h1, by simp, fun m hm hb' => ?_⟩)
      rw [← foldl_min ns n m hm hb']
      exact q _ (.int _)
    · cases ho
  · cases ho
def rTupN (K : PySem.W.Frag) : List V → Hp → VK → Prop := fun xs H Q => ∃ p ys, xs = [.ref p] ∧ ((SqL K H p ys ∧ ∀ l o, H l = none → o.dict = none → Q (.ref l) (upd H l (.frz o (.tup ys)))) ∨ (SqT K H p ys ∧ Q (.ref p) H))
theorem cr_tupN {X : Cx} : CallR X (.type "tuple") (rTupN X.K) := by
  intro pins s σ H xs us Q I r h
  obtain ⟨p, ys, rfl, h⟩ := h
  obtain ⟨u, rfl, rx⟩ := vals1 r
  cases rx
  rcases h with ⟨hq, q⟩ | ⟨hq, q⟩
  · obtain ⟨its, r', pl, hz⟩ := I.list hq
    have hlen := r'.length
    refine call_tuple_list pl.isList (fun h' kp => ?_) (by simp only [List.size_toArray] <;> omega)
    have I1 : Inv X pins σ H { s with heap := h' } := I.kept (t' := s.toks) kp
    refine ⟨.ref h'.objs.size, _, I1.laid (t' := s.toks) (o := .frz { cls := .type "tuple", data := .seq its.toArray } (.tup ys)) (fun b o e => Heap.get?_push_of_some _ e) (Nat.le_refl _) ?_, rfl, q _ _ (I1.hok.fresh (Nat.le_refl _)) rfl⟩
    exact ⟨Heap.get?_push_size _ rfl, hz, its, r', PyProof.Rows.IsTup.new _ _⟩
  · obtain ⟨its, r', pl, hz⟩ := I.tuple hq
    exact call_tuple_same pl ⟨.ref p, H, I, rfl, q⟩
def kTupN : KK := fun ds env => match ds with
  | [.nt xs] => some (.nt xs, env)
  | [d] => match ctn env d with
    | some (.list xs) => some (.nt xs, env)
    | some (.tuple xs) => some (.pd (.tuple xs), env)
    | _ => none
  | _ => none
theorem c_tupN {K : PySem.W.Frag} : Con K kTupN (rTupN K) := by
  intro σ H B env B1 H1 env1 vs ds d e2 Q en a rr hk q
  unfold kTupN at hk
  split at hk
  · cases hk
    match vs, rr with
    | [v], rr =>
      obtain ⟨p, rfl, r⟩ := rr.each 0 v _ rfl rfl
      obtain ⟨o, us, h1, h2, h3⟩ := id r
      exact ⟨p, us, rfl, .inr ⟨.inl (.inr ⟨o, h1⟩), q B1 H1 _ a ⟨p, rfl, r⟩⟩⟩
    | [], rr => have := rr.len; simp at this
    | _ :: _ :: _, rr => have := rr.len; simp at this
  · rename_i d1 _
    match vs, rr with
    | [v], rr =>
      split at hk
      · rename_i xs hx
        cases hk
        obtain ⟨p, us, rfl, h1, h2⟩ := (Cn.of a.en (rr.each 0 v d1 rfl rfl) hx).list
        refine ⟨p, us, rfl, .inl ⟨h1, fun l o nl hd => ?_⟩⟩
        obtain ⟨g, a2⟩ := a.alloc en nl (.frz o (.tup us)) False (fun _ => False) (fun _ f => f.elim)
        exact q _ _ _ a2 ⟨l, rfl, o, us, upd_same, hd, h2.grow g⟩
      · rename_i xs hx
        cases hk
        obtain ⟨p, us, rfl, h1, h2⟩ := (Cn.of a.en (rr.each 0 v d1 rfl rfl) hx).tuple
        exact ⟨p, us, rfl, .inr ⟨h1, q B1 H1 _ a (.tup h1 h2)⟩⟩
      · cases hk
    | [], rr => have := rr.len; simp at this
    | _ :: _ :: _, rr => have := rr.len; simp at this
  · cases hk
def oList : List PyData → Option (List PyData)
  | [.list xs] => some xs
  | [.tuple xs] => some xs
  | _ => none
theorem c_list {K : PySem.W.Frag} : Con K (kL oList) (fun xs H Q => ∃ p ys, xs = [.ref p] ∧ (SqL K H p ys ∨ SqT K H p ys) ∧ ∀ l, H l = none → Q (.ref l) (upd H l (.lst ys))) := con_L <| by
  intro B H vs xs z Q cn ho q
  unfold oList at ho
  split at ho
  · cases ho
    obtain ⟨v, rfl, c1⟩ := cn.one
    obtain ⟨a, us, rfl, h1, h2⟩ := c1.list
    exact ⟨a, us, rfl, .inl h1, fun l nl => q us l h2 nl⟩
  · cases ho
    obtain ⟨v, rfl, c1⟩ := cn.one
    obtain ⟨a, us, rfl, h1, h2⟩ := c1.tuple
    exact ⟨a, us, rfl, .inr h1, fun l nl => q us l h2 nl⟩
  · cases ho
end T3

end
section
set_option linter.all false
set_option autoImplicit false
set_option Elab.async false
namespace T3
open PySem L2
variable [TabL]

def tyN : PyData → String
  | .none => "NoneType"
  | .bool _ => "bool"
  | .int _ => "int"
  | .str _ => "str"
  | .list _ => "list"
  | .tuple _ => "tuple"
  | .dict _ => "dict"
theorem Cn.ty {K : PySem.W.Frag} {B : Mset} {H : Hp} {v : V} {x : PyData} (h : Cn K B H v x) (nx : ∀ kvs, x ≠ .dict kvs) : TyX K H v (.type (tyN x)) := by
  cases h with
  | ct h r => exact .base (.lst h)
  | rp h =>
    cases h with
    | non => exact .base .non
    | bl b => exact .base (.bl b)
    | int i => exact .base (.int i)
    | str x => exact .base (.str x)
    | tup h r =>
      rcases h with (h | ⟨o, h⟩) | ⟨o, _, _, h1, h2, _⟩
      · exact .base (.tup h)
      · exact .fTuple h
      · exact .kTuple h1 h2
    | lst h _ r => exact .base (.lst h)
    | frz h r => exact .base (.frz h)
    | kls h1 h2 h3 h4 h5 h6 r => exact .kList h1 h2
    | fn h => exact absurd rfl (nx _)
    | exn => exact absurd rfl (nx _)
    | ntp h1 h2 h3 => exact absurd rfl (nx _)
    | lam h1 h2 h3 h4 h5 => exact absurd rfl (nx _)
    | dct h1 h2 h3 h4 h5 h6 => exact absurd rfl (nx _)
    | dck h1 h2 h3 h4 => exact absurd rfl (nx _)
inductive T5 where | int | bool | str | tuple | list
def T5.n : T5 → String
  | .int => "int"
  | .bool => "bool"
  | .str => "str"
  | .tuple => "tuple"
  | .list => "list"
def isi5 : T5 → PyData → Bool
  | .int, .int _ => true
  | .int, .bool _ => true
  | .bool, .bool _ => true
  | .str, .str _ => true
  | .tuple, .tuple _ => true
  | .list, .list _ => true
  | _, _ => false
theorem kt0 : ∀ t : T5, kitB "NoneType" t.n = some false := by intro t; cases t <;> decide +kernel
theorem kt1 : ∀ t : T5, kitB "bool" t.n = some (match t with | .int => true | .bool => true | _ => false) := by intro t; cases t <;> decide +kernel
theorem kt2 : ∀ t : T5, kitB "int" t.n = some (match t with | .int => true | _ => false) := by intro t; cases t <;> decide +kernel
theorem kt3 : ∀ t : T5, kitB "str" t.n = some (match t with | .str => true | _ => false) := by intro t; cases t <;> decide +kernel
theorem kt4 : ∀ t : T5, kitB "list" t.n = some (match t with | .list => true | _ => false) := by intro t; cases t <;> decide +kernel
theorem kt5 : ∀ t : T5, kitB "tuple" t.n = some (match t with | .tuple => true | _ => false) := by intro t; cases t <;> decide +kernel
theorem kit5 {K : PySem.W.Frag} (t : T5) (x : PyData) (hx : ∀ kvs, x ≠ .dict kvs) : PySem.W.kitOne K (.type (tyN x)) (.type t.n) = some (isi5 t x) := by
  cases x with
  | dict kvs => exact absurd rfl (hx kvs)
  | none => cases t <;> exact kit_ty (kt0 _)
  | bool b => cases t <;> exact kit_ty (kt1 _)
  | int b => cases t <;> exact kit_ty (kt2 _)
  | str b => cases t <;> exact kit_ty (kt3 _)
  | list b => cases t <;> exact kit_ty (kt4 _)
  | tuple b => cases t <;> exact kit_ty (kt5 _)
def oIsi (t : T5) : List PyData → Option PyData
  | [.dict _] => none
  | [x] => some (.bool (isi5 t x))
  | _ => none
theorem e_isi {X : Cx} {e : Expr} {f : EE} {x : Str} {p p2 pos : Pos} (t : T5) (h : PE X e (tE X.K f)) (hg : Gl X "isinstance") (hm : X.mg "isinstance" = none) (hg2 : Gl X x) (hm2 : X.mg x = none) (hv2 : bootBuiltins x = some (.type t.n)) (hn2 : x ≠ "__name__" := by decide) (hd2 : (x == ("__debug__" : Str)) = false := by decide)
    (hs1 : starEach [e, .Name x p2] X.env = (false, eval e X.env) :: starEach [.Name x p2] X.env := by rfl) (hs2 : starEach [.Name x p2] X.env = (false, eval (.Name x p2) X.env) :: starEach [] X.env := by rfl) (hpl : (backTo pos (starEach [.Name x p2] X.env)).any (·.1) = false := by rfl) :
    PE X (.Call (.Name "isinstance" p) [e, .Name x p2] [] pos) (tE X.K (eThen (eOne f) (kE (oIsi t)))) := by
  refine PE.imp (pe_callB call_isi hg hm PyProof.Rows.boot_isinstance (pa_cons h (pa_cons (pe_bltn (v := .ty t.n) hg2 hm2 hv2 rfl hn2 hd2) pa_nil hs2) hs1) (by decide) (by decide) hs1 hpl) fun σ H Q q => ?_
  have c : Con X.K (kE (oIsi t)) (l1 fun x H Q => rIsi X.K [x, .ty t.n] H Q) := con_E <| by
    intro B H vs xs z Q cn ho q x e
    unfold oIsi at ho
    split at ho
    · cases ho
    · rename_i nx
      cases ho
      obtain ⟨v, e2, c1⟩ := cn.one
      rw [e] at e2
      cases e2
      exact ⟨x, .ty t.n, _, _, _, rfl, .ty _, c1.ty nx, kit5 t _ nx, q _ (.bl _)⟩
    · cases ho
  exact rd_one c q

def cutD (xs : List PyData) (lo hi : Option Int) : List PyData := (xs.drop (HT.sIx xs.length 0 lo)).take (HT.sIx xs.length xs.length hi - HT.sIx xs.length 0 lo)
theorem RpA.cut {K : PySem.W.Frag} {B : Mset} {H : Hp} {vs : List V} {xs : List PyData} (h : RpA K B H vs xs) (lo hi : Option Int) : RpA K B H (cutV vs lo hi) (cutD xs lo hi) := by
  unfold cutV cutD
  rw [h.length]
  exact (h.drop _).take _
abbrev EO := Sl → Option (Option Int × Sl)
def oNo : EO := fun env => some (none, env)
def oSome (f : EE) : EO := fun env => match f env with
  | some (.pd (.int i), e) => some (some i, e)
  | _ => none
def tO (K : PySem.W.Frag) (f : EO) : TO := fun σ H Q => ∃ B env i env', EnvR K B H σ env ∧ f env = some (i, env') ∧ ∀ B' H', At K σ B H env B' H' env' → Q i H'
theorem PO.imp {X : Cx} {e : Option Expr} {t t' : TO} (h : PO X e t) (i : ∀ σ H Q, t' σ H Q → t σ H Q) : PO X e t' := ⟨fun pins s σ H Q I q => h.run pins s σ H Q I (i σ H Q q)⟩
theorem o_no {X : Cx} {K : PySem.W.Frag} : PO X none (tO K oNo) := PO.imp po_none fun σ H Q q => by
  obtain ⟨B, env, i, env', en, ev, q⟩ := q
  cases ev
  exact q B H (.refl en)
theorem o_some {X : Cx} {e : Expr} {f : EE} (h : PE X e (tE X.K f)) : PO X (some e) (tO X.K (oSome f)) := PO.imp (po_some h) fun σ H Q q => by
  obtain ⟨B, env, i, env', en, ev, q⟩ := q
  unfold oSome at ev
  split at ev
  · rename_i j e h1
    cases ev
    refine ⟨B, env, _, _, en, h1, fun B1 H1 v a1 r1 => ?_⟩
    have r1 : Rp X.K B1 H1 v (.int j) := r1
    cases r1
    exact ⟨j, rfl, q B1 H1 a1⟩
  · cases ev
def kSl (l h : Option Int) : KK := fun ds env => match ds with
  | [d] => match ctn env d with
    | some (.tuple xs) => some (.pd (.tuple (cutD xs l h)), env)
    | some (.list xs) => some (.tmp (.ls (cutD xs l h)), env)
    | some (.str s) => if s.length ≤ 1000000 then some (.pd (.str (cutS s l h)), env) else none
    | _ => none
  | _ => none
def eSl (f : EE) (lo hi : EO) : EE := fun env => match f env with
  | none => none
  | some (d, e1) => match lo e1 with
    | none => none
    | some (l, e2) => match hi e2 with
      | none => none
      | some (h, e3) => kSl l h [d] e3
def rSl3 (K : PySem.W.Frag) : V → Option Int → Option Int → Hp → VK → Prop := fun x lo hi H Q => rSlL K x lo hi H Q ∨ rSlA K x lo hi H Q ∨ rSlS x lo hi H Q
theorem sl3 {X : Cx} : SlR X (rSl3 X.K) := SlR.or sl_list (SlR.or sl_tupA sl_str)
theorem cutD_all {xs : List PyData} {lo hi : Option Int} (h : HT.sIx xs.length 0 lo = 0 ∧ HT.sIx xs.length xs.length hi = xs.length) : cutD xs lo hi = xs := by
  unfold cutD
  rw [h.1, h.2]
  simp
theorem c_sl {K : PySem.W.Frag} {l h : Option Int} : Con K (kSl l h) (l1 fun x H Q => rSl3 K x l h H Q) := by
  intro σ H B env B1 H1 env1 vs ds d e2 Q en a rr hk q x e
  subst e
  unfold kSl at hk
  split at hk
  · rename_i d1
    split at hk
    · rename_i xs hx
      cases hk
      obtain ⟨p, us, rfl, h1, h2⟩ := (Cn.of a.en (rr.each 0 x d1 rfl rfl) hx).tuple
      refine .inr (.inl ⟨p, us, rfl, h1, fun z => ?_, fun z r nr => ?_⟩)
      · rw [h2.length] at z
        rw [cutD_all z] at q
        exact q B1 H1 _ a (.tup h1 h2)
      · obtain ⟨g, a2⟩ := a.alloc en nr (.tup (cutV us l h)) False (fun _ => False) (fun _ f => f.elim)
        exact q _ _ _ a2 (.tup (.inl (.inl upd_same)) ((h2.cut l h).grow g))
    · rename_i xs hx
      cases hk
      obtain ⟨p, us, rfl, h1, h2⟩ := (Cn.of a.en (rr.each 0 x d1 rfl rfl) hx).list
      exact .inl ⟨p, us, rfl, h1, fun r nr => con_new en a nr (h2.cut l h) q⟩
    · rename_i s hx
      split at hk
      · rename_i hl
        cases hk
        have c1 := Cn.of a.en (rr.each 0 x d1 rfl rfl) hx
        exact .inr (.inr ⟨s, c1.str, Nat.le_of_lt (small hl), q B1 H1 _ a (.str _)⟩)
      · cases hk
    · cases hk
  · cases hk
theorem e_sl {X : Cx} {e : Expr} {lo hi : Option Expr} {f : EE} {fl fh : EO} {p2 pos : Pos} (he : PE X e (tE X.K f)) (hl : PO X lo (tO X.K fl)) (hu : PO X hi (tO X.K fh)) : PE X (.Subscript e (.Slice lo hi none p2) pos) (tE X.K (eSl f fl fh)) := by
  refine PE.imp (pe_slice sl3 he hl hu) fun σ H Q t => ?_
  obtain ⟨B, env, d, env', en, ev, q⟩ := t
  unfold eSl at ev
  split at ev
  · cases ev
  rename_i d1 e1 h1
  split at ev
  · cases ev
  rename_i l e2 h2
  split at ev
  · cases ev
  rename_i h e3 h3
  refine ⟨B, env, d1, e1, en, h1, fun B1 H1 v a1 r1 => ⟨B1, e1, l, e2, a1.en, h2, fun B2 H2 a2 => ⟨B2, e2, h, e3, a2.en, h3, fun B3 H3 a3 => ?_⟩⟩⟩
  have a23 := a2.trans a1.en a3
  have aa := a1.trans en a23
  refine c_sl σ H B env B3 H3 e3 [v] [d1] d env' Q en aa ⟨rfl, fun k w d' hv hd => ?_, fun k l' c c' w hkl hk hl _ _ => ?_⟩ ev q v rfl
  · cases k with
    | zero => simp at hv hd; subst hv hd; exact (r1.ra).later a1.en a23
    | succ k => simp at hv
  · have : k = 0 := by
      cases k with
      | zero => rfl
      | succ k => simp at hk
    have : l' = 0 := by
      cases l' with
      | zero => rfl
      | succ k => simp at hl
    omega
end T3

end
section
set_option linter.all false
set_option autoImplicit false
set_option Elab.async false
namespace T3
open PySem L2
variable [TabL]

theorem RRA.cons {K : PySem.W.Frag} {σ : St} {B1 B2 : Mset} {H H1 H2 : Hp} {e1 e2 : Sl} {v : V} {d : R} {vs : List V} {ds : List R} (en1 : EnvR K B1 H1 σ e1) (lv : ∀ a, H1 a = none → H a = none) (r1 : RR K H B1 H1 σ e1 v d) (a2 : At K σ B1 H1 e1 B2 H2 e2) (r2 : RRA K H1 B2 H2 σ e2 vs ds) : RRA K H B2 H2 σ e2 (v :: vs) (d :: ds) := by
  refine ⟨by simp [r2.len], fun k w d' hv hd => ?_, fun k l c c' w hkl hk hl vk vl => ?_⟩
  · cases k with
    | zero => simp at hv hd; subst hv hd; exact (r1.ra).later en1 a2
    | succ k =>
      have := r2.each k w d' (by simpa using hv) (by simpa using hd)
      cases d' with
      | pd x => exact this
      | nt x => exact this
      | var i => exact this
      | tmp c => obtain ⟨a, e1, e2, e3⟩ := this; exact ⟨a, e1, lv a e2, e3⟩
  · have fresh : ∀ (k : Nat) c', ds[k]? = some (.tmp c') → vs[k]? = some w → ∀ c, d = .tmp c → v = w → False := by
      intro kk c' gk gv c hd hw
      subst hd hw
      obtain ⟨a, rfl, _, ba, _, _⟩ := r1
      obtain ⟨a', e, h0, _⟩ := r2.each kk _ _ gv gk
      cases e
      obtain ⟨o, ho⟩ := en1.dom a ba
      rw [ho] at h0
      cases h0
    cases k with
    | zero =>
      cases l with
      | zero => exact hkl rfl
      | succ l => exact fresh l c' (by simpa using hl) (by simpa using vl) c (by simpa using hk) (by simpa using vk)
    | succ k =>
      cases l with
      | zero => exact fresh k c (by simpa using hk) (by simpa using vk) c' (by simpa using hl) (by simpa using vl)
      | succ l => exact r2.apart k l c c' w (by omega) (by simpa using hk) (by simpa using hl) (by simpa using vk) (by simpa using vl)

def isL (env : Sl) : R → Bool
  | .pd (.list _) => true
  | .tmp (.ls _) => true
  | .var i => match env[i]? with
    | some (some (.mu _ (.ls _))) => true
    | _ => false
  | _ => false
def eBM (ty : Sl → R → Bool) (fo : EE) (fa : EA) (k : KK) : EE := fun env => match fo env with
  | none => none
  | some (d, e1) => if ty e1 d = true then match fa e1 with
      | none => none
      | some (ds, e2) => k (d :: ds) e2
    else none
def lm (r : V → List V → Hp → VK → Prop) : List V → Hp → VK → Prop := fun vs H Q => ∀ x xs, vs = x :: xs → r x xs H Q
theorem rd_bm {K : PySem.W.Frag} {ty : Sl → R → Bool} {fo : EE} {fa : EA} {k : KK} {r : V → List V → Hp → VK → Prop} {P : V → Hp → Prop} (hp : ∀ H₀ B H σ env v d, EnvR K B H σ env → RR K H₀ B H σ env v d → ty env d = true → P v H) (c : Con K k (lm r)) {σ : St} {H : Hp} {Q : VK} (h : tE K (eBM ty fo fa k) σ H Q) :
    tE K fo σ H fun x H1 => P x H1 ∧ tA K fa σ H1 fun xs H2 => r x xs H2 Q := by
  obtain ⟨B, env, d, env', en, ev, q⟩ := h
  unfold eBM at ev
  split at ev
  · cases ev
  rename_i d1 e1 h1
  split at ev
  rotate_left
  · cases ev
  rename_i ht
  split at ev
  · cases ev
  rename_i ds e2 h2
  refine ⟨B, env, d1, e1, en, h1, fun B1 H1 v a1 r1 => ⟨hp H B1 H1 σ e1 v d1 a1.en r1 ht, B1, e1, ds, e2, a1.en, h2, fun B2 H2 vs a2 r2 => ?_⟩⟩
  exact c σ H B env B2 H2 e2 (v :: vs) (d1 :: ds) d env' Q en (a1.trans en a2) (RRA.cons a1.en a1.st.liv r1 a2 r2) ev q v vs rfl
theorem ty_L {K : PySem.W.Frag} : ∀ H₀ B H σ env v d, EnvR K B H σ env → RR K H₀ B H σ env v d → isL env d = true → tyV K "list" v H := by
  intro H₀ B H σ env v d en r h
  unfold isL at h
  split at h
  · obtain ⟨a, vs, rfl, h1, _⟩ := Cn.list (.rp (show Rp K B H v (.list _) from r))
    exact .inl ⟨rfl, vs, h1⟩
  · obtain ⟨a, rfl, _, _, ⟨vs, h1, _⟩, _⟩ := r
    exact .inl ⟨rfl, vs, .inl (.inl h1)⟩
  · rename_i i
    split at h
    · rename_i hx
      obtain ⟨a, h1, _, vs, h2, _⟩ := en.mu _ _ _ hx
      rw [r.1] at h1
      cases h1
      exact .inl ⟨rfl, vs, .inl (.inl h2)⟩
    · cases h
  · cases h
theorem At.freeze {K : PySem.W.Frag} {σ : St} {B B1 : Mset} {H H1 : Hp} {env env1 : Sl} (en : EnvR K B H σ env) (a : At K σ B H env B1 H1 env1) (fz : Mset) (hf : ∀ q, fz q → H q = none ∧ ∀ (i : Nat) m d, env1[i]? = some (some (S.mu m d)) → σ[i]? ≠ some (some (V.ref q))) :
    Grow B1 H1 (fun q => B1 q ∧ ¬ fz q) H1 ∧ At K σ B H env (fun q => B1 q ∧ ¬ fz q) H1 env1 := by
  have g : Grow B1 H1 (fun q => B1 q ∧ ¬ fz q) H1 := ⟨fun q o h _ => h, fun q h => .inl h.1⟩
  refine ⟨g, ⟨a.st.keep, fun q h => a.st.new q h.1, fun q h w => ⟨a.st.old q h w, fun f => ?_⟩, a.st.sub, a.st.liv⟩, ⟨a.en.len, fun i x h => ?_, fun i x h => ?_, fun i m c h => ?_, a.en.inj, fun q h => a.en.dom q h.1, a.en.tb.on (fun q o h _ => h) g.new⟩, a.sm, a.ks⟩
  · obtain ⟨o', ho⟩ := en.dom q h
    rw [(hf q f).1] at ho; cases ho
  · obtain ⟨v, h1, h2⟩ := a.en.pd i x h
    exact ⟨v, h1, h2.grow g⟩
  · obtain ⟨v, h1, h2⟩ := a.en.nt i x h
    exact ⟨v, h1, h2.grow g⟩
  · obtain ⟨q, h1, h2, h3⟩ := a.en.mu i m c h
    refine ⟨q, h1, ⟨h2, fun f => (hf q f).2 i m c h h1⟩, ?_⟩
    cases c with
    | ls xs => obtain ⟨vs, h4, h5⟩ := h3; exact ⟨vs, h4, h5.grow g⟩
    | dk xs => obtain ⟨vs, h4, h5⟩ := h3; exact ⟨vs, h4, h5.grow g⟩
    | dn xs => obtain ⟨vs, h4, h5⟩ := h3; exact ⟨vs, h4, h5.grow g⟩
def kAppend : KK := fun ds env => match ds with
  | [.var i, d] => match data1 d with
    | none => none
    | some y => match env[i]? with
      | some (some (.mu m (.ls xs))) => if m ≠ .fro ∧ xs.length ≤ 1000000 then some (.pd .none, env.set i (some (.mu m (.ls (xs ++ [y]))))) else none
      | _ => none
  | _ => none
theorem c_append {K : PySem.W.Frag} : Con K kAppend (lm rAppend) := by
  intro σ H B env B1 H1 env1 vs ds d e2 Q en a rr hk q x xs e
  subst e
  unfold kAppend at hk
  split at hk
  · rename_i i d1
    split at hk
    · cases hk
    rename_i y hy
    split at hk
    · rename_i m ys hm
      split at hk
      · rename_i hc
        cases hk
        have hx : σ[i]? = some (some x) := rr.each 0 x _ rfl rfl
        obtain ⟨p, g1, g2, us, g3, g4⟩ := a.en.mu i _ _ hm
        rw [hx] at g1
        cases g1
        match xs, rr with
        | [w], rr =>
          obtain ⟨gf, af⟩ := a.freeze en (fzOf [.ref p, w] [.var i, d1]) rr.fz
          have hw : RpA K (fun q => B1 q ∧ ¬ fzOf [.ref p, w] [.var i, d1] q) H1 [w] [y] := by
            have := RRA.data (vs := [w]) (ds := [d1]) (xs := [y]) gf (fun a o h => h) rr.tail (fun q ⟨k, c, z1, z2⟩ h => h.2 ⟨k + 1, c, by simpa using z1, by simpa using z2⟩) (by simp [datas, hy])
            exact this
          refine ⟨p, us, w, rfl, rfl, g3, by rw [g4.length]; exact small hc.2, ?_⟩
          obtain ⟨gw, aw⟩ := AtS.write (o := .lst (us ++ [w])) (c' := .ls (ys ++ [y])) af.en hm hc.1 hx (fun o' h' im => by rw [g3] at h'; cases h'; exact im) (fun H' _ h1 g' => ⟨_, h1, ((g4.grow gf).append hw).grow g'⟩)
          exact q _ _ _ (af.trans en aw) .non
        | [], rr => have := rr.len; simp at this
        | _ :: _ :: _, rr => have := rr.len; simp at this
      · cases hk
    · cases hk
  · cases hk
end T3

end
section
set_option linter.all false
set_option autoImplicit false
set_option Elab.async false
namespace T3
open PySem L2
variable [TabL]

def eCh (c1 c2 : Int → Int → Bool) (fa fb fc : EE) : EE := fun env => match fa env with
  | some (.pd (.int i), e1) => match fb e1 with
    | some (.pd (.int j), e2) => if c1 i j = true then match fc e2 with
        | some (.pd (.int k), e3) => some (.pd (.bool (c2 j k)), e3)
        | _ => none
      else some (.pd (.bool false), e2)
    | _ => none
  | _ => none
theorem rd_chain {K : PySem.W.Frag} {c1 c2 : Int → Int → Bool} {fa fb fc : EE} {σ : St} {H : Hp} {Q : VK} (h : tE K (eCh c1 c2 fa fb fc) σ H Q) : tChain (rI0 fun i j => .bl (c1 i j)) (rI0 fun i j => .bl (c2 i j)) (tE K fa) (tE K fb) (tE K fc) σ H Q := by
  obtain ⟨B, env, d, env', en, ev, q⟩ := h
  unfold eCh at ev
  split at ev
  · rename_i i e1 h1
    split at ev
    · rename_i j e2 h2
      refine ⟨B, env, _, _, en, h1, fun B1 H1 v a1 r1 => ⟨B1, e1, _, _, a1.en, h2, fun B2 H2 w a2 r2 => ?_⟩⟩
      have r1 : Rp K B1 H1 v (.int i) := r1
      have r2 : Rp K B2 H2 w (.int j) := r2
      cases r1
      cases r2
      have a12 := a1.trans en a2
      refine ⟨i, j, rfl, rfl, c1 i j, rfl, ?_⟩
      split at ev
      · rename_i hc
        rw [if_pos hc]
        split at ev
        · rename_i k e3 h3
          cases ev
          refine ⟨B2, e2, _, _, a2.en, h3, fun B3 H3 u a3 r3 => ?_⟩
          have r3 : Rp K B3 H3 u (.int k) := r3
          cases r3
          exact ⟨j, k, rfl, rfl, q _ _ _ (a12.trans en a3) (.bl _)⟩
        · cases ev
      · rename_i hc
        rw [if_neg hc]
        cases ev
        exact q _ _ _ a12 (.bl _)
    · cases ev
  · cases ev
inductive Cm where | lt | le | gt | ge
def Cm.op : Cm → CmpOp
  | .lt => .Lt
  | .le => .LtE
  | .gt => .Gt
  | .ge => .GtE
def Cm.f : Cm → Int → Int → Bool
  | .lt => fun i j => decide (i < j)
  | .le => fun i j => decide (i ≤ j)
  | .gt => fun i j => decide (j < i)
  | .ge => fun i j => decide (j ≤ i)
theorem Cm.ok {X : Cx} (c : Cm) : OpR X (compareOp c.op) (rI0 fun i j => .bl (c.f i j)) := by
  cases c
  · exact op_lt
  · exact op_le
  · exact op_gt
  · exact op_ge
theorem e_chain {X : Cx} {a b c : Expr} {fa fb fc : EE} {pos : Pos} (o1 o2 : Cm) (ha : PE X a (tE X.K fa)) (hb : PE X b (tE X.K fb)) (hc : PE X c (tE X.K fc)) (hm : lastMarks [o1.op, o2.op] [b, c] = false := by with_unfolding_all rfl) :
    PE X (.Compare a [o1.op, o2.op] [b, c] pos) (tE X.K (eCh o1.f o2.f fa fb fc)) := PE.imp (pe_chain o1.ok o2.ok ha hb hc hm) fun _ _ _ t => rd_chain t
theorem b_chain {X : Cx} {a b c : Expr} {fa fb fc : EE} {pos : Pos} (o1 o2 : Cm) (ha : PE X a (tE X.K fa)) (hb : PE X b (tE X.K fb)) (hc : PE X c (tE X.K fc)) (hm : lastMarks [o1.op, o2.op] [b, c] = false := by with_unfolding_all rfl) :
    PT X (.Compare a [o1.op, o2.op] [b, c] pos) (tT X.K (bT (eCh o1.f o2.f fa fb fc))) := b_of (pt_chain o1.ok o2.ok ha hb hc hm) fun _ _ _ t => rd_chain t
theorem b_truth {X : Cx} {a : Expr} {f : EE} (h : PE X a (tE X.K f)) (he : ∀ whole, isTrue a X.env whole = (do let v ← whole; standAt a.pos; holding [v] (truthy v)) := by exact fun _ => rfl) : PT X a (tT X.K (bT f)) :=
  PT.imp (pt_truth h he) fun σ H Q t => by
    obtain ⟨B, env, d, env', en, ev, q⟩ := rd_test t
    refine ⟨B, env, d, env', en, ev, fun B' H' v a r => ?_⟩
    obtain ⟨k, e, h⟩ := q B' H' v a r
    subst e
    exact ⟨k, rfl, h⟩
section
variable {X : Cx} {st : Stmt} {rest : List Stmt} {e : Expr} {pos : Pos} {f g : SS} {fe : EE} {c : EB}
theorem ss_nil : PSs X [] (tS X.K sPass) := PSs.imp pss_nil fun _ _ _ t => rd_pass t
theorem ss_cons (h1 : PS X st (tS X.K f)) (h2 : PSs X rest (tS X.K g)) : PSs X (st :: rest) (tS X.K (sSeq f g)) := PSs.imp (pss_cons h1 h2) fun _ _ _ t => rd_seq t
theorem ss_one (h1 : PS X st (tS X.K f)) : PSs X [st] (tS X.K f) := pss_one h1
theorem s_never : PS X st (tS X.K sNever) := PS.imp ps_never fun _ _ _ t => rd_never t
theorem s_if {t : Expr} {a b : List Stmt} (hc : PT X t (tT X.K c)) (ha : PSs X a (tS X.K f)) (hb : PSs X b (tS X.K g)) : PS X (.If t a b pos) (tS X.K (sIf c f g)) := PS.imp (ps_if hc ha hb) fun _ _ _ t => rd_ifS t
theorem s_ret (h : PE X e (tE X.K fe)) : PS X (.Return (some e) pos) (tS X.K (sRet fe)) := PS.imp (ps_ret h) fun _ _ _ t => rd_ret t
theorem s_expr (h : PE X e (tE X.K fe)) (hs : swapsWith e none pos.line X.env = pure false := by rfl) : PS X (.Expr e pos) (tS X.K (sExpr fe)) := PS.imp (ps_expr h hs) fun _ _ _ t => rd_expr t
theorem s_set {i : Nat} {x : Str} {pos' : Pos} (hN : X.N.Nodup) (hi : X.N[i]? = some x) (hx : Loc X.env.scope x) (he : PE X e (tE X.K fe)) (hs : swapsWith e (some (.Name x pos')) pos.line X.env = pure false := by rfl) (hf : X.fn x = true ∨ X.env.scope.names.lookup x = some .local := by first | exact .inl rfl | exact .inr rfl | assumption) :
    PS X (.Assign [.Name x pos'] e pos) (tS X.K (sSet i fe)) := PS.imp (ps_set hN hi hx he hs hf) fun _ _ _ t => rd_set t
theorem s_while {t : Expr} {body : List Stmt} (hp : PassesOwn (model X.prog X.w) X.A X.env X.xe) (hc : PT X t (tT X.K c)) (hb : PSs X body (tS X.K f)) : PS X (.While t body [] pos) (tS X.K (sWhile c f)) := PS.imp (ps_while hp hc hb) fun _ _ _ t => rd_while t
end
theorem PG.imp {X : Cx} {e : Expr} {t t' : TG} (h : PG X e t) (i : ∀ v σ H Q, t' v σ H Q → t v σ H Q) : PG X e t' := ⟨fun pins s σ H v u Q I r q => h.run pins s σ H v u Q I r (i v σ H Q q)⟩
theorem PGs.imp {X : Cx} {e : List Expr} {t t' : TGs} (h : PGs X e t) (i : ∀ v σ H Q, t' v σ H Q → t v σ H Q) : PGs X e t' := ⟨fun pins s σ H v u Q I r q => h.run pins s σ H v u Q I r (i v σ H Q q)⟩
section
variable {X : Cx} {K : PySem.W.Frag} {pos : Pos} {g : GG} {gs : GGs} {e : Expr} {es : List Expr}
theorem g_name {i : Nat} {x : Str} (hN : X.N.Nodup) (hi : X.N[i]? = some x) (hx : Loc X.env.scope x) (hf : X.fn x = true ∨ X.env.scope.names.lookup x = some .local := by first | exact .inl rfl | exact .inr rfl | assumption) : PG X (.Name x pos) (tG K (gN i)) := PG.imp (pg_name hN hi hx hf) fun _ _ _ _ t => rd_gN t
theorem gs_nil : PGs X [] (tGs K gNl) := PGs.imp pgs_nil fun _ _ _ _ t => rd_gNl t
theorem gs_cons (h1 : PG X e (tG K g)) (h2 : PGs X es (tGs K gs)) (hs : (assignEach (e :: es) X.env).map (·.2) = assign e X.env :: (assignEach es X.env).map (·.2) := by rfl) : PGs X (e :: es) (tGs K (gCn g gs)) := PGs.imp (pgs_cons h1 h2 hs) fun _ _ _ _ t => rd_gCn t
theorem g_tup {k n : Nat} (hc : X.calm = true) (h : PGs X es (tGs X.K gs)) (hn : (assignEach es X.env).length = n := by rfl) (hst : (assignEach es X.env).findIdx? (·.1) = none := by rfl) : PG X (.Tuple es k pos) (tG X.K (gT n gs)) := PG.imp (pg_tup hc h hn hst) fun _ _ _ _ t => rd_gT t
theorem v_name {i : Nat} {x : Str} {vs : List Nat} (hv : i ∈ vs) (hN : X.N.Nodup) (hi : X.N[i]? = some x) (hx : Loc X.env.scope x) (hf : X.fn x = true ∨ X.env.scope.names.lookup x = some .local := by first | exact .inl rfl | exact .inr rfl | assumption) : PG X (.Name x pos) (tGv K (gN i) vs) := PG.imp (pg_name hN hi hx hf) fun _ _ _ _ t => rd_gNv hv t
theorem vs_nil {vs : List Nat} : PGs X [] (tGsv K gNl vs) := PGs.imp pgs_nil fun _ _ _ _ t => rd_gNlv t
theorem vs_cons {vs : List Nat} (h1 : PG X e (tGv K g vs)) (h2 : PGs X es (tGsv K gs vs)) (hs : (assignEach (e :: es) X.env).map (·.2) = assign e X.env :: (assignEach es X.env).map (·.2) := by rfl) : PGs X (e :: es) (tGsv K (gCn g gs) vs) := PGs.imp (pgs_cons h1 h2 hs) fun _ _ _ _ t => rd_gCnv t
theorem v_tup {k n : Nat} {vs : List Nat} (hc : X.calm = true) (h : PGs X es (tGsv X.K gs vs)) (hn : (assignEach es X.env).length = n := by rfl) (hst : (assignEach es X.env).findIdx? (·.1) = none := by rfl) : PG X (.Tuple es k pos) (tGv X.K (gT n gs) vs) := PG.imp (pg_tup hc h hn hst) fun _ _ _ _ t => rd_gTv t
end
theorem s_for {X : Cx} {tg iter : Expr} {body : List Stmt} {pos : Pos} {it : EI} {g : GG} {f : SS} (hp : PassesOwn (model X.prog X.w) X.A X.env X.xe) (hc : X.calm = true) (hi : PI X tg iter (tI X.K it)) (hg : PG X tg (tG X.K g)) (hb : PSs X body (tS X.K f)) (hs : ∀ x, foldedSetIterable iter X.env x = pure x := by intro _; rfl) : PS X (.For tg iter body [] pos) (tS X.K (sFor it g f)) :=
  PS.imp (ps_for hp hc hi hg hb hs) fun _ _ _ t => rd_for t
def sAsg (f : EE) (g : GG) : SS := fun env => match f env with
  | some (.pd x, e) => match g x e with
    | none => none
    | some e2 => some (.nx, e2)
  | some (.nt xs, e) => match g (.tuple xs) e with
    | none => none
    | some e2 => some (.nx, e2)
  | _ => none
theorem rd_asg {K : PySem.W.Frag} {f : EE} {g : GG} {D : Ends} {σ : St} {H : Hp} (h : tS K (sAsg f g) D σ H) : tAsg (tE K f) (tG K g) D σ H := by
  obtain ⟨B, env, fl, env', en, ev, q⟩ := h
  unfold sAsg at ev
  split at ev
  · rename_i x e1 h1
    split at ev
    · cases ev
    rename_i e2 h2
    cases ev
    exact ⟨B, env, _, _, en, h1, fun B1 H1 v a1 r1 => ⟨B1, e1, x, _, a1.en, r1, h2, fun B2 σ2 H2 a2 => q B2 σ2 H2 (a1.s.trans en a2)⟩⟩
  · rename_i x e1 h1
    split at ev
    · cases ev
    rename_i e2 h2
    cases ev
    refine ⟨B, env, _, _, en, h1, fun B1 H1 v a1 r1 => ?_⟩
    obtain ⟨p, rfl, r1⟩ := r1
    exact ⟨B1, e1, _, _, a1.en, r1.rp, h2, fun B2 σ2 H2 a2 => q B2 σ2 H2 (a1.s.trans en a2)⟩
  · cases ev
theorem s_asg {X : Cx} {tg e : Expr} {pos : Pos} {f : EE} {g : GG} (he : PE X e (tE X.K f)) (hg : PG X tg (tG X.K g)) (hs : swapsWithSole [tg] e pos.line X.env = pure false := by rfl) (hw : swappedStores [tg] e X.env = pure none := by rfl)
    (h1 : (assignEach [tg] X.env).map (·.2) = [assign tg X.env] := by rfl) : PS X (.Assign [tg] e pos) (tS X.K (sAsg f g)) := PS.imp (ps_asg he hg hs hw h1) fun _ _ _ t => rd_asg t
def sPar (i j : Nat) (f : EA) : SS := fun env => match f env with
  | some ([d1, d2], e) => match setR i d1 e with
    | none => none
    | some e2 => match setR j d2 e2 with
      | none => none
      | some e3 => some (.nx, e3)
  | _ => none
theorem setR_slots {i : Nat} {d : R} {e e2 : Sl} (h : setR i d e = some e2) : ∀ (k : Nat) m c, e2[k]? = some (some (S.mu m c)) → (k = i ∧ ∃ c, d = .tmp c) ∨ (i ≠ k ∧ e[k]? = some (some (.mu m c))) := by
  intro k m c hk
  unfold setR at h
  split at h
  · cases d with
    | var _ => cases h
    | pd x =>
      cases h
      rcases get_set hk with ⟨_, z⟩ | ⟨z, hk⟩
      · cases z
      · exact .inr ⟨z, hk⟩
    | nt x =>
      cases h
      rcases get_set hk with ⟨_, z⟩ | ⟨z, hk⟩
      · cases z
      · exact .inr ⟨z, hk⟩
    | tmp t =>
      cases h
      rcases get_set hk with ⟨z, _⟩ | ⟨z, hk⟩
      · exact .inl ⟨z.symm, t, rfl⟩
      · exact .inr ⟨z, hk⟩
  · cases h
theorem RA.set {K : PySem.W.Frag} {H₀ : Hp} {σ : St} {B : Mset} {H : Hp} {e e2 : Sl} {i : Nat} {v w : V} {d d' : R} (hs : setR i d e = some e2) (hl : i < σ.length) (r : RA K H₀ B H σ e w d') (ap : ∀ c c', d = .tmp c → d' = .tmp c' → v ≠ w) (nv : ∀ k, d' ≠ .var k) : RA K H₀ B H (σ.set i (some v)) e2 w d' := by
  cases d' with
  | pd x => exact r
  | nt x => exact r
  | var k => exact absurd rfl (nv k)
  | tmp t =>
    obtain ⟨p, rfl, h1, h2, h3, h4⟩ := r
    refine ⟨p, rfl, h1, h2, h3, fun k m c hk hσ => ?_⟩
    rcases setR_slots hs k m c hk with ⟨z, t', z2⟩ | ⟨z, hk⟩
    · subst z
      rw [List.getElem?_set_self hl] at hσ
      cases hσ
      exact ap t' t z2 rfl rfl
    · rw [List.getElem?_set_ne z] at hσ
      exact h4 k m c hk hσ
theorem setR_nv {i : Nat} {d : R} {e e2 : Sl} (h : setR i d e = some e2) : ∀ k, d ≠ .var k := by
  intro k z
  subst z
  unfold setR at h
  split at h <;> cases h
theorem setR_lt {i : Nat} {d : R} {e e2 : Sl} (h : setR i d e = some e2) : i < e.length := by
  unfold setR at h
  split at h
  · rename_i hf; exact (free_ne hf).1
  · cases h
theorem rd_par {K : PySem.W.Frag} {i j : Nat} {f : EA} {D : Ends} {σ : St} {H : Hp} (h : tS K (sPar i j f) D σ H) : tPar i j (tA K f) D σ H := by
  obtain ⟨B, env, fl, env', en, ev, q⟩ := h
  unfold sPar at ev
  split at ev
  · rename_i d1 d2 e1 h1
    split at ev
    · cases ev
    rename_i e2 h2
    split at ev
    · cases ev
    rename_i e3 h3
    cases ev
    refine ⟨B, env, _, _, en, h1, fun B1 H1 vs a1 rr => ?_⟩
    match vs, rr with
    | [v, w], rr =>
      refine ⟨v, w, rfl, ?_⟩
      have s1 := AtS.set en a1.s (rr.each 0 v d1 rfl rfl) h2
      have r2 : RA K H B1 H1 (σ.set i (some v)) e2 w d2 := RA.set h2 (by rw [← a1.en.len]; exact setR_lt h2) (rr.each 1 w d2 rfl rfl) (fun c c' z1 z2 z3 => rr.apart 0 1 c c' v (by decide) (by simp [z1]) (by simp [z2]) rfl (by simp [z3])) (setR_nv h3)
      -- the second store over the first
      have s2 : AtS K σ B H env ((σ.set i (some v)).set j (some w)) B1 H1 env' := AtS.set en s1 r2 h3
      exact q B1 _ H1 s2
    | [], rr => have := rr.len; simp at this
    | [_], rr => have := rr.len; simp at this
    | _ :: _ :: _ :: _, rr => have := rr.len; simp at this
  · cases ev
end T3

end
section
set_option linter.all false
set_option autoImplicit false
set_option Elab.async false
namespace T3
open PySem L2
variable [TabL]

section
variable {X : Cx}
theorem s_par {i j : Nat} {x y : Str} {a b : Expr} {f : EA} {px py pt pos : Pos} {kt k2 : Nat} {pt2 : Pos} (hc : X.calm = true) (hN : X.N.Nodup) (hi : X.N[i]? = some x) (hj : X.N[j]? = some y) (hij : i ≠ j)
    (hx : X.env.scope.names.lookup x = some .local) (hy : X.env.scope.names.lookup y = some .local) (ha : PA X [a, b] (tA X.K f))
    (hw : swappedStores [.Tuple [.Name x px, .Name y py] kt pt] (.Tuple [a, b] k2 pt2) X.env = pure (some [x, y]))
    (hs : swapsWithSole [.Tuple [.Name x px, .Name y py] kt pt] (.Tuple [a, b] k2 pt2) pos.line X.env = pure false := by rfl) :
    PS X (.Assign [.Tuple [.Name x px, .Name y py] kt pt] (.Tuple [a, b] k2 pt2) pos) (tS X.K (sPar i j f)) := PS.imp (ps_par hc hN hi hj hij hx hy ha hw hs) fun _ _ _ t => rd_par t
theorem ts_yes {K : PySem.W.Frag} : PTs X [] (tT K bYes) := ⟨fun pins s σ H Q I h => (pts_nil (X := X)).run pins s σ H Q I (rd_yes h)⟩
theorem ts_one {K : PySem.W.Frag} {c : Expr} {t : EB} (h : PT X c (tT K t)) : PTs X [c] (tT K t) := pts_one h
theorem e_lc {elt tg iter : Expr} {ifs : List Expr} {scope : Scope} {own : List (Str × Nat)} {pos : Pos} {it : EI} {g : GG} {t : EB} {f : EE} (hc : X.calm = true) (hN : X.N.Nodup) (hi : PI X tg iter (tI X.K it)) (ok : BlkOk X.N X.env.scope scope own) (ho : Only g (own.map (·.2)))
    (hg : ∀ (s : Shared) (H : Hp) (C : Addr) (cl : List (Str × Addr)) (fp : List Addr), PG (X.blk s H scope (compEnvC scope cl C X.env) fp) tg (tGv X.K g (own.map (·.2)))) (ht : ∀ (s : Shared) (H : Hp) (C : Addr) (cl : List (Str × Addr)) (fp : List Addr), PTs (X.blk s H scope (compEnvC scope cl C X.env) fp) ifs (tT X.K t))
    (he : ∀ (s : Shared) (H : Hp) (C : Addr) (cl : List (Str × Addr)) (fp : List Addr), PE (X.blk s H scope (compEnvC scope cl C X.env) fp) elt (tE X.K f)) (hs : ∀ x, foldedSetIterable iter X.env x = pure x := by intro _; rfl) :
    PE X (.ListComp elt [⟨tg, iter, ifs, 0⟩] scope pos) (tE X.K (eLc it g t f (own.map (·.2)))) := PE.imp (pe_lc hc hN hi ok hg ht he hs) fun _ _ _ q => rd_lc ho q
theorem s_setLc {i : Nat} {y : Str} {py : Pos} {elt tg iter : Expr} {ifs : List Expr} {scope : Scope} {own : List (Str × Nat)} {pos spos : Pos} {it : EI} {g : GG} {t : EB} {f : EE} (hc : X.calm = true) (hN : X.N.Nodup) (hy : X.N[i]? = some y) (hyl : X.env.scope.names.lookup y = some .local)
    (hsw : swapsWith (.ListComp elt [⟨tg, iter, ifs, 0⟩] scope pos) (some (.Name y py)) spos.line X.env = pure true) (hi : PI X tg iter (tI X.K it)) (ok : BlkOk X.N X.env.scope scope own) (ho : Only g (own.map (·.2)))
    (hg : ∀ (s : Shared) (H : Hp) (C : Addr) (cl : List (Str × Addr)) (fp : List Addr), PG (X.blk s H scope (compEnvC scope cl C X.env) fp) tg (tGv X.K g (own.map (·.2)))) (ht : ∀ (s : Shared) (H : Hp) (C : Addr) (cl : List (Str × Addr)) (fp : List Addr), PTs (X.blk s H scope (compEnvC scope cl C X.env) fp) ifs (tT X.K t))
    (he : ∀ (s : Shared) (H : Hp) (C : Addr) (cl : List (Str × Addr)) (fp : List Addr), PE (X.blk s H scope (compEnvC scope cl C X.env) fp) elt (tE X.K f)) (hs : ∀ x, foldedSetIterable iter X.env x = pure x := by intro _; rfl) :
    PS X (.Assign [.Name y py] (.ListComp elt [⟨tg, iter, ifs, 0⟩] scope pos) spos) (tS X.K (sSet i (eLc it g t f (own.map (·.2))))) :=
  PS.imp (ps_setLc hc hN hy hyl hsw hi ok hg ht he hs) fun _ _ _ q => rd_lc ho (rd_set q)
end
def lenA : EA → Nat → Prop := fun f n => ∀ ds e e', f e = some (ds, e') → ds.length = n
theorem lenA_nil : lenA eNil 0 := by
  intro ds e e' h
  cases h
  rfl
theorem lenA_cons {fa : EE} {fr : EA} {n : Nat} (h : lenA fr n) : lenA (eCons fa fr) (n + 1) := by
  intro ds e e' he
  unfold eCons at he
  split at he
  · cases he
  split at he
  · cases he
  rename_i h2
  cases he
  simp [h _ _ _ h2]
section
variable {X : Cx} {k : Nat} {f : Addr} {fd : FuncData} {ps : List Str} {F : FnD} {x : Str} {p pos : Pos} {e : Expr} {es : List Expr} {fa : EA} {n : Nat}
theorem e_call (G : FnOk X.prog X.w X.K X.mg X.base CX0 k f fd ps (spF X.K F n)) (hr : Room k X.A) (hg : Gl X x) (hm : X.mg x = some (.ref f)) (hk : PySem.W.keepIn X.K (.ref f) = true) (hb : Binds X.K fd ps []) (hn : lenA fa n)
    (ha : PA X (e :: es) (tA X.K fa)) (hdb : (x == ("__debug__" : Str)) = false := by decide) (he : starEach (e :: es) X.env = (false, eval e X.env) :: starEach es X.env := by rfl) (hpl : (backTo pos (starEach es X.env)).any (·.1) = false := by rfl) :
    PE X (.Call (.Name x p) (e :: es) [] pos) (tE X.K (eCall F fa)) := PE.imp (pe_call G hr hg hm hk hb .nil pass0 ha hdb he hpl) fun _ _ _ t => rd_call hn t
theorem e_call0 (G : FnOk X.prog X.w X.K X.mg X.base CX0 k f fd ps (spF X.K F 0)) (hr : Room k X.A) (hg : Gl X x) (hm : X.mg x = some (.ref f)) (hk : PySem.W.keepIn X.K (.ref f) = true) (hb : Binds X.K fd ps []) (hdb : (x == ("__debug__" : Str)) = false := by decide) :
    PE X (.Call (.Name x p) [] [] pos) (tE X.K (eCall F eNil)) := PE.imp (pe_call0 G hr hg hm hk hb .nil pass0 hdb) fun σ H Q t => by
  have h := rd_call (E := E0) (n := 0) lenA_nil t
  obtain ⟨B, env, ds, env', en, ev, q⟩ := h
  cases ev
  exact q B H [] (.refl en) ⟨rfl, fun k v d h => by simp at h, fun k l c c' v _ h => by simp at h⟩
end
theorem fn_ok {P : Program} {w : World} {K : PySem.W.Frag} {mg : Str → Option Value} {base : Heap} {x qual : Str} {st : Stmt} {f : Addr} {fd : FuncData} {N ps : List Str} {k n : Nat} {b : SS} (Fn : Fun K x qual st f fd) (Sc : FnScope N ps (defScope st)) (hn : n = ps.length)
    (hbody : ∀ (cdv : Value) (A : Around) (outer : List Env) (s : Shared) (H : Hp) (E : XK), Room k (A.deeper (PyProof.Rows.envOfC qual (defScope st) s.heap.objs.size f cdv)) →
      PSs (cxOf CX0 P w K mg base N qual (defScope st) f cdv A outer s H E).nox (defBody st) (tS K b)) : FnOk P w K mg base CX0 (k + 1) f fd ps (spF K (runFn N.length b) n) := by
  refine Fn.ok Sc (spF_len hn) fun cdv A outer s H vs Q E hr h => ⟨_, hbody cdv A outer s H E hr, fn_body h⟩

def gS (fo fi : EE) : GG := fun x env => match fo env with
  | some (.var j, e1) => match fi e1 with
    | some (.pd (.int k), e2) => putL j k x e2
    | _ => none
  | _ => none
theorem rd_gS {K : PySem.W.Frag} {fo fi : EE} {v : V} {σ : St} {H : Hp} {Q : St → Hp → Prop} (h : tG K (gS fo fi) v σ H Q) : gSub (tE K fo) (tE K fi) rSetL v σ H Q := by
  obtain ⟨B, env, x, env', en, r, ev, q⟩ := h
  unfold gS at ev
  split at ev
  · rename_i j e1 h1
    split at ev
    · rename_i k e2 h2
      refine ⟨B, env, _, _, en, h1, fun B1 H1 o a1 r1 => ⟨B1, e1, _, _, a1.en, h2, fun B2 H2 w a2 r2 => ?_⟩⟩
      have r2 : Rp K B2 H2 w (.int k) := r2
      cases r2
      have a12 := a1.trans en a2
      unfold putL at ev
      split at ev
      · rename_i m xs hm
        split at ev
        · cases ev
        rename_i hf
        split at ev
        · cases ev
        rename_i i hi
        cases ev
        have hx : σ[j]? = some (some o) := r1.1
        obtain ⟨p, g1, g2, us, g3, g4⟩ := a12.en.mu j _ _ hm
        rw [hx] at g1
        cases g1
        have rv : Rp K B2 H2 v x := r.grow (a12.grow en)
        refine ⟨p, us, k, i, rfl, rfl, g3, by rw [g4.length]; exact hi, ?_⟩
        obtain ⟨gw, aw⟩ := AtS.write (o := .lst (us.set i v)) (c' := .ls (xs.set i x)) a12.en hm hf hx (fun o' h' im => by rw [g3] at h'; cases h'; exact im) (fun H' _ h1 g' => ⟨_, h1, (g4.set rv i).grow g'⟩)
        exact q _ _ _ ((a12.trans en aw).s)
      · cases ev
    · cases ev
  · cases ev
theorem g_sub {X : Cx} {o i : Expr} {pos : Pos} {fo fi : EE} (ho : PE X o (tE X.K fo)) (hi : PE X i (tE X.K fi))
    (ha : ∀ v, assign (.Subscript o i pos) X.env v = (do
      let ov ← holding [v] (eval o X.env)
      let iv ← holding [v, ov] (eval i X.env)
      standAt pos
      holding [v, ov, iv] (setItem ov iv v)
      release [v, ov, iv] []) := by intro _; rfl) : PG X (.Subscript o i pos) (tG X.K (gS fo fi)) := PG.imp (pg_sub ho hi set_list ha) fun _ _ _ _ t => rd_gS t
def enumD (xs : List PyData) : Nat → List PyData
  | i => (List.range xs.length).map fun k => .tuple [.int ((i + k : Nat) : Int), xs.getD k .none]
end T3

end
section
set_option linter.all false
set_option autoImplicit false
set_option Elab.async false
namespace T3
open PySem L2
variable [TabL]

def zipD (xs ys : List PyData) : List PyData := List.zipWith (fun x y => .tuple [x, y]) xs ys
theorem wk_zt {K : PySem.W.Frag} {a b : Addr} {xs ys : List PyData} : Wk K (RZ.ItzT K a b) (fun _ => False) (fun B H => Rp K B H (.ref a) (.tuple xs) ∧ Rp K B H (.ref b) (.tuple ys)) (zipD xs ys) where
  go i B H g hi := by
    obtain ⟨g1, g2⟩ := g
    obtain ⟨_, us, e, h1, h2⟩ := Cn.tuple (.rp g1)
    cases e
    obtain ⟨_, ws, e, h3, h4⟩ := Cn.tuple (.rp g2)
    cases e
    simp only [zipD, List.length_zipWith] at hi
    have l1 := h2.length
    have l2 := h4.length
    exact ⟨us, ws, us[i]'(by omega), ws[i]'(by omega), h1, h3, by simp, by simp⟩
  stop B H g := by
    obtain ⟨g1, g2⟩ := g
    obtain ⟨_, us, e, h1, h2⟩ := Cn.tuple (.rp g1)
    cases e
    obtain ⟨_, ws, e, h3, h4⟩ := Cn.tuple (.rp g2)
    cases e
    refine ⟨us, ws, h1, h3, ?_⟩
    simp only [zipD, List.length_zipWith]
    have l1 := h2.length
    have l2 := h4.length
    omega
  yld i B H x H' d g hd hy := by
    obtain ⟨g1, g2⟩ := g
    obtain ⟨_, us, e, h1, h2⟩ := Cn.tuple (.rp g1)
    cases e
    obtain ⟨_, ws, e, h3, h4⟩ := Cn.tuple (.rp g2)
    cases e
    obtain ⟨T, u, w, rfl, nT, rfl, f1, f2⟩ := hy
    refine ⟨.inr (.inl ⟨T, _, nT, rfl⟩), ?_⟩
    simp only [zipD, List.getElem?_zipWith] at hd
    have k1 := f1 us h1
    have k2 := f2 ws h3
    obtain ⟨x, m1, m2⟩ := h2.getV k1
    obtain ⟨y, m3, m4⟩ := h4.getV k2
    rw [m1, m3] at hd
    cases hd
    have gr : Grow B H B (upd H T (.tup [u, w])) := ⟨fun q o h _ => keep_upd nT q o h, fun q h => .inl h⟩
    exact .tup (.inl (.inl upd_same)) (.cons (m2.grow gr) (.cons (m4.grow gr) .nil))
  keep W B H W' B' H' g s wb _ := ⟨g.1.grow (s.grow wb), g.2.grow (s.grow wb)⟩
def tupOf : R → Option (List PyData)
  | .pd (.tuple xs) => some xs
  | .nt xs => some xs
  | _ => none
theorem tupOf_at {K : PySem.W.Frag} {H₀ : Hp} {B : Mset} {H : Hp} {σ : St} {env : Sl} {v : V} {d : R} {xs : List PyData} (h : RA K H₀ B H σ env v d) (c : tupOf d = some xs) : Rp K B H v (.tuple xs) := by
  unfold tupOf at c
  split at c
  · cases c; exact h
  · cases c; obtain ⟨a, rfl, h⟩ := h; exact h.rp
  · cases c
def iZt (f : EA) : EI := fun env => match f env with
  | some ([d1, d2], e) => match tupOf d1 with
    | none => none
    | some xs => match tupOf d2 with
      | none => none
      | some ys => some (zipD xs ys, none, e)
  | _ => none
theorem i_zip {X : Cx} {e e2 : Expr} {f : EA} {p pos tpos : Pos} {elts : List Expr} {kk : Nat} (hg : Gl X "zip") (hm : X.mg "zip" = none) (ha : PA X [e, e2] (tA X.K f))
    (hs : starEach [e, e2] X.env = (false, eval e X.env) :: starEach [e2] X.env := by rfl) (hpl : (backTo pos (starEach [e2] X.env)).any (·.1) = false := by rfl) :
    PI X (.Tuple elts kk tpos) (.Call (.Name "zip" p) [e, e2] [] pos) (tI X.K (iZt f)) := PI.imp (RZ.pi_zipA hg hm ha hs hpl) fun σ H R h => by
  obtain ⟨B, env, xs, lk, env', en, ev, q⟩ := h
  unfold iZt at ev
  split at ev
  · rename_i d1 d2 e1 h1
    split at ev
    · cases ev
    rename_i xs h2
    split at ev
    · cases ev
    rename_i ys h3
    cases ev
    refine ⟨B, env, _, _, en, h1, fun B1 H1 vs a1 rr => ?_⟩
    match vs, rr with
    | [v, w], rr =>
      have r1 := tupOf_at (rr.each 0 v d1 rfl rfl) h2
      have r2 := tupOf_at (rr.each 1 w d2 rfl rfl) h3
      obtain ⟨a, us, rfl, g1, _⟩ := Cn.tuple (.rp r1)
      obtain ⟨b, ws, rfl, g3, _⟩ := Cn.tuple (.rp r2)
      exact ⟨a, b, us, ws, rfl, .inr ⟨g1, g3, q B1 H1 _ _ _ _ a1 rfl wk_zt ⟨r1, r2⟩ (fun _ z => z.elim)⟩⟩
    | [], rr => have := rr.len; simp at this
    | [_], rr => have := rr.len; simp at this
    | _ :: _ :: _ :: _, rr => have := rr.len; simp at this
  · cases ev
def KdOk (K : PySem.W.Frag) (w : World) (d : Addr) (kvs : List (Str × PyData)) : Prop := ∀ z x, kvs.lookup z = some x → ∃ v0, KDct K w d z v0 ∧ ∀ B H, Rp K B H v0 x
def eKd (kvs : List (Str × PyData)) (f : EE) : EE := fun env => match f env with
  | some (.pd (.str z), e) => match kvs.lookup z with
    | some x => some (.pd x, e)
    | none => none
  | _ => none
theorem e_kd {X : Cx} {a b : Expr} {d : Addr} {kvs : List (Str × PyData)} {f : EE} {pos : Pos} (D : KdOk X.K X.w d kvs) (ha : PE X a (tC (.ref d))) (hb : PE X b (tE X.K f)) (hs : PlainIx b := by exact fun _ _ => rfl) : PE X (.Subscript a b pos) (tE X.K (eKd kvs f)) := by
  refine PE.imp (pe_ix ix_kdict ha hb hs) fun σ H Q t => ?_
  obtain ⟨B, env, r, env', en, ev, q⟩ := t
  unfold eKd at ev
  split at ev
  · rename_i z e1 h1
    split at ev
    · rename_i x hx
      cases ev
      refine ⟨B, env, _, _, en, h1, fun B1 H1 v a1 r1 => ?_⟩
      have r1 : Rp X.K B1 H1 v (.str z) := r1
      cases r1
      obtain ⟨v0, g1, g3⟩ := D z x hx
      exact ⟨d, z, v0, rfl, rfl, g1, q B1 H1 v0 a1 (g3 B1 H1)⟩
    · cases ev
  · cases ev
end T3

end
section
set_option linter.all false
set_option autoImplicit false
set_option Elab.async false
namespace T3
open PySem L2
variable [TabL]

theorem u65 {k : Nat} {A : Around} (r : Room k A) : A.units + 65 < cLine := by have := r.un; omega
theorem u64 {k : Nat} {A : Around} (r : Room k A) : A.units + 64 < cLine := by have := r.un; omega
theorem u0 {k : Nat} {A : Around} (r : Room k A) : A.units < cLine := by have := r.un; omega
theorem u1 {k : Nat} {A : Around} (r : Room k A) : A.units + 1 < cLine := by have := r.un; omega
def At0 (K : PySem.W.Frag) (mg : Str → Option Value) (x : Str) (st : Stmt) (ps : List Str) : Prop := ∃ f fd, Fun K x x st f fd ∧ mg x = some (.ref f) ∧ Binds K fd ps []
def Has (P : Program) (w : World) (K : PySem.W.Frag) (mg : Str → Option Value) (base : Heap) (x : Str) (n : Nat) (F : FnD) (k : Nat) : Prop := ∃ f fd ps, FnOk P w K mg base CX0 k f fd ps (spF K F n) ∧ mg x = some (.ref f) ∧ PySem.W.keepIn K (.ref f) = true ∧ Binds K fd ps []
theorem has_of {P : Program} {w : World} {K : PySem.W.Frag} {mg : Str → Option Value} {base : Heap} {x : Str} {st : Stmt} {N ps : List Str} {k n : Nat} {b : SS} (h : At0 K mg x st ps) (Sc : FnScope N ps (defScope st)) (hn : n = ps.length)
    (hbody : ∀ (f : Addr) (cdv : Value) (A : Around) (outer : List Env) (s : Shared) (H : Hp) (E : XK), Room k (A.deeper (PyProof.Rows.envOfC x (defScope st) s.heap.objs.size f cdv)) →
      PSs (cxOf CX0 P w K mg base N x (defScope st) f cdv A outer s H E).nox (defBody st) (tS K b)) : Has P w K mg base x n (runFn N.length b) (k + 1) := by
  obtain ⟨f, fd, h1, h2, h3⟩ := h
  exact ⟨f, fd, ps, fn_ok h1 Sc hn fun cdv A outer s H E hr => hbody f cdv A outer s H E hr, h2, h1.kp, h3⟩
section
variable {X : Cx} {k n : Nat} {F : FnD} {x : Str} {p pos : Pos} {e : Expr} {es : List Expr} {fa : EA}
theorem e_fn (h : Has X.prog X.w X.K X.mg X.base x n F k) (hr : Room k X.A) (hn : lenA fa n) (ha : PA X (e :: es) (tA X.K fa)) (hg : Gl X x := by rfl) (hdb : (x == ("__debug__" : Str)) = false := by decide) (he : starEach (e :: es) X.env = (false, eval e X.env) :: starEach es X.env := by rfl) (hpl : (backTo pos (starEach es X.env)).any (·.1) = false := by rfl) :
    PE X (.Call (.Name x p) (e :: es) [] pos) (tE X.K (eCall F fa)) := by
  obtain ⟨f, fd, ps, h1, h2, h3, h4⟩ := h
  exact e_call h1 hr hg h2 h3 h4 hn ha hdb he hpl
theorem e_fn0 (h : Has X.prog X.w X.K X.mg X.base x 0 F k) (hr : Room k X.A) (hg : Gl X x := by rfl) (hdb : (x == ("__debug__" : Str)) = false := by decide) :
    PE X (.Call (.Name x p) [] [] pos) (tE X.K (eCall F eNil)) := by
  obtain ⟨f, fd, ps, h1, h2, h3, h4⟩ := h
  exact e_call0 h1 hr hg h2 h3 h4 hdb
end
def KC (K : PySem.W.Frag) (mg : Str → Option Value) (x : Str) (d : PyData) : Prop := ∃ v u, mg x = some u ∧ RelV v u ∧ ∀ B H, Rp K B H v d
theorem e_glob {X : Cx} {x : Str} {d : PyData} {pos : Pos} (h : KC X.K X.mg x d) (hg : Gl X x := by rfl) (hd : (x == ("__debug__" : Str)) = false := by decide) : PE X (.Name x pos) (tE X.K (eC d)) := by
  obtain ⟨v, u, h1, h2, h3⟩ := h
  exact e_c (pe_glob hg h1 h2 hd) h3
def KD (K : PySem.W.Frag) (w : World) (mg : Str → Option Value) (x : Str) (kvs : List (Str × PyData)) : Prop := ∃ d, mg x = some (.ref d) ∧ KdOk K w d kvs
theorem e_kdn {X : Cx} {x : Str} {b : Expr} {kvs : List (Str × PyData)} {f : EE} {p pos : Pos} (h : KD X.K X.w X.mg x kvs) (hb : PE X b (tE X.K f)) (hg : Gl X x := by rfl) (hd : (x == ("__debug__" : Str)) = false := by decide) (hs : PlainIx b := by exact fun _ _ => rfl) : PE X (.Subscript (.Name x p) b pos) (tE X.K (eKd kvs f)) := by
  obtain ⟨d, h1, h2⟩ := h
  exact e_kd h2 (pe_glob (v := .ref d) hg h1 rfl hd) hb hs
section
variable {X : Cx} {pos : Pos}
theorem k_int {i : Int} {j : Nat} : PE X (.Constant (.int i) j pos) (tE X.K (eC (.int i))) := e_c pe_int fun _ _ => .int _
theorem k_str {i : Str} {j : Nat} : PE X (.Constant (.str i) j pos) (tE X.K (eC (.str i))) := e_c pe_str fun _ _ => .str _
theorem k_bl {i : Bool} {j : Nat} : PE X (.Constant (.bool i) j pos) (tE X.K (eC (.bool i))) := e_c pe_bl fun _ _ => .bl _
theorem k_non {j : Nat} : PE X (.Constant .none j pos) (tE X.K (eC .none)) := e_c pe_non fun _ _ => .non
variable {a b : Expr} {fa fb : EE}
def eAdd (fa fb : EE) : EE := eThen (eTwo fa fb) kAdd
def eSub (fa fb : EE) : EE := eThen (eTwo fa fb) kSub
noncomputable def eMul (fa fb : EE) : EE := eThen (eTwo fa fb) kMul
noncomputable def eFdiv (fa fb : EE) : EE := eThen (eTwo fa fb) kFdiv
def eMod (fa fb : EE) : EE := eThen (eTwo fa fb) kMod
noncomputable def ePow (fa fb : EE) : EE := eThen (eTwo fa fb) kPow
def eNeg (fa : EE) : EE := eThen (eOne fa) kNeg
def eEq (fa fb : EE) : EE := eThen (eTwo fa fb) (kE oEq)
def eNe (fa fb : EE) : EE := eThen (eTwo fa fb) (kE oNe)
def eLt (fa fb : EE) : EE := eThen (eTwo fa fb) kLt
def eLe (fa fb : EE) : EE := eThen (eTwo fa fb) kLe
def eGt (fa fb : EE) : EE := eThen (eTwo fa fb) kGt
def eIn (fa fb : EE) : EE := eThen (eTwo fa fb) (kE (oIn false))
def eNin (fa fb : EE) : EE := eThen (eTwo fa fb) (kE (oIn true))
def eIsn (fa fb : EE) : EE := eThen (eTwo fa fb) (kE (oIsN true))
def eIx (fa fb : EE) : EE := eThen (eTwo fa fb) (kE oIx)
theorem x_add (ha : PE X a (tE X.K fa)) (hb : PE X b (tE X.K fb)) : PE X (.BinOp a .Add b pos) (tE X.K (eAdd fa fb)) :=
  e_op (OpR.or op_add (OpR.or op_add_str (OpR.or op_catA op_cat))) (con_or2 (con_E ok_I0) (con_or2 (con_E ok_catS) (con_or2 (con_T ok_catT) c_catL))) ha hb
theorem x_sub (ha : PE X a (tE X.K fa)) (hb : PE X b (tE X.K fb)) : PE X (.BinOp a .Sub b pos) (tE X.K (eSub fa fb)) := e_op op_sub (con_E ok_I0) ha hb
theorem x_mul (ha : PE X a (tE X.K fa)) (hb : PE X b (tE X.K fb)) : PE X (.BinOp a .Mult b pos) (tE X.K (eMul fa fb)) := e_op (OpR.or op_mul op_repT) (con_or2 (con_E ok_I) (con_T ok_repT)) ha hb
theorem x_fdiv (ha : PE X a (tE X.K fa)) (hb : PE X b (tE X.K fb)) : PE X (.BinOp a .FloorDiv b pos) (tE X.K (eFdiv fa fb)) := e_op op_fdivW (con_E ok_I) ha hb
theorem x_mod (ha : PE X a (tE X.K fa)) (hb : PE X b (tE X.K fb)) : PE X (.BinOp a .Mod b pos) (tE X.K (eMod fa fb)) := e_op op_mod (con_E ok_I) ha hb
theorem x_pow (ha : PE X a (tE X.K fa)) (hb : PE X b (tE X.K fb)) : PE X (.BinOp a .Pow b pos) (tE X.K (ePow fa fb)) := e_op op_pow (con_E ok_I) ha hb
theorem x_neg (ha : PE X a (tE X.K fa)) : PE X (.UnaryOp .USub a pos) (tE X.K (eNeg fa)) := e_un un_neg c_neg ha
theorem x_ix (ha : PE X a (tE X.K fa)) (hb : PE X b (tE X.K fb)) (hs : PlainIx b := by exact fun _ _ => rfl) : PE X (.Subscript a b pos) (tE X.K (eIx fa fb)) := e_ix ix_seq (con_E ok_ix) ha hb hs
variable {k : Nat}
structure Cmp2 (X : Cx) (op : CmpOp) (kk : KK) : Prop where
  ex : ∃ r : R2, OpR X (compareOp op) r ∧ Con X.K kk (l2 r)
theorem q_eq (hr : Room k X.A) : Cmp2 X .Eq (kE oEq) := ⟨_, op_eqD (u64 hr), con_E ok_eq⟩
theorem q_ne (hr : Room k X.A) : Cmp2 X .NotEq (kE oNe) := ⟨_, op_neD (u64 hr), con_E ok_ne⟩
theorem q_lt (hr : Room k X.A) : Cmp2 X .Lt kLt := ⟨_, OpR.or op_lt (OpR.or (op_ltT (u0 hr)) (op_ltG (u64 hr))), con_or2 (con_E ok_B0) (con_or2 (con_E ok_ltT) (con_E ok_ltG))⟩
theorem q_le (hr : Room k X.A) : Cmp2 X .LtE kLe := ⟨_, op_le, con_E ok_B0⟩
theorem q_gt (hr : Room k X.A) : Cmp2 X .Gt kGt := ⟨_, OpR.or op_gt (op_gtG (u64 hr)), con_or2 (con_E ok_B0) (con_E ok_gtG)⟩
theorem q_in (hr : Room k X.A) : Cmp2 X .In (kE (oIn false)) := ⟨_, OpR.or (op_inD (u65 hr)) (op_inT (u65 hr)), con_E ok_in⟩
theorem q_nin (hr : Room k X.A) : Cmp2 X .NotIn (kE (oIn true)) := ⟨_, OpR.or (op_notInD (u65 hr)) (op_notInT (u65 hr)), con_E ok_notin⟩
theorem q_isn (hr : Room k X.A) : Cmp2 X .IsNot (kE (oIsN true)) := ⟨_, op_notN, con_E ok_notN⟩
theorem x_cmp {op : CmpOp} {kk : KK} (q : Cmp2 X op kk) (ha : PE X a (tE X.K fa)) (hb : PE X b (tE X.K fb)) (hm : behindInMarks op b = false := by rfl) : PE X (.Compare a [op] [b] pos) (tE X.K (eThen (eTwo fa fb) kk)) := by
  obtain ⟨r, h1, h2⟩ := q.ex
  exact e_cmp h1 h2 ha hb hm
theorem y_cmp {op : CmpOp} {kk : KK} (q : Cmp2 X op kk) (ha : PE X a (tE X.K fa)) (hb : PE X b (tE X.K fb)) (hm : behindInMarks op b = false := by rfl) : PT X (.Compare a [op] [b] pos) (tT X.K (bT (eThen (eTwo fa fb) kk))) := by
  obtain ⟨r, h1, h2⟩ := q.ex
  exact b_cmp h1 h2 ha hb hm
end
section
variable {X : Cx} {p pos : Pos} {e : Expr} {es : List Expr} {f : EA} {k : Nat}
structure Blt (X : Cx) (x : Str) (kk : KK) : Prop where
  ex : ∃ (id : String) (r : List V → Hp → VK → Prop), CallR X (.builtin id) r ∧ Con X.K kk r ∧ bootBuiltins x = some (.builtin id)
structure Bty (X : Cx) (x : Str) (kk : KK) : Prop where
  ex : ∃ (id : String) (r : List V → Hp → VK → Prop), CallR X (.type id) r ∧ Con X.K kk r ∧ bootBuiltins x = some (.type id)
theorem x_blt {x : Str} {kk : KK} (B : Blt X x kk) (hm : X.mg x = none) (ha : PA X (e :: es) (tA X.K f)) (hg : Gl X x := by rfl) (hn : x ≠ "__name__" := by decide) (hdb : (x == ("__debug__" : Str)) = false := by decide) (he : starEach (e :: es) X.env = (false, eval e X.env) :: starEach es X.env := by rfl) (hpl : (backTo pos (starEach es X.env)).any (·.1) = false := by rfl) :
    PE X (.Call (.Name x p) (e :: es) [] pos) (tE X.K (eThen f kk)) := by
  obtain ⟨id, r, h1, h2, h3⟩ := B.ex
  exact e_callB h1 h2 hg hm h3 ha hn hdb he hpl
theorem x_bty {x : Str} {kk : KK} (B : Bty X x kk) (hm : X.mg x = none) (ha : PA X (e :: es) (tA X.K f)) (hg : Gl X x := by rfl) (hn : x ≠ "__name__" := by decide) (hdb : (x == ("__debug__" : Str)) = false := by decide) (he : starEach (e :: es) X.env = (false, eval e X.env) :: starEach es X.env := by rfl) (hpl : (backTo pos (starEach es X.env)).any (·.1) = false := by rfl) :
    PE X (.Call (.Name x p) (e :: es) [] pos) (tE X.K (eThen f kk)) := by
  obtain ⟨id, r, h1, h2, h3⟩ := B.ex
  exact e_callTy h1 h2 hg hm h3 ha hn hdb he hpl
theorem w_len (hc : X.calm = true) (hr : Room k X.A) : Blt X "len" (kE oLen) := ⟨_, _, cr_len, c_len, PySem.boot_len⟩
theorem w_all (hc : X.calm = true) (hr : Room k X.A) : Blt X "all" (kE oAll) := ⟨_, _, cr_all hc, c_all, by decide +kernel⟩
theorem w_max (hc : X.calm = true) (hr : Room k X.A) : Blt X "max" (kE oMax) := ⟨_, _, cr_mx hc (u64 hr), c_mx, by decide +kernel⟩
theorem w_min (hc : X.calm = true) (hr : Room k X.A) : Blt X "min" (kE oMin) := ⟨_, _, cr_mn hc (u64 hr), c_mn, by decide +kernel⟩
theorem w_tuple (hc : X.calm = true) (hr : Room k X.A) : Bty X "tuple" kTupN := ⟨_, _, cr_tupN, c_tupN, by decide +kernel⟩
theorem w_list (hc : X.calm = true) (hr : Room k X.A) : Bty X "list" (kL oList) := ⟨_, _, call_list_of, c_list, by decide +kernel⟩
end
section
variable {X : Cx} {o e : Expr} {es : List Expr} {fo : EE} {fa : EA} {apos cpos : Pos} {k : Nat}
theorem m_append (ho : PE X o (tE X.K fo)) (ha : PA X [e] (tA X.K fa)) (hbase : attributeBase o "append" X.env (eval o X.env) = eval o X.env := by rfl)
    (hfew : ((backTo cpos (starEach [e] X.env)).all (fun x => !x.1) && (backToKw cpos (keywordEach [] X.env)).all (fun x => x.1.isSome)
      && decide (([e] : List Expr).length + ([] : List Keyword).length + (if ([] : List Keyword).isEmpty then 0 else 1) < 30)) = true := by rfl)
    (hline : (apos.endLine == cpos.line) = true := by rfl) (hs : starEach [e] X.env = (false, eval e X.env) :: starEach [] X.env := by rfl) (hplain : (backTo cpos (starEach [] X.env)).any (·.1) = false := by rfl) :
    PE X (.Call (.Attribute o "append" apos) [e] [] cpos) (tE X.K (eBM isL fo fa kAppend)) :=
  PE.imp (pe_bm PySem.F.plainAttrs_list PySem.F.slot_list_append PySem.F.type_list_append mt_append ho ha hbase hfew hline hs hplain) fun _ _ _ t => rd_bm ty_L c_append t
end
section
variable {X : Cx}
theorem x_lc {elt tg iter : Expr} {ifs : List Expr} {scope : Scope} {pos : Pos} {it : EI} {g : GG} {t : EB} {f : EE} {vs : List Nat} (own : List (Str × Nat)) (hc : X.calm = true) (hN : X.N.Nodup) (hv : own.map (·.2) = vs) (hi : PI X tg iter (tI X.K it)) (ok : BlkOk X.N X.env.scope scope own) (ho : Only g vs)
    (hg : ∀ (s : Shared) (H : Hp) (C : Addr) (cl : List (Str × Addr)) (fp : List Addr), PG (X.blk s H scope (compEnvC scope cl C X.env) fp) tg (tGv X.K g vs)) (ht : ∀ (s : Shared) (H : Hp) (C : Addr) (cl : List (Str × Addr)) (fp : List Addr), PTs (X.blk s H scope (compEnvC scope cl C X.env) fp) ifs (tT X.K t))
    (he : ∀ (s : Shared) (H : Hp) (C : Addr) (cl : List (Str × Addr)) (fp : List Addr), PE (X.blk s H scope (compEnvC scope cl C X.env) fp) elt (tE X.K f)) (hs : ∀ x, foldedSetIterable iter X.env x = pure x := by intro _; rfl) :
    PE X (.ListComp elt [⟨tg, iter, ifs, 0⟩] scope pos) (tE X.K (eLc it g t f vs)) := by
  subst hv
  exact e_lc hc hN hi ok ho hg ht he hs
theorem x_setLc {i : Nat} {y : Str} {py : Pos} {elt tg iter : Expr} {ifs : List Expr} {scope : Scope} {pos spos : Pos} {it : EI} {g : GG} {t : EB} {f : EE} {vs : List Nat} (own : List (Str × Nat)) (hc : X.calm = true) (hN : X.N.Nodup) (hv : own.map (·.2) = vs) (hy : X.N[i]? = some y) (hyl : X.env.scope.names.lookup y = some .local)
    (hsw : swapsWith (.ListComp elt [⟨tg, iter, ifs, 0⟩] scope pos) (some (.Name y py)) spos.line X.env = pure true) (hi : PI X tg iter (tI X.K it)) (ok : BlkOk X.N X.env.scope scope own) (ho : Only g vs)
    (hg : ∀ (s : Shared) (H : Hp) (C : Addr) (cl : List (Str × Addr)) (fp : List Addr), PG (X.blk s H scope (compEnvC scope cl C X.env) fp) tg (tGv X.K g vs)) (ht : ∀ (s : Shared) (H : Hp) (C : Addr) (cl : List (Str × Addr)) (fp : List Addr), PTs (X.blk s H scope (compEnvC scope cl C X.env) fp) ifs (tT X.K t))
    (he : ∀ (s : Shared) (H : Hp) (C : Addr) (cl : List (Str × Addr)) (fp : List Addr), PE (X.blk s H scope (compEnvC scope cl C X.env) fp) elt (tE X.K f)) (hs : ∀ x, foldedSetIterable iter X.env x = pure x := by intro _; rfl) :
    PS X (.Assign [.Name y py] (.ListComp elt [⟨tg, iter, ifs, 0⟩] scope pos) spos) (tS X.K (sSet i (eLc it g t f vs))) := by
  subst hv
  exact s_setLc hc hN hy hyl hsw hi ok ho hg ht he hs
end
end T3

end
section
set_option linter.all false
set_option autoImplicit false
set_option Elab.async false
namespace T3
open PySem PyProof.Rows
variable [TabL]
theorem collect_tup {prog : Program} {w : World} {A : Around} {E : Value → Shared → Prop} {s : Shared} {l : Addr} {vs : List Value} {Q : List Value → Shared → Prop} (hl : IsTup s.heap l vs.toArray)
    (h : Q vs { s with heap := (s.heap.push (seqObj "list" #[] 0)).update s.heap.objs.size (Obj.mapSeq (· ++ vs.toArray)) }) (hsz : vs.length ≤ sizeLine) : wpAny (model prog w) A (collect (.ref l)) Q E s := by
  obtain ⟨o, ho, hc, n, hd⟩ := hl
  have eL : (s.heap.push (seqObj "list" #[] 0)).get? s.heap.objs.size = some (seqObj "list" #[] 0) := Heap.get?_push_size _ rfl
  have eO : (s.heap.push (seqObj "list" #[] 0)).get? l = some o := Heap.get?_push_of_some _ ho
  unfold collect
  refine wpAny_bind (wpAny_runValue (codeAny_builtin entry_proto_collect' ?_))
  show wpAny (model prog w) _ (do again (.builtin "list.__iadd__" ⟨[← newList [], .ref l], []⟩)) _ _ s
  refine wpAny_bind (wpAny_newList (wpAny_pure
    ⟨Code.quiet_builtin _ (by decide +kernel), codeAny_builtin entry_list_iadd' ?_⟩))
  show wpAny (model prog w) _ (Builtin.List.listExtendWith (.ref s.heap.objs.size) (.ref l) (.ref s.heap.objs.size)) _ _ { s with heap := s.heap.push (seqObj "list" #[] 0) }
  unfold Builtin.List.listExtendWith
  refine wpAny_bind (wpAny_typeOf (T := "tuple") ⟨o, eO, hc⟩ ?_)
  have ht : (Value.type "tuple" == Value.type "tuple") = true := rfl
  rw [if_pos (by rw [ht]; simp)]
  refine wpAny_bind (listItems_at eO hd (wpAny_bind (listItems_at (xs := #[]) (n := 0) eL rfl ?_)))
  have hsz' : ((#[] : Array Value) ++ vs.toArray).size ≤ sizeLine + 1 := by simp; omega
  rw [if_neg (by simp)]
  refine wpAny_bind (listUpdate_at (xs := #[]) (n := 0) eL rfl (wpAny_pure ?_) (Nat.zero_le _) hsz')
  refine wpAny_bind (wpAny_load (get?_update_seq eL _) ?_)
  show wpAny (model prog w) A (pure ((#[] : Array Value) ++ vs.toArray).toList) Q E _
  have e0 : ((#[] : Array Value) ++ vs.toArray).toList = vs := by simp
  rw [e0]
  exact wpAny_pure h
end T3
namespace T3
open PySem PyProof.Rows SrtO Srt
variable [TabL]
theorem sorted_tup {prog : Program} {w : World} {A : Around} {E : Value → Shared → Prop} {s : Shared} {l : Addr} {vs : List Value} {ltv : Value → Value → Bool} {Q : Value → Shared → Prop} (O : Swo ltv) (hl : IsTup s.heap l vs.toArray) (hz : vs.length ≤ sizeLine)
    (hS : 2 ≤ vs.length → ∀ (h₁ : Heap) (a : Addr), h₁.get? a = some (seqObj "list" vs.toArray 0) → (∀ b o, s.heap.get? b = some o → b ≠ a ∧ h₁.get? b = some o) → SortableO prog w A.in1.in1 { s with heap := h₁ } a vs ltv)
    (h : ∀ out : List Value, Srtd ltv out → Stb ltv out vs → Q (.ref (s.heap.objs.size + 1)) { s with heap := sortedAll s.heap vs out.toArray }) : wpAny (model prog w) A (call (.builtin "sorted") [.ref l]) Q E s := by
  refine Calls.call_function_entry kind_sorted plain_sorted entry_sorted (args_sorted1 _) ?_
  unfold Builtin.«sorted»
  refine wpAny_bind (m := checkCount "sorted" 1 1 _) (wpAny_pure (wpAny_bind (collect_tup hl (wpAny_bind (wpAny_newList ?_ hz)) hz)))
  generalize eg : (s.heap.push (seqObj "list" #[] 0)).update s.heap.objs.size (Obj.mapSeq (· ++ vs.toArray)) = g
  have hg : g.objs.size = s.heap.objs.size + 1 := by rw [← eg, Heap.size_update, size_push']
  have new : (g.push (seqObj "list" vs.toArray 0)).get? (s.heap.objs.size + 1) = some (seqObj "list" vs.toArray 0) := by rw [← hg]; exact Heap.get?_push_size _ rfl
  have keep : ∀ b o, s.heap.get? b = some o → b ≠ s.heap.objs.size + 1 ∧ (g.push (seqObj "list" vs.toArray 0)).get? b = some o := fun b o q => by
    have hb : b < s.heap.objs.size := Heap.lt_size q
    refine ⟨Nat.ne_of_lt (Nat.lt_succ_of_lt hb), Heap.get?_push_of_some _ ?_⟩
    rw [← eg, Heap.get?_update_ne _ _ _ _ (Nat.ne_of_lt hb)]
    exact Heap.get?_push_of_some _ q
  show wpAny (model prog w) _ _ _ _ { s with heap := g.push (seqObj "list" vs.toArray 0) }
  rw [hg]
  refine wpAny_bind (wpAny_holding (wpAny_call_entry slot_list_sort ⟨_, new, rfl⟩ entry_list_sort
    (list_sort_ord O new hz (fun h2 => hS h2 _ _ new keep) fun out a1 a2 => ⟨_, rfl, wpAny_pure ⟨_, rfl, ?_⟩⟩) (args_list_sort _)))
  subst eg
  exact h out a1 a2
end T3

namespace T3
open PySem L2
variable [TabL]
def rSrtT (K : PySem.W.Frag) : List V → Hp → VK → Prop := fun vs H Q => ∃ (a : Addr) (ns : List Int), vs = [V.ref a] ∧ SqT K H a (ns.map V.int) ∧
  ∀ (ns' : List Int) (p : Addr), ns'.Perm ns → ns'.Pairwise (· ≤ ·) → H p = none → Q (.ref p) (upd H p (.lst (ns'.map V.int)))
theorem cr_srtT {X : Cx} : CallR X (.builtin "sorted") (rSrtT X.K) := by
  intro pins s σ H vs us Q I r h
  obtain ⟨a, ns, rfl, hs, q⟩ := h
  obtain ⟨its, rv, hl, hz⟩ := I.tuple hs
  rw [Vals.ref1 r]
  have hi := rv.ints
  have hz' : its.length ≤ sizeLine := by rw [← rv.length]; exact hz
  refine sorted_tup SrtO.swo_int hl hz' (fun h2 h₁ a' _ _ => SrtO.ints_sortable hi h2) fun out h1 h2 => ?_
  obtain ⟨k1, k2, k3⟩ := SrtO.ints_out hi h1 h2
  obtain ⟨ep, he'⟩ := PyProof.Rows.sortedAll_at s.heap its out.toArray
  have hlen : ((out.map SrtO.iv).map V.int).length ≤ sizeLine := by
    rw [List.length_map] at hz ⊢
    rw [k2.length_eq]
    exact hz
  refine ⟨.ref _, upd H (s.heap.objs.size + 1) (.lst ((out.map SrtO.iv).map V.int)), ?_, rfl, q _ _ k2 k3 (I.hok.fresh (Nat.le_succ _))⟩
  exact I.laid (t' := s.toks) (fun _ _ => PyProof.Rows.sortedAll_old) (Nat.le_succ _)
    ⟨hlen, out, ep, vals_of_ints k1, he'⟩
def pair? : PyData → Option (Int × Int)
  | .tuple [.int i, .int j] => if 0 ≤ i ∧ i < 64 ∧ 0 ≤ j ∧ j < 64 then some (i, j) else none
  | _ => none
def pairs? : List PyData → Option (List (Int × Int))
  | [] => some []
  | x :: xs => match pair? x with
    | none => none
    | some p => match pairs? xs with
      | none => none
      | some ps => some (p :: ps)
def clD (p : Int × Int) : PyData := .tuple [.int p.1, .int p.2]
theorem pair_eq {x : PyData} {p : Int × Int} (h : pair? x = some p) : x = clD p ∧ 0 ≤ p.1 ∧ p.1 < 64 ∧ 0 ≤ p.2 ∧ p.2 < 64 := by
  unfold pair? at h
  split at h
  · split at h
    · rename_i hc; cases h; exact ⟨rfl, hc⟩
    · cases h
  · cases h
theorem pairs_eq : ∀ {xs : List PyData} {ps : List (Int × Int)}, pairs? xs = some ps → xs = ps.map clD ∧ ∀ p ∈ ps, 0 ≤ p.1 ∧ p.1 < 64 ∧ 0 ≤ p.2 ∧ p.2 < 64
  | [], ps, h => by cases h; exact ⟨rfl, fun p hp => by simp at hp⟩
  | x :: xs, ps, h => by
    unfold pairs? at h
    split at h
    · cases h
    rename_i p hp
    split at h
    · cases h
    rename_i qs hq
    cases h
    obtain ⟨h1, h2⟩ := pair_eq hp
    obtain ⟨h3, h4⟩ := pairs_eq hq
    refine ⟨by rw [h1, h3]; rfl, fun z hz => ?_⟩
    rcases List.mem_cons.mp hz with e | e
    · rw [e]; exact h2
    · exact h4 z e
def prLe (p q : Int × Int) : Bool := decide (p.1 * 64 + p.2 ≤ q.1 * 64 + q.2)
def kSorted : KK := fun ds env => match ds with
  | [d] => match ctn env d with
    | some (.list xs) => match ints? xs with
      | some ns => some (.tmp (.ls ((ns.mergeSort fun a b => decide (a ≤ b)).map .int)), env)
      | none => if xs.length < 64 then match pairs? xs with
          | some ps => some (.tmp (.ls ((ps.mergeSort prLe).map clD)), env)
          | none => none
        else none
    | some (.tuple xs) => match ints? xs with
      | some ns => some (.tmp (.ls ((ns.mergeSort fun a b => decide (a ≤ b)).map .int)), env)
      | none => none
    | _ => none
  | _ => none
def rSort3 (K : PySem.W.Frag) : List V → Hp → VK → Prop := cOr (rSortedI K) (cOr (rSrtT K) (rSortU K 2 64))
theorem cr_sort3 {X : Cx} : CallR X (.builtin "sorted") (rSort3 X.K) := CallR.or cr_sortedI (CallR.or cr_srtT (cr_sortT (by decide)))
theorem ms_int {ns ns' : List Int} (h1 : ns'.Perm ns) (h2 : ns'.Pairwise (· ≤ ·)) : ns' = ns.mergeSort fun a b => decide (a ≤ b) := by
  refine List.Perm.eq_of_pairwise (le := (· ≤ ·)) (fun a b _ _ x y => Int.le_antisymm x y) h2 ?_ (h1.trans (List.mergeSort_perm _ _).symm)
  have := List.pairwise_mergeSort (le := fun a b : Int => decide (a ≤ b)) (fun a b c h1 h2 => by simp at h1 h2 ⊢; omega) (fun a b => by simp; omega) ns
  exact this.imp (by intro a b h; simpa using h)
theorem RpA.perm {K : PySem.W.Frag} {B : Mset} {H : Hp} {us ys : List V} (h : ys.Perm us) : ∀ {xs : List PyData}, RpA K B H us xs → ∃ zs, RpA K B H ys zs ∧ zs.Perm xs := by
  induction h with
  | nil => intro xs r; cases r; exact ⟨[], .nil, .nil⟩
  | cons x _ ih =>
    intro xs r
    cases r with
    | cons r1 r2 => obtain ⟨zs, h1, h2⟩ := ih r2; exact ⟨_, .cons r1 h1, h2.cons _⟩
  | swap x y l =>
    intro xs r
    cases r with
    | cons r1 r2 =>
      cases r2 with
      | cons r3 r4 => exact ⟨_, .cons r3 (.cons r1 r4), .swap _ _ _⟩
  | trans _ _ ih1 ih2 =>
    intro xs r
    obtain ⟨zs, h1, h2⟩ := ih2 r
    obtain ⟨ws, h3, h4⟩ := ih1 h1
    exact ⟨ws, h3, h4.trans h2⟩
theorem code_pr (p : Int × Int) : TS.code 64 [p.1, p.2] = p.1 * 64 + p.2 := code_pair p.1 p.2
theorem tupI_of {K : PySem.W.Frag} {B : Mset} {H : Hp} {v : V} {p : Int × Int} (h : Rp K B H v (clD p)) : TupI K H v [p.1, p.2] := by
  cases h with
  | tup h r =>
    have e := RpA.ints (ns := [p.1, p.2]) r
    rw [e] at h
    exact ⟨_, rfl, h⟩
theorem clD_inj {p q : Int × Int} (h : clD p = clD q) : p = q := by
  unfold clD at h
  simp at h
  exact Prod.ext h.1 h.2
theorem map_perm_clD {zs : List PyData} {ps : List (Int × Int)} (h : zs.Perm (ps.map clD)) : ∃ qs : List (Int × Int), zs = qs.map clD ∧ qs.Perm ps := by
  have hz : ∀ z ∈ zs, ∃ p ∈ ps, clD p = z := fun z hz => List.mem_map.mp (h.mem_iff.mp hz)
  have : ∃ qs : List (Int × Int), zs = qs.map clD := by
    clear h
    induction zs with
    | nil => exact ⟨[], rfl⟩
    | cons z zs ih =>
      obtain ⟨p, _, e⟩ := hz z (by simp)
      obtain ⟨qs, e2⟩ := ih (fun y hy => hz y (by simp [hy]))
      exact ⟨p :: qs, by rw [e2, ← e]; rfl⟩
  obtain ⟨qs, rfl⟩ := this
  refine ⟨qs, rfl, ?_⟩
  let un : PyData → Int × Int := fun d => match d with
    | .tuple [.int i, .int j] => (i, j)
    | _ => (0, 0)
  have hu : ∀ l : List (Int × Int), (l.map clD).map un = l := fun l => by
    rw [List.map_map]
    exact List.map_id'' (fun p => rfl) l
  have := h.map un
  rw [hu, hu] at this
  exact this
theorem c_sorted {K : PySem.W.Frag} : Con K kSorted (rSort3 K) := by
  intro σ H B env B1 H1 env1 vs ds d e2 Q en a rr hk q
  unfold kSorted at hk
  split at hk
  · rename_i d1
    match vs, rr with
    | [v], rr =>
      split at hk
      · rename_i xs hx
        obtain ⟨p, us, rfl, h1, h2⟩ := (Cn.of a.en (rr.each 0 v d1 rfl rfl) hx).list
        split at hk
        · rename_i ns hn
          cases hk
          rw [ints_map hn] at h2
          have e := h2.ints
          subst e
          refine .inl ⟨p, ns, rfl, h1, fun ns' r k1 k2 nr => ?_⟩
          rw [ms_int k1 k2]
          exact con_new en a nr (RpA.of_ints _) q
        · split at hk
          · rename_i hl
            split at hk
            · rename_i ps hp
              cases hk
              obtain ⟨e, hb⟩ := pairs_eq hp
              subst e
              refine .inr (.inr ⟨p, us, rfl, h1, by rw [h2.length]; exact hl, fun x hx => ?_, fun ys r k1 k2 nr => ?_⟩)
              · obtain ⟨i, hi, e⟩ := List.getElem_of_mem hx
                obtain ⟨dd, g1, g2⟩ := h2.getV (i := i) (v := x) (by rw [← e]; exact List.getElem?_eq_getElem hi)
                rw [List.getElem?_map] at g1
                cases hpi : ps[i]? with
                | none => rw [hpi] at g1; cases g1
                | some pp =>
                  rw [hpi] at g1
                  cases g1
                  have hbb := hb pp (List.mem_of_getElem? hpi)
                  refine ⟨[pp.1, pp.2], tupI_of g2, rfl, fun m hm => ?_⟩
                  simp only [List.mem_cons, List.not_mem_nil, or_false] at hm
                  rcases hm with e | e
                  · rw [e]; exact ⟨hbb.1, hbb.2.1⟩
                  · rw [e]; exact hbb.2.2
              · obtain ⟨zs, g1, g2⟩ := h2.perm k1
                obtain ⟨qs, rfl, g3⟩ := map_perm_clD g2
                have ord : qs.Pairwise (fun x y => x.1 * 64 + x.2 ≤ y.1 * 64 + y.2) := by
                  have : ∀ {ys : List V} {qs : List (Int × Int)}, RpA K B1 H1 ys (qs.map clD) → ys.Pairwise (fun x y => ∀ n m, TupI K H1 x n → TupI K H1 y m → TS.code 64 n ≤ TS.code 64 m) → qs.Pairwise (fun x y => x.1 * 64 + x.2 ≤ y.1 * 64 + y.2) := by
                    intro ys qs
                    induction qs generalizing ys with
                    | nil => intro _ _; exact .nil
                    | cons c qs ih =>
                      intro r pw
                      cases r with
                      | cons r1 r2 =>
                        cases pw with
                        | cons w1 w2 =>
                          refine .cons (fun y hy => ?_) (ih r2 w2)
                          obtain ⟨j, hj, e⟩ := List.getElem_of_mem hy
                          obtain ⟨vv, z1, z2⟩ := r2.get (i := j) (d := clD y) (by rw [List.getElem?_map, List.getElem?_eq_getElem hj, e]; rfl)
                          have := w1 vv (List.mem_of_getElem? z1) _ _ (tupI_of r1) (tupI_of z2)
                          rw [code_pr, code_pr] at this
                          exact this
                  exact this g1 k2
                have eq : qs = ps.mergeSort prLe := by
                  have hbq : ∀ z : Int × Int, z ∈ qs → 0 ≤ z.1 ∧ z.1 < 64 ∧ 0 ≤ z.2 ∧ z.2 < 64 := fun z hz => hb z (g3.mem_iff.mp hz)
                  refine List.Perm.eq_of_pairwise (le := fun x y : Int × Int => x.1 * 64 + x.2 ≤ y.1 * 64 + y.2) (fun x y hx hy l1 l2 => ?_) ord ?_ (g3.trans (List.mergeSort_perm _ _).symm)
                  · have b1 := hbq x hx
                    have b2 := hb y ((List.mergeSort_perm ps prLe).mem_iff.mp hy)
                    exact Prod.ext (by omega) (by omega)
                  · have := List.pairwise_mergeSort (le := prLe) (fun a b c h1 h2 => by simp [prLe] at h1 h2 ⊢; omega) (fun a b => by simp [prLe]; omega) ps
                    exact this.imp (by intro a b h; simpa [prLe] using h)
                rw [← eq] at q
                exact con_new en a nr g1 q
            · cases hk
          · cases hk
      · rename_i xs hx
        obtain ⟨p, us, rfl, h1, h2⟩ := (Cn.of a.en (rr.each 0 v d1 rfl rfl) hx).tuple
        split at hk
        · rename_i ns hn
          cases hk
          rw [ints_map hn] at h2
          have e := h2.ints
          subst e
          refine .inr (.inl ⟨p, ns, rfl, h1, fun ns' r k1 k2 nr => ?_⟩)
          rw [ms_int k1 k2]
          exact con_new en a nr (RpA.of_ints _) q
        · cases hk
      · cases hk
    | [], rr => have := rr.len; simp at this
    | _ :: _ :: _, rr => have := rr.len; simp at this
  · cases hk
theorem w_sorted {X : Cx} {k : Nat} (hc : X.calm = true) (hr : Room k X.A) : Blt X "sorted" kSorted := ⟨_, _, cr_sort3, c_sorted, by decide +kernel⟩
end T3

end
section
set_option linter.all false
set_option autoImplicit false
set_option Elab.async false
namespace T3
open PySem L2
variable [TabL]

noncomputable instance (a b : Int) : Decidable (RgOk a b) := Classical.propDecidable _
def dnOk (i j : Int) : Prop := -(2 ^ 62) ≤ i ∧ i < 2 ^ 62 ∧ -(2 ^ 62) ≤ j ∧ j < 2 ^ 62 ∧ (i - j).toNat ≤ 1000000
noncomputable instance (a b : Int) : Decidable (dnOk a b) := Classical.propDecidable _
section
variable {X : Cx} {a b c : Expr} {fa fb fc : EE} {p p2 pos pos2 : Pos}
end
section
variable {X : Cx} {a b c : Expr} {ta tb tc : TE} {p p2 pos pos2 : Pos}
end
def key? : PyData → Option Key
  | .int i => some (.inl i)
  | .str s => some (.inr s)
  | _ => none
theorem key_v {K : PySem.W.Frag} {B : Mset} {H : Hp} {v : V} {x : PyData} {k : Key} (h : Rp K B H v x) (e : key? x = some k) : v = kV k := by
  cases h <;> cases e <;> rfl
def putD (kvs : List (Key × PyData)) (k : Key) (x : PyData) : List (Key × PyData) :=
  if (kvs.any fun kv => decide (kv.1 = k)) = true then kvs.map (fun kv => if kv.1 = k then (kv.1, x) else kv) else kvs ++ [(k, x)]
def valD (kvs : List (Key × PyData)) (k : Key) : Option PyData := (kvs.find? fun kv => decide (kv.1 = k)).map (·.2)
theorem KvR.len {K : PySem.W.Frag} {B : Mset} {H : Hp} {ws : List (Key × V)} {kvs : List (Key × PyData)} (h : KvR K B H ws kvs) : ws.length = kvs.length := Paired.length h
theorem KvR.any {K : PySem.W.Frag} {B : Mset} {H : Hp} {k : Key} : ∀ {ws : List (Key × V)} {kvs : List (Key × PyData)}, KvR K B H ws kvs → (ws.any fun kv => decide (kv.1 = k)) = (kvs.any fun kv => decide (kv.1 = k))
  | _, _, .nil => rfl
  | _, _, .cons r t => by
    simp only [List.any_cons, r.1, KvR.any t]
theorem KvR.val {K : PySem.W.Frag} {B : Mset} {H : Hp} {k : Key} : ∀ {ws : List (Key × V)} {kvs : List (Key × PyData)}, KvR K B H ws kvs → (∃ v x, valV ws k = some v ∧ valD kvs k = some x ∧ Rp K B H v x) ∨ (valV ws k = none ∧ valD kvs k = none)
  | _, _, .nil => .inr ⟨rfl, rfl⟩
  | _, _, .cons (a := p) (b := q) r t => by
    by_cases e : q.1 = k
    · refine .inl ⟨p.2, q.2, ?_, ?_, r.2⟩
      · simp [valV, r.1, e]
      · simp [valD, e]
    · have e' : ¬ p.1 = k := by rw [r.1]; exact e
      rcases KvR.val (k := k) t with ⟨v, x, h1, h2, h3⟩ | ⟨h1, h2⟩
      · exact .inl ⟨v, x, by simpa [valV, e'] using h1, by simpa [valD, e] using h2, h3⟩
      · exact .inr ⟨by simpa [valV, e'] using h1, by simpa [valD, e] using h2⟩
theorem KvR.mapPut {K : PySem.W.Frag} {B : Mset} {H : Hp} {k : Key} {v : V} {x : PyData} (r : Rp K B H v x) : ∀ {ws : List (Key × V)} {kvs : List (Key × PyData)}, KvR K B H ws kvs → KvR K B H (ws.map fun kv => if kv.1 = k then (kv.1, v) else kv) (kvs.map fun kv => if kv.1 = k then (kv.1, x) else kv)
  | _, _, .nil => .nil
  | _, _, .cons (a := p) (b := q) h t => by
    refine .cons ?_ (KvR.mapPut r t)
    by_cases e : q.1 = k
    · have e' : p.1 = k := by rw [h.1]; exact e
      dsimp only
      rw [if_pos e, if_pos e']
      exact ⟨h.1, r⟩
    · have e' : ¬ p.1 = k := by rw [h.1]; exact e
      dsimp only
      rw [if_neg e, if_neg e']
      exact h
theorem KvR.app {K : PySem.W.Frag} {B : Mset} {H : Hp} {k : Key} {v : V} {x : PyData} (r : Rp K B H v x) : ∀ {ws : List (Key × V)} {kvs : List (Key × PyData)}, KvR K B H ws kvs → KvR K B H (ws ++ [(k, v)]) (kvs ++ [(k, x)])
  | _, _, .nil => .cons ⟨rfl, r⟩ .nil
  | _, _, .cons h t => .cons h (KvR.app r t)
theorem KvR.put {K : PySem.W.Frag} {B : Mset} {H : Hp} {k : Key} {v : V} {x : PyData} {ws : List (Key × V)} {kvs : List (Key × PyData)} (h : KvR K B H ws kvs) (r : Rp K B H v x) : KvR K B H (putK ws k v) (putD kvs k x) := by
  unfold putK putD
  rw [h.any]
  split
  · exact h.mapPut r
  · exact h.app r
section
variable {X : Cx} {i o : Expr} {fk fd : EE} {pos : Pos}
end
end T3

end
section
set_option linter.all false
set_option autoImplicit false
set_option Elab.async false
namespace T3
open PySem L2
variable [TabL]
def l3 (r : V → V → V → Hp → VK → Prop) : List V → Hp → VK → Prop := fun vs H Q => ∀ x y z, vs = [x, y, z] → r x y z H Q
end T3

end
section
set_option linter.all false
set_option autoImplicit false
set_option Elab.async false
namespace T3
open PySem L2
variable [TabL]
theorem at0_mk {K : PySem.W.Frag} {h : Heap} {mg : Str → Option Value} {x : Str} {st : Stmt} {ps : List Str} {f : Addr} {oc : Value} {od an : Option Addr} {osl : Array (Option Value)} {kV doc pm cdv ct : Value} (X : K.In h) (G : h.Ns mainGlobals mg)
    (a : PySem.W.nsIn K mainGlobals x = some (some (.ref f))) (l : K.lookup f = some ⟨oc, od, .func (PySem.W.fnOf x x (defArgs st) (defBody st) (defScope st) .none kV doc pm an cdv ct), osl⟩) (c : PySem.W.codeIn K cdv x = true) (k : PySem.W.keepIn K (.ref f) = true)
    (hb : ∀ (kV doc pm : Value) (an : Option Addr) (cdv ct : Value) (us : List Value), us.length = ps.length → bindArgs (PySem.W.fnOf x x (defArgs st) (defBody st) (defScope st) .none kV doc pm an cdv ct) ⟨us, []⟩ = pure (ps.zip us)) : At0 K mg x st ps := by
  have F := fun_mk (st := st) l c k
  exact ⟨f, _, F, PySem.W.mg_of X G a, F.binds hb⟩
inductive KV1 (K : PySem.W.Frag) : Value → PyData → Prop
  | none : KV1 K .none .none
  | bool (b : Bool) : KV1 K (.bool b) (.bool b)
  | int (i : Int) (t : Tok) : KV1 K (.int i t) (.int i)
  | str (x : Str) (t : Tok) : KV1 K (.str x t) (.str x)
def kvB (K : PySem.W.Frag) : Nat → Value → PyData → Bool
  | 0, _, _ => false
  | _ + 1, .none, .none => true
  | _ + 1, .bool b, .bool c => b == c
  | _ + 1, .int i _, .int j => i == j
  | _ + 1, .str x _, .str y => decide (x = y)
  | n + 1, .ref a, .tuple ds => match K.lookup a with
    | some o => match o.cls, o.data with
      | .type t, .seq its _ => t == "tuple" && decide (its.size ≤ 1000) && decide (its.size = ds.length) && (its.toList.zip ds).all fun p => kvB K n p.1 p.2
      | _, _ => false
    | none => false
  | _ + 1, _, _ => false
theorem kv_rp {K : PySem.W.Frag} : ∀ (n : Nat) (u : Value) (d : PyData), kvB K n u d = true → ∃ v, RelV v u ∧ ∀ B H, Rp K B H v d
  | 0, _, _, h => by cases h
  | n + 1, u, d, h => by
    unfold kvB at h
    split at h
    · cases h
    · exact ⟨.non, rfl, fun _ _ => .non⟩
    · rename_i b c _
      have e : b = c := by simpa using h
      subst e
      exact ⟨.bl b, rfl, fun _ _ => .bl b⟩
    · rename_i i t j _
      have e : i = j := by simpa using h
      subst e
      exact ⟨.int i, ⟨t, rfl⟩, fun _ _ => .int i⟩
    · rename_i x t y _
      have e : x = y := by simpa using h
      subst e
      exact ⟨.str x, ⟨t, rfl⟩, fun _ _ => .str x⟩
    · rename_i m a ds hm
      cases hm
      split at h
      · rename_i o ho
        split at h
        · rename_i t its k hc hd
          simp only [Bool.and_eq_true, beq_iff_eq, decide_eq_true_eq, List.all_eq_true] at h
          obtain ⟨⟨⟨ht, hs⟩, hl⟩, ha⟩ := h
          have go : ∀ (us : List Value) (ds : List PyData), us.length = ds.length → (∀ p ∈ us.zip ds, kvB K n p.1 p.2 = true) → ∃ vs, Vals vs us ∧ ∀ B H, RpA K B H vs ds := by
            intro us
            induction us with
            | nil =>
              intro ds hl _
              cases ds with
              | nil => exact ⟨[], .nil, fun _ _ => .nil⟩
              | cons _ _ => simp at hl
            | cons u us ih =>
              intro ds hl hz
              cases ds with
              | nil => simp at hl
              | cons d ds =>
                obtain ⟨v, r1, r2⟩ := kv_rp n u d (hz (u, d) (by simp))
                obtain ⟨vs, q1, q2⟩ := ih ds (by simpa using hl) (fun p hp => hz p (by simp [hp]))
                exact ⟨v :: vs, .cons r1 q1, fun B H => .cons (r2 B H) (q2 B H)⟩
          obtain ⟨vs, q1, q2⟩ := go its.toList ds (by simpa using hl) ha
          subst ht
          exact ⟨.ref a, rfl, fun B H => .tup (.inr ⟨o, its, k, ho, hc, hd, Nat.le_of_lt (small1000 hs), q1⟩) (q2 B H)⟩
        · cases h
      · cases h
    · cases h
theorem kc_by {K : PySem.W.Frag} {h : Heap} {mg : Str → Option Value} {x : Str} {u : Value} {d : PyData} {n : Nat} (X : K.In h) (G : h.Ns mainGlobals mg) (a : PySem.W.nsIn K mainGlobals x = some (some u)) (q : kvB K n u d = true) : KC K mg x d := by
  obtain ⟨v, r, q⟩ := kv_rp n u d q
  exact ⟨v, u, PySem.W.mg_of X G a, r, q⟩
def kdB (K : PySem.W.Frag) (d : Addr) (kvs : List (Str × PyData)) : Bool := kvs.all fun p => match PySem.W.nsIn K d p.1 with
  | some (some u) => kvB K 9 u p.2
  | _ => false
theorem lookup_mem {α : Type} : ∀ {l : List (Str × α)} {z : Str} {x : α}, l.lookup z = some x → (z, x) ∈ l
  | [], z, x, h => by simp at h
  | (y, b) :: l, z, x, h => by
    rw [List.lookup_cons] at h
    split at h
    · rename_i e
      cases h
      have : z = y := by simpa using e
      subst this
      simp
    · simp [lookup_mem h]
theorem kd_mk {K : PySem.W.Frag} {w : World} {h : Heap} {mg : Str → Option Value} {x : Str} {d : Addr} {es : Array DictEntry} {n : Nat} {kvs : List (Str × PyData)} (X : K.In h) (G : h.Ns mainGlobals mg) (a : PySem.W.nsIn K mainGlobals x = some (some (.ref d)))
    (l : K.lookup d = some ⟨.type "dict", none, .dict es n, #[]⟩) (k : PySem.W.KeysLit w.params es.toList) (q : kdB K d kvs = true) : KD K w mg x kvs := by
  refine ⟨d, PySem.W.mg_of X G a, fun z y hz => ?_⟩
  have hm := lookup_mem hz
  have := List.all_eq_true.mp q _ hm
  dsimp only at this
  split at this
  · rename_i u hu
    obtain ⟨v, r, q⟩ := kv_rp 9 u y this
    exact ⟨v, ⟨es, n, u, l, k, hu, r⟩, q⟩
  · cases this
theorem law_spT {K : PySem.W.Frag} {F : FnD} {H : Hp} {a : Addr} {ns : List Int} (hF : ∃ as, F [.pd (.list (ns.map .int))] = some (.pd (.bool true), as)) (tb : TbB (fun _ => False) H) (hS : SqL K H a (ns.map V.int)) : spF K F 1 [.ref a] H (fun v _ => v = .bl true) fun _ _ _ => False := by
  obtain ⟨as, hF⟩ := hF
  have rp : Rp K (fun _ => False) H (.ref a) (.list (ns.map .int)) := by
    rcases hS with (h | ⟨o, h⟩) | ⟨o, its, n, h1, h2, h3, h4, h5, h6⟩
    · exact .lst h (fun z => z) (RpA.of_ints _)
    · exact .frz h (RpA.of_ints _)
    · exact .kls h1 h2 h3 h4 h5 h6 (RpA.of_ints _)
  refine ⟨rfl, fun _ => False, [.pd (.list (ns.map .int))], _, as, ⟨rfl, fun i x h => ?_, fun i x h => ?_, fun i m c h => ?_, fun i j m n c d b h => ?_, fun b h => h.elim, tb⟩, hF, fun B' H' v _ r _ => ?_⟩
  · cases i with
    | zero => simp at h; subst h; exact ⟨_, rfl, rp⟩
    | succ i => simp at h
  · cases i with
    | zero => simp at h
    | succ i => simp at h
  · cases i with
    | zero => simp at h
    | succ i => simp at h
  · cases i with
    | zero => simp at h
    | succ i => simp at h
  · have r : Rp K B' H' v (.bool true) := r
    cases r
    rfl
end T3
namespace T3
open PySem L2
theorem law_sp {K : PySem.W.Frag} {F : FnD} {H : Hp} {a : Addr} {ns : List Int} (hF : ∃ as, F [.pd (.list (ns.map .int))] = some (.pd (.bool true), as)) (O : L2.Only H) (hS : SqL K H a (ns.map V.int)) : spF K F 1 [.ref a] H (fun v _ => v = .bl true) fun _ _ _ => False :=
  law_spT hF (fun p hp => nomatch (show p ∈ ([] : List (Addr × (Nat → Nat → Str))) from hp)) hS
end T3

end
section
set_option linter.all false
set_option autoImplicit false
set_option Elab.async false
namespace T3
open PySem L2
variable [TabL]
section
variable (env : Sl) (i j n : Nat) (fa fb fc : EE) (f g : EA) (s1 s2 : SS) (b1 b2 : EB) (k k1 k2 : KK) (d : R) (ds : List R) (x : PyData) (xs : List PyData)
@[simp] theorem z_var : eVar i env = (match env[i]? with
  | some (some (.pd x)) => some (.pd x, env)
  | some (some (.nt x)) => some (.nt x, env)
  | some (some (.mu _ _)) => some (.var i, env)
  | _ => none) := rfl
@[simp] theorem z_c : eC x env = some (.pd x, env) := rfl
@[simp] theorem z_nil : eNil env = some ([], env) := rfl
@[simp] theorem z_cons : eCons fa f env = (match fa env with
  | none => none
  | some (d, e1) => match f e1 with
    | none => none
    | some (ds, e2) => some (d :: ds, e2)) := rfl
@[simp] theorem z_then : eThen f k env = (match f env with
  | none => none
  | some (ds, e1) => k ds e1) := rfl
@[simp] theorem z_two : eTwo fa fb = eCons fa (eCons fb eNil) := rfl
@[simp] theorem z_one : eOne fa = eCons fa eNil := rfl
@[simp] theorem z_ctn1 : ctn env (.pd x) = some x := rfl
@[simp] theorem z_ctn2 : ctn env (.nt xs) = some (.tuple xs) := rfl
@[simp] theorem z_ctn3 : ctn env (.tmp (.ls xs)) = some (.list xs) := rfl
@[simp] theorem z_ctn4 : ctn env (.var i) = (match env[i]? with
    | some (some (.mu _ (.ls xs))) => some (.list xs)
    | _ => none) := rfl
@[simp] theorem z_ctns0 : ctns env [] = some [] := rfl
@[simp] theorem z_ctns1 : ctns env (d :: ds) = (match ctn env d with
    | none => none
    | some x => match ctns env ds with
      | none => none
      | some xs => some (x :: xs)) := rfl
@[simp] theorem z_kE (o : List PyData → Option PyData) : kE o ds env = (match ctns env ds with
  | none => none
  | some xs => match o xs with
    | none => none
    | some z => some (.pd z, env)) := rfl
@[simp] theorem z_kT (o : List PyData → Option (List PyData)) : kT o ds env = (match ctns env ds with
  | none => none
  | some xs => match o xs with
    | none => none
    | some z => some (.pd (.tuple z), env)) := rfl
@[simp] theorem z_kL (o : List PyData → Option (List PyData)) : kL o ds env = (match ctns env ds with
  | none => none
  | some xs => match o xs with
    | none => none
    | some z => some (.tmp (.ls z), env)) := rfl
@[simp] theorem z_kOr : kOr k1 k2 ds env = (match k1 ds env with
  | some r => some r
  | none => k2 ds env) := rfl
@[simp] theorem z_bT : bT fa env = (match fa env with
  | some (.pd (.bool b), e) => some (b, e)
  | _ => none) := rfl
@[simp] theorem z_bAnd : bAnd b1 b2 env = (match b1 env with
  | none => none
  | some (b, e) => if b = true then b2 e else some (false, e)) := rfl
@[simp] theorem z_bOr : bOr b1 b2 env = (match b1 env with
  | none => none
  | some (b, e) => if b = true then some (true, e) else b2 e) := rfl
@[simp] theorem z_bNot : bNot b1 env = (match b1 env with
  | none => none
  | some (b, e) => some (!b, e)) := rfl
@[simp] theorem z_eB : eB b1 env = (match b1 env with
  | none => none
  | some (b, e) => some (.pd (.bool b), e)) := rfl
@[simp] theorem z_eIf : eIf b1 fa fb env = (match b1 env with
  | none => none
  | some (b, e) => if b = true then fa e else fb e) := rfl
@[simp] theorem z_pass : sPass env = some (.nx, env) := rfl
@[simp] theorem z_seq : sSeq s1 s2 env = (match s1 env with
  | none => none
  | some (.nx, e1) => s2 e1
  | some (fl, e1) => some (fl, e1)) := rfl
@[simp] theorem z_if : sIf b1 s1 s2 env = (match b1 env with
  | none => none
  | some (b, e) => if b = true then s1 e else s2 e) := rfl
@[simp] theorem z_ret : sRet fa env = (match fa env with
  | none => none
  | some (d, e) => some (.rt d, e)) := rfl
@[simp] theorem z_expr : sExpr fa env = (match fa env with
  | none => none
  | some (_, e) => some (.nx, e)) := rfl
@[simp] theorem z_never : sNever env = none := rfl
@[simp] theorem z_free : free env i = (match env[i]? with
  | some (some (.mu .own _)) => true
  | some (some (.pd _)) => true
  | some (some (.nt _)) => true
  | some none => true
  | _ => false) := rfl
@[simp] theorem z_setR : setR i d env = (if free env i = true then match d with
    | .pd x => some (env.set i (some (.pd x)))
    | .nt x => some (env.set i (some (.nt x)))
    | .tmp c => some (env.set i (some (.mu .own c)))
    | .var _ => none
  else none) := rfl
@[simp] theorem z_set : sSet i fa env = (match fa env with
  | none => none
  | some (d, e) => match setR i d e with
    | none => none
    | some e2 => some (.nx, e2)) := rfl
@[simp] theorem z_gN : gN i x env = setR i (.pd x) env := rfl
@[simp] theorem z_gNl : gNl [] env = some env := rfl
@[simp] theorem z_gCn (g1 : GG) (gs : GGs) : gCn g1 gs (x :: xs) env = (match g1 x env with
    | none => none
    | some e => gs xs e) := rfl
@[simp] theorem z_gT (gs : GGs) : gT n gs (.tuple xs) env = (if xs.length = n then gs xs env else none) := rfl
@[simp] theorem z_asg (g1 : GG) : sAsg fa g1 env = (match fa env with
  | some (.pd x, e) => match g1 x e with
    | none => none
    | some e2 => some (.nx, e2)
  | some (.nt xs, e) => match g1 (.tuple xs) e with
    | none => none
    | some e2 => some (.nx, e2)
  | _ => none) := rfl
@[simp] theorem z_data1 : data1 (.pd x) = some x := rfl
@[simp] theorem z_data2 : data1 (.nt xs) = some (.tuple xs) := rfl
@[simp] theorem z_data3 : data1 (.tmp (.ls xs)) = some (.list xs) := rfl
@[simp] theorem z_data4 : data1 (.var i) = none := rfl
@[simp] theorem z_datas0 : datas [] = some [] := rfl
@[simp] theorem z_datas1 : datas (d :: ds) = (match data1 d with
    | none => none
    | some x => match datas ds with
      | none => none
      | some xs => some (x :: xs)) := rfl
@[simp] theorem z_kTup : kTup ds env = (match datas ds with
  | none => none
  | some xs => if xs.length ≤ 1000 then some (.pd (.tuple xs), env) else none) := rfl
@[simp] theorem z_kLst : kLst ds env = (match datas ds with
  | none => none
  | some xs => if xs.length ≤ 1000 then some (.tmp (.ls xs), env) else none) := rfl
@[simp] theorem z_for (it : EI) (g1 : GG) : sFor it g1 s1 env = (match it env with
  | none => none
  | some (xs, lk, e1) => match forL g1 s1 xs e1 with
    | none => none
    | some (fl, e2) => some (fl, unlock lk e2)) := rfl
@[simp] theorem z_unl : unlock none env = env := rfl
@[simp] theorem z_call (F : FnD) : eCall F f env = (match f env with
  | none => none
  | some (ds, e1) => match toArgs e1 ds with
    | none => none
    | some as => if varsApart ds = true then match F as with
        | none => none
        | some (.var _, _) => none
        | some (d, as') => some (d, back ds as' e1)
      else none) := rfl
@[simp] theorem z_arg1 : toArg env (.pd x) = some (.pd x) := rfl
@[simp] theorem z_arg2 : toArg env (.nt xs) = some (.nt xs) := rfl
@[simp] theorem z_arg3 (c : Ct) : toArg env (.tmp c) = some (.mu .bor c) := rfl
@[simp] theorem z_arg4 : toArg env (.var i) = (match env[i]? with
    | some (some (.mu .fro c)) => some (.mu .fro c)
    | some (some (.mu _ c)) => some (.mu .bor c)
    | _ => none) := rfl
@[simp] theorem z_args0 : toArgs env [] = some [] := rfl
@[simp] theorem z_args1 : toArgs env (d :: ds) = (match toArg env d with
    | none => none
    | some a => match toArgs env ds with
      | none => none
      | some as => some (a :: as)) := rfl
@[simp] theorem z_va0 : varsApart [] = true := rfl
@[simp] theorem z_va1 : varsApart (.pd x :: ds) = varsApart ds := rfl
@[simp] theorem z_va2 : varsApart (.nt xs :: ds) = varsApart ds := rfl
@[simp] theorem z_va3 (c : Ct) : varsApart (.tmp c :: ds) = varsApart ds := rfl
@[simp] theorem z_va4 : varsApart (.var i :: ds) = (!hasVar i ds && varsApart ds) := rfl
@[simp] theorem z_hv0 : hasVar i [] = false := rfl
@[simp] theorem z_hv1 : hasVar i (.pd x :: ds) = hasVar i ds := rfl
@[simp] theorem z_hv2 : hasVar i (.nt xs :: ds) = hasVar i ds := rfl
@[simp] theorem z_hv3 (c : Ct) : hasVar i (.tmp c :: ds) = hasVar i ds := rfl
@[simp] theorem z_hv4 : hasVar i (.var j :: ds) = (decide (i = j) || hasVar i ds) := rfl
variable (s : S) (as : List S)
@[simp] theorem z_bk0 : back [] [] env = env := rfl
@[simp] theorem z_bk1 : back (.pd x :: ds) (s :: as) env = back ds as env := rfl
@[simp] theorem z_bk2 : back (.nt xs :: ds) (s :: as) env = back ds as env := rfl
@[simp] theorem z_bk3 (c : Ct) : back (.tmp c :: ds) (s :: as) env = back ds as env := rfl
@[simp] theorem z_bk4 (m : Md) (c : Ct) : back (.var i :: ds) (.mu m c :: as) env = (match env[i]? with
    | some (some (.mu m _)) => back ds as (env.set i (some (.mu m c)))
    | _ => back ds as env) := rfl
@[simp] theorem z_out1 : outR env (.pd x) = some (.pd x) := rfl
@[simp] theorem z_out2 : outR env (.nt xs) = some (.nt xs) := rfl
@[simp] theorem z_out3 (c : Ct) : outR env (.tmp c) = some (.tmp c) := rfl
@[simp] theorem z_out4 : outR env (.var i) = (match env[i]? with
    | some (some (.mu .own c)) => some (.tmp c)
    | _ => none) := rfl
variable (e0 : Option S)
@[simp] theorem z_fin0 : finals [] env = some [] := by cases env <;> rfl
@[simp] theorem z_fin1 : finals (.pd x :: as) (e0 :: env) = (match finals as env with
    | none => none
    | some l => some (.pd x :: l)) := rfl
@[simp] theorem z_fin2 : finals (.nt xs :: as) (e0 :: env) = (match finals as env with
    | none => none
    | some l => some (.nt xs :: l)) := rfl
@[simp] theorem z_fin3 (m m' : Md) (c c' : Ct) : finals (.mu m c :: as) (some (.mu m' c') :: env) = (if m = m' ∧ m ≠ .own then match finals as env with
      | none => none
      | some l => some (.mu m c' :: l)
    else none) := rfl
theorem run_of {n : Nat} {b : SS} {as : List S} {e : Sl} (h : startE n as = e) : runFn n b as = (match b e with
  | some (.rt d, e) => match outR e d with
    | none => none
    | some d' => match finals as e with
      | none => none
      | some as' => some (d', as')
  | some (.nx, e) => match finals as e with
    | none => none
    | some as' => some (.pd .none, as')
  | _ => none) := by rw [← h]; rfl
end
end T3

end
section
set_option linter.all false
set_option autoImplicit false
set_option Elab.async false
namespace T3
open PySem L2
variable [TabL]
section
variable (env : Sl) (fa fb fc : EE) (f : EA) (g : GG) (t : EB) (it : EI) (vs : List Nat) (x : PyData)
@[simp] theorem z_add : eAdd fa fb env = eThen (eCons fa (eCons fb eNil)) kAdd env := rfl
@[simp] theorem z_sub : eSub fa fb env = eThen (eCons fa (eCons fb eNil)) kSub env := rfl
@[simp] theorem z_mul : eMul fa fb env = eThen (eCons fa (eCons fb eNil)) kMul env := rfl
@[simp] theorem z_fdiv : eFdiv fa fb env = eThen (eCons fa (eCons fb eNil)) kFdiv env := rfl
@[simp] theorem z_mod : eMod fa fb env = eThen (eCons fa (eCons fb eNil)) kMod env := rfl
@[simp] theorem z_pow : ePow fa fb env = eThen (eCons fa (eCons fb eNil)) kPow env := rfl
@[simp] theorem z_neg : eNeg fa env = eThen (eCons fa eNil) kNeg env := rfl
@[simp] theorem z_eq : eEq fa fb env = eThen (eCons fa (eCons fb eNil)) (kE oEq) env := rfl
@[simp] theorem z_ne : eNe fa fb env = eThen (eCons fa (eCons fb eNil)) (kE oNe) env := rfl
@[simp] theorem z_lt : eLt fa fb env = eThen (eCons fa (eCons fb eNil)) kLt env := rfl
@[simp] theorem z_le : eLe fa fb env = eThen (eCons fa (eCons fb eNil)) kLe env := rfl
@[simp] theorem z_gt : eGt fa fb env = eThen (eCons fa (eCons fb eNil)) kGt env := rfl
@[simp] theorem z_in : eIn fa fb env = eThen (eCons fa (eCons fb eNil)) (kE (oIn false)) env := rfl
@[simp] theorem z_nin : eNin fa fb env = eThen (eCons fa (eCons fb eNil)) (kE (oIn true)) env := rfl
@[simp] theorem z_isn : eIsn fa fb env = eThen (eCons fa (eCons fb eNil)) (kE (oIsN true)) env := rfl
@[simp] theorem z_ix : eIx fa fb env = eThen (eCons fa (eCons fb eNil)) (kE oIx) env := rfl
@[simp] theorem z_lc : eLc it g t fa vs env = (match it env with
  | none => none
  | some (xs, lk, e1) => if xs.length ≤ 1000000 then match lcL g t fa vs xs e1 [] with
      | none => none
      | some (acc, e2) => some (.tmp (.ls acc), unlock lk e2)
    else none) := rfl
@[simp] theorem z_seqI : iSeq fa env = (match fa env with
  | some (.pd (.tuple xs), e) => some (xs, none, e)
  | some (.nt xs, e) => some (xs, none, e)
  | some (.pd (.list xs), e) => some (xs, none, e)
  | some (.pd (.str s), e) => some (signs s, none, e)
  | some (.tmp (.ls xs), e) => some (xs, none, e)
  | some (.var i, e) => match e[i]? with
    | some (some (.mu m (.ls xs))) => some (xs, some (i, m), e.set i (some (.mu .fro (.ls xs))))
    | _ => none
  | _ => none) := rfl
@[simp] theorem z_bm (ty : Sl → R → Bool) (k : KK) : eBM ty fa f k env = (match fa env with
  | none => none
  | some (d, e1) => if ty e1 d = true then match f e1 with
      | none => none
      | some (ds, e2) => k (d :: ds) e2
    else none) := rfl
@[simp] theorem z_gS : gS fa fb x env = (match fa env with
  | some (.var j, e1) => match fb e1 with
    | some (.pd (.int k), e2) => putL j k x e2
    | _ => none
  | _ => none) := rfl
@[simp] theorem z_sl (lo hi : EO) : eSl fa lo hi env = (match fa env with
  | none => none
  | some (d, e1) => match lo e1 with
    | none => none
    | some (l, e2) => match hi e2 with
      | none => none
      | some (h, e3) => kSl l h [d] e3) := rfl
@[simp] theorem z_par (i j : Nat) : sPar i j f env = (match f env with
  | some ([d1, d2], e) => match setR i d1 e with
    | none => none
    | some e2 => match setR j d2 e2 with
      | none => none
      | some e3 => some (.nx, e3)
  | _ => none) := rfl
@[simp] theorem z_oNo : oNo env = some (none, env) := rfl
@[simp] theorem z_unl1 (i : Nat) (m : Md) : unlock (some (i, m)) env = (match env[i]? with
  | some (some (.mu _ c)) => env.set i (some (.mu m c))
  | _ => env) := by rfl
end
end T3

end
section
set_option linter.all false
set_option autoImplicit false
set_option Elab.async false
namespace T3
open PySem PySem.Spec PyProof.Rows L2
variable [TabL]
structure FnG (P : Program) (w : World) (K : PySem.W.Frag) (mg : Str → Option Value) (base : Heap) (k : Nat) (f : Addr) (fd : FuncData) (ps : List Str) (sp : Sp) : Prop where
  sizes : ∀ xs H Q E, sp xs H Q E → xs.length = ps.length
  go : ∀ (A : Around) (out : List Env) (s : Shared) (H : Hp) (ar : Args) (us : List Value) (xs : List V) (Q : VK) (E : XK), Room k A → A.guards = some [] → Env0 P w K mg base A out s H → BindsTo s fd ar (ps.zip us) → Vals xs us → sp xs H Q E →
    codeAny (model P w) A (.call (.ref f) ar) (CR CX0 out P w H s Q E) s
section
variable {P : Program} {w : World} {K : PySem.W.Frag} {mg : Str → Option Value} {base : Heap} {k : Nat} {f : Addr} {fd : FuncData} {ps : List Str} {sp : Sp}
end
end T3

end
section
set_option linter.all false
set_option autoImplicit false
set_option Elab.async false
namespace T3
open PySem PySem.Spec PyProof.Rows L2
variable [TabL]
section
variable {X : Cx} {k n : Nat} {f : Addr} {fd : FuncData} {ps : List Str} {sp : Sp} {x : Str} {p pos : Pos} {e : Expr} {es : List Expr} {t : TA} {F : FnD} {fa : EA}
end
section
variable {X : Cx} {k n : Nat} {F : FnD} {x : Str} {p pos : Pos} {e : Expr} {es : List Expr} {fa : EA}
end
end T3

end
section
set_option linter.all false
set_option autoImplicit false
set_option Elab.async false
namespace T3
open PySem PySem.Spec PyProof.Rows L2
variable [TabL]
section
variable {P : Program} {w : World} {K : PySem.W.Frag} {mg mb : Str → Option Value} {k : Nat} {fa a : Addr} {fd : FuncData} {x : Str} {sp : Sp} {s : Shared} {vs : List Value} {ns : List Int}
structure Scr (K : PySem.W.Frag) (s : Shared) (a : Addr) (H : Hp) : Prop where
  only : L2.Only H
  one : ∀ b, H b ≠ none → b = a
  kn : H a ≠ none → K.lookup a = none
theorem Scr.nd {H : Hp} (c : Scr K s a H) (ha : s.heap.get? a = some { cls := .type "list", data := .seq vs.toArray }) {b : Addr} {o : Obj} {es : Array DictEntry} {m : Nat} (h : s.heap.get? b = some o) (d : o.data = .dict es m) : H b = none := by
  apply Classical.byContradiction
  intro z
  have e := c.one b z
  rw [e, ha] at h
  injection h with h
  rw [← h] at d
  cases d
theorem Scr.spc {H : Hp} (c : Scr K s a H) (ha : s.heap.get? a = some { cls := .type "list", data := .seq vs.toArray }) {b : Addr} {m : Str → Option Value} (h : s.heap.Ns b m) : (hidT s.heap H).Ns b m := by
  obtain ⟨o, es, n, h1, h2, h3⟩ := h
  exact ⟨o, es, n, hidT_get h1 (c.nd ha h1 h2), h2, h3⟩
theorem Scr.kin {H : Hp} (c : Scr K s a H) (KX : K.In s.heap) : K.In (hidT s.heap H) := by
  intro b o h
  refine hidT_get (KX b o h) (Classical.byContradiction fun z => ?_)
  have e := c.one b z
  subst e
  rw [c.kn z] at h
  cases h
theorem Scr.run {H : Hp} (c : Scr K s a H) (ha : s.heap.get? a = some { cls := .type "list", data := .seq vs.toArray }) (KX : K.In s.heap) (hm : s.heap.Ns mainGlobals mg) (hb : s.heap.Ns builtinsNs mb) (hbb : ∀ x : Str, x ≠ "__name__" → mb x = bootBuiltins x) (nl : s.heap.NoLimit) (hg : s.gens = #[])
    (hr : Room k callerA) (F : ∀ base : Heap, K.In base → base.Ns mainGlobals mg → FnG P w K mg base k fa fd [x] sp) (bi : ∀ (s : Shared) (u : Value), BindsTo s fd ⟨[u], []⟩ [(x, u)]) (hok : HOk P w H s.heap)
    (hs : sp [.ref a] H (fun v _ => v = .bl true) fun _ _ _ => False) :
    codeAny (model P w) callerA (.call (.ref fa) ⟨[.ref a], []⟩) (fun r s2 => r = .ok (.ret (.bool true)) ∧ OldK s.heap s2.heap ∧ s2.os = s.os ∧ AllBare s2.gens) s := by
  obtain ⟨mc, n1, n2⟩ := nl
  have md : Mod K mg (hidT s.heap H) := ⟨c.kin KX, c.spc ha hm, ⟨mb, c.spc ha hb, hbb⟩, mc, c.spc ha n1, n2⟩
  have ev : Env0 P w K mg (hidT s.heap H) callerA [] s H := {
    frames := rfl
    mod := md
    bs := fun b o h => of_hidT h
    bsz := Nat.le_of_eq (hidT_size _ _)
    funs := trivial
    frf := fun b h => nomatch (show b ∈ ([] : List Addr) from h)
    hok := hok
    bare := .of_eq hg }
  have cc := (F _ md.kin (c.spc ha hm)).go callerA [] s H ⟨[.ref a], []⟩ [.ref a] [.ref a] _ _ hr rfl ev (bi s (.ref a)) (.cons rfl .nil) hs
  refine codeAny_mono cc ?_
  intro r s2 h
  match r, h with
  | .ok .next, h => exact h.elim
  | .ok .brk, h => exact h.elim
  | .ok .cont, h => exact h.elim
  | .error _, h => exact h.elim
  | .ok (.ret u), ⟨v, H2, os, br, un, hok2, rv, q⟩ =>
    have q : v = .bl true := q
    subst q
    have eu : u = .bool true := rv
    subst eu
    refine ⟨rfl, OldK.of_keep ?_, os, br⟩
    intro b o h
    rcases c.only b with z | ⟨ob, ys, z⟩
    · exact un.keep b o h z (fun y => nomatch (show b ∈ ([] : List Addr) from y)) (by simp)
    · have h1 := (hok b _ z).1
      rw [h] at h1
      cases h1
      exact (hok2 b _ (un.frzs b o _ z)).1
end
end T3

end
section
set_option linter.all false
set_option autoImplicit false
set_option Elab.async false
namespace T3
open PySem PySem.Spec PyProof.Rows L2
variable [TabL]
def ShOk (d : PyData) : Prop := SeqAt.shaped d = true ∧ d.showable = true ∧ d.shown.length ≤ 1000000
noncomputable instance (d : PyData) : Decidable (ShOk d) := Classical.propDecidable _
def oNeS : List PyData → Option PyData
  | [.str a, .str b] => some (.bool (!decide (a = b)))
  | _ => none
def kNex : KK := kOr (kE oNeS) (kE oNe)
section
variable {X : Cx} {k : Nat}
end
end T3
namespace T3
open PySem PySem.Spec PyProof.Rows L2
variable [TabL]
end T3

end
section
set_option linter.all false
set_option autoImplicit false
set_option Elab.async false
namespace T3
open PySem PySem.Spec PyProof.Rows L2
variable [TabL]
end T3

end
section
set_option linter.all false
set_option autoImplicit false
set_option Elab.async false
namespace T3
open PySem PySem.Spec PyProof.Rows L2
variable [TabL]
def JoOk (a : Str) (ys : List Str) : Prop := (ys.map (·.length)).sum + ys.length * a.length ≤ 16777216
noncomputable instance (a : Str) (ys : List Str) : Decidable (JoOk a ys) := Classical.propDecidable _
section
variable {X : Cx} {o e : Expr} {fo : EE} {fa : EA} {apos cpos : Pos}
end
end T3

end
section
set_option linter.all false
set_option autoImplicit false
set_option Elab.async false
namespace T3
open PySem L2
variable [TabL]

mutual
def nk? : PyData → Option NestedKey
  | .none => some .none
  | .int i => some (.num i)
  | .tuple xs => match nks? xs with
    | some ks => some (.tup ks)
    | none => none
  | .bool _ => none
  | .str _ => none
  | .list _ => none
  | .dict _ => none
def nks? : List PyData → Option (List NestedKey)
  | [] => some []
  | x :: xs => match nk? x with
    | some k => match nks? xs with
      | some ks => some (k :: ks)
      | none => none
    | none => none
end
mutual
theorem nk_ok : ∀ (x : PyData) (k : NestedKey), nk? x = some k → k.data = x ∧ ∀ w w', NestedKey.hash w k = NestedKey.hash w' k
  | .none, k, h => by simp only [nk?, Option.some.injEq] at h; subst h; exact ⟨by simp only [NestedKey.data], fun _ _ => by simp only [NestedKey.hash]⟩
  | .int i, k, h => by simp only [nk?, Option.some.injEq] at h; subst h; exact ⟨by simp only [NestedKey.data], fun _ _ => by simp only [NestedKey.hash]⟩
  | .tuple xs, k, h => by
    rw [nk?] at h
    cases e : nks? xs with
    | none => rw [e] at h; cases h
    | some ks =>
      rw [e] at h
      cases h
      obtain ⟨h1, h2⟩ := nks_ok xs ks e
      exact ⟨by rw [NestedKey.data, h1], fun w w' => by rw [NestedKey.hash, NestedKey.hash, h2 w w']⟩
  | .bool _, k, h => by simp [nk?] at h
  | .str _, k, h => by simp [nk?] at h
  | .list _, k, h => by simp [nk?] at h
  | .dict _, k, h => by simp [nk?] at h
theorem nks_ok : ∀ (xs : List PyData) (ks : List NestedKey), nks? xs = some ks → NestedKey.datas ks = xs ∧ ∀ w w', NestedKey.hashes w ks = NestedKey.hashes w' ks
  | [], ks, h => by simp only [nks?, Option.some.injEq] at h; subst h; exact ⟨by simp only [NestedKey.datas], fun _ _ => by simp only [NestedKey.hashes]⟩
  | x :: xs, ks, h => by
    rw [nks?] at h
    cases e : nk? x with
    | none => rw [e] at h; cases h
    | some k =>
      cases e2 : nks? xs with
      | none => rw [e, e2] at h; cases h
      | some ks' =>
        rw [e, e2] at h
        cases h
        obtain ⟨h1, h2⟩ := nk_ok x k e
        obtain ⟨h3, h4⟩ := nks_ok xs ks' e2
        exact ⟨by rw [NestedKey.datas, h1, h3], fun w w' => by rw [NestedKey.hashes, NestedKey.hashes, h2 w w', h4 w w']⟩
end
def tk? (x : PyData) : Option NestedKey := match nk? x with
  | some (.tup ks) => if (NestedKey.tup ks).depth ≤ 8 then some (.tup ks) else none
  | _ => none
theorem tk_ok {x : PyData} {k : NestedKey} (h : tk? x = some k) : NkOk k ∧ k.data = x := by
  unfold tk? at h
  split at h
  · rename_i ks e
    split at h
    · rename_i hd
      cases h
      obtain ⟨h1, h2⟩ := nk_ok _ _ e
      exact ⟨⟨hd, h2, ks, rfl⟩, h1⟩
    · cases h
  · cases h

def valN (kvs : List (NestedKey × PyData)) (k : NestedKey) : Option PyData := (kvs.find? fun q => decide (q.1 = k)).map (·.2)
def putN (kvs : List (NestedKey × PyData)) (k : NestedKey) (x : PyData) : List (NestedKey × PyData) :=
  if (valN kvs k).isSome = true then kvs.map (fun q => if q.1 = k then (q.1, x) else q) else kvs ++ [(k, x)]

def DnAt (K : PySem.W.Frag) (B : Mset) (H : Hp) (a : Addr) (kvs : List (NestedKey × PyData)) : Prop :=
  (kvs = [] ∧ H a = some (.dK [])) ∨ ∃ es, H a = some (DnO a es) ∧ DnR K B H es kvs

def KnE (K : PySem.W.Frag) (B : Mset) (H : Hp) (q : NestedKey × PyData) (x : NestedKey × Addr × Value) : Prop :=
  x.1 = q.1 ∧ NkOk q.1 ∧ Rp K B H (.ref x.2.1) q.1.data ∧ ∃ v, RelV v x.2.2 ∧ Rp K B H v q.2
abbrev Kn (K : PySem.W.Frag) (B : Mset) (H : Hp) : List (NestedKey × PyData) → List (NestedKey × Addr × Value) → Prop := Paired (KnE K B H)

section
variable {K : PySem.W.Frag} {B : Mset} {H : Hp}
theorem Kn.val {k : NestedKey} : ∀ {kvs : List (NestedKey × PyData)} {xs : List (NestedKey × Addr × Value)}, Kn K B H kvs xs → (∃ p v z, atKey xs k = some p ∧ valN kvs k = some z ∧ RelV v p.2 ∧ Rp K B H v z) ∨ (atKey xs k = none ∧ valN kvs k = none)
  | _, _, .nil => .inr ⟨rfl, rfl⟩
  | _, _, .cons (a := q) (b := x) r t => by
    obtain ⟨e1, _, _, v, rv, rp⟩ := r
    by_cases e : q.1 = k
    · have e' : x.1 = k := by rw [e1]; exact e
      exact .inl ⟨x.2, v, q.2, by simp [atKey, e'], by simp [valN, e], rv, rp⟩
    · have e' : ¬ x.1 = k := by rw [e1]; exact e
      rcases Kn.val (k := k) t with ⟨p, v, z, h1, h2, h3⟩ | ⟨h1, h2⟩
      · exact .inl ⟨p, v, z, by simpa [atKey, e'] using h1, by simpa [valN, e] using h2, h3⟩
      · exact .inr ⟨by simpa [atKey, e'] using h1, by simpa [valN, e] using h2⟩
theorem Kn.map {k : NestedKey} {v : V} {u : Value} {z : PyData} (rv : RelV v u) (rp : Rp K B H v z) : ∀ {kvs : List (NestedKey × PyData)} {xs : List (NestedKey × Addr × Value)}, Kn K B H kvs xs → Kn K B H (kvs.map fun q => if q.1 = k then (q.1, z) else q) (xs.map (putAt k u))
  | _, _, .nil => .nil
  | _, _, .cons (a := q) (b := x) r t => by
    refine .cons ?_ (Kn.map rv rp t)
    obtain ⟨e1, e2, e3, e4⟩ := r
    by_cases e : q.1 = k
    · have e' : x.1 = k := by rw [e1]; exact e
      unfold putAt
      dsimp only
      rw [if_pos e, if_pos e']
      exact ⟨e1, e2, e3, v, rv, rp⟩
    · have e' : ¬ x.1 = k := by rw [e1]; exact e
      unfold putAt
      dsimp only
      rw [if_neg e, if_neg e']
      exact ⟨e1, e2, e3, e4⟩
theorem Kn.snoc {q : NestedKey × PyData} {x : NestedKey × Addr × Value} (r : KnE K B H q x) : ∀ {kvs : List (NestedKey × PyData)} {xs : List (NestedKey × Addr × Value)}, Kn K B H kvs xs → Kn K B H (kvs ++ [q]) (xs ++ [x])
  | _, _, .nil => .cons r .nil
  | _, _, .cons h t => .cons h (Kn.snoc r t)
theorem Kn.put {k : NestedKey} {b : Addr} {v : V} {u : Value} {z : PyData} {kvs : List (NestedKey × PyData)} {xs : List (NestedKey × Addr × Value)} (h : Kn K B H kvs xs) (hk : NkOk k) (rk : Rp K B H (.ref b) k.data) (rv : RelV v u) (rp : Rp K B H v z) : Kn K B H (putN kvs k z) (storedH xs k b u) := by
  unfold putN storedH
  rcases h.val (k := k) with ⟨p, v', z', h1, h2, _⟩ | ⟨h1, h2⟩
  · rw [h1, h2]
    exact h.map rv rp
  · rw [h1, h2]
    exact h.snoc ⟨rfl, hk, rk, v, rv, rp⟩
theorem Kn.dn {P : Program} {w : World} : ∀ {kvs : List (NestedKey × PyData)} {xs : List (NestedKey × Addr × Value)}, Kn K B H kvs xs → Paired (DnE K B H) (xs.map (entryOfKey (nestedKind P w))) kvs
  | _, _, .nil => .nil
  | _, _, .cons (a := q) (b := x) r t => by
    obtain ⟨e1, e2, e3, e4⟩ := r
    refine .cons ⟨e2, fun w' => ?_, ⟨x.2.1, rfl, e3⟩, e4⟩ (Kn.dn t)
    show _ = NestedKey.hash w x.1
    rw [e1]
    exact e2.2.1 w' w
theorem Kn.of {P : Program} {w : World} : ∀ {es : List DictEntry} {kvs : List (NestedKey × PyData)}, Paired (DnE K B H) es kvs → ∃ xs, Kn K B H kvs xs ∧ es = xs.map (entryOfKey (nestedKind P w))
  | _, _, .nil => ⟨[], .nil, rfl⟩
  | _, _, .cons (a := e) (b := q) r t => by
    obtain ⟨xs, h1, h2⟩ := Kn.of (P := P) (w := w) t
    obtain ⟨e1, e2, ⟨b, e3, e4⟩, e5⟩ := r
    refine ⟨(q.1, b, e.val) :: xs, .cons ⟨rfl, e1, e4, e5⟩ h1, ?_⟩
    rw [List.map_cons, ← h2]
    congr 1
    show e = ⟨NestedKey.hash w q.1, .ref b, e.val⟩
    rw [e2 w, ← e3]
theorem Kn.len {kvs : List (NestedKey × PyData)} {xs : List (NestedKey × Addr × Value)} (h : Kn K B H kvs xs) : kvs.length = xs.length := Paired.length h
theorem Kn.keys : ∀ {kvs : List (NestedKey × PyData)} {xs : List (NestedKey × Addr × Value)}, Kn K B H kvs xs → xs.map (·.1) = kvs.map (·.1)
  | _, _, .nil => rfl
  | _, _, .cons r t => by rw [List.map_cons, List.map_cons, r.1, Kn.keys t]
end

mutual
theorem nk_is {P : Program} {w : World} {K : PySem.W.Frag} {B : Mset} {H : Hp} {h : Heap} (hok : HOk P w H h) (KX : K.In h) : ∀ (k : NestedKey) (v : V) (u : Value), Rp K B H v k.data → RelV v u → NestedIs h k u
  | .none, v, u, r, q => by
    rw [NestedKey.data] at r
    cases r
    cases (show u = Value.none from q)
    exact .none
  | .num i, v, u, r, q => by
    rw [NestedKey.data] at r
    cases r
    obtain ⟨t, rfl⟩ := (show ∃ t, u = Value.int i t from q)
    exact .int i t
  | .text x, v, u, r, q => by
    rw [NestedKey.data] at r
    cases r
    obtain ⟨t, rfl⟩ := (show ∃ t, u = Value.str x t from q)
    exact .text x t
  | .tup ks, v, u, r, q => by
    rw [NestedKey.data] at r
    cases r with
    | @tup a xs ds h1 h2 =>
      cases (show u = Value.ref a from q)
      obtain ⟨its, o, n, rv, ho, hc, hd⟩ := sqT_at hok KX h1
      exact .tup ho hc hd (nks_is hok KX ks xs its h2 rv)
theorem nks_is {P : Program} {w : World} {K : PySem.W.Frag} {B : Mset} {H : Hp} {h : Heap} (hok : HOk P w H h) (KX : K.In h) : ∀ (ks : List NestedKey) (vs : List V) (us : List Value), RpA K B H vs (NestedKey.datas ks) → Vals vs us → NestedAll h ks us
  | [], vs, us, r, q => by
    rw [NestedKey.datas] at r
    cases r
    cases q
    exact .nil
  | k :: ks, vs, us, r, q => by
    rw [NestedKey.datas] at r
    cases r with
    | cons r1 r2 =>
      cases q with
      | cons q1 q2 => exact .cons (nk_is hok KX k _ _ r1 q1) (nks_is hok KX ks _ _ r2 q2)
end

section
variable {X : Cx} {pins : List (Addr × Obj)} {σ : St} {H : Hp} {s : Shared} {a : Addr} {A : Around} {E : Value → Shared → Prop} {B : Mset} {kvs : List (NestedKey × PyData)} {k : NestedKey}
theorem room9 (hu : A.units + 9 < cLine) : (nestedKind X.prog X.w).room A.in1 := by
  show A.units + 1 + 8 < cLine
  omega
theorem nk_key (I : Inv X pins σ H s) (hk : NkOk k) {b : Addr} (r : Rp X.K B H (.ref b) k.data) : (nestedKind X.prog X.w).is s.heap k b := ⟨nk_is I.hok I.kIn k _ _ r rfl, hk.1⟩
theorem nk_ref (hk : NkOk k) {y : V} {K : PySem.W.Frag} (r : Rp K B H y k.data) : ∃ b, y = .ref b := by
  obtain ⟨_, _, ks, rfl⟩ := hk
  rw [NestedKey.data] at r
  cases r
  exact ⟨_, rfl⟩
theorem dn_open (I : Inv X pins σ H s) (d : DnAt X.K B H a kvs) : (a == sysModules) = false ∧ kvs.length ≤ sizeLine ∧ (kvs.map (·.1)).Nodup ∧ ∃ xs, s.heap.DictOfH (nestedKind X.prog X.w) a xs ∧ Kn X.K B H kvs xs := by
  rcases d with ⟨rfl, d⟩ | ⟨es, d, r⟩
  · obtain ⟨z, y, vs, r, o, es, ep, e1, e2, e3, e4, e5, e6⟩ := dk_of I.hok d
    refine ⟨y, Nat.zero_le _, List.nodup_nil, [], ⟨o, es, ep, e1, e2, e3, ?_, fun _ h => by simp at h, List.nodup_nil⟩, .nil⟩
    cases r
    cases h : es.toList with
    | nil => rfl
    | cons a b => rw [h] at e5; cases e5
  · obtain ⟨⟨y, z, e1, e2, e3⟩, _⟩ := I.hok a _ d
    obtain ⟨xs, x1, x2⟩ := Kn.of (P := X.prog) (w := X.w) r.ent
    refine ⟨y, by rw [← Paired.length r.ent]; exact z, r.nd, xs, ⟨es.o, es.es.toArray, es.ep, e1, e2, e3, by simpa using x2, ?_, by rw [x1.keys]; exact r.nd⟩, x1⟩
    intro x hx
    have all : ∀ {kvs : List (NestedKey × PyData)} {xs : List (NestedKey × Addr × Value)}, Kn X.K B H kvs xs → ∀ x ∈ xs, NkOk x.1 ∧ Rp X.K B H (.ref x.2.1) x.1.data := by
      intro kvs xs h
      induction h with
      | nil => intro x hx; simp at hx
      | cons r t ih =>
        intro x hx
        rcases List.mem_cons.mp hx with rfl | hx
        · obtain ⟨e1, e2, e3, _⟩ := r
          rw [e1]; exact ⟨e2, e3⟩
        · exact ih x hx
    obtain ⟨h1, h2⟩ := all x1 x hx
    exact nk_key I h1 h2
end

def DGt (K : PySem.W.Frag) (B : Mset) (H : Hp) (a : Addr) (y : V) (o : Option PyData) : Prop :=
  (∃ kvs ws k, H a = some (.dK ws) ∧ KvR K B H ws kvs ∧ y = kV k ∧ o = valD kvs k) ∨ ∃ kvs k, DnAt K B H a kvs ∧ NkOk k ∧ Rp K B H y k.data ∧ o = valN kvs k
section
variable {X : Cx} {pins : List (Addr × Obj)} {σ : St} {H : Hp} {s : Shared} {a : Addr} {A : Around} {E : Value → Shared → Prop} {B : Mset} {y : V} {u : Value} {o : Option PyData}
theorem dg_type (I : Inv X pins σ H s) (g : DGt X.K B H a y o) : s.TypeIs (.ref a) "dict" := by
  rcases g with ⟨kvs, ws, k, e, _⟩ | ⟨kvs, k, e, _⟩
  · obtain ⟨_, _, vs, _, dd⟩ := dk_of I.hok e
    exact dd.typeIs
  · obtain ⟨_, _, _, xs, dd, _⟩ := dn_open I e
    exact dd.typeIs
theorem dg_getItem {z : PyData} {Q : Value → Shared → Prop} (hu : A.units + 9 < cLine) (I : Inv X pins σ H s) (g : DGt X.K B H a y (some z)) (ry : RelV y u)
    (h : ∀ w' s' v, Inv X pins σ H s' → RelV v w' → Rp X.K B H v z → Q w' s') : wpAny (model X.prog X.w) A (getItem (.ref a) u) Q E s := by
  rcases g with ⟨kvs, ws, k, e, r, rfl, l⟩ | ⟨kvs, k, e, hk, rk, l⟩
  · rcases r.val (k := k) with ⟨v, x, h1, h2, h3⟩ | ⟨h1, h2⟩
    · rw [h2] at l; cases l
      exact d_getItem (by omega) I (.inl ⟨ws, k, .inl e, rfl, h1.symm⟩) ry fun w' s' I' rv => h w' s' v I' rv h3
    · rw [h2] at l; cases l
  · obtain ⟨b, rfl⟩ := nk_ref hk rk
    cases (show u = Value.ref b from ry)
    obtain ⟨_, _, _, xs, dd, kn⟩ := dn_open I e
    rcases kn.val (k := k) with ⟨p, v, z', h1, h2, h3, h4⟩ | ⟨h1, h2⟩
    · rw [h2] at l; cases l
      exact wpAny_getItem_heap (room9 hu) (nk_key I hk rk) dd h1 (h _ _ v (I.tok _) h3 h4)
    · rw [h2] at l; cases l
end
end T3

end
section
set_option linter.all false
set_option autoImplicit false
set_option Elab.async false
namespace T3
open PySem L2
variable [TabL]

def pdOf : R → Option PyData
  | .pd x => some x
  | .nt xs => some (.tuple xs)
  | .tmp _ => none
  | .var _ => none
theorem pdOf_rp {K : PySem.W.Frag} {H₀ : Hp} {B : Mset} {H : Hp} {σ : St} {env : Sl} {v : V} {d : R} {x : PyData} (h : RR K H₀ B H σ env v d) (e : pdOf d = some x) : Rp K B H v x := by
  cases d with
  | pd y => cases e; exact h
  | nt y => cases e; obtain ⟨a, rfl, h⟩ := h; exact h.rp
  | tmp t => cases e
  | var i => cases e
def cGet : Ct → PyData → Option (Option PyData)
  | .dk kvs, y => match key? y with
    | some k => some (valD kvs k)
    | none => match tk? y with
      | some _ => match kvs with
        | [] => some none
        | _ :: _ => none
      | none => none
  | .dn kvs, y => match tk? y with
    | some k => some (valN kvs k)
    | none => none
  | .ls _, _ => none
theorem cGet_ok {K : PySem.W.Frag} {B : Mset} {H : Hp} {a : Addr} {c : Ct} {v : V} {y : PyData} {o : Option PyData} (hc : CtR K B H a c) (r : Rp K B H v y) (e : cGet c y = some o) : DGt K B H a v o := by
  cases c with
  | ls xs => cases e
  | dk kvs =>
    obtain ⟨ws, h1, h2⟩ := hc
    dsimp only [cGet] at e
    split at e
    · rename_i k hk
      cases e
      exact .inl ⟨kvs, ws, k, h1, h2, key_v r hk, rfl⟩
    · split at e
      · rename_i k hk
        split at e
        · cases e
          obtain ⟨k1, k2⟩ := tk_ok hk
          refine .inr ⟨[], k, .inl ⟨rfl, ?_⟩, k1, by rw [k2]; exact r, rfl⟩
          cases h2
          exact h1
        · cases e
      · cases e
  | dn kvs =>
    obtain ⟨es, h1, h2⟩ := hc
    dsimp only [cGet] at e
    split at e
    · rename_i k hk
      cases e
      obtain ⟨k1, k2⟩ := tk_ok hk
      exact .inr ⟨kvs, k, .inr ⟨es, h1, h2⟩, k1, by rw [k2]; exact r, rfl⟩
    · cases e
def dGet (env : Sl) (j : Nat) (y : PyData) : Option (Option PyData) := match env[j]? with
  | some (some (.mu _ c)) => cGet c y
  | _ => none
theorem dGet_ok {K : PySem.W.Frag} {B : Mset} {H : Hp} {σ : St} {env : Sl} {j : Nat} {w v : V} {y : PyData} {o : Option PyData} (en : EnvR K B H σ env) (hx : σ[j]? = some (some w)) (r : Rp K B H v y) (e : dGet env j y = some o) : ∃ a, w = .ref a ∧ DGt K B H a v o := by
  unfold dGet at e
  split at e
  · rename_i m c hm
    obtain ⟨p, g1, g2, g3⟩ := en.mu j _ _ hm
    rw [hx] at g1
    cases g1
    exact ⟨p, rfl, cGet_ok g3 r e⟩
  · cases e
def eDg (fd fk : EE) : EE := fun env => match fd env with
  | some (.var j, e1) => match fk e1 with
    | some (d, e2) => match pdOf d with
      | some y => match dGet e2 j y with
        | some (some z) => some (.pd z, e2)
        | _ => none
      | none => none
    | none => none
  | _ => none
def tDg (K : PySem.W.Frag) (td ty : TE) : TE := fun σ H Q => td σ H fun x H1 => ty σ H1 fun y H2 => ∃ B a z, x = .ref a ∧ DGt K B H2 a y (some z) ∧ ∀ v, Rp K B H2 v z → Q v H2
theorem pe_dg {X : Cx} {o i : Expr} {pos : Pos} {td ty : TE} (hu : X.A.units + 9 < cLine) (ho : PE X o td) (hi : PE X i ty) (hs : NoSl i) : PE X (.Subscript o i pos) (tDg X.K td ty) := by
  refine ⟨fun pins s σ H Q I h => ?_⟩
  refine subD_of PySem.F.slot_dict_getitem.lookup hs (thn (ho.run pins s σ H _ I h) fun u s1 ⟨x, H1, I1, rx, q1⟩ => thn (hi.run pins s1 σ H1 _ I1 q1) fun iv s2 ⟨y, H2, I2, ry, B, a, z, ex, g, q2⟩ => ?_)
  subst ex
  obtain rfl : u = Value.ref a := rx
  exact ⟨dg_type I2 g, dg_getItem hu I2 g ry fun w' s3 v I3 rw' rz => ⟨v, H2, I3, rw', q2 v rz⟩⟩
theorem e_dg {X : Cx} {o i : Expr} {pos : Pos} {fd fk : EE} (hu : X.A.units + 9 < cLine) (ho : PE X o (tE X.K fd)) (hi : PE X i (tE X.K fk)) (hs : NoSl i := by intro _ _; rfl) : PE X (.Subscript o i pos) (tE X.K (eDg fd fk)) := PE.imp (pe_dg hu ho hi hs) fun σ H Q t => by
  obtain ⟨B, env, d, env', en, ev, q⟩ := t
  unfold eDg at ev
  split at ev
  · rename_i j e1 h1
    split at ev
    · rename_i d' e2 h2
      split at ev
      · rename_i y hy
        split at ev
        · rename_i z hz
          cases ev
          refine ⟨B, env, _, _, en, h1, fun B1 H1 w a1 r1 => ⟨B1, e1, _, _, a1.en, h2, fun B2 H2 v a2 r2 => ?_⟩⟩
          obtain ⟨a, rfl, g⟩ := dGet_ok a2.en r1.1 (pdOf_rp r2 hy) hz
          exact ⟨B2, a, z, rfl, g, fun v r => q B2 H2 v (a1.trans en a2) r⟩
        · cases ev
      · cases ev
    · cases ev
  · cases ev
section
variable {X : Cx} {i o : Expr} {fk fd : EE} {pos : Pos}
end

def cPut : Ct → PyData → PyData → Option Ct
  | .dk kvs, y, x => if kvs.length ≤ 1000000 then match key? y with
    | some k => some (.dk (putD kvs k x))
    | none => match tk? y with
      | some k => match kvs with
        | [] => some (.dn [(k, x)])
        | _ :: _ => none
      | none => none
    else none
  | .dn kvs, y, x => if kvs.length ≤ 1000000 then match tk? y with
    | some k => some (.dn (putN kvs k x))
    | none => none
    else none
  | .ls _, _, _ => none
def rSetD (K : PySem.W.Frag) : TSet := fun o i v H Q => ∃ B a x, o = .ref a ∧ Rp K B H v x ∧
  ((∃ kvs ws k, H a = some (.dK ws) ∧ KvR K B H ws kvs ∧ ws.length < sizeLine ∧ i = kV k ∧ Q (upd H a (.dK (putK ws k v)))) ∨
   ∃ kvs k, DnAt K B H a kvs ∧ NkOk k ∧ Rp K B H i k.data ∧ kvs.length < sizeLine ∧ ∀ es, DnR K B H es (putN kvs k x) → Q (upd H a (DnO a es)))
theorem valN_nd {kvs : List (NestedKey × PyData)} {k : NestedKey} (h : valN kvs k = none) : k ∉ kvs.map (·.1) := by
  unfold valN at h
  rw [Option.map_eq_none_iff, List.find?_eq_none] at h
  intro hm
  obtain ⟨q, h1, h2⟩ := List.mem_map.mp hm
  exact h q h1 (by simp [h2])
theorem putN_nd {kvs : List (NestedKey × PyData)} {k : NestedKey} {x : PyData} (h : (kvs.map (·.1)).Nodup) : ((putN kvs k x).map (·.1)).Nodup := by
  unfold putN
  split
  · have e : (kvs.map fun q => if q.1 = k then (q.1, x) else q).map (·.1) = kvs.map (·.1) := by
      rw [List.map_map]
      refine List.map_congr_left fun q _ => ?_
      show (if q.1 = k then (q.1, x) else q).1 = q.1
      split <;> rfl
    rw [e]; exact h
  · rename_i hn
    have hn' : valN kvs k = none := by
      cases e : valN kvs k with
      | none => rfl
      | some z => rw [e] at hn; exact absurd rfl hn
    rw [List.map_append, List.nodup_append]
    refine ⟨h, by simp, fun a ha b hb => ?_⟩
    simp only [List.map_cons, List.map_nil, List.mem_singleton] at hb
    subst hb
    intro e
    subst e
    exact valN_nd hn' ha
theorem putN_len (kvs : List (NestedKey × PyData)) (k : NestedKey) (x : PyData) : (putN kvs k x).length ≤ kvs.length + 1 := by
  unfold putN
  split <;> simp
theorem dn_put {X : Cx} {pins : List (Addr × Obj)} {σ : St} {H : Hp} {s : Shared} {a : Addr} {A : Around} {E : Value → Shared → Prop} {B : Mset} {kvs : List (NestedKey × PyData)} {k : NestedKey} {i v : V} {iv u : Value} {x : PyData} {Q : Unit → Shared → Prop}
    (hu : A.units + 9 < cLine) (I : Inv X pins σ H s) (d : DnAt X.K B H a kvs) (hk : NkOk k) (rk : Rp X.K B H i k.data) (hl : kvs.length < sizeLine) (ri : RelV i iv) (rv : RelV v u) (rp : Rp X.K B H v x)
    (h : ∀ es s', DnR X.K B H es (putN kvs k x) → Inv X pins σ (upd H a (DnO a es)) s' → Q () s') : wpAny (model X.prog X.w) A (setItem (.ref a) iv u) Q E s := by
  obtain ⟨b, rfl⟩ := nk_ref hk rk
  cases (show iv = Value.ref b from ri)
  obtain ⟨ns, _, nd, xs, dd, kn⟩ := dn_open I d
  have mu : Mut (H a) := by
    rcases d with ⟨_, d⟩ | ⟨es, d, _⟩
    · rw [d]; exact True.intro
    · rw [d]; exact True.intro
  refine wpAny_setItem_heap (hsz := by rw [← kn.len]; omega) (room9 hu) (nk_key I hk rk) dd fun h' dd' hs => ?_
  have kn' := kn.put hk rk rv rp
  obtain ⟨q, es, ep, hq, h2, h3, h4, _, h5⟩ := dd'
  refine h ⟨q, ep, (storedH xs k b u).map (entryOfKey (nestedKind X.prog X.w))⟩ _ ⟨kn'.dn, putN_nd nd⟩ (d_write I mu hs ⟨q, hq⟩ ⟨⟨ns, ?_, hq, h2, ?_⟩, ⟨q, hq⟩, fun h1 h2 ⟨z1, z2, z3, z4, z5⟩ st => ⟨z1, z2, st _ z3, z4, z5⟩⟩)
  · dsimp only
    rw [List.length_map, ← kn'.len]
    have := putN_len kvs k x
    omega
  · dsimp only
    rw [← h4, Array.toArray_toList]; exact h3
theorem set_dict {X : Cx} (hu : X.A.units + 9 < cLine) : PSet X (rSetD X.K) := by
  intro pins s σ H o i v ov iv u Q I ro ri rv h
  obtain ⟨B, a, x, rfl, rp, h⟩ := h
  cases (show ov = Value.ref a from ro)
  rcases h with ⟨kvs, ws, k, h1, h2, h3, rfl, q⟩ | ⟨kvs, k, h1, h2, h3, h4, q⟩
  · exact d_setItem (by omega) I (.inl ⟨ws, k, h1, rfl, h3, rfl⟩) ri rv fun s4 I4 => ⟨_, I4, q⟩
  · exact dn_put hu I h1 h2 h3 h4 ri rv rp fun es s' r I' => ⟨_, I', q es r⟩
def dPut (env : Sl) (j : Nat) (y x : PyData) : Option Sl := match env[j]? with
  | some (some (.mu m c)) => if m = .fro then none else match cPut c y x with
    | some c' => some (env.set j (some (.mu m c')))
    | none => none
  | _ => none
theorem lt_line {n : Nat} (h : n ≤ 1000000) : n < sizeLine := small h
theorem dPut_ok {K : PySem.W.Frag} {B : Mset} {H : Hp} {σ : St} {env env' : Sl} {j : Nat} {w v i : V} {y x : PyData} {Q : Hp → Prop} (en : EnvR K B H σ env) (hx : σ[j]? = some (some w)) (ry : Rp K B H i y) (rx : Rp K B H v x) (e : dPut env j y x = some env')
    (q : ∀ B' H', At K σ B H env B' H' env' → Q H') : rSetD K w i v H Q := by
  unfold dPut at e
  split at e
  · rename_i m c hm
    split at e
    · cases e
    rename_i hf
    split at e
    · rename_i c' hc
      cases e
      obtain ⟨p, g1, g2, g3⟩ := en.mu j _ _ hm
      rw [hx] at g1
      cases g1
      refine ⟨B, p, x, rfl, rx, ?_⟩
      cases c with
      | ls xs => cases hc
      | dk kvs =>
        obtain ⟨ws, g4, g5⟩ := g3
        dsimp only [cPut] at hc
        split at hc
        · rename_i hl
          split at hc
          · rename_i k hk
            cases hc
            refine .inl ⟨kvs, ws, k, g4, g5, by rw [g5.len]; exact lt_line hl, key_v ry hk, ?_⟩
            obtain ⟨gw, aw⟩ := AtS.write (o := .dK (putK ws k v)) (c' := .dk (putD kvs k x)) en hm hf hx (fun o' h' im => by rw [g4] at h'; cases h'; exact im) (fun H' _ h1 g' => ⟨_, h1, (g5.put rx).grow g'⟩)
            exact q _ _ aw
          · split at hc
            · rename_i k hk
              split at hc
              · cases hc
                cases g5
                obtain ⟨k1, k2⟩ := tk_ok hk
                refine .inr ⟨[], k, .inl ⟨rfl, g4⟩, k1, by rw [k2]; exact ry, by simpa using lt_line (n := 0) (by omega), fun es r => ?_⟩
                obtain ⟨gw, aw⟩ := AtS.write (o := DnO p es) (c' := .dn [(k, x)]) en hm hf hx (fun o' h' im => by rw [g4] at h'; cases h'; exact im) (fun H' _ h1 g' => ⟨es, h1, DnR.grow g' r⟩)
                exact q _ _ aw
              · cases hc
            · cases hc
        · cases hc
      | dn kvs =>
        obtain ⟨es, g4, g5⟩ := g3
        dsimp only [cPut] at hc
        split at hc
        · rename_i hl
          split at hc
          · rename_i k hk
            cases hc
            obtain ⟨k1, k2⟩ := tk_ok hk
            refine .inr ⟨kvs, k, .inr ⟨es, g4, g5⟩, k1, by rw [k2]; exact ry, lt_line hl, fun es' r => ?_⟩
            obtain ⟨gw, aw⟩ := AtS.write (o := DnO p es') (c' := .dn (putN kvs k x)) en hm hf hx (fun o' h' im => by rw [g4] at h'; cases h'; exact im) (fun H' _ h1 g' => ⟨es', h1, DnR.grow g' r⟩)
            exact q _ _ aw
          · cases hc
        · cases hc
    · cases e
  · cases e
def gDs (fo fi : EE) : GG := fun x env => match fo env with
  | some (.var j, e1) => match fi e1 with
    | some (d, e2) => match pdOf d with
      | some y => dPut e2 j y x
      | none => none
    | none => none
  | _ => none
theorem rd_gDs {K : PySem.W.Frag} {fo fi : EE} {v : V} {σ : St} {H : Hp} {Q : St → Hp → Prop} (h : tG K (gDs fo fi) v σ H Q) : gSub (tE K fo) (tE K fi) (rSetD K) v σ H Q := by
  obtain ⟨B, env, x, env', en, r, ev, q⟩ := h
  unfold gDs at ev
  split at ev
  · rename_i j e1 h1
    split at ev
    · rename_i d e2 h2
      split at ev
      · rename_i y hy
        refine ⟨B, env, _, _, en, h1, fun B1 H1 o a1 r1 => ⟨B1, e1, _, _, a1.en, h2, fun B2 H2 w a2 r2 => ?_⟩⟩
        have a12 := a1.trans en a2
        exact dPut_ok a2.en r1.1 (pdOf_rp r2 hy) (r.grow (a12.grow en)) ev fun B' H' a => q _ _ _ ((a12.trans en a).s)
      · cases ev
    · cases ev
  · cases ev
theorem g_dsub {X : Cx} {o i : Expr} {pos : Pos} {fo fi : EE} (hu : X.A.units + 9 < cLine) (ho : PE X o (tE X.K fo)) (hi : PE X i (tE X.K fi))
    (ha : ∀ v, assign (.Subscript o i pos) X.env v = (do
      let ov ← holding [v] (eval o X.env)
      let iv ← holding [v, ov] (eval i X.env)
      standAt pos
      holding [v, ov, iv] (setItem ov iv v)
      release [v, ov, iv] []) := by intro _; rfl) : PG X (.Subscript o i pos) (tG X.K (gDs fo fi)) := PG.imp (pg_sub ho hi (set_dict hu) ha) fun _ _ _ _ t => rd_gDs t
theorem u9 {k : Nat} {A : Around} (r : Room k A) : A.units + 9 < cLine := by have := r.un; omega
end T3

end
section
set_option linter.all false
set_option autoImplicit false
set_option Elab.async false
set_option maxRecDepth 100000
set_option maxHeartbeats 2000000
namespace ZL
open PySem
section
variable {P : Program} {w : World} {A : Around} {E : Value → Shared → Prop} {s : Shared} {z TI TO T i1 i2 l1 l2 : Addr} {f : Bool} {oT : Obj} {m n : Nat} {xs ys : Array Value} {x y : Value}
def ZS (z TI TO i1 i2 l1 l2 S : Addr) (xs ys : Array Value) (k : Nat) (h : Heap) : Prop := IsPair h TI (.ref i1) (.ref i2) ∧ h.IsTupleIter i1 l1 k ∧ h.IsTupleIter i2 l2 k ∧ h.IsTuple l1 xs ∧ h.IsTuple l2 ys ∧
  ((IsZip h z TI TO .none ∧ ∃ a b, IsPair h TO a b) ∨ ∃ T f oT, IsZipHeld h z TI TO T f ∧ h.get? T = some oT ∧ T ≠ z ∧ T ≠ i1 ∧ T ≠ i2 ∧ T ≠ S)
theorem ZS.keep {k : Nat} {S : Addr} {h h' : Heap} (g : ZS z TI TO i1 i2 l1 l2 S xs ys k h) (d : S ≠ z ∧ S ≠ TI ∧ S ≠ TO ∧ S ≠ i1 ∧ S ≠ i2 ∧ S ≠ l1 ∧ S ≠ l2) (kp : ∀ b o, b ≠ S → h.get? b = some o → h'.get? b = some o) : ZS z TI TO i1 i2 l1 l2 S xs ys k h' := by
  obtain ⟨g1, g2, g3, g4, g5, g6⟩ := g
  obtain ⟨d1, d2, d3, d4, d5, d6, d7⟩ := d
  refine ⟨kp _ _ d2.symm g1, g2.at fun o e => kp _ o d4.symm e, g3.at fun o e => kp _ o d5.symm e, g4.at fun o e => kp _ o d6.symm e, g5.at fun o e => kp _ o d7.symm e, ?_⟩
  rcases g6 with ⟨h1, a, b, h2⟩ | ⟨T, f, oT, h1, h2, r1, r2, r3, r4⟩
  · exact .inl ⟨kp _ _ d1.symm h1, a, b, kp _ _ d3.symm h2⟩
  · exact .inr ⟨T, f, oT, kp _ _ d1.symm h1, kp _ _ r4 h2, r1, r2, r3, r4⟩
end

structure Mk (xs ys : Array Value) (lo : Addr) (h : Heap) (as : List Addr) : Prop where
  rise : as.Pairwise (· < ·)
  above : ∀ a ∈ as, lo < a
  pairs : ∀ (j : Nat) (a : Addr), as[j]? = some a → ∃ x y, xs[j]? = some x ∧ ys[j]? = some y ∧ IsPair h a x y
section
variable {P : Program} {w : World} {A : Around} {s : Shared} {R : Result → Shared → Prop} {z TI TO i1 i2 l1 l2 S : Addr} {xs ys : Array Value}
end
section
variable {P : Program} {w : World} {A : Around} {E : Value → Shared → Prop} {s : Shared} {z TI TO i1 i2 l1 l2 : Addr} {xs ys : Array Value}
end
end ZL

end
section
set_option linter.all false
set_option autoImplicit false
set_option Elab.async false
set_option maxRecDepth 100000
namespace T3
open PySem L2
variable [TabL]
end T3

end
section
set_option linter.all false
set_option autoImplicit false
set_option Elab.async false
set_option maxRecDepth 100000
namespace T3
open PySem L2
variable [TabL]
def allN (kvs : List (NestedKey × PyData)) : List (NestedKey × PyData) := kvs.foldl (fun acc q => putN acc q.1 q.2) []
theorem Kn.all {K : PySem.W.Frag} {B : Mset} {H : Hp} : ∀ {more : List (NestedKey × PyData)} {rs : List (NestedKey × Addr × Value)} {kvs : List (NestedKey × PyData)} {xs : List (NestedKey × Addr × Value)}, Kn K B H more rs → Kn K B H kvs xs → (kvs.map (·.1)).Nodup →
    Kn K B H (more.foldl (fun acc q => putN acc q.1 q.2) kvs) (storedAllH xs rs) ∧ ((more.foldl (fun acc q => putN acc q.1 q.2) kvs).map (·.1)).Nodup
  | _, _, _, _, .nil, k, nd => ⟨k, nd⟩
  | _, _, _, _, .cons (a := q) (b := x) r t, k, nd => by
    obtain ⟨e1, e2, e3, v, e4, e5⟩ := r
    have k' := k.put e2 e3 e4 e5
    rw [← e1] at k'
    have := Kn.all t (by rw [e1] at k'; exact k') (putN_nd (k := q.1) (x := q.2) nd)
    unfold storedAllH at this ⊢
    rw [List.foldl_cons, List.foldl_cons, e1]
    exact this
theorem putAll_len : ∀ (more kvs : List (NestedKey × PyData)), (more.foldl (fun acc q => putN acc q.1 q.2) kvs).length ≤ kvs.length + more.length
  | [], kvs => by simp
  | q :: more, kvs => by
    have h1 := putAll_len more (putN kvs q.1 q.2)
    have h2 := putN_len kvs q.1 q.2
    rw [List.foldl_cons, List.length_cons]
    omega
end T3

end
section
set_option linter.all false
set_option autoImplicit false
set_option Elab.async false
namespace T3
open PySem L2
variable [TabL]
def setAll : List Nat → List R → Sl → Option Sl
  | [], [], e => some e
  | i :: is, d :: ds, e => match setR i d e with
    | none => none
    | some e2 => setAll is ds e2
  | _, _, _ => none
def sParN (is : List Nat) (f : EA) : SS := fun env => match f env with
  | none => none
  | some (ds, e) => if ds.length ≤ 1000 then match setAll is ds e with
      | none => none
      | some e2 => some (.nx, e2)
    else none
@[simp] theorem z_setAll0 (e : Sl) : setAll [] [] e = some e := rfl
@[simp] theorem z_setAll1 (i : Nat) (is : List Nat) (d : R) (ds : List R) (e : Sl) : setAll (i :: is) (d :: ds) e = (match setR i d e with
    | none => none
    | some e2 => setAll is ds e2) := rfl
@[simp] theorem z_parN (is : List Nat) (f : EA) (env : Sl) : sParN is f env = (match f env with
  | none => none
  | some (ds, e) => if ds.length ≤ 1000 then match setAll is ds e with
      | none => none
      | some e2 => some (.nx, e2)
    else none) := rfl
def gNs : List Nat → TGs
  | [] => gNil
  | i :: is => gCons (gName i) (gNs is)
theorem setAll_nv : ∀ {is : List Nat} {ds : List R} {e e' : Sl}, setAll is ds e = some e' → ds.length = is.length ∧ ∀ d ∈ ds, ∀ k, d ≠ .var k
  | [], [], _, _, _ => ⟨rfl, fun d h => by simp at h⟩
  | [], _ :: _, _, _, h => by cases h
  | _ :: _, [], _, _, h => by cases h
  | i :: is, d :: ds, e, e', h => by
    rw [z_setAll1] at h
    split at h
    · cases h
    rename_i e2 h2
    obtain ⟨l, n⟩ := setAll_nv h
    refine ⟨by simp [l], fun x hx k => ?_⟩
    rcases List.mem_cons.mp hx with rfl | hx
    · exact setR_nv h2 k
    · exact n x hx k
theorem rd_names {K : PySem.W.Frag} {σ₀ : St} {B₀ B1 : Mset} {H₀ H1 : Hp} {env e' : Sl} {Q : St → Hp → Prop} (en : EnvR K B₀ H₀ σ₀ env) : ∀ {is : List Nat} {ds : List R} {vs : List V} {e : Sl} {σ : St}, AtS K σ₀ B₀ H₀ env σ B1 H1 e → RRA K H₀ B1 H1 σ e vs ds → setAll is ds e = some e' →
    (∀ σ', AtS K σ₀ B₀ H₀ env σ' B1 H1 e' → Q σ' H1) → gNs is vs σ H1 Q
  | [], [], vs, e, σ, a, r, h, q => by
    cases h
    have := r.len
    cases vs with
    | nil => exact ⟨rfl, q σ a⟩
    | cons _ _ => simp at this
  | [], _ :: _, _, _, _, _, _, h, _ => by cases h
  | _ :: _, [], _, _, _, _, _, h, _ => by cases h
  | i :: is, d :: ds, vs, e, σ, a, r, h, q => by
    rw [z_setAll1] at h
    split at h
    · cases h
    rename_i e2 h2
    have nv := (setAll_nv h).2
    cases vs with
    | nil => have := r.len; simp at this
    | cons v vs =>
      have hl : i < σ.length := by rw [← a.en.len]; exact setR_lt h2
      refine ⟨v, vs, rfl, ?_⟩
      show gNs is vs (σ.set i (some v)) H1 Q
      refine rd_names en (AtS.set en a (r.each 0 v d rfl rfl) h2) ⟨by have := r.len; simpa using this, fun k w d' hw hd => ?_, fun k l c c' w h0 h1 h2 h3 h4 => r.apart (k + 1) (l + 1) c c' w (by omega) (by simpa using h1) (by simpa using h2) (by simpa using h3) (by simpa using h4)⟩ h q
      refine RA.set h2 hl (r.each (k + 1) w d' (by simpa using hw) (by simpa using hd)) (fun c c' z1 z2 z3 => ?_) (nv d' (List.mem_of_getElem? hd))
      subst z1 z2 z3
      exact r.apart 0 (k + 1) c c' v (by omega) rfl (by simpa using hd) rfl (by simpa using hw)
theorem rd_parN {K : PySem.W.Frag} {is : List Nat} {f : EA} {D : Ends} {σ : St} {H : Hp} (h : tS K (sParN is f) D σ H) : tAsg (tTup (tA K f)) (gTup K is.length (gNs is)) D σ H := by
  obtain ⟨B, env, fl, env', en, ev, q⟩ := h
  unfold sParN at ev
  split at ev
  · cases ev
  rename_i ds e1 h1
  split at ev
  · rename_i hl
    split at ev
    · cases ev
    rename_i e2 h2
    cases ev
    refine ⟨B, env, ds, e1, en, h1, fun B1 H1 vs a1 r1 => ⟨by rw [r1.len]; exact Nat.le_of_lt (small1000 hl), fun p np => ?_⟩⟩
    obtain ⟨g, a2⟩ := a1.alloc en np (.tup vs) False (fun _ => False) (fun _ f => f.elim)
    obtain ⟨_, a3⟩ := (At.refl a1.en).alloc a1.en np (.tup vs) False (fun _ => False) (fun _ f => f.elim)
    refine ⟨p, vs, rfl, .inl (.inl upd_same), by rw [r1.len]; exact (setAll_nv h2).1, ?_⟩
    refine rd_names en a2.s ⟨r1.len, fun k v d hv hd => (r1.each k v d hv hd).later a1.en a3, r1.apart⟩ h2 fun σ' a' => q _ _ _ a'
  · cases ev
section
variable {X : Cx} {es : List Expr} {pos : Pos}
theorem ns_nil : PGs X [] (gNs []) := pgs_nil
theorem ns_cons {e : Expr} {i : Nat} {is : List Nat} (h1 : PG X e (gName i)) (h2 : PGs X es (gNs is)) (hs : (assignEach (e :: es) X.env).map (·.2) = assign e X.env :: (assignEach es X.env).map (·.2) := by rfl) : PGs X (e :: es) (gNs (i :: is)) := pgs_cons h1 h2 hs
theorem s_parN {ts : List Expr} {k k2 : Nat} {p p2 : Pos} {is : List Nat} {f : EA} (hc : X.calm = true) (ha : PA X es (tA X.K f)) (hg : PGs X ts (gNs is)) (hn : (assignEach ts X.env).length = is.length := by rfl) (hst : (assignEach ts X.env).findIdx? (·.1) = none := by rfl)
    (hs : swapsWithSole [.Tuple ts k p] (.Tuple es k2 p2) pos.line X.env = pure false := by rfl) (hw : swappedStores [.Tuple ts k p] (.Tuple es k2 p2) X.env = pure none := by rfl)
    (h1 : (assignEach [.Tuple ts k p] X.env).map (·.2) = [assign (.Tuple ts k p) X.env] := by rfl) : PS X (.Assign [.Tuple ts k p] (.Tuple es k2 p2) pos) (tS X.K (sParN is f)) :=
  PS.imp (ps_asg (pe_tup ha) (pg_tup hc hg hn hst) hs hw h1) fun _ _ _ t => rd_parN t
end
end T3

end
section
set_option linter.all false
set_option autoImplicit false
set_option Elab.async false
set_option maxRecDepth 100000
namespace T3
open PySem L2
variable [TabL]
abbrev EPs := List (EE × EE)
def ePairs : EPs → Sl → Option (List (PyData × PyData) × Sl)
  | [], env => some ([], env)
  | p :: r, env => match p.1 env with
    | none => none
    | some (dk, e1) => match pdOf dk with
      | none => none
      | some k => match p.2 e1 with
        | none => none
        | some (dv, e2) => match pdOf dv with
          | none => none
          | some v => match ePairs r e2 with
            | none => none
            | some (ps, e3) => some ((k, v) :: ps, e3)
@[simp] theorem z_ePairs0 (env : Sl) : ePairs [] env = some ([], env) := rfl
@[simp] theorem z_ePairs1 (p : EE × EE) (r : EPs) (env : Sl) : ePairs (p :: r) env = (match p.1 env with
    | none => none
    | some (dk, e1) => match pdOf dk with
      | none => none
      | some k => match p.2 e1 with
        | none => none
        | some (dv, e2) => match pdOf dv with
          | none => none
          | some v => match ePairs r e2 with
            | none => none
            | some (ps, e3) => some ((k, v) :: ps, e3)) := rfl
def PrR (K : PySem.W.Frag) (B : Mset) (H : Hp) : List (V × V) → List (PyData × PyData) → Prop := Paired fun p q => Rp K B H p.1 q.1 ∧ Rp K B H p.2 q.2
def trsOf (K : PySem.W.Frag) (ps : EPs) : List (TE × TE) := ps.map fun p => (tE K p.1, tE K p.2)
theorem rd_pairs {K : PySem.W.Frag} : ∀ {ps : EPs} {σ : St} {H : Hp} {B : Mset} {env env' : Sl} {ds : List (PyData × PyData)} {Q : List (V × V) → Hp → Prop}, EnvR K B H σ env → ePairs ps env = some (ds, env') →
    (∀ B' H' vs, At K σ B H env B' H' env' → PrR K B' H' vs ds → Q vs H') → tPairs (trsOf K ps) σ H Q
  | [], σ, H, B, env, env', ds, Q, en, ev, q => by
    cases ev
    exact q B H [] (.refl en) .nil
  | p :: r, σ, H, B, env, env', ds, Q, en, ev, q => by
    rw [z_ePairs1] at ev
    split at ev
    · cases ev
    rename_i dk e1 h1
    split at ev
    · cases ev
    rename_i k hk
    split at ev
    · cases ev
    rename_i dv e2 h2
    split at ev
    · cases ev
    rename_i v hv
    split at ev
    · cases ev
    rename_i ps' e3 h3
    cases ev
    refine ⟨B, env, dk, e1, en, h1, fun B1 H1 x a1 r1 => ⟨B1, e1, dv, e2, a1.en, h2, fun B2 H2 y a2 r2 => ?_⟩⟩
    have a12 := a1.trans en a2
    refine rd_pairs a2.en h3 fun B3 H3 vs a3 r3 => q B3 H3 _ (a12.trans en a3) (.cons ⟨?_, ?_⟩ r3)
    · exact ((pdOf_rp r1 hk).grow (a2.grow a1.en)).grow (a3.grow a2.en)
    · exact (pdOf_rp r2 hv).grow (a3.grow a2.en)
theorem At.put {K : PySem.W.Frag} {σ : St} {B B2 : Mset} {H H2 : Hp} {env env2 : Sl} {p : Addr} {o0 o : HO} (en : EnvR K B H σ env) (a : At K σ B H env B2 H2 env2) (hp : H p = none) (bp : B2 p) (h0 : H2 p = some o0) (ni : ¬ Imm o0)
    (ns : ∀ (i : Nat) m d, env2[i]? = some (some (S.mu m d)) → σ[i]? ≠ some (some (V.ref p))) : Grow B2 H2 B2 (upd H2 p o) ∧ At K σ B H env B2 (upd H2 p o) env2 := by
  have g : Grow B2 H2 B2 (upd H2 p o) := ⟨fun q o' h n => by
    by_cases e : q = p
    · subst e
      rcases n with n | n
      · exact absurd bp n.1
      · rw [h0] at h; cases h; exact absurd n ni
    · rw [upd_ne e]; exact h, fun q h => .inl h⟩
  refine ⟨g, ⟨fun q o' h n => ?_, a.st.new, a.st.old, a.st.sub, fun q h => ?_⟩, ⟨a.en.len, fun i x h => ?_, fun i x h => ?_, fun i m d h => ?_, a.en.inj, fun q h => ?_, a.en.tb.on (fun q o' h n => by rw [upd_ne (fun e => n (by rw [e]; exact bp))]; exact h) g.new⟩, a.sm, a.ks⟩
  · have e : q ≠ p := fun z => by rw [z, hp] at h; cases h
    rw [upd_ne e]; exact a.st.keep q o' h n
  · by_cases e : q = p
    · rw [e]; exact hp
    · rw [upd_ne e] at h; exact a.st.liv q h
  · obtain ⟨v, h1, h2⟩ := a.en.pd i x h
    exact ⟨v, h1, h2.grow g⟩
  · obtain ⟨v, h1, h2⟩ := a.en.nt i x h
    exact ⟨v, h1, h2.grow g⟩
  · obtain ⟨b, h1, h2, h3⟩ := a.en.mu i m d h
    have nb : b ≠ p := fun z => ns i m d h (z ▸ h1)
    refine ⟨b, h1, h2, ?_⟩
    cases d with
    | ls xs => obtain ⟨vs, h4, h5⟩ := h3; exact ⟨vs, by rw [upd_ne nb]; exact h4, h5.grow g⟩
    | dk xs => obtain ⟨vs, h4, h5⟩ := h3; exact ⟨vs, by rw [upd_ne nb]; exact h4, h5.grow g⟩
    | dn xs => obtain ⟨vs, h4, h5⟩ := h3; exact ⟨vs, by rw [upd_ne nb]; exact h4, h5.grow g⟩
  · by_cases e : q = p
    · subst e; exact ⟨o, upd_same⟩
    · rw [upd_ne e]; exact a.en.dom q h
def keysK : List (PyData × PyData) → Option (List (Key × PyData))
  | [] => some []
  | p :: ps => match key? p.1 with
    | none => none
    | some k => match keysK ps with
      | none => none
      | some r => some ((k, p.2) :: r)
def keysN : List (PyData × PyData) → Option (List (NestedKey × PyData))
  | [] => some []
  | p :: ps => match tk? p.1 with
    | none => none
    | some k => match keysN ps with
      | none => none
      | some r => some ((k, p.2) :: r)
def allK (kvs : List (Key × PyData)) : List (Key × PyData) := kvs.foldl (fun acc q => putD acc q.1 q.2) []
theorem KvR.merge {K : PySem.W.Frag} {B : Mset} {H : Hp} : ∀ {more : List (Key × V)} {ms : List (Key × PyData)} {ws : List (Key × V)} {kvs : List (Key × PyData)}, KvR K B H more ms → KvR K B H ws kvs → KvR K B H (mergeK ws more) (ms.foldl (fun acc q => putD acc q.1 q.2) kvs)
  | _, _, _, _, .nil, r => r
  | _, _, _, _, .cons (a := p) (b := q) h t, r => by
    have := r.put (k := q.1) h.2
    unfold mergeK
    rw [List.foldl_cons, List.foldl_cons, h.1]
    exact KvR.merge t this
theorem keysK_ok {K : PySem.W.Frag} {B : Mset} {H : Hp} : ∀ {vs : List (V × V)} {ds : List (PyData × PyData)} {kvs : List (Key × PyData)}, PrR K B H vs ds → keysK ds = some kvs → ∃ ws : List (Key × V), vs = ws.map (fun kv => (kV kv.1, kv.2)) ∧ KvR K B H ws kvs
  | _, _, kvs, .nil, e => by cases e; exact ⟨[], rfl, .nil⟩
  | _, _, kvs, .cons (a := p) (b := q) r t, e => by
    unfold keysK at e
    split at e
    · cases e
    rename_i k hk
    split at e
    · cases e
    rename_i r' hr
    cases e
    obtain ⟨ws, h1, h2⟩ := keysK_ok t hr
    refine ⟨(k, p.2) :: ws, ?_, .cons ⟨rfl, r.2⟩ h2⟩
    rw [List.map_cons, ← h1, ← key_v r.1 hk]
theorem keysN_ok {K : PySem.W.Frag} {B : Mset} {H : Hp} : ∀ {vs : List (V × V)} {ds : List (PyData × PyData)} {kvs : List (NestedKey × PyData)}, PrR K B H vs ds → keysN ds = some kvs → Paired (fun (p : V × V) (q : NestedKey × PyData) => NkOk q.1 ∧ Rp K B H p.1 q.1.data ∧ Rp K B H p.2 q.2) vs kvs
  | _, _, kvs, .nil, e => by cases e; exact .nil
  | _, _, kvs, .cons (a := p) (b := q) r t, e => by
    unfold keysN at e
    split at e
    · cases e
    rename_i k hk
    split at e
    · cases e
    rename_i r' hr
    cases e
    obtain ⟨h1, h2⟩ := tk_ok hk
    exact .cons ⟨h1, by rw [h2]; exact r.1, r.2⟩ (keysN_ok t hr)
def tDispN (K : PySem.W.Frag) (trs : List (TE × TE)) : TE := fun σ H Q => ∀ p, H p = none → tPairs trs σ (upd H p (.dK [])) fun ps H2 => H2 p = some (.dK []) ∧ ∃ B kvs, Paired (fun (p : V × V) (q : NestedKey × PyData) => NkOk q.1 ∧ Rp K B H2 p.1 q.1.data ∧ Rp K B H2 p.2 q.2) ps kvs ∧ kvs.length ≤ 15 ∧
  ∀ es, DnR K B H2 es (allN kvs) → Q (.ref p) (upd H2 p (DnO p es))
theorem carr_of {X : Cx} {pins : List (Addr × Obj)} {σ : St} {H : Hp} {s : Shared} {B : Mset} (I : Inv X pins σ H s) : ∀ {ps : List (V × V)} {ws : List (Value × Value)} {kvs : List (NestedKey × PyData)}, VV ps ws → Paired (fun (p : V × V) (q : NestedKey × PyData) => NkOk q.1 ∧ Rp X.K B H p.1 q.1.data ∧ Rp X.K B H p.2 q.2) ps kvs →
    ∃ xs, CarriesH (nestedKind X.prog X.w) s.heap ws xs ∧ Kn X.K B H kvs xs
  | _, _, _, .nil, .nil => ⟨[], True.intro, .nil⟩
  | _, _, _, .cons (a := p) (b := u) r t, .cons (b := q) h t' => by
    obtain ⟨xs, h1, h2⟩ := carr_of I t t'
    obtain ⟨k1, k2, k3⟩ := h
    obtain ⟨b, eb⟩ := nk_ref k1 k2
    obtain ⟨u1, u2⟩ := u
    have e1 : u1 = Value.ref b := by have := r.1; rw [eb] at this; exact this
    subst e1
    rw [eb] at k2
    exact ⟨(q.1, b, u2) :: xs, ⟨rfl, rfl, nk_key I k1 k2, h1⟩, .cons ⟨rfl, k1, k2, p.2, r.2, k3⟩ h2⟩
theorem pe_dispN {X : Cx} {pos : Pos} {keys : List (Option Expr)} {values : List Expr} {trs : List (TE × TE)} (hu : X.A.units + 9 < cLine) (h : PPs X pos keys values trs) (hall : keys.all (·.isSome) = true) (hl : keys.length = values.length) (h0 : keys ≠ [])
    (h15 : keys.length ≤ 15) : PE X (.Dict keys values pos) (tDispN X.K trs) := by
  refine ⟨fun pins s σ H Q I q => ?_⟩
  have hn := I.hok.fresh (Nat.le_refl s.heap.objs.size)
  have I1 := I.laid (a := s.heap.objs.size) (o := .dK []) (h' := s.heap.push { cls := .type "dict", data := .dict #[] }) (t' := s.toks) (fun _ _ q => Heap.get?_push_of_some _ q) (Nat.le_refl _) (dk_empty s.heap I.big)
  have hlen := pairTrees_length keys values X.env pos hall hl
  have hne : pairTrees keys values X.env pos ≠ [] := fun he => by
    rw [he] at hlen
    exact h0 (List.length_eq_zero_iff.mp hlen.symm)
  rw [arm_eval_Dict, zip_pairTrees keys values X.env pos hall hl, dictDisplay_pairs _ hne (by rw [hlen]; omega)]
  refine wpAny_bind (wpAny_standAt (wpAny_bind (wpAny_subDictH (knd := nestedKind X.prog X.w) (show X.A.units + 8 < cLine by omega) (by rw [hlen]; exact h15) (thn (h.run pins _ σ _ _ I1 (q _ hn)) fun ws s2 ⟨ps, H2, I2, rel, e, B, kvs, hp, h16, q2⟩ => ?_))))
  obtain ⟨xs, hc, hk⟩ := carr_of I2 rel hp
  obtain ⟨ns, _, _, xs0, dd, kn0⟩ := dn_open I2 (.inl ⟨rfl, e⟩ : DnAt X.K B H2 s.heap.objs.size [])
  cases kn0
  refine ⟨xs, hc, dd, fun h' tk dd' hs => wpAny_pure ?_⟩
  obtain ⟨kn, nd⟩ := Kn.all hk (.nil : Kn X.K B H2 [] []) (by simp)
  obtain ⟨q', es, ep, hq', h2, h3, h4, _, h5⟩ := dd'
  refine ⟨.ref s.heap.objs.size, _, d_write (t' := tk) (ob := DnO s.heap.objs.size ⟨q', ep, (storedAllH [] xs).map (entryOfKey (nestedKind X.prog X.w))⟩) I2 (by rw [e]; exact True.intro) hs ⟨q', hq'⟩ ⟨⟨ns, ?_, hq', h2, ?_⟩, ⟨q', hq'⟩, fun g1 g2 ⟨z1, z2, z3, z4, z5⟩ st => ⟨z1, z2, st _ z3, z4, z5⟩⟩, rfl, q2 _ ⟨kn.dn, nd⟩⟩
  · dsimp only
    rw [List.length_map, ← kn.len]
    have h1 := putAll_len kvs []
    simp only [List.length_nil, Nat.zero_add] at h1
    rw [sizeLine_eq]
    omega
  · dsimp only
    rw [← h4, Array.toArray_toList]; exact h3
def eDisp (ps : EPs) : EE := fun env => match ePairs ps env with
  | none => none
  | some (ds, e1) => if ds.length ≤ 15 then match keysK ds with
      | some kvs => some (.tmp (.dk (allK kvs)), e1)
      | none => match keysN ds with
        | some kvs => some (.tmp (.dn (allN kvs)), e1)
        | none => none
    else none
@[simp] theorem z_disp (ps : EPs) (env : Sl) : eDisp ps env = (match ePairs ps env with
  | none => none
  | some (ds, e1) => if ds.length ≤ 15 then match keysK ds with
      | some kvs => some (.tmp (.dk (allK kvs)), e1)
      | none => match keysN ds with
        | some kvs => some (.tmp (.dn (allN kvs)), e1)
        | none => none
    else none) := rfl
theorem keysK_len : ∀ {ds : List (PyData × PyData)} {kvs : List (Key × PyData)}, keysK ds = some kvs → kvs.length = ds.length
  | [], _, e => by cases e; rfl
  | p :: ds, kvs, e => by
    unfold keysK at e
    split at e
    · cases e
    split at e
    · cases e
    rename_i r hr
    cases e
    simp [keysK_len hr]
theorem keysN_len : ∀ {ds : List (PyData × PyData)} {kvs : List (NestedKey × PyData)}, keysN ds = some kvs → kvs.length = ds.length
  | [], _, e => by cases e; rfl
  | p :: ds, kvs, e => by
    unfold keysN at e
    split at e
    · cases e
    split at e
    · cases e
    rename_i r hr
    cases e
    simp [keysN_len hr]
theorem e_disp {X : Cx} {pos : Pos} {keys : List (Option Expr)} {values : List Expr} {ps : EPs} (hu : X.A.units + 9 < cLine) (h : PPs X pos keys values (trsOf X.K ps)) (hall : keys.all (·.isSome) = true := by rfl) (hl : keys.length = values.length := by rfl) (h0 : keys ≠ [] := by decide)
    (h15 : keys.length ≤ 15 := by decide) : PE X (.Dict keys values pos) (tE X.K (eDisp ps)) := by
  refine ⟨fun pins s σ H Q I t => ?_⟩
  obtain ⟨B, env, d, env', en, ev, q⟩ := t
  unfold eDisp at ev
  split at ev
  · cases ev
  rename_i ds e1 h1
  split at ev
  · rename_i hl15
    split at ev
    · rename_i kvs hk
      cases ev
      refine (pe_disp h hall hl h0 h15).run pins s σ H Q I fun p np => ?_
      obtain ⟨g, a1⟩ := (At.refl en).alloc en np (.dK []) True (fun _ => False) (fun _ f => f.elim)
      refine rd_pairs a1.en h1 fun B2 H2 vs a2 r2 => ?_
      have a12 := a1.trans en a2
      have wp : ¬ Wof σ env p := fun w => by
        obtain ⟨o, ho⟩ := en.dom p (en.wb p w)
        rw [np] at ho; cases ho
      have k2 : H2 p = some (.dK []) := a2.st.keep p _ upd_same (.inl ⟨wp, fun _ z => nomatch z⟩)
      have b2 : B2 p := a2.st.old p (.inr ⟨trivial, rfl⟩) wp
      have ns : ∀ (i : Nat) m d, env'[i]? = some (some (S.mu m d)) → σ[i]? ≠ some (some (V.ref p)) := fun i m d z1 z2 => by
        obtain ⟨c', z3⟩ := a2.sm i m d z1
        obtain ⟨b, z4, z5, _⟩ := en.mu i m c' z3
        rw [z4] at z2
        cases z2
        obtain ⟨o, ho⟩ := en.dom _ z5
        rw [np] at ho; cases ho
      obtain ⟨ws, e1, r3⟩ := keysK_ok r2 hk
      refine ⟨k2, ws, e1, by rw [Paired.length r3, keysK_len hk]; exact hl15, ?_⟩
      obtain ⟨g3, a3⟩ := At.put (o := .dK (mergeK [] ws)) en a12 np b2 k2 (fun z => z) ns
      exact q _ _ _ a3 ⟨p, rfl, np, b2, ⟨_, upd_same, (KvR.merge r3 (.nil : KvR X.K B2 H2 [] [])).grow g3⟩, ns⟩
    · split at ev
      · rename_i kvs hk
        cases ev
        refine (pe_dispN hu h hall hl h0 h15).run pins s σ H Q I fun p np => ?_
        obtain ⟨g, a1⟩ := (At.refl en).alloc en np (.dK []) True (fun _ => False) (fun _ f => f.elim)
        refine rd_pairs a1.en h1 fun B2 H2 vs a2 r2 => ?_
        have a12 := a1.trans en a2
        have wp : ¬ Wof σ env p := fun w => by
          obtain ⟨o, ho⟩ := en.dom p (en.wb p w)
          rw [np] at ho; cases ho
        have k2 : H2 p = some (.dK []) := a2.st.keep p _ upd_same (.inl ⟨wp, fun _ z => nomatch z⟩)
        have b2 : B2 p := a2.st.old p (.inr ⟨trivial, rfl⟩) wp
        have ns : ∀ (i : Nat) m d, env'[i]? = some (some (S.mu m d)) → σ[i]? ≠ some (some (V.ref p)) := fun i m d z1 z2 => by
          obtain ⟨c', z3⟩ := a2.sm i m d z1
          obtain ⟨b, z4, z5, _⟩ := en.mu i m c' z3
          rw [z4] at z2
          cases z2
          obtain ⟨o, ho⟩ := en.dom _ z5
          rw [np] at ho; cases ho
        refine ⟨k2, B2, kvs, keysN_ok r2 hk, by rw [keysN_len hk]; exact hl15, fun es r => ?_⟩
        obtain ⟨g3, a3⟩ := At.put (o := DnO p es) en a12 np b2 k2 (fun z => z) ns
        exact q _ _ _ a3 ⟨p, rfl, np, b2, ⟨es, upd_same, DnR.grow g3 r⟩, ns⟩
      · cases ev
  · cases ev
section
variable {X : Cx} {pos : Pos}
theorem ds_nil : PPs X pos [] [] (trsOf X.K []) := pps_nil
theorem ds_cons {k v : Expr} {ks : List (Option Expr)} {vs : List Expr} {fk fv : EE} {ps : EPs} (hk : PE X k (tE X.K fk)) (hv : PE X v (tE X.K fv)) (hr : PPs X pos ks vs (trsOf X.K ps)) : PPs X pos (some k :: ks) (v :: vs) (trsOf X.K ((fk, fv) :: ps)) := pps_cons hk hv hr
end
mutual
def unK : PyData → Option NestedKey
  | .none => some .none
  | .int i => some (.num i)
  | .str x => some (.text x)
  | .tuple xs => match unKs xs with
    | some ks => some (.tup ks)
    | none => none
  | .bool _ => none
  | .list _ => none
  | .dict _ => none
def unKs : List PyData → Option (List NestedKey)
  | [] => some []
  | x :: xs => match unK x with
    | some k => match unKs xs with
      | some ks => some (k :: ks)
      | none => none
    | none => none
end
mutual
theorem unK_data : ∀ k : NestedKey, unK k.data = some k
  | .none => by rw [NestedKey.data, unK]
  | .num i => by rw [NestedKey.data, unK]
  | .text x => by rw [NestedKey.data, unK]
  | .tup ks => by rw [NestedKey.data, unK, unKs_datas ks]
theorem unKs_datas : ∀ ks : List NestedKey, unKs (NestedKey.datas ks) = some ks
  | [] => by rw [NestedKey.datas, unKs]
  | k :: ks => by rw [NestedKey.datas, unKs, unK_data k, unKs_datas ks]
end
def decN : List (PyData × PyData) → Option (List (NestedKey × PyData))
  | [] => some []
  | q :: r => match unK q.1 with
    | some n => match decN r with
      | some t => some ((n, q.2) :: t)
      | none => none
    | none => none
theorem decN_of : ∀ kvs : List (NestedKey × PyData), decN (kvs.map fun q => (q.1.data, q.2)) = some kvs
  | [] => rfl
  | q :: r => by
    simp only [List.map_cons, decN, unK_data, decN_of r]
def decK : List (PyData × PyData) → Option (List (Key × PyData))
  | [] => some []
  | q :: r => match key? q.1 with
    | some n => match decK r with
      | some t => some ((n, q.2) :: t)
      | none => none
    | none => none
theorem key_data : ∀ k : Key, key? (keyD k) = some k
  | .inl _ => rfl
  | .inr _ => rfl
theorem decK_of : ∀ kvs : List (Key × PyData), decK (kvs.map fun q => (keyD q.1, q.2)) = some kvs
  | [] => rfl
  | q :: r => by
    simp only [List.map_cons, decK, key_data, decK_of r]
def dcOf : PyData → Option Ct
  | .dict ((.list [], .none) :: r) => match decN r with
    | some kvs => some (.dn kvs)
    | none => none
  | .dict ((.list [.none], .none) :: r) => match decK r with
    | some kvs => some (.dk kvs)
    | none => none
  | _ => none
theorem dcOf_dn (kvs : List (NestedKey × PyData)) : dcOf (ctD (.dn kvs)) = some (.dn kvs) := by
  show (match decN (kvs.map fun q => (q.1.data, q.2)) with
    | some kvs => some (Ct.dn kvs)
    | none => none) = _
  rw [decN_of]
theorem dcOf_dk (kvs : List (Key × PyData)) : dcOf (ctD (.dk kvs)) = some (.dk kvs) := by
  show (match decK (kvs.map fun q => (keyD q.1, q.2)) with
    | some kvs => some (Ct.dk kvs)
    | none => none) = _
  rw [decK_of]
theorem dcOf_ok {K : PySem.W.Frag} {B : Mset} {H : Hp} {v : V} {x : PyData} {c : Ct} (r : Rp K B H v x) (e : dcOf x = some c) : ∃ a, v = .ref a ∧ CtR K B H a c := by
  cases r with
  | dct h nb h4 nd r1 r2 =>
    have e := (dcOf_dn _).symm.trans e
    cases e
    exact ⟨_, rfl, _, h, dn_join h4 r1 r2, nd⟩
  | dck h nb hk r =>
    have e := (dcOf_dk _).symm.trans e
    cases e
    exact ⟨_, rfl, _, h, kv_join hk r⟩
  | _ => simp [dcOf] at e
def rGet (env : Sl) : R → PyData → Option (Option PyData)
  | .var j, y => dGet env j y
  | .tmp c, y => cGet c y
  | .pd x, y => match dcOf x with
    | some c => cGet c y
    | none => none
  | .nt _, _ => none
theorem rGet_ok {K : PySem.W.Frag} {H₀ : Hp} {B : Mset} {H : Hp} {σ : St} {env : Sl} {w v : V} {d : R} {y : PyData} {o : Option PyData} (en : EnvR K B H σ env) (h : RA K H₀ B H σ env w d) (r : Rp K B H v y) (e : rGet env d y = some o) : ∃ a, w = .ref a ∧ DGt K B H a v o := by
  cases d with
  | pd x =>
    have e : (match dcOf x with
      | some c => cGet c y
      | none => none) = some o := e
    split at e
    · rename_i c hc
      obtain ⟨a, rfl, hc⟩ := dcOf_ok h hc
      exact ⟨a, rfl, cGet_ok hc r e⟩
    · cases e
  | nt x => cases e
  | var j => exact dGet_ok en h r e
  | tmp c =>
    obtain ⟨a, rfl, _, _, hc, _⟩ := h
    exact ⟨a, rfl, cGet_ok hc r e⟩
def eDx (fd fk : EE) : EE := fun env => match fd env with
  | none => none
  | some (d0, e1) => match fk e1 with
    | none => none
    | some (d, e2) => match pdOf d with
      | none => none
      | some y => match rGet e2 d0 y with
        | some (some z) => some (.pd z, e2)
        | _ => none
@[simp] theorem z_dx (fd fk : EE) (env : Sl) : eDx fd fk env = (match fd env with
  | none => none
  | some (d0, e1) => match fk e1 with
    | none => none
    | some (d, e2) => match pdOf d with
      | none => none
      | some y => match rGet e2 d0 y with
        | some (some z) => some (.pd z, e2)
        | _ => none) := rfl
@[simp] theorem z_rGet1 (env : Sl) (j : Nat) (y : PyData) : rGet env (.var j) y = dGet env j y := rfl
@[simp] theorem z_rGet3 (env : Sl) (x : PyData) (y : PyData) : rGet env (.pd x) y = (match dcOf x with
    | some c => cGet c y
    | none => none) := rfl
@[simp] theorem z_rGet2 (env : Sl) (c : Ct) (y : PyData) : rGet env (.tmp c) y = cGet c y := rfl
theorem e_dx {X : Cx} {o i : Expr} {pos : Pos} {fd fk : EE} (hu : X.A.units + 9 < cLine) (ho : PE X o (tE X.K fd)) (hi : PE X i (tE X.K fk)) (hs : NoSl i := by intro _ _; rfl) : PE X (.Subscript o i pos) (tE X.K (eDx fd fk)) := PE.imp (pe_dg hu ho hi hs) fun σ H Q t => by
  obtain ⟨B, env, d, env', en, ev, q⟩ := t
  unfold eDx at ev
  split at ev
  · cases ev
  rename_i d0 e1 h1
  split at ev
  · cases ev
  rename_i d' e2 h2
  split at ev
  · cases ev
  rename_i y hy
  split at ev
  · rename_i z hz
    cases ev
    refine ⟨B, env, _, _, en, h1, fun B1 H1 w a1 r1 => ⟨B1, e1, _, _, a1.en, h2, fun B2 H2 v a2 r2 => ?_⟩⟩
    obtain ⟨a, rfl, g⟩ := rGet_ok a2.en (r1.ra.later a1.en a2) (pdOf_rp r2 hy) hz
    exact ⟨B2, a, z, rfl, g, fun v r => q B2 H2 v (a1.trans en a2) r⟩
  · cases ev
end T3

end
section
set_option linter.all false
set_option autoImplicit false
set_option Elab.async false
set_option maxRecDepth 100000
namespace T3
open PySem L2
variable [TabL]
def IsDD (H : Hp) (a : Addr) : Prop := (∃ ws, H a = some (.dK ws)) ∨ ∃ es, H a = some (DnO a es)
theorem isDD_at {X : Cx} {pins : List (Addr × Obj)} {σ : St} {H : Hp} {s : Shared} {a : Addr} (I : Inv X pins σ H s) (d : IsDD H a) :
    s.TypeIs (.ref a) "dict" ∧ (∀ b, Value.ref a = .ref b → ∃ ob, s.heap.get? b = some ob ∧ ob.dict = none) := by
  rcases d with ⟨kvs, e⟩ | ⟨es, e⟩
  · obtain ⟨t1, t2, _⟩ := isD_at I (.inl ⟨kvs, .inl e⟩)
    exact ⟨t1, t2⟩
  · obtain ⟨⟨y, z, e1, e2, e3⟩, _⟩ := I.hok a _ e
    exact ⟨⟨_, e1, e2.1⟩, fun b q => by cases q; exact ⟨_, e1, e2.2.1⟩⟩
section
variable {X : Cx} {pins : List (Addr × Obj)} {σ : St} {H : Hp} {s : Shared} {a : Addr} {A : Around} {E : Value → Shared → Prop} {B : Mset} {y d : V} {u r : Value} {o : Option PyData} {x : PyData}
theorem dg_get2 {Q : Value → Shared → Prop} (hu : A.units + 9 < cLine) (I : Inv X pins σ H s) (g : DGt X.K B H a y o) (ry : RelV y u) (rd : RelV d r) (rp : Rp X.K B H d x)
    (h : ∀ w' s' v, Inv X pins σ H s' → RelV v w' → Rp X.K B H v (o.getD x) → Q w' s') : wpAny (model X.prog X.w) A (call (.builtin "dict.get") [.ref a, u, r]) Q E s := by
  rcases g with ⟨kvs, ws, k, e, rr, rfl, l⟩ | ⟨kvs, k, e, hk, rk, l⟩
  · refine d_get2 (o := valV ws k) (by omega) I (.inl ⟨ws, k, .inl e, rfl, rfl⟩) ry rd fun w' s' I' rv => h w' s' _ I' rv ?_
    rcases rr.val (k := k) with ⟨v, z, h1, h2, h3⟩ | ⟨h1, h2⟩
    · rw [l, h1, h2]; exact h3
    · rw [l, h1, h2]; exact rp
  · obtain ⟨b, rfl⟩ := nk_ref hk rk
    cases (show u = Value.ref b from ry)
    obtain ⟨ns, _, _, xs, dd, kn⟩ := dn_open I e
    refine call_meetsIn PySem.F.slot_dict_get dd.typeIs PySem.F.entry_dict_get (PySem.F.args_dict_get_3 _ _ _) (meetsH_dict_get_default (nestedKind X.prog X.w) a b ns r) ⟨room9 hu, k, xs, nk_key I hk rk, dd, ?_⟩
    rcases kn.val (k := k) with ⟨p, v, z, h1, h2, h3, h4⟩ | ⟨h1, h2⟩
    · rw [h1]
      exact h _ _ v (I.tok _) h3 (by rw [l, h2]; exact h4)
    · rw [h1]
      exact h _ _ d (I.tok _) rd (by rw [l, h2]; exact rp)
end
def tGt2 (K : PySem.W.Frag) (td ty tx : TE) : TE := fun σ H Q => td σ H fun v H1 => ∃ a, v = .ref a ∧ IsDD H1 a ∧ ty σ H1 fun y H2 => tx σ H2 fun z H3 => ∃ B o x, DGt K B H3 a y o ∧ Rp K B H3 z x ∧ ∀ w, Rp K B H3 w (o.getD x) → Q w H3
section
variable {X : Cx} {o e f : Expr} {apos cpos : Pos} {td ty tx : TE}
theorem pe_gt2 (hu : X.A.units + 9 < cLine) (ho : PE X o td) (he : PE X e ty) (hf : PE X f tx) (m : M2 X o "get" apos e f cpos) : PE X (.Call (.Attribute o "get" apos) [e, f] [] cpos) (tGt2 X.K td ty tx) := by
  refine ⟨fun pins s σ H Q I h => ?_⟩
  refine wpAny_Call_method m.base m.few m.line PySem.F.plainAttrs_dict PySem.F.slot_dict_get PySem.F.type_dict_get (thn (ho.run pins s σ H _ I h) fun u s1 ⟨x, H1, I1, rx, a, ex, d, q1⟩ => ?_)
  subst ex
  obtain rfl : u = Value.ref a := rx
  obtain ⟨t1, t2⟩ := isDD_at I1 d
  refine ⟨t1, t2, ?_⟩
  rw [m.trees]
  refine Calls.callWith_builtin rfl (Calls.evalArgs_plain (Calls.spliced_cons (thn (he.run pins s1 σ H1 _ I1 q1) fun iv s2 ⟨y, H2, I2, ry, q2⟩ => Calls.spliced_cons (thn (hf.run pins s2 σ H2 _ I2 q2) fun fv s3 ⟨z, H3, I3, rz, B, ov, xx, g, rp, q3⟩ => Calls.spliced_nil ?_))))
  exact dg_get2 hu I3 g ry rz rp fun w' s4 v I4 rw' rpv => ⟨v, H3, I4, rw', q3 v rpv⟩
end
def isDc (env : Sl) : R → Bool
  | .var j => match env[j]? with
    | some (some (.mu _ (.dk _))) => true
    | some (some (.mu _ (.dn _))) => true
    | _ => false
  | .tmp (.dk _) => true
  | .tmp (.dn _) => true
  | _ => false
theorem isDc_ok {K : PySem.W.Frag} {H₀ : Hp} {B : Mset} {H : Hp} {σ : St} {env : Sl} {w : V} {d : R} (en : EnvR K B H σ env) (h : RA K H₀ B H σ env w d) (e : isDc env d = true) : ∃ a, w = .ref a ∧ IsDD H a := by
  cases d with
  | pd x => cases e
  | nt x => cases e
  | var j =>
    dsimp only [isDc] at e
    split at e
    · rename_i m kvs hm
      obtain ⟨a, h1, _, ws, h2, _⟩ := en.mu _ _ _ hm
      have h : σ[j]? = some (some w) := h
      rw [h] at h1
      cases h1
      exact ⟨a, rfl, .inl ⟨ws, h2⟩⟩
    · rename_i m kvs hm
      obtain ⟨a, h1, _, es, h2, _⟩ := en.mu _ _ _ hm
      have h : σ[j]? = some (some w) := h
      rw [h] at h1
      cases h1
      exact ⟨a, rfl, .inr ⟨es, h2⟩⟩
    · cases e
  | tmp c =>
    obtain ⟨a, rfl, _, _, hc, _⟩ := h
    cases c with
    | ls xs => cases e
    | dk kvs => obtain ⟨ws, h2, _⟩ := hc; exact ⟨a, rfl, .inl ⟨ws, h2⟩⟩
    | dn kvs => obtain ⟨es, h2, _⟩ := hc; exact ⟨a, rfl, .inr ⟨es, h2⟩⟩
def eGt2 (fd fk fx : EE) : EE := fun env => match fd env with
  | none => none
  | some (d0, e1) => if isDc e1 d0 = true then match fk e1 with
      | none => none
      | some (d, e2) => match pdOf d with
        | none => none
        | some y => match fx e2 with
          | none => none
          | some (d', e3) => match pdOf d' with
            | none => none
            | some x => match rGet e3 d0 y with
              | some o => some (.pd (o.getD x), e3)
              | none => none
    else none
@[simp] theorem z_gt2 (fd fk fx : EE) (env : Sl) : eGt2 fd fk fx env = (match fd env with
  | none => none
  | some (d0, e1) => if isDc e1 d0 = true then match fk e1 with
      | none => none
      | some (d, e2) => match pdOf d with
        | none => none
        | some y => match fx e2 with
          | none => none
          | some (d', e3) => match pdOf d' with
            | none => none
            | some x => match rGet e3 d0 y with
              | some o => some (.pd (o.getD x), e3)
              | none => none
    else none) := rfl
section
variable {X : Cx} {o e f : Expr} {apos cpos : Pos} {fd fk fx : EE}
theorem e_gt2 (hu : X.A.units + 9 < cLine) (ho : PE X o (tE X.K fd)) (he : PE X e (tE X.K fk)) (hf : PE X f (tE X.K fx)) (m : M2 X o "get" apos e f cpos := by exact ⟨by rfl, by rfl, by rfl, by rfl⟩) : PE X (.Call (.Attribute o "get" apos) [e, f] [] cpos) (tE X.K (eGt2 fd fk fx)) := PE.imp (pe_gt2 hu ho he hf m) fun σ H Q t => by
  obtain ⟨B, env, d, env', en, ev, q⟩ := t
  unfold eGt2 at ev
  split at ev
  · cases ev
  rename_i d0 e1 h1
  split at ev
  · rename_i hd
    split at ev
    · cases ev
    rename_i d1 e2 h2
    split at ev
    · cases ev
    rename_i y hy
    split at ev
    · cases ev
    rename_i d2 e3 h3
    split at ev
    · cases ev
    rename_i x hx
    split at ev
    · rename_i ov hg
      cases ev
      refine ⟨B, env, _, _, en, h1, fun B1 H1 w a1 r1 => ?_⟩
      obtain ⟨a, rfl, dd⟩ := isDc_ok a1.en r1.ra hd
      refine ⟨a, rfl, dd, B1, e1, _, _, a1.en, h2, fun B2 H2 v a2 r2 => ⟨B2, e2, _, _, a2.en, h3, fun B3 H3 z a3 r3 => ?_⟩⟩
      have a23 := a2.trans a1.en a3
      obtain ⟨a', e', g⟩ := rGet_ok a3.en (r1.ra.later a1.en a23) ((pdOf_rp r2 hy).grow (a3.grow a2.en)) hg
      cases e'
      exact ⟨B3, ov, x, g, pdOf_rp r3 hx, fun w r => q B3 H3 w ((a1.trans en a2).trans en a3) r⟩
    · cases ev
  · cases ev
end
end T3

end
section
set_option linter.all false
set_option autoImplicit false
set_option Elab.async false
set_option maxRecDepth 100000
namespace T3
open PySem L2
variable [TabL]
section
variable {X : Cx} {a b : Expr} {fa fb : EE} {p p2 pos pos2 : Pos}
end
end T3

end
section
set_option linter.all false
set_option autoImplicit false
set_option Elab.async false
set_option maxRecDepth 100000
namespace T3
open PySem L2
variable [TabL]
end T3

end
section
set_option linter.all false
set_option autoImplicit false
set_option Elab.async false
set_option maxRecDepth 100000
namespace T3
open PySem L2
variable [TabL]
end T3

end
section
set_option linter.all false
set_option autoImplicit false
set_option Elab.async false
namespace T3
open PySem L2
variable [TabL]
end T3

end
section
set_option linter.all false
set_option autoImplicit false
set_option Elab.async false
set_option maxRecDepth 100000
namespace T3
open PySem L2
open Sem (wp)
open AutoSeq1 (wpAny_loadPart')
variable [TabL]
end T3

end
section
set_option linter.all false
set_option autoImplicit false
set_option Elab.async false
namespace T3
open PySem L2 PyProof.Rows
variable [TabL]
theorem len_same {a b : List Int} (h1 : a.Nodup) (h2 : b.Nodup) (h : ∀ x, x ∈ a ↔ x ∈ b) : a.length = b.length :=
  Nat.le_antisymm (h1.length_le_of_subset fun x hx => (h x).mp hx) (h2.length_le_of_subset fun x hx => (h x).mpr hx)
def tLST (K : PySem.W.Frag) (ta : TE) : TE := fun σ H Q => ta σ H fun x H1 => ∃ (t : Addr) (ns : List Int), x = V.ref t ∧ SqT K H1 t (ns.map V.int) ∧ ns.length < 64 ∧ ns.Nodup ∧ Q (.int ns.length) H1
theorem pe_lst {X : Cx} {a : Expr} {ta : TE} {p p2 q pos : Pos} (hc : X.calm = true) (hg : Gl X "len") (hm : X.mg "len" = none) (hg2 : Gl X "set") (hm2 : X.mg "set" = none) (ha : PE X a ta)
    (na : starEach [a] X.env = (false, eval a X.env) :: starEach [] X.env := by rfl) : PE X (.Call (.Name "len" p) [.Call (.Name "set" p2) [a] [] q] [] pos) (tLST X.K ta) := by
  refine ⟨fun pins s σ H Q I h => Call_ (ld_blt I hg hm PySem.boot_len ?_)⟩
  refine PyProof.Rows.callWith_builtin1 (PyProof.Rows.args_cons (Call_ (ld_blt I hg2 hm2 PyProof.Rows.boot_set ?_)) rfl) rfl rfl
  refine PyProof.Rows.callWith_type1 (PyProof.Rows.args_cons (thn (ha.run pins s σ H _ I h) fun v s1 ⟨x, H1, I1, r1, k1⟩ => PyProof.Rows.args_nil ?_) na) na rfl
  obtain ⟨t, ns, rfl, hq, b, nd, k1⟩ := k1
  cases r1
  obtain ⟨its, r, pt, hz⟩ := I1.tuple hq
  refine call_set_tupI ns (I1.ok.hd hc) (show s1.heap.IsTuple t its.toArray from pt) (by simpa using r.ints) (by unfold scanBound; omega) fun h' tk c R1 hcn hk => ?_
  obtain ⟨o, es, ep, z, ho, hex, hd, g, nk, hm3, hb, hf, hn, _, _⟩ := R1
  have ec : c = ns.length := by
    have := len_same nk nd fun x => by rw [← hm3 x]; simp
    rw [List.length_map, Array.length_toList, hn] at this
    exact this
  subst ec
  refine PyProof.Rows.args_nil ?_
  have I2 : Inv X pins σ H1 { s1 with heap := h', toks := tk } := I1.kept fun b o e => hk b o e
  exact call_len_set ho hex hd hf (by rw [hn]; omega) ⟨.int ns.length, H1, I2.tok _, ⟨_, by rw [hn]⟩, k1⟩
end T3

end
section
set_option linter.all false
set_option autoImplicit false
set_option Elab.async false
namespace T3
open PySem L2
variable [TabL]
end T3

end
section
set_option linter.all false
set_option autoImplicit false
set_option Elab.async false
namespace T3
open PySem PyProof.Rows
variable [TabL]
end T3
namespace T3
open PySem L2
variable [TabL]
end T3

end
section
set_option linter.all false
set_option autoImplicit false
set_option Elab.async false
namespace T3
open PySem L2
variable [TabL]
end T3

end
section
set_option linter.all false
set_option autoImplicit false
set_option Elab.async false
namespace T3
open PySem PyProof.Rows TS
variable [TabL]
end T3
namespace T3
open PySem L2
variable [TabL]
end T3

end
section
set_option linter.all false
set_option autoImplicit false
set_option Elab.async false
namespace T3
open PySem L2
variable [TabL]
end T3

end
section
set_option linter.all false
set_option autoImplicit false
set_option Elab.async false
namespace T3
open PySem PySem.Spec PySem.W L2 PyProof.Rows
variable [TabL]
end T3
namespace T3
open PySem L2
variable [TabL]
end T3

end
section
set_option linter.all false
set_option autoImplicit false
set_option Elab.async false
set_option maxRecDepth 100000
set_option maxHeartbeats 1000000
namespace ZM
open PySem RZ
open PySem.Sem (wp)
def Stp (prog : Program) (w : World) (it : Addr) (P : Heap → Prop) (x : Value) (R : Heap → Prop) : Prop :=
  ∀ {A : Around} {E : Value → Shared → Prop} {Q : Value → Shared → Prop} {s : Shared}, P s.heap → (∀ h', R h' → Heap.SameBut it s.heap h' → Q x { s with heap := h' }) → wpAny (model prog w) A (Builtin.SmallTypes.nextOf (.ref it)) Q E s
def Fin (prog : Program) (w : World) (it : Addr) (P : Heap → Prop) : Prop :=
  ∀ {A : Around} {E : Value → Shared → Prop} {Q : Value → Shared → Prop} {s : Shared}, A.handled = none → P s.heap → (∀ h' e, Heap.ExtBut it s.heap h' → (∃ o, h'.get? e = some o ∧ o.cls = .type "StopIteration") → E (.ref e) { s with heap := h' }) → wpAny (model prog w) A (Builtin.SmallTypes.nextOf (.ref it)) Q E s
def Of (it l : Addr) (P : Heap → Prop) : Prop := ∀ b h h', Heap.ExtBut b h h' → it ≠ b → l ≠ b → P h → P h'
section
variable {prog : Program} {w : World} {A : Around} {E : Value → Shared → Prop} {s : Shared}
theorem stp_list {it l : Addr} {i : Nat} {xs : Array Value} {x : Value} (hx : xs[i]? = some x) : Stp prog w it (fun h => h.IsListIter it l i ∧ h.IsList l xs) x (fun h => h.IsListIter it l (i + 1)) :=
  fun p q => wpAny_nextOf_list_item p.1 p.2 hx q
theorem stp_tup {it l : Addr} {i : Nat} {xs : Array Value} {x : Value} (hx : xs[i]? = some x) : Stp prog w it (fun h => h.IsTupleIter it l i ∧ h.IsTuple l xs) x (fun h => h.IsTupleIter it l (i + 1)) :=
  fun p q => nextOf_tuple_item p.1 p.2 hx q
theorem fin_list {it l : Addr} {i : Nat} {xs : Array Value} (hx : xs[i]? = none) : Fin prog w it (fun h => h.IsListIter it l i ∧ h.IsList l xs) :=
  fun hh p q => wpAny_nextOf_list_end hh p.1 p.2 hx q
theorem fin_tup {it l : Addr} {i : Nat} {xs : Array Value} (hx : xs[i]? = none) : Fin prog w it (fun h => h.IsTupleIter it l i ∧ h.IsTuple l xs) :=
  fun hh p q => nextOf_tuple_end hh p.1 p.2 hx q
theorem of_list {it l : Addr} {i : Nat} {xs : Array Value} : Of it l (fun h => h.IsListIter it l i ∧ h.IsList l xs) := fun b h h' e n1 n2 p => ⟨p.1.extBut e n1, p.2.extBut e n2⟩
theorem of_tup {it l : Addr} {i : Nat} {xs : Array Value} : Of it l (fun h => h.IsTupleIter it l i ∧ h.IsTuple l xs) := fun b h h' e n1 n2 p => ⟨p.1.extBut e n1, p.2.extBut e n2⟩
theorem of_list1 {it l : Addr} {i : Nat} : ∀ b h h', Heap.ExtBut b h h' → it ≠ b → h.IsListIter it l i → h'.IsListIter it l i := fun b h h' e n1 p => p.extBut e n1
theorem of_tup1 {it l : Addr} {i : Nat} : ∀ b h h', Heap.ExtBut b h h' → it ≠ b → h.IsTupleIter it l i → h'.IsTupleIter it l i := fun b h h' e n1 p => p.extBut e n1
end
end ZM

end
section
set_option linter.all false
set_option autoImplicit false
set_option Elab.async false
set_option maxRecDepth 100000
set_option maxHeartbeats 1000000
namespace ZM
open PySem PySem.Spec PyProof.Rows L2 RZ
end ZM
namespace T3
open PySem L2
variable [TabL]
end T3

end
section
set_option linter.all false
set_option autoImplicit false
set_option Elab.async false
namespace T3
open PySem L2
variable [TabL]
end T3

end
section
set_option linter.all false
set_option autoImplicit false
set_option Elab.async false
namespace T3
open PySem L2
variable [TabL]
def wS (f : SS) (env : Sl) (P : Fl → Sl → Prop) : Prop := match f env with
  | none => False
  | some p => P p.1 p.2
theorem wS_ex {f : SS} {env : Sl} {P : Fl → Sl → Prop} : wS f env P ↔ ∃ fl e, f env = some (fl, e) ∧ P fl e := by
  unfold wS
  constructor
  · intro h
    split at h
    · exact h.elim
    · rename_i p hp
      exact ⟨p.1, p.2, hp, h⟩
  · rintro ⟨fl, e, h1, h2⟩
    rw [h1]
    exact h2
def Go (g : SS) (P : Fl → Sl → Prop) (e : Sl) : Prop := wS g e P
def nxt (K : Sl → Prop) (P : Fl → Sl → Prop) : Fl → Sl → Prop
  | .nx, e => K e
  | .bk, e => P .bk e
  | .ct, e => P .ct e
  | .rt d, e => P (.rt d) e
def wF (F : FnD) (as : List S) (Q : R → List S → Prop) : Prop := ∃ r as', F as = some (r, as') ∧ Q r as'
def retP (as : List S) (Q : R → List S → Prop) : Fl → Sl → Prop
  | .rt d, e => ∃ d' as', outR e d = some d' ∧ finals as e = some as' ∧ Q d' as'
  | .nx, e => ∃ as', finals as e = some as' ∧ Q (.pd .none) as'
  | .bk, _ => False
  | .ct, _ => False
def lpP (I : Sl → Prop) (P : Fl → Sl → Prop) : Fl → Sl → Prop
  | .nx, e => I e
  | .ct, e => I e
  | .bk, e => P .nx e
  | .rt d, e => P (.rt d) e
section
variable {f g : SS} {env : Sl} {P P' : Fl → Sl → Prop} {K : Sl → Prop} {e : Sl}
theorem go : Go g P e ↔ wS g e P := Iff.rfl
@[simp] theorem nxt_nx : nxt K P .nx e = K e := rfl
@[simp] theorem nxt_rt {d : R} : nxt K P (.rt d) e = P (.rt d) e := rfl
@[simp] theorem lpP_nx : lpP K P .nx e = K e := rfl
@[simp] theorem lpP_ct : lpP K P .ct e = K e := rfl
@[simp] theorem lpP_bk : lpP K P .bk e = P .nx e := rfl
@[simp] theorem lpP_rt {d : R} : lpP K P (.rt d) e = P (.rt d) e := rfl
@[simp] theorem retP_rt {as : List S} {Q : R → List S → Prop} {d : R} : retP as Q (.rt d) e = ∃ d' as', outR e d = some d' ∧ finals as e = some as' ∧ Q d' as' := rfl
@[simp] theorem retP_nx {as : List S} {Q : R → List S → Prop} : retP as Q .nx e = ∃ as', finals as e = some as' ∧ Q (.pd .none) as' := rfl
theorem wS.imp (h : wS f env P) (i : ∀ fl e, P fl e → P' fl e) : wS f env P' := let ⟨fl, e, a, b⟩ := wS_ex.mp h; wS_ex.mpr ⟨fl, e, a, i fl e b⟩
theorem wS_of {fl : Fl} (h : f env = some (fl, e)) (q : P fl e) : wS f env P := wS_ex.mpr ⟨fl, e, h, q⟩
theorem wS_seq (h : wS f env (nxt (Go g P) P)) : wS (sSeq f g) env P := by
  rw [wS_ex] at h ⊢
  obtain ⟨fl, e, h1, h2⟩ := h
  cases fl with
  | nx =>
    obtain ⟨fl, e', h3, h4⟩ := wS_ex.mp h2
    exact ⟨fl, e', by simp [h1, h3], h4⟩
  | bk => exact ⟨_, _, by simp [h1], h2⟩
  | ct => exact ⟨_, _, by simp [h1], h2⟩
  | rt d => exact ⟨_, _, by simp [h1], h2⟩
def gW (g : GG) (x : PyData) (e : Sl) (K : Sl → Prop) : Prop := match g x e with
  | none => False
  | some e1 => K e1
theorem gW_ex {g : GG} {x : PyData} {e : Sl} {K : Sl → Prop} (h : gW g x e K) : ∃ e1, g x e = some e1 ∧ K e1 := by
  unfold gW at h
  split at h
  · exact h.elim
  · rename_i e1 h1
    exact ⟨e1, h1, h⟩
theorem wS_forL {g : GG} {body : SS} (I : List PyData → Sl → Prop) (hs : ∀ x rest e, I (x :: rest) e → gW g x e (Go body (lpP (I rest) P))) (he : ∀ e, I [] e → P .nx e) : ∀ xs e, I xs e → wS (forL g body xs) e P
  | [], e, h => wS_of (fl := .nx) rfl (he e h)
  | x :: xs, e, h => by
    obtain ⟨e1, h1, hw⟩ := gW_ex (hs x xs e h)
    obtain ⟨fl, e2, h2, h3⟩ := wS_ex.mp hw
    cases fl with
    | nx =>
      obtain ⟨fl, e3, h4, h5⟩ := wS_ex.mp (wS_forL I hs he xs e2 h3)
      exact wS_of (by simp only [forL, h1, h2, h4]) h5
    | ct =>
      obtain ⟨fl, e3, h4, h5⟩ := wS_ex.mp (wS_forL I hs he xs e2 h3)
      exact wS_of (by simp only [forL, h1, h2, h4]) h5
    | bk => exact wS_of (fl := .nx) (by simp only [forL, h1, h2]) h3
    | rt d => exact wS_of (fl := .rt d) (by simp only [forL, h1, h2]) h3
theorem wS_for {it : EI} {g : GG} {body : SS} {xs : List PyData} {lk : Lk} (hi : it env = some (xs, lk, e)) (I : List PyData → Sl → Prop) (h0 : I xs e)
    (hs : ∀ x rest e, I (x :: rest) e → gW g x e (Go body (lpP (I rest) fun fl e => P fl (unlock lk e)))) (he : ∀ e, I [] e → P .nx (unlock lk e)) : wS (sFor it g body) env P := by
  obtain ⟨fl, e', h1, h2⟩ := wS_ex.mp (wS_forL (P := fun fl e => P fl (unlock lk e)) I hs he xs e h0)
  exact wS_of (by simp only [z_for, hi, h1]) h2
def bW (c : EB) (e : Sl) (K L : Sl → Prop) : Prop := match c e with
  | none => False
  | some p => if p.1 = true then K p.2 else L p.2
theorem bW_ex {c : EB} {e : Sl} {K L : Sl → Prop} (h : bW c e K L) : ∃ b e1, c e = some (b, e1) ∧ if b = true then K e1 else L e1 := by
  unfold bW at h
  split at h
  · exact h.elim
  · rename_i p h1
    exact ⟨p.1, p.2, h1, h⟩
theorem wS_whileN {c : EB} {body : SS} (I : Nat → Sl → Prop) (hs : ∀ n e, I n e → bW c e (fun e1 => wS body e1 (lpP (fun e => ∃ m, m < n ∧ I m e) P)) (P .nx)) : ∀ n e, I n e → ∃ N fl e', whileN c body N e = some (fl, e') ∧ P fl e' := by
  intro n
  induction n using Nat.strongRecOn with
  | _ n ih =>
    intro e h
    obtain ⟨b, e1, h1, h2⟩ := bW_ex (hs n e h)
    cases b with
    | false => exact ⟨1, .nx, e1, by simp only [whileN, h1], h2⟩
    | true =>
      obtain ⟨fl, e2, h3, h4⟩ := wS_ex.mp h2
      cases fl with
      | nx =>
        obtain ⟨m, hm, hI⟩ := h4
        obtain ⟨N, fl, e3, h5, h6⟩ := ih m hm e2 hI
        exact ⟨N + 1, fl, e3, by simp only [whileN, h1, h3, h5], h6⟩
      | ct =>
        obtain ⟨m, hm, hI⟩ := h4
        obtain ⟨N, fl, e3, h5, h6⟩ := ih m hm e2 hI
        exact ⟨N + 1, fl, e3, by simp only [whileN, h1, h3, h5], h6⟩
      | bk => exact ⟨1, .nx, e2, by simp only [whileN, h1, h3], h4⟩
      | rt d => exact ⟨1, .rt d, e2, by simp only [whileN, h1, h3], h4⟩
theorem wS_while {c : EB} {body : SS} (I : Nat → Sl → Prop) (n : Nat) (h0 : I n env) (hs : ∀ n e, I n e → bW c e (fun e1 => wS body e1 (lpP (fun e => ∃ m, m < n ∧ I m e) P)) (P .nx)) : wS (sWhile c body) env P := by
  obtain ⟨N, fl, e', h1, h2⟩ := wS_whileN I hs n env h0
  exact wS_of (sWhile_of h1) h2
theorem wF_run {n : Nat} {b : SS} {as : List S} {Q : R → List S → Prop} (h : startE n as = e) (q : wS b e (retP as Q)) : wF (runFn n b) as Q := by
  obtain ⟨fl, e', h1, h2⟩ := wS_ex.mp q
  cases fl with
  | nx =>
    obtain ⟨as', h3, h4⟩ := h2
    exact ⟨_, _, by rw [run_of h, h1]; simp only [h3], h4⟩
  | rt d =>
    obtain ⟨d', as', h3, h4, h5⟩ := h2
    exact ⟨_, _, by rw [run_of h, h1]; simp only [h3, h4], h5⟩
  | bk => exact h2.elim
  | ct => exact h2.elim
end
end T3

end
section
set_option linter.all false
set_option autoImplicit false
set_option Elab.async false
namespace T3
open PySem L2
variable [TabL]
section
variable (env : Sl) (fa fb : EE) (f : EA) (x y : PyData) (j : Nat) (ds : List R) (neg : Bool)
@[simp] theorem z_dg : eDg fa fb env = (match fa env with
  | some (.var j, e1) => match fb e1 with
    | some (d, e2) => match pdOf d with
      | some y => match dGet e2 j y with
        | some (some z) => some (.pd z, e2)
        | _ => none
      | none => none
    | none => none
  | _ => none) := rfl
@[simp] theorem z_pdOf1 : pdOf (.pd x) = some x := rfl
@[simp] theorem z_pdOf2 (xs : List PyData) : pdOf (.nt xs) = some (.tuple xs) := rfl
@[simp] theorem z_dGet : dGet env j y = (match env[j]? with
  | some (some (.mu _ c)) => cGet c y
  | _ => none) := rfl
@[simp] theorem z_dPut : dPut env j y x = (match env[j]? with
  | some (some (.mu m c)) => if m = .fro then none else match cPut c y x with
    | some c' => some (env.set j (some (.mu m c')))
    | none => none
  | _ => none) := rfl
@[simp] theorem z_gDs : gDs fa fb x env = (match fa env with
  | some (.var j, e1) => match fb e1 with
    | some (d, e2) => match pdOf d with
      | some y => dPut e2 j y x
      | none => none
    | none => none
  | _ => none) := rfl
end
end T3

end
section
set_option linter.all false
set_option autoImplicit false
set_option Elab.async false
namespace MM
open PySem L2 T3
abbrev Cell := Int × Int
abbrev Ly := Int × Int × Int
inductive Dir where | n | e | s | w
  deriving DecidableEq
def Dir.code : Dir → Nat
  | .n => 110
  | .e => 101
  | .s => 115
  | .w => 119
def chS (d : Dir) : Str := ⟨#[d.code]⟩
def rowS (ds : List Dir) : Str := ⟨(ds.map Dir.code).toArray⟩
def lyD (l : Ly) : PyData := .tuple [.int l.1, .int l.2.1, .int l.2.2]
def stD (c : Cell) (l : Ly) : PyData := .tuple [clD c, lyD l]
def stepC (c : Cell) : Dir → Cell
  | .n => (c.1, c.2 + 1)
  | .e => (c.1 + 1, c.2)
  | .s => (c.1, c.2 - 1)
  | .w => (c.1 - 1, c.2)
def roll (l : Ly) : Dir → Ly
  | .n => (l.2.1, 5 - l.1, l.2.2)
  | .s => (5 - l.2.1, l.1, l.2.2)
  | .e => (l.2.2, l.2.1, 5 - l.1)
  | .w => (5 - l.2.2, l.2.1, l.1)
def lyings : List Ly := [(0, 1, 2), (0, 2, 4), (0, 3, 1), (0, 4, 3), (1, 0, 3), (1, 2, 0), (1, 3, 5), (1, 5, 2), (2, 0, 1), (2, 1, 5), (2, 4, 0), (2, 5, 4), (3, 0, 4), (3, 1, 0), (3, 4, 5), (3, 5, 1), (4, 0, 2), (4, 2, 5), (4, 3, 0), (4, 5, 3), (5, 1, 3), (5, 2, 1), (5, 3, 4), (5, 4, 2)]
theorem roll_mem : ∀ l ∈ lyings, ∀ d, roll l d ∈ lyings := by
  intro l hl d
  cases d <;> revert l <;> decide
theorem signs_row (ds : List Dir) : signs (rowS ds) = ds.map fun d => .str (chS d) := by
  simp [signs, rowS, chS]
theorem chS_n : chS .n = "n" := by decide
theorem chS_e : chS .e = "e" := by decide
theorem chS_s : chS .s = "s" := by decide
theorem chS_w : chS .w = "w" := by decide
theorem chS_inj {a b : Dir} (h : chS a = chS b) : a = b := by
  cases a <;> cases b <;> first | rfl | (exfalso; revert h; decide)
theorem eqv_int (i j : Int) : PyData.eqv (.int i) (.int j) = decide (i = j) := by
  simp only [PyData.eqv]; by_cases h : i = j <;> simp [h]
theorem eqv_cell (c d : Cell) : PyData.eqv (clD c) (clD d) = decide (c = d) := by
  simp only [clD, PyData.eqv, PyData.eqvAll]
  by_cases h1 : c.1 = d.1 <;> by_cases h2 : c.2 = d.2 <;> simp [h1, h2, Prod.ext_iff]
theorem eqv_ly (c d : Ly) : PyData.eqv (lyD c) (lyD d) = decide (c = d) := by
  simp only [lyD, PyData.eqv, PyData.eqvAll]
  by_cases h1 : c.1 = d.1 <;> by_cases h2 : c.2.1 = d.2.1 <;> by_cases h3 : c.2.2 = d.2.2 <;> simp [h1, h2, h3, Prod.ext_iff]
theorem eqv_ch (a b : Dir) : PyData.eqv (.str (chS a)) (.str (chS b)) = decide (a = b) := by
  simp only [PyData.eqv]
  by_cases h : a = b
  · simp [h]
  · simp [h]
    intro z
    exact h (chS_inj z)
theorem sh_int (i : Int) : SeqAt.shaped (.int i) = true := by simp [SeqAt.shaped, PyData.canLay0, PyData.depth]
theorem sh_ch (d : Dir) : SeqAt.shaped (.str (chS d)) = true := by cases d <;> simp [SeqAt.shaped, PyData.canLay0, PyData.depth, PyData.strOk, chS, Dir.code]
theorem sh_cell (c : Cell) : SeqAt.shaped (clD c) = true := by simp [clD, SeqAt.shaped, PyData.canLay0, PyData.canLayAll0, PyData.depth, PyData.depthAll]
theorem sh_ly (c : Ly) : SeqAt.shaped (lyD c) = true := by simp [lyD, SeqAt.shaped, PyData.canLay0, PyData.canLayAll0, PyData.depth, PyData.depthAll]
theorem lay_map {α : Type} (f : α → PyData) (h : ∀ a, (f a).canLay0 = true) : ∀ l : List α, PyData.canLayAll0 (l.map f) = true
  | [] => by simp [PyData.canLayAll0]
  | a :: l => by simp [PyData.canLayAll0, h a, lay_map f h l]
theorem depth_map {α : Type} (f : α → PyData) (k : Nat) (h : ∀ a, (f a).depth ≤ k) : ∀ l : List α, PyData.depthAll (l.map f) ≤ k
  | [] => by simp [PyData.depthAll]
  | a :: l => by
    have h1 := h a
    have h2 := depth_map f k h l
    simp only [List.map_cons, PyData.depthAll]
    omega
theorem sh_tup {α : Type} (f : α → PyData) (h1 : ∀ a, (f a).canLay0 = true) (h2 : ∀ a, (f a).depth ≤ 60) (l : List α) : SeqAt.shaped (.tuple (l.map f)) = true := by
  have a := lay_map f h1 l
  have b := depth_map f 60 h2 l
  simp only [SeqAt.shaped, PyData.canLay0, PyData.depth, a, Bool.true_and, decide_eq_true_eq]
  exact decide_eq_true (by omega)
theorem lcL_pure {g : GG} {t : EB} {f : EE} {vs : List Nat} {env : Sl} {α : Type} {p : α → Bool} {y : α → PyData} {q : α → PyData} : ∀ (as : List α) (acc : List PyData),
    (∀ a ∈ as, ∃ e1 e2, g (q a) (wipeE env vs) = some e1 ∧ t e1 = some (p a, e2) ∧ (p a = true → ∃ d e3, f e2 = some (d, e3) ∧ data1 d = some (y a) ∧ unwipe env e3 vs = env) ∧ (p a = false → unwipe env e2 vs = env)) →
    lcL g t f vs (as.map q) env acc = some (acc ++ (as.filter p).map y, env)
  | [], acc, _ => by simp [lcL]
  | a :: as, acc, h => by
    obtain ⟨e1, e2, h1, h2, h3, h4⟩ := h a (by simp)
    have ih := fun acc => lcL_pure (g := g) (t := t) (f := f) (vs := vs) (env := env) (p := p) (y := y) (q := q) as acc (fun b hb => h b (by simp [hb]))
    rw [List.map_cons]
    unfold lcL
    rw [h1]
    simp only [h2]
    cases hp : p a with
    | true =>
      obtain ⟨d, e3, k1, k2, k3⟩ := h3 hp
      simp only [k1, k2, k3, if_true, ih, List.filter_cons, hp, List.map_cons, List.append_assoc, List.cons_append, List.nil_append]
    | false =>
      simp only [h4 hp, ih, List.filter_cons, hp]
      simp
theorem lcL_all {g : GG} {f : EE} {vs : List Nat} {env : Sl} {α : Type} {y : α → PyData} {q : α → PyData} (as : List α) 
    (h : ∀ a ∈ as, ∃ e1 d e3, g (q a) (wipeE env vs) = some e1 ∧ f e1 = some (d, e3) ∧ data1 d = some (y a) ∧ unwipe env e3 vs = env) :
    lcL g bYes f vs (as.map q) env [] = some (as.map y, env) := by
  have := lcL_pure (g := g) (t := bYes) (f := f) (vs := vs) (env := env) (p := fun _ => true) (y := y) (q := q) as [] (fun a ha => by
    obtain ⟨e1, d, e3, h1, h2, h3, h4⟩ := h a ha
    exact ⟨e1, e1, h1, rfl, fun _ => ⟨d, e3, h2, h3, h4⟩, fun z => by simp at z⟩)
  rw [this, List.filter_eq_self.mpr (fun _ _ => rfl)]
  rfl
theorem bools_of {α : Type} (f : α → Bool) : ∀ l : List α, bools? (l.map fun a => .bool (f a)) = some (l.map f)
  | [] => rfl
  | a :: l => by simp [bools?, bools_of f l]
theorem ints_of : ∀ l : List Int, ints? (l.map .int) = some l
  | [] => rfl
  | a :: l => by simp [ints?, ints_of l]
end MM

end
section
set_option linter.all false
set_option autoImplicit false
set_option Elab.async false
namespace MM
open PySem L2 T3
structure RD (p k : Nat) (d : PyData) : Prop where
  lay : d.canLay0 = true
  dep : d.depth ≤ p
  shw : d.showable = true
  lvs : d.leavesShort 13 = true
  wt : d.weight ≤ k
theorem RD.int {i : Int} (h1 : -999999999999 ≤ i) (h2 : i ≤ 999999999999) : RD 0 40 (.int i) := by
  have hl : i.natAbs.log2 ≤ 39 := by
    by_cases h0 : i.natAbs = 0
    · rw [h0]; decide
    · have : i.natAbs.log2 < 40 := (Nat.log2_lt h0).mpr (by omega)
      omega
  refine ⟨by simp [PyData.canLay0], by simp [PyData.depth], ?_, ?_, ?_⟩
  · simp only [PyData.showable, decide_eq_true_eq]; omega
  · simp only [PyData.leavesShort, decide_eq_true_eq]; exact PyData.shown_int_le2 h1 h2
  · simp only [PyData.weight]; split <;> omega
theorem RD.none : RD 0 40 .none := ⟨by simp [PyData.canLay0], by simp [PyData.depth], by simp [PyData.showable], by simp [PyData.leavesShort], by simp [PyData.weight]⟩
theorem RD.bool (b : Bool) : RD 0 40 (.bool b) := ⟨by simp [PyData.canLay0], by simp [PyData.depth], by simp [PyData.showable], by simp [PyData.leavesShort], by simp [PyData.weight]⟩
theorem RD.ok {p k : Nat} {d : PyData} (h : RD p k d) (h1 : p ≤ 60) (h2 : k ≤ 60000) : ShOk d := by
  have := h.dep
  have hw := h.wt
  refine ⟨?_, h.shw, ?_⟩
  · unfold SeqAt.shaped
    rw [h.lay, Bool.true_and]
    exact decide_eq_true (by omega)
  · have := PyData.shown_le 13 (by omega) d h.lvs
    omega
end MM

end
section
set_option linter.all false
set_option autoImplicit false
set_option Elab.async false
namespace MM
open PySem L2 T3
def itr (m : Nat → Nat) : Nat → Nat → Nat
  | 0, x => x
  | k + 1, x => itr m k (m x)
end MM

end
section
set_option linter.all false
set_option autoImplicit false
set_option Elab.async false
namespace MM
open PySem L2 T3
def orb (m : Nat → Nat) (k x : Nat) : List Nat := (List.range k).map fun t => itr m t x
def PerP (n : Nat) (m : Nat → Nat) (x k : Nat) : Prop := 1 ≤ k ∧ k ≤ n ∧ itr m k x = x ∧ ∀ j, 1 ≤ j → j < k → itr m j x ≠ x
noncomputable def per (n : Nat) (m : Nat → Nat) (x : Nat) : Nat := Classical.epsilon (PerP n m x)
end MM

end
section
set_option linter.all false
set_option autoImplicit false
set_option Elab.async false
namespace MM
open PySem L2 T3
end MM

end
section
set_option linter.all false
set_option autoImplicit false
set_option Elab.async false
namespace MM
open PySem L2 T3
end MM

end
section
set_option linter.all false
set_option autoImplicit false
set_option Elab.async false
set_option maxRecDepth 10000
namespace MM
open PySem L2 T3
def ck (c : Cell) : NestedKey := .tup [.num c.1, .num c.2]
theorem ck_inj {a b : Cell} (h : ck a = ck b) : a = b := by
  obtain ⟨a1, a2⟩ := a
  obtain ⟨b1, b2⟩ := b
  simp [ck] at h
  simp [h]
theorem tk_cell (c : Cell) : tk? (clD c) = some (ck c) := by
  simp [tk?, clD, nk?, nks?, ck, NestedKey.depth, NestedKey.depthAll]
def lcOk (g : GG) (f : EE) (vs : List Nat) (e : Sl) (x y : PyData) : Prop := match g x (wipeE e vs) with
  | none => False
  | some e1 => match f e1 with
    | none => False
    | some p => data1 p.1 = some y ∧ unwipe e p.2 vs = e
theorem lcOk_ex {g : GG} {f : EE} {vs : List Nat} {e : Sl} {x y : PyData} (h : lcOk g f vs e x y) : ∃ e1, g x (wipeE e vs) = some e1 ∧ ∃ p, f e1 = some p ∧ data1 p.1 = some y ∧ unwipe e p.2 vs = e := by
  unfold lcOk at h
  split at h
  · exact h.elim
  · rename_i e1 h1
    split at h
    · exact h.elim
    · rename_i p h2
      exact ⟨e1, h1, p, h2, h⟩
theorem lc_all {it : EI} {g : GG} {f : EE} {vs : List Nat} {env e : Sl} {lk : Lk} {α : Type} {q y : α → PyData} (as : List α) (hi : it env = some (as.map q, lk, e)) (hl : as.length ≤ 1000000) (h : ∀ a ∈ as, lcOk g f vs e (q a) (y a)) :
    eLc it g bYes f vs env = some (.tmp (.ls (as.map y)), unlock lk e) := by
  have := lcL_all (g := g) (f := f) (vs := vs) (env := e) (y := y) (q := q) as fun a ha => by
    obtain ⟨e1, h1, p, h2, h3, h4⟩ := lcOk_ex (h a ha)
    exact ⟨e1, p.1, p.2, h1, h2, h3, h4⟩
  rw [z_lc, hi]
  simp only [List.length_map, hl, if_true, this]
def lcIf (g : GG) (t : EB) (f : EE) (vs : List Nat) (e : Sl) (x : PyData) (b : Bool) (y : PyData) : Prop := match g x (wipeE e vs) with
  | none => False
  | some e1 => match t e1 with
    | none => False
    | some r => r.1 = b ∧ if b = true then match f r.2 with
        | none => False
        | some p => data1 p.1 = some y ∧ unwipe e p.2 vs = e
      else unwipe e r.2 vs = e
theorem lcIf_ex {g : GG} {t : EB} {f : EE} {vs : List Nat} {e : Sl} {x y : PyData} {b : Bool} (h : lcIf g t f vs e x b y) : ∃ e1, g x (wipeE e vs) = some e1 ∧ ∃ r, t e1 = some r ∧ r.1 = b ∧ if b = true then ∃ q, f r.2 = some q ∧ data1 q.1 = some y ∧ unwipe e q.2 vs = e else unwipe e r.2 vs = e := by
  unfold lcIf at h
  split at h
  · exact h.elim
  · rename_i e1 h1
    split at h
    · exact h.elim
    · rename_i r h2
      refine ⟨e1, h1, r, h2, h.1, ?_⟩
      have h3 := h.2
      split at h3
      · rename_i hb
        rw [if_pos hb]
        split at h3
        · exact h3.elim
        · rename_i p hp
          exact ⟨p, hp, h3⟩
      · rename_i hb
        rw [if_neg hb]
        exact h3
theorem lc_if {it : EI} {g : GG} {t : EB} {f : EE} {vs : List Nat} {env e : Sl} {lk : Lk} {α : Type} {q y : α → PyData} {p : α → Bool} (as : List α) (hi : it env = some (as.map q, lk, e)) (hl : as.length ≤ 1000000) (h : ∀ a ∈ as, lcIf g t f vs e (q a) (p a) (y a)) :
    eLc it g t f vs env = some (.tmp (.ls ((as.filter p).map y)), unlock lk e) := by
  have := lcL_pure (g := g) (t := t) (f := f) (vs := vs) (env := e) (p := p) (y := y) (q := q) as [] fun a ha => by
    obtain ⟨e1, h1, ⟨b, e2⟩, h2, rfl, h3⟩ := lcIf_ex (h a ha)
    refine ⟨e1, e2, h1, h2, fun z => ?_, fun z => ?_⟩
    · rw [if_pos z] at h3
      obtain ⟨q, h4, h5, h6⟩ := h3
      exact ⟨q.1, q.2, h4, h5, h6⟩
    · rw [if_neg (by rw [z]; decide)] at h3; exact h3
  rw [z_lc, hi]
  simp only [List.length_map, hl, if_true, this, List.nil_append]
end MM

end
section
set_option linter.all false
set_option autoImplicit false
set_option Elab.async false
namespace T3
open PySem L2
variable [TabL]
theorem relabel_cf {env : Env} {x : Str} : ∀ {names : List (Str × NameKind)}, (names.lookup x = some .cell ∨ names.lookup x = some .free) →
    ((names.map fun (n, k) => if (k == NameKind.free && env.scope.kind == .function && env.kindOf n == some .cell) then (n, NameKind.cell) else (n, k)).lookup x = some .cell ∨ (names.map fun (n, k) => if (k == NameKind.free && env.scope.kind == .function && env.kindOf n == some .cell) then (n, NameKind.cell) else (n, k)).lookup x = some .free)
  | [], h => by simp at h
  | (n, k) :: r, h => by
    have ih := @relabel_cf env x r
    simp only [List.map_cons]
    cases hx : x == n with
    | true =>
      have h' : k = .cell ∨ k = .free := by simpa [List.lookup_cons, hx] using h
      split
      · left; simp [List.lookup_cons, hx]
      · rcases h' with rfl | rfl
        · left; simp [List.lookup_cons, hx]
        · right; simp [List.lookup_cons, hx]
    | false =>
      have h' : r.lookup x = some .cell ∨ r.lookup x = some .free := by simpa [List.lookup_cons, hx] using h
      split <;> simpa [List.lookup_cons, hx] using ih h'
theorem blk2 {N : List Str} {sc0 scope : Scope} {own : List (Str × Nat)} {a : List (Str × Addr)} {b : Addr} {d : Env} (h : blkC N sc0 scope own = true) : BlkOk N (compEnvC sc0 a b d).scope scope own := by
  have q := blkOk_by h
  exact ⟨q.kind, q.uniq, q.ix, fun y hy e => relabel_cf (q.free y hy e), q.own⟩
def frS : Option S → Bool
  | some (.mu .own _) => true
  | some (.pd _) => true
  | some (.nt _) => true
  | none => true
  | _ => false
@[simp] theorem frS_n : frS none = true := rfl
@[simp] theorem frS_p (x : PyData) : frS (some (.pd x)) = true := rfl
@[simp] theorem frS_t (x : List PyData) : frS (some (.nt x)) = true := rfl
@[simp] theorem frS_o (c : Ct) : frS (some (.mu .own c)) = true := rfl
theorem free_frS {e : Sl} {i : Nat} {s : Option S} (h : e[i]? = some s) : free e i = frS s := by
  unfold free frS
  rw [h]
  rcases s with _ | s
  · rfl
  · cases s with
    | pd x => rfl
    | nt x => rfl
    | mu m c => cases m <;> rfl
theorem free_ne_set {e : Sl} {i j : Nat} {s : Option S} (h : i ≠ j) : free (e.set i s) j = free e j := by
  unfold free
  rw [List.getElem?_set_ne h]
theorem free_eq_set {e : Sl} {i : Nat} {s : Option S} (h : i < e.length) : free (e.set i s) i = frS s := free_frS (by simp [h])
structure Al (k n : Nat) (e : Sl) : Prop where
  len : e.length = n
  fre : ∀ i, k ≤ i → i < n → free e i = true
theorem Al.set {k n i : Nat} {e : Sl} {s : Option S} (h : Al k n e) (q : frS s = true) : Al k n (e.set i s) := by
  refine ⟨by rw [List.length_set, h.len], fun j h1 h2 => ?_⟩
  by_cases z : i = j
  · subst z
    rw [free_eq_set (by rw [h.len]; exact h2)]
    exact q
  · rw [free_ne_set z]
    exact h.fre j h1 h2
theorem Al.low {k n i : Nat} {e : Sl} {s : Option S} (h : Al k n e) (q : i < k) : Al k n (e.set i s) := by
  refine ⟨by rw [List.length_set, h.len], fun j h1 h2 => ?_⟩
  rw [free_ne_set (by omega)]
  exact h.fre j h1 h2
theorem Al.start {n : Nat} (as : List S) (h : as.length ≤ n) : Al as.length n (startE n as) := by
  refine ⟨by simp [startE]; omega, fun i h1 h2 => ?_⟩
  have : (startE n as)[i]? = some none := by
    unfold startE
    rw [List.getElem?_append_right (by simpa using h1), List.length_map, List.getElem?_replicate, if_pos (by omega)]
  rw [free_frS this]
  rfl
structure Kp (e e' : Sl) (vs : List Nat) : Prop where
  len : e'.length = e.length
  at_ : ∀ i, i ∉ vs → e'[i]? = e[i]?
@[simp] theorem Kp.refl (e : Sl) (vs : List Nat) : Kp e e vs := ⟨rfl, fun _ _ => rfl⟩
theorem Kp.set {e e' : Sl} {vs : List Nat} {v : Nat} {s : Option S} (h : Kp e e' vs) (m : v ∈ vs) : Kp e (e'.set v s) vs :=
  ⟨by rw [List.length_set, h.len], fun i hi => by
    have ne : v ≠ i := fun z => hi (by rw [← z]; exact m)
    rw [List.getElem?_set_ne ne, h.at_ i hi]⟩
@[simp] theorem Kp.wipe (e : Sl) (vs : List Nat) : Kp e (wipeE e vs) vs := ⟨wipeE_len, fun i hi => wipeE_out hi⟩
theorem Kp.un {e e' : Sl} {vs : List Nat} (h : Kp e e' vs) : unwipe e e' vs = e := by
  have key : ∀ ws, unwipe e e' ws = unwipe e e' ws ∧ ∀ i, (unwipe e e' ws)[i]? = if i ∈ ws then e[i]? else e'[i]? := by
    intro ws
    induction ws with
    | nil => exact ⟨rfl, fun i => by simp [unwipe]⟩
    | cons v ws ih =>
      refine ⟨rfl, fun i => ?_⟩
      have l : (unwipe e e' ws).length = e.length := by rw [unwipe_len, h.len]
      unfold unwipe
      rw [List.getElem?_set]
      by_cases z : v = i
      · subst z
        rw [if_pos rfl, l]
        by_cases y : v < e.length
        · simp [y]
        · simp [y, List.getElem?_eq_none (Nat.le_of_not_lt y)]
      · rw [if_neg z, ih.2 i]
        simp only [List.mem_cons]
        by_cases y : i ∈ ws
        · simp [y]
        · rw [if_neg y, if_neg (by simp [y]; exact fun q => z q.symm)]
  refine List.ext_getElem? fun i => ?_
  rw [(key vs).2 i]
  split
  · rfl
  · rename_i q
    exact h.at_ i q
theorem wipe_at (e : Sl) (i : Nat) : ∀ vs : List Nat, (wipeE e vs)[i]? = if i ∈ vs then (if i < e.length then some none else none) else e[i]?
  | [] => by simp [wipeE]
  | v :: vs => by
    unfold wipeE
    rw [List.getElem?_set, wipe_at e i vs, wipeE_len]
    by_cases z : v = i
    · subst z; simp
    · rw [if_neg z]
      have : i ∈ v :: vs ↔ i ∈ vs := ⟨fun q => (List.mem_cons.mp q).elim (fun y => absurd y.symm z) id, List.mem_cons_of_mem _⟩
      simp [this]
theorem wipe_free {e : Sl} {i : Nat} {vs : List Nat} (h : i ∈ vs) (l : i < e.length) : free (wipeE e vs) i = true := by
  rw [free_frS (s := none) (by rw [wipe_at]; simp [h, l])]
  rfl
def lcO (g : GG) (f : EE) (vs : List Nat) (e : Sl) (x y : PyData) : Prop := match g x (wipeE e vs) with
  | none => False
  | some e1 => match f e1 with
    | none => False
    | some p => data1 p.1 = some y ∧ Kp e p.2 vs
def lcI (g : GG) (t : EB) (f : EE) (vs : List Nat) (e : Sl) (x : PyData) (b : Bool) (y : PyData) : Prop := match g x (wipeE e vs) with
  | none => False
  | some e1 => match t e1 with
    | none => False
    | some r => r.1 = b ∧ if b = true then match f r.2 with
        | none => False
        | some p => data1 p.1 = some y ∧ Kp e p.2 vs
      else Kp e r.2 vs
theorem lcA {it : EI} {g : GG} {f : EE} {vs : List Nat} {env e : Sl} {lk : Lk} {α : Type} {q : α → PyData} {as : List α} (y : α → PyData) (hi : it env = some (as.map q, lk, e)) (hl : as.length ≤ 1000000) (h : ∀ a ∈ as, lcO g f vs e (q a) (y a)) :
    eLc it g bYes f vs env = some (.tmp (.ls (as.map y)), unlock lk e) :=
  MM.lc_all as hi hl fun a ha => by
    have := h a ha
    unfold lcO at this
    unfold MM.lcOk
    split
    · rename_i z; rw [z] at this; exact this
    · rename_i e1 z
      rw [z] at this
      simp only at this
      split
      · rename_i z2; rw [z2] at this; exact this
      · rename_i p z2
        rw [z2] at this
        exact ⟨this.1, this.2.un⟩
theorem lcF {it : EI} {g : GG} {t : EB} {f : EE} {vs : List Nat} {env e : Sl} {lk : Lk} {α : Type} {q : α → PyData} {as : List α} (p : α → Bool) (y : α → PyData) (hi : it env = some (as.map q, lk, e)) (hl : as.length ≤ 1000000) (h : ∀ a ∈ as, lcI g t f vs e (q a) (p a) (y a)) :
    eLc it g t f vs env = some (.tmp (.ls ((as.filter p).map y)), unlock lk e) :=
  MM.lc_if as hi hl fun a ha => by
    have := h a ha
    unfold lcI at this
    unfold MM.lcIf
    split
    · rename_i z; rw [z] at this; exact this
    · rename_i e1 z
      rw [z] at this
      simp only at this
      split
      · rename_i z2; rw [z2] at this; exact this
      · rename_i r z2
        rw [z2] at this
        simp only at this
        refine ⟨this.1, ?_⟩
        have t2 := this.2
        split
        · rename_i hb
          rw [if_pos hb] at t2
          split
          · rename_i z3; rw [z3] at t2; exact t2
          · rename_i p z3
            rw [z3] at t2
            exact ⟨t2.1, t2.2.un⟩
        · rename_i hb
          rw [if_neg hb] at t2
          exact t2.un
end T3

end
section
set_option linter.all false
set_option autoImplicit false
set_option Elab.async false
set_option maxRecDepth 10000
namespace MM
open PySem L2 T3
structure Pm (n : Nat) (m : Nat → Nat) : Prop where
  lt : ∀ j, j < n → m j < n
  inj : ∀ i j, i < n → j < n → m i = m j → i = j
section
variable {n : Nat} {m : Nat → Nat}
def Fst (n : Nat) (m : Nat → Nat) (x : Nat) : Prop := x < n ∧ 1 < per n m x ∧ ∀ y ∈ orb m (per n m x) x, x ≤ y
open Classical in
noncomputable def fsts (n : Nat) (m : Nat → Nat) : List Nat := (List.range n).filter fun x => decide (Fst n m x)
open Classical in
noncomputable def left (n : Nat) (m : Nat → Nat) (F : List Nat) : List Nat := (List.range n).filter fun j => decide (∃ x ∈ F, j ∈ orb m (per n m x) x)
noncomputable def ord (n : Nat) (m : Nat → Nat) : Nat := ((fsts n m).map (per n m)).foldl Nat.lcm 1
end
end MM

end
section
set_option linter.all false
set_option autoImplicit false
set_option Elab.async false
set_option maxRecDepth 10000
namespace MM
open PySem L2 T3
section
variable {n : Nat} {m : Nat → Nat}
end
end MM

end
section
set_option linter.all false
set_option autoImplicit false
set_option Elab.async false
namespace MM
end MM

end
section
set_option linter.all false
set_option autoImplicit false
set_option Elab.async false
namespace MM
open PySem L2 T3
section
variable {n : Nat} {m : Nat → Nat}
end
structure Cj (n : Nat) (m : Nat → Nat) (n' : Nat) (m' : Nat → Nat) (A : Nat → Nat) : Prop where
  p : Pm n m
  p' : Pm n' m'
  lt : ∀ j, j < n → A j < n'
  inj : ∀ i j, i < n → j < n → A i = A j → i = j
  cm : ∀ j, j < n → m' (A j) = A (m j)
  fx : ∀ y, y < n' → (∀ j, j < n → A j ≠ y) → m' y = y
section
variable {n n' : Nat} {m m' A : Nat → Nat}
end
end MM

end
section
set_option linter.all false
set_option autoImplicit false
set_option Elab.async false
namespace T3
open PySem L2
variable [TabL]
structure Pk where
  a : Int
  b : Int
  t : Nat
def penK (p : Pk) : Ct := .ls [.int p.a, .int p.b, .int (p.t : Nat)]
def upD (n : Nat) : List PyData := (List.range n).map fun j => .int ((j : Nat) : Int)
theorem upD_len (n : Nat) : (upD n).length = n := by simp [upD]
theorem rg1_up {f : EA} {env e : Sl} {n : Nat} (h : f env = some ([.pd (.int (n : Nat))], e)) (hn : n ≤ 1000) : iRg1 f env = some (upD n, none, e) := by
  have b : RgI1 (n : Int) := by
    unfold RgI1
    have h1 : (-(2 ^ 62) : Int) ≤ 0 := by decide
    have h2 : (1000 : Int) < 2 ^ 62 := by decide
    omega
  have u : rgD 0 n 1 = upD n := by simp [rgD, upD]
  unfold iRg1
  rw [h]
  show (if RgI1 (n : Int) then some (rgD 0 (n : Int).toNat 1, none, e) else none) = _
  rw [if_pos b, Int.toNat_natCast, u]
theorem rg1_max {N : Nat} {e : Sl} (ns : List Int) (hN : 1 ≤ N) (hN2 : N ≤ 1000) (h0 : e[0]? = some (some (.pd (.list (ns.map .int))))) :
    iRg1 (eCons (eThen (eCons (eC (.int 1)) (eCons (eThen (eCons (eThen (eCons (eVar 0) eNil) (kE oLen)) (eCons (eC (.int (N : Int))) eNil)) (kE oMin)) eNil)) (kE oMax)) eNil) e = some (upD (max 1 (min ns.length N)), none, e) := by
  have h1 : (if (N : Int) < ns.length then (N : Int) else ns.length) = ((min ns.length N : Nat) : Int) := by split <;> omega
  have h2 : (if ((min ns.length N : Nat) : Int) > 1 then ((min ns.length N : Nat) : Int) else 1) = ((max 1 (min ns.length N) : Nat) : Int) := by split <;> omega
  refine rg1_up (n := max 1 (min ns.length N)) ?_ (by omega)
  simp only [z_cons, z_then, z_c, z_var, h0, z_nil, z_kE, z_ctns1, z_ctns0, z_ctn1, oLen, List.length_map, oMin, h1, oMax, h2]
def TurnP (n C : Nat) (s : PyData) (p : Pk) (fl : Fl) (e : Sl) : Prop := (fl = .nx ∨ fl = .ct) ∧ Al 0 n e ∧ e[0]? = some (some (.pd s)) ∧ ∃ q : Pk, e[2]? = some (some (.mu .own (penK q))) ∧ q.t ≤ p.t + C
theorem fin1 {x : PyData} {e : Sl} (h : e[0]? ≠ none) : finals [.pd x] e = some [.pd x] := by
  cases e with
  | nil => simp at h
  | cons a e => simp
def OutI (n : Nat) (s : PyData) (e : Sl) : Prop := Al 0 n e ∧ e[0]? = some (some (.pd s))
def InI (n C M : Nat) (s : PyData) (rest : List PyData) (e : Sl) : Prop := Al 0 n e ∧ e[0]? = some (some (.pd s)) ∧ ∃ q : Pk, e[2]? = some (some (.mu .own (penK q))) ∧ q.t + C * rest.length ≤ C * M
theorem outer {n N M C : Nat} {fcell fpen : FnD} {BODY : SS} (ns : List Int) (hn4 : 4 ≤ n) (hN : 1 ≤ N) (hN2 : N ≤ 1000) (hM : M ≤ 1000)
    (hcell : ∀ k : Nat, ∃ i, fcell [.pd (.list (ns.map .int)), .pd (.int (k : Nat))] = some (.pd (.int i), [.pd (.list (ns.map .int)), .pd (.int (k : Nat))]))
    (hpen : ∀ i : Int, ∃ p : Pk, p.t = 0 ∧ fpen [.pd (.int i)] = some (.tmp (penK p), [.pd (.int i)]))
    (hbody : ∀ (e : Sl) (p : Pk), Al 0 n e → e[0]? = some (some (.pd (.list (ns.map .int)))) → e[2]? = some (some (.mu .own (penK p))) → p.t ≤ C * M → wS BODY e (TurnP n C (.list (ns.map .int)) p)) :
    ∃ as, runFn n (sSeq (sFor (iRg1 (eCons (eThen (eCons (eC (.int 1)) (eCons (eThen (eCons (eThen (eCons (eVar 0) eNil) (kE oLen)) (eCons (eC (.int (N : Int))) eNil)) (kE oMin)) eNil)) (kE oMax)) eNil)) (gN 1) (sSeq (sSet 2 (eCall fpen (eCons (eCall fcell (eCons (eVar 0) (eCons (eVar 1) eNil))) eNil)))
      (sFor (iRg1 (eCons (eC (.int (M : Int))) eNil)) (gN 3) BODY))) (sRet (eC (.bool true)))) [.pd (.list (ns.map .int))] = some (.pd (.bool true), as) := by
  generalize hs : PyData.list (ns.map .int) = s at *
  have key : wF (runFn n (sSeq (sFor (iRg1 (eCons (eThen (eCons (eC (.int 1)) (eCons (eThen (eCons (eThen (eCons (eVar 0) eNil) (kE oLen)) (eCons (eC (.int (N : Int))) eNil)) (kE oMin)) eNil)) (kE oMax)) eNil)) (gN 1) (sSeq (sSet 2 (eCall fpen (eCons (eCall fcell (eCons (eVar 0) (eCons (eVar 1) eNil))) eNil)))
      (sFor (iRg1 (eCons (eC (.int (M : Int))) eNil)) (gN 3) BODY))) (sRet (eC (.bool true))))) [.pd s] (fun r _ => r = .pd (.bool true)) := by
    have A0 : Al 0 n (startE n [.pd s]) := by
      have a := Al.start (n := n) [.pd s] (by simp; omega)
      refine ⟨a.len, fun i h1 h2 => ?_⟩
      by_cases z : i = 0
      · subst z
        rw [free_frS (s := some (.pd s)) (by simp [startE])]
        rfl
      · exact a.fre i (by simp; omega) h2
    refine wF_run (e := startE n [.pd s]) rfl ?_
    have h0 : (startE n [.pd s])[0]? = some (some (.pd s)) := by simp [startE]
    generalize startE n [.pd s] = e0 at *
    refine wS_seq ?_
    refine wS_for (xs := upD (max 1 (min ns.length N))) (lk := none) (e := e0) (rg1_max ns hN hN2 (by rw [hs]; exact h0)) (fun rest e => (∀ x ∈ rest, ∃ k : Nat, x = .int (k : Nat)) ∧ OutI n s e) ⟨fun x hx => by
      obtain ⟨j, _, rfl⟩ := List.mem_map.mp hx; exact ⟨j, rfl⟩, A0, h0⟩ ?_ ?_
    · rintro x rest e ⟨hx, A, h0⟩
      obtain ⟨k, rfl⟩ := hx x (by simp)
      obtain ⟨i, ec⟩ := hcell k
      obtain ⟨p, pt, ep⟩ := hpen i
      have f1 := A.fre 1 (by omega) (by omega)
      have A1 := A.set (i := 1) (s := some (.pd (.int (k : Nat)))) rfl
      have g0 : (e.set 1 (some (.pd (.int (k : Nat)))))[0]? = some (some (.pd s)) := by rw [List.getElem?_set_ne (by decide)]; exact h0
      have g1 : (e.set 1 (some (.pd (.int (k : Nat)))))[1]? = some (some (.pd (.int (k : Nat)))) := by rw [List.getElem?_set_self (by rw [A.len]; omega)]
      simp only [gW, z_gN, z_setR, f1, if_true]
      rw [go]
      generalize e.set 1 (some (.pd (.int (k : Nat)))) = e1 at *
      have f2 := A1.fre 2 (by omega) (by omega)
      refine wS_seq ?_
      have A2 := A1.set (i := 2) (s := some (.mu .own (penK p))) rfl
      have b0 : (e1.set 2 (some (.mu .own (penK p))))[0]? = some (some (.pd s)) := by rw [List.getElem?_set_ne (by decide)]; exact g0
      have b2 : (e1.set 2 (some (.mu .own (penK p))))[2]? = some (some (.mu .own (penK p))) := by rw [List.getElem?_set_self (by rw [A1.len]; omega)]
      refine wS_of (fl := .nx) (e := e1.set 2 (some (.mu .own (penK p)))) ?_ ?_
      · simp only [z_set, z_call, z_cons, z_var, g0, g1, z_nil, z_args1, z_arg1, z_args0, z_va1, z_va0, if_true, ec, z_bk1, z_bk0, ep, z_setR, f2]
      rw [nxt_nx, go]
      generalize e1.set 2 (some (.mu .own (penK p))) = e2 at *
      refine wS_for (xs := upD M) (lk := none) (e := e2) (rg1_up (by simp) hM) (InI n C M s) ⟨A2, b0, p, b2, by rw [pt, upD_len]; omega⟩ ?_ ?_
      · rintro y rest' e ⟨A, h0, q, h2, hq⟩
        rw [List.length_cons, Nat.mul_add, Nat.mul_one] at hq
        have f3 := A.fre 3 (by omega) (by omega)
        simp only [gW, z_gN, z_setR, f3, if_true]
        rw [go]
        refine (hbody _ q (A.set rfl) (by rw [List.getElem?_set_ne (by decide)]; exact h0) (by rw [List.getElem?_set_ne (by decide)]; exact h2) (by omega)).imp ?_
        rintro fl e' ⟨hf, A', h0', q', h2', hq'⟩
        have : InI n C M s rest' e' := ⟨A', h0', q', h2', by omega⟩
        rcases hf with rfl | rfl <;> exact this
      · rintro e ⟨A, h0, _⟩
        exact ⟨fun x hx => by
          obtain ⟨k, hk⟩ := ‹∀ x ∈ _ :: rest, ∃ k : Nat, x = .int (k : Nat)› x (List.mem_cons_of_mem _ hx)
          exact ⟨k, hk⟩, A, h0⟩
    · rintro e ⟨_, A, h0⟩
      simp only [z_unl, nxt_nx]
      rw [go]
      have f := fin1 (x := s) (e := e) (by rw [h0]; simp)
      refine wS_of (fl := .rt (.pd (.bool true))) (e := e) (by simp) ?_
      exact ⟨.pd (.bool true), _, rfl, f, rfl⟩
  obtain ⟨r, as, e, rfl⟩ := key
  exact ⟨as, e⟩
end T3

end
section
set_option linter.all false
set_option autoImplicit false
set_option Elab.async false
namespace T3
open PySem L2
variable [TabL]
def pl : Nat → PyData → Bool
  | _, .none => true
  | _, .int _ => true
  | _, .str s => PyData.strOk s
  | n + 1, .tuple xs => xs.all (pl n)
  | n + 1, .list xs => xs.all (pl n)
  | _, _ => false
mutual
theorem pl_lay : ∀ (x : PyData) (n : Nat), pl n x = true → x.canLay0 = true ∧ x.depth ≤ n + 1
  | .none, n, h => ⟨by simp [PyData.canLay0], by simp [PyData.depth]⟩
  | .int i, n, h => ⟨by simp [PyData.canLay0], by simp [PyData.depth]⟩
  | .str s, n, h => ⟨by unfold pl at h; simpa [PyData.canLay0] using h, by simp [PyData.depth]⟩
  | .bool b, n, h => by cases n <;> simp [pl] at h
  | .dict d, n, h => by cases n <;> simp [pl] at h
  | .tuple xs, 0, h => by simp [pl] at h
  | .tuple xs, n + 1, h => by
    obtain ⟨h1, h2⟩ := pl_layA xs n (by simpa [pl] using h)
    exact ⟨by simpa [PyData.canLay0] using h1, by simp only [PyData.depth]; omega⟩
  | .list xs, 0, h => by simp [pl] at h
  | .list xs, n + 1, h => by
    obtain ⟨h1, h2⟩ := pl_layA xs n (by simpa [pl] using h)
    exact ⟨by simpa [PyData.canLay0] using h1, by simp only [PyData.depth]; omega⟩
theorem pl_layA : ∀ (xs : List PyData) (n : Nat), (∀ x ∈ xs, pl n x = true) → PyData.canLayAll0 xs = true ∧ PyData.depthAll xs ≤ n + 1
  | [], n, h => ⟨by simp [PyData.canLayAll0], by simp [PyData.depthAll]⟩
  | x :: xs, n, h => by
    obtain ⟨h1, h2⟩ := pl_lay x n (h x (by simp))
    obtain ⟨h3, h4⟩ := pl_layA xs n fun y hy => h y (by simp [hy])
    exact ⟨by simp [PyData.canLayAll0, h1, h3], by simp only [PyData.depthAll]; omega⟩
end
theorem pl_sh {x : PyData} {n : Nat} (h : pl n x = true) (hn : n ≤ 60) : SeqAt.shaped x = true := by
  obtain ⟨h1, h2⟩ := pl_lay x n h
  unfold SeqAt.shaped
  rw [h1]
  simp
  omega
mutual
theorem pl_eqv : ∀ (x y : PyData) (n m : Nat), pl n x = true → pl m y = true → (PyData.eqv x y = true ↔ x = y)
  | .none, y, n, m, h, h' => by cases y <;> simp [PyData.eqv]
  | .int i, y, n, m, h, h' => by
    cases y <;> simp [PyData.eqv]
    · rename_i b; cases m <;> simp [pl] at h'
  | .str s, y, n, m, h, h' => by cases y <;> simp [PyData.eqv]
  | .bool b, y, n, m, h, h' => by cases n <;> simp [pl] at h
  | .dict d, y, n, m, h, h' => by cases n <;> simp [pl] at h
  | .tuple xs, y, n, m, h, h' => by
    cases y <;> simp [PyData.eqv]
    rename_i ys
    cases n with
    | zero => simp [pl] at h
    | succ n =>
      cases m with
      | zero => simp [pl] at h'
      | succ m => exact pl_eqvA xs ys n m (by simpa [pl] using h) (by simpa [pl] using h')
  | .list xs, y, n, m, h, h' => by
    cases y <;> simp [PyData.eqv]
    rename_i ys
    cases n with
    | zero => simp [pl] at h
    | succ n =>
      cases m with
      | zero => simp [pl] at h'
      | succ m => exact pl_eqvA xs ys n m (by simpa [pl] using h) (by simpa [pl] using h')
theorem pl_eqvA : ∀ (xs ys : List PyData) (n m : Nat), (∀ x ∈ xs, pl n x = true) → (∀ x ∈ ys, pl m x = true) → (PyData.eqvAll xs ys = true ↔ xs = ys)
  | [], [], n, m, _, _ => by simp [PyData.eqvAll]
  | [], y :: ys, n, m, _, _ => by simp [PyData.eqvAll]
  | x :: xs, [], n, m, _, _ => by simp [PyData.eqvAll]
  | x :: xs, y :: ys, n, m, h, h' => by
    simp only [PyData.eqvAll, Bool.and_eq_true]
    rw [pl_eqv x y n m (h x (by simp)) (h' y (by simp)), pl_eqvA xs ys n m (fun z hz => h z (by simp [hz])) (fun z hz => h' z (by simp [hz]))]
    simp
end
theorem pl_ne {x y : PyData} {n m : Nat} (h : pl n x = true) (h' : pl m y = true) (hn : n ≤ 60) (hm : m ≤ 60) (e : x = y) : oNe [x, y] = some (.bool false) := by
  subst e
  simp [oNe, pl_sh h hn, (pl_eqv x x n n h h).mpr rfl]
theorem pl_ne' {x y : PyData} {n m : Nat} (h : pl n x = true) (h' : pl m y = true) (hn : n ≤ 60) (hm : m ≤ 60) (e : x ≠ y) : oNe [x, y] = some (.bool true) := by
  have : PyData.eqv x y = false := by
    cases z : PyData.eqv x y with
    | false => rfl
    | true => exact absurd ((pl_eqv x y n m h h').mp z) e
  simp [oNe, pl_sh h hn, pl_sh h' hm, this]
theorem pl_eq {x y : PyData} {n m : Nat} (h : pl n x = true) (h' : pl m y = true) (hn : n ≤ 60) (hm : m ≤ 60) (e : x = y) : oEq [x, y] = some (.bool true) := by
  subst e
  simp [oEq, pl_sh h hn, (pl_eqv x x n n h h).mpr rfl]
theorem pl_eq' {x y : PyData} {n m : Nat} (h : pl n x = true) (h' : pl m y = true) (hn : n ≤ 60) (hm : m ≤ 60) (e : x ≠ y) : oEq [x, y] = some (.bool false) := by
  have : PyData.eqv x y = false := by
    cases z : PyData.eqv x y with
    | false => rfl
    | true => exact absurd ((pl_eqv x y n m h h').mp z) e
  simp [oEq, pl_sh h hn, pl_sh h' hm, this]
theorem pl_in {x : PyData} {xs : List PyData} {n m : Nat} (h : pl n x = true) (h' : ∀ y ∈ xs, pl m y = true) (hn : n ≤ 50) (hm : m ≤ 50) (neg : Bool) (c : PyData) (hc : c = .tuple xs ∨ c = .list xs) [Decidable (x ∈ xs)] : oIn neg [x, c] = some (.bool (if neg = true then !decide (x ∈ xs) else decide (x ∈ xs))) := by
  have a : (xs.any fun z => PyData.eqv z x) = decide (x ∈ xs) := by
    rw [Bool.eq_iff_iff, List.any_eq_true, decide_eq_true_eq]
    constructor
    · rintro ⟨z, hz, e⟩
      rw [(pl_eqv z x m n (h' z hz) h).mp e] at hz
      exact hz
    · intro hx
      exact ⟨x, hx, (pl_eqv x x n n h h).mpr rfl⟩
  have s1 : SeqAt.shaped (.tuple xs) = true := pl_sh (n := m + 1) (by simpa [pl] using h') (by omega)
  have s2 : SeqAt.shaped (.list xs) = true := pl_sh (n := m + 1) (by simpa [pl] using h') (by omega)
  rcases hc with rfl | rfl <;> simp [oIn, pl_sh h (by omega), s1, s2, a, -List.any_eq_true]
def nmu : S → Bool
  | .mu _ _ => false
  | _ => true
theorem fin_pd : ∀ {as : List S} {e : Sl}, as.all nmu = true → as.length ≤ e.length → finals as e = some as
  | [], e, _, _ => by cases e <;> rfl
  | a :: as, [], _, l => by simp at l
  | a :: as, x :: e, h, l => by
    simp only [List.all_cons, Bool.and_eq_true] at h
    have ih := fin_pd (as := as) (e := e) h.2 (by simpa using l)
    cases a with
    | pd x => simp [ih]
    | nt x => simp [ih]
    | mu m c => simp [nmu] at h
theorem fin_mu {as : List S} {e : Sl} {m : Md} {c c' : Ct} (h : as.all nmu = true) (hm : m ≠ .own) (l : as.length + 1 ≤ e.length) (h0 : e[0]? = some (some (.mu m c'))) : finals (.mu m c :: as) e = some (.mu m c' :: as) := by
  cases e with
  | nil => simp at l
  | cons x e =>
    simp at h0
    subst h0
    have ih := fin_pd (as := as) (e := e) h (by simpa using l)
    simp [ih, hm]
theorem unl_at {e : Sl} {i : Nat} {m m' : Md} {c : Ct} (h : e[i]? = some (some (.mu m' c))) : unlock (some (i, m)) e = e.set i (some (.mu m c)) := by
  rw [z_unl1, h]
end T3

end
section
set_option linter.all false
set_option autoImplicit false
set_option Elab.async false
namespace T3
open PySem L2
variable [TabL]
end T3

end
section
set_option linter.all false
set_option autoImplicit false
set_option Elab.async false
namespace T3
open PySem L2
variable [TabL]
def oInS (neg : Bool) : List PyData → Option PyData
  | [.str x, .str z] => match x.cps.toList with
    | [c] => some (.bool (if neg = true then !decide (c ∈ z.cps.toList) else decide (c ∈ z.cps.toList)))
    | _ => none
  | _ => none
theorem one_cps {x : Str} {c : Nat} (h : x.cps.toList = [c]) : x = ⟨#[c]⟩ := by
  obtain ⟨a⟩ := x
  have : a = #[c] := by
    apply Array.toList_inj.mp
    simpa using h
  rw [this]
theorem ok_inS {K : PySem.W.Frag} : OkE K (oInS false) (l2 fun x y H Q => ∃ (c : Nat) (z : Str), x = .str ⟨#[c]⟩ ∧ y = .str z ∧ Q (.bl (decide (c ∈ z.cps.toList))) H) := by
  intro B H vs xs w Q cn ho q x y e
  unfold oInS at ho
  split at ho
  · rename_i sx sz
    split at ho
    · rename_i c hc
      cases ho
      obtain ⟨v, w, e2, c1, c2⟩ := cn.two
      rw [e] at e2
      cases e2
      have hx := one_cps hc
      subst hx
      exact ⟨c, sz, c1.str, c2.str, q _ (.bl _)⟩
    · cases ho
  · cases ho
theorem q_ins {X : Cx} {k : Nat} (hr : Room k X.A) : Cmp2 X .In (kE (oInS false)) := ⟨_, op_in_sign, con_E ok_inS⟩
def eIns (fa fb : EE) : EE := eThen (eTwo fa fb) (kE (oInS false))
@[simp] theorem z_ins (fa fb : EE) (env : Sl) : eIns fa fb env = eThen (eCons fa (eCons fb eNil)) (kE (oInS false)) env := rfl
theorem wk_elM {K : PySem.W.Frag} {a : Addr} {xs : List PyData} : Wk K (Ite K a) (fun q => q = a) (fun B H => ∃ vs, H a = some (.lst vs) ∧ RpA K B H vs xs) (enumD xs 0) where
  go i B H g hi := by
    obtain ⟨us, h1, h2⟩ := g
    simp only [enumD, List.length_map, List.length_range] at hi
    have l1 := h2.length
    exact ⟨us, us[i]'(by omega), .inl (.inl h1), by simp⟩
  stop B H g := by
    obtain ⟨us, h1, h2⟩ := g
    refine ⟨us, .inl (.inl h1), ?_⟩
    simp only [enumD, List.length_map, List.length_range]
    have l1 := h2.length
    omega
  yld i B H x H' d g hd hy := by
    obtain ⟨us, h1, h2⟩ := g
    obtain ⟨T, u, rfl, nT, rfl, f1⟩ := hy
    refine ⟨.inr (.inl ⟨T, _, nT, rfl⟩), ?_⟩
    obtain ⟨x, m1, m2⟩ := h2.getV (f1 us (.inl (.inl h1)))
    have hi : i < xs.length := (List.getElem?_eq_some_iff.mp m1).1
    simp only [enumD, List.getElem?_map, List.getElem?_range hi, Option.map_some] at hd
    cases hd
    have : xs.getD i .none = x := by
      rw [List.getD_eq_getElem?_getD, m1]
      rfl
    rw [this, Nat.zero_add]
    have gr : Grow B H B (upd H T (.tup [.int (i : Nat), u])) := ⟨fun q o h _ => keep_upd nT q o h, fun q h => .inl h⟩
    exact .tup (.inl (.inl upd_same)) (.cons (.int _) (.cons (m2.grow gr) .nil))
  keep W B H W' B' H' g s wb hp := by
    obtain ⟨vs, h1, h2⟩ := g
    exact ⟨vs, s.keep _ _ h1 (.inl ⟨hp a rfl, fun _ z => nomatch z⟩), h2.grow (s.grow wb)⟩
theorem wk_elD {K : PySem.W.Frag} {a : Addr} {xs : List PyData} : Wk K (Ite K a) (fun _ => False) (fun B H => Rp K B H (.ref a) (.list xs)) (enumD xs 0) where
  go i B H g hi := by
    obtain ⟨_, us, e, h1, h2⟩ := Cn.list (.rp g)
    cases e
    simp only [enumD, List.length_map, List.length_range] at hi
    have l1 := h2.length
    exact ⟨us, us[i]'(by omega), h1, by simp⟩
  stop B H g := by
    obtain ⟨_, us, e, h1, h2⟩ := Cn.list (.rp g)
    cases e
    refine ⟨us, h1, ?_⟩
    simp only [enumD, List.length_map, List.length_range]
    have l1 := h2.length
    omega
  yld i B H x H' d g hd hy := by
    obtain ⟨_, us, e, h1, h2⟩ := Cn.list (.rp g)
    cases e
    obtain ⟨T, u, rfl, nT, rfl, f1⟩ := hy
    refine ⟨.inr (.inl ⟨T, _, nT, rfl⟩), ?_⟩
    obtain ⟨x, m1, m2⟩ := h2.getV (f1 us h1)
    have hi : i < xs.length := (List.getElem?_eq_some_iff.mp m1).1
    simp only [enumD, List.getElem?_map, List.getElem?_range hi, Option.map_some] at hd
    cases hd
    have : xs.getD i .none = x := by
      rw [List.getD_eq_getElem?_getD, m1]
      rfl
    rw [this, Nat.zero_add]
    have gr : Grow B H B (upd H T (.tup [.int (i : Nat), u])) := ⟨fun q o h _ => keep_upd nT q o h, fun q h => .inl h⟩
    exact .tup (.inl (.inl upd_same)) (.cons (.int _) (.cons (m2.grow gr) .nil))
  keep W B H W' B' H' g s wb _ := g.grow (s.grow wb)
def iEnL (f : EE) : EI := fun env => match f env with
  | some (.pd (.list xs), e) => some (enumD xs 0, none, e)
  | some (.tmp (.ls xs), e) => some (enumD xs 0, none, e)
  | some (.var i, e) => match e[i]? with
    | some (some (.mu m (.ls xs))) => some (enumD xs 0, some (i, m), e.set i (some (.mu .fro (.ls xs))))
    | _ => none
  | _ => none
theorem RRA.one {K : PySem.W.Frag} {H₀ : Hp} {B : Mset} {H : Hp} {σ : St} {env : Sl} {vs : List V} {d : R} (r : RRA K H₀ B H σ env vs [d]) : ∃ v, vs = [v] ∧ RA K H₀ B H σ env v d := by
  match vs, r with
  | [v], r => exact ⟨v, rfl, r.each 0 v d rfl rfl⟩
  | [], r => have := r.len; simp at this
  | _ :: _ :: _, r => have := r.len; simp at this
theorem i_enL {X : Cx} {e : Expr} {f : EE} {p pos tpos : Pos} {elts : List Expr} {kk : Nat} (hg : Gl X "enumerate") (hm : X.mg "enumerate" = none) (he : PE X e (tE X.K f)) (hs : starEach [e] X.env = [(false, eval e X.env)] := by rfl) :
    PI X (.Tuple elts kk tpos) (.Call (.Name "enumerate" p) [e] [] pos) (tI X.K (iEnL f)) := PI.imp (pi_enum hg hm (a_cons he a_nil hs) hs) fun σ H R h => by
  obtain ⟨B, env, xs, lk, env', en, ev, q⟩ := h
  unfold iEnL at ev
  split at ev
  · rename_i ys e h1
    cases ev
    refine ⟨B, env, [.pd (.list ys)], env', en, by simp [h1], fun B1 H1 vs a1 r1 => ?_⟩
    obtain ⟨v, rfl, r2⟩ := r1.one
    have r2 : Rp X.K B1 H1 v (.list ys) := r2
    obtain ⟨a, us, rfl, h2, h3⟩ := Cn.list (.rp r2)
    exact ⟨a, us, rfl, h2, q B1 H1 _ _ _ _ a1 rfl wk_elD r2 (fun _ z => z.elim)⟩
  · rename_i ys e h1
    cases ev
    refine ⟨B, env, [.tmp (.ls ys)], env', en, by simp [h1], fun B1 H1 vs a1 r1 => ?_⟩
    obtain ⟨v, rfl, r2⟩ := r1.one
    obtain ⟨a, rfl, k0, k1, ⟨us, k2, k3⟩, k4⟩ := r2
    refine ⟨a, us, rfl, .inl (.inl k2), q B1 H1 _ _ _ _ a1 rfl wk_elM ⟨us, k2, k3⟩ (fun p z => ?_)⟩
    subst z
    exact ⟨fun ⟨i, m, c, g1, _, g3⟩ => k4 i m c g1 g3, _, k2⟩
  · rename_i i e h1
    split at ev
    · rename_i m ys h2
      cases ev
      refine ⟨B, env, [.var i], e, en, by simp [h1], fun B1 H1 vs a1 r1 => ?_⟩
      obtain ⟨v, rfl, r2⟩ := r1.one
      have k1 : σ[i]? = some (some v) := r2
      obtain ⟨a, g1, g2, us, g3, g4⟩ := a1.en.mu i _ _ h2
      rw [k1] at g1
      cases g1
      refine ⟨a, us, rfl, .inl (.inl g3), q B1 H1 _ _ _ _ a1 ⟨_, h2, rfl⟩ wk_elM ⟨us, g3, g4⟩ (fun p z => ?_)⟩
      subst z
      refine ⟨fun ⟨j, m', c, z1, z2, z3⟩ => ?_, _, g3⟩
      rcases get_set z1 with ⟨e1, e2⟩ | ⟨e1, z1⟩
      · cases e2; exact z2 rfl
      · exact e1 (a1.en.inj i j _ _ _ _ _ h2 z1 k1 z3)
    · cases ev
  · cases ev
@[simp] theorem z_enL (f : EE) (env : Sl) : iEnL f env = (match f env with
  | some (.pd (.list xs), e) => some (enumD xs 0, none, e)
  | some (.tmp (.ls xs), e) => some (enumD xs 0, none, e)
  | some (.var i, e) => match e[i]? with
    | some (some (.mu m (.ls xs))) => some (enumD xs 0, some (i, m), e.set i (some (.mu .fro (.ls xs))))
    | _ => none
  | _ => none) := rfl
def Rg3Ok (i j c : Int) : Prop := RgC i j c (Builtin.Range.rangeSize i j c).toNat
noncomputable instance (i j c : Int) : Decidable (Rg3Ok i j c) := Classical.propDecidable _
end T3

end
section
set_option linter.all false
set_option autoImplicit false
set_option Elab.async false
namespace T3
open PySem L2
variable [TabL]
end T3

end
section
set_option linter.all false
set_option autoImplicit false
set_option Elab.async false
namespace T3
open PySem L2
variable [TabL]
def InJ (n C M : Nat) (s : PyData) (rest : List PyData) (e : Sl) : Prop := (∀ x ∈ rest, ∃ j : Nat, j < M ∧ x = .int (j : Nat)) ∧ Al 0 n e ∧ e[0]? = some (some (.pd s)) ∧ ∃ q : Pk, e[2]? = some (some (.mu .own (penK q))) ∧ q.t + C * rest.length ≤ C * M
theorem outerJ {n N M C : Nat} {fcell fpen : FnD} {BODY : SS} (ns : List Int) (hn4 : 4 ≤ n) (hN : 1 ≤ N) (hN2 : N ≤ 1000) (hM : M ≤ 1000)
    (hcell : ∀ k : Nat, ∃ i, fcell [.pd (.list (ns.map .int)), .pd (.int (k : Nat))] = some (.pd (.int i), [.pd (.list (ns.map .int)), .pd (.int (k : Nat))]))
    (hpen : ∀ i : Int, ∃ p : Pk, p.t = 0 ∧ fpen [.pd (.int i)] = some (.tmp (penK p), [.pd (.int i)]))
    (hbody : ∀ (e : Sl) (p : Pk) (j : Nat), j < M → Al 0 n e → e[0]? = some (some (.pd (.list (ns.map .int)))) → e[2]? = some (some (.mu .own (penK p))) → e[3]? = some (some (.pd (.int (j : Nat)))) → p.t ≤ C * M → wS BODY e (TurnP n C (.list (ns.map .int)) p)) :
    ∃ as, runFn n (sSeq (sFor (iRg1 (eCons (eThen (eCons (eC (.int 1)) (eCons (eThen (eCons (eThen (eCons (eVar 0) eNil) (kE oLen)) (eCons (eC (.int (N : Int))) eNil)) (kE oMin)) eNil)) (kE oMax)) eNil)) (gN 1) (sSeq (sSet 2 (eCall fpen (eCons (eCall fcell (eCons (eVar 0) (eCons (eVar 1) eNil))) eNil)))
      (sFor (iRg1 (eCons (eC (.int (M : Int))) eNil)) (gN 3) BODY))) (sRet (eC (.bool true)))) [.pd (.list (ns.map .int))] = some (.pd (.bool true), as) := by
  generalize hs : PyData.list (ns.map .int) = s at *
  have key : ∀ Q : R → List S → Prop, (∀ as, Q (.pd (.bool true)) as) → wF (runFn n (sSeq (sFor (iRg1 (eCons (eThen (eCons (eC (.int 1)) (eCons (eThen (eCons (eThen (eCons (eVar 0) eNil) (kE oLen)) (eCons (eC (.int (N : Int))) eNil)) (kE oMin)) eNil)) (kE oMax)) eNil)) (gN 1) (sSeq (sSet 2 (eCall fpen (eCons (eCall fcell (eCons (eVar 0) (eCons (eVar 1) eNil))) eNil)))
      (sFor (iRg1 (eCons (eC (.int (M : Int))) eNil)) (gN 3) BODY))) (sRet (eC (.bool true))))) [.pd s] Q := by
    intro Q hQ
    have A0 : Al 0 n (startE n [.pd s]) := by
      have a := Al.start (n := n) [.pd s] (by simp; omega)
      refine ⟨a.len, fun i h1 h2 => ?_⟩
      by_cases z : i = 0
      · subst z
        rw [free_frS (s := some (.pd s)) (by simp [startE])]
        rfl
      · exact a.fre i (by simp; omega) h2
    refine wF_run (e := startE n [.pd s]) rfl ?_
    have h0 : (startE n [.pd s])[0]? = some (some (.pd s)) := by simp [startE]
    generalize startE n [.pd s] = e0 at *
    refine wS_seq ?_
    refine wS_for (xs := upD (max 1 (min ns.length N))) (lk := none) (e := e0) (rg1_max ns hN hN2 (by rw [hs]; exact h0)) (fun rest e => (∀ x ∈ rest, ∃ k : Nat, x = .int (k : Nat)) ∧ OutI n s e) ⟨fun x hx => by
      obtain ⟨j, _, rfl⟩ := List.mem_map.mp hx; exact ⟨j, rfl⟩, A0, h0⟩ ?_ ?_
    · rintro x rest e ⟨hx, A, h0⟩
      obtain ⟨k, rfl⟩ := hx x (by simp)
      obtain ⟨i, ec⟩ := hcell k
      obtain ⟨p, pt, ep⟩ := hpen i
      have f1 := A.fre 1 (by omega) (by omega)
      have A1 := A.set (i := 1) (s := some (.pd (.int (k : Nat)))) rfl
      have g0 : (e.set 1 (some (.pd (.int (k : Nat)))))[0]? = some (some (.pd s)) := by rw [List.getElem?_set_ne (by decide)]; exact h0
      have g1 : (e.set 1 (some (.pd (.int (k : Nat)))))[1]? = some (some (.pd (.int (k : Nat)))) := by rw [List.getElem?_set_self (by rw [A.len]; omega)]
      simp only [gW, z_gN, z_setR, f1, if_true]
      rw [go]
      generalize e.set 1 (some (.pd (.int (k : Nat)))) = e1 at *
      have f2 := A1.fre 2 (by omega) (by omega)
      refine wS_seq ?_
      have A2 := A1.set (i := 2) (s := some (.mu .own (penK p))) rfl
      have b0 : (e1.set 2 (some (.mu .own (penK p))))[0]? = some (some (.pd s)) := by rw [List.getElem?_set_ne (by decide)]; exact g0
      have b2 : (e1.set 2 (some (.mu .own (penK p))))[2]? = some (some (.mu .own (penK p))) := by rw [List.getElem?_set_self (by rw [A1.len]; omega)]
      refine wS_of (fl := .nx) (e := e1.set 2 (some (.mu .own (penK p)))) ?_ ?_
      · simp only [z_set, z_call, z_cons, z_var, g0, g1, z_nil, z_args1, z_arg1, z_args0, z_va1, z_va0, if_true, ec, z_bk1, z_bk0, ep, z_setR, f2]
      rw [nxt_nx, go]
      generalize e1.set 2 (some (.mu .own (penK p))) = e2 at *
      refine wS_for (xs := upD M) (lk := none) (e := e2) (rg1_up (by simp) hM) (InJ n C M s) ⟨fun x hx => by
        obtain ⟨j, hj, rfl⟩ := List.mem_map.mp hx; exact ⟨j, List.mem_range.mp hj, rfl⟩, A2, b0, p, b2, by rw [pt, upD_len]; omega⟩ ?_ ?_
      · rintro y rest' e ⟨hy, A, h0, q, h2, hq⟩
        rw [List.length_cons, Nat.mul_add, Nat.mul_one] at hq
        obtain ⟨j, hj, rfl⟩ := hy y (by simp)
        have f3 := A.fre 3 (by omega) (by omega)
        simp only [gW, z_gN, z_setR, f3, if_true]
        rw [go]
        refine (hbody _ q j hj (A.set rfl) (by rw [List.getElem?_set_ne (by decide)]; exact h0) (by rw [List.getElem?_set_ne (by decide)]; exact h2) (by rw [List.getElem?_set_self (by rw [A.len]; omega)]) (by omega)).imp ?_
        rintro fl e' ⟨hf, A', h0', q', h2', hq'⟩
        have : InJ n C M s rest' e' := ⟨fun x hx => hy x (by simp [hx]), A', h0', q', h2', by omega⟩
        rcases hf with rfl | rfl <;> exact this
      · rintro e ⟨_, A, h0, _⟩
        exact ⟨fun x hx' => hx x (List.mem_cons_of_mem _ hx'), A, h0⟩
    · rintro e ⟨_, A, h0⟩
      simp only [z_unl, nxt_nx]
      rw [go]
      have f := fin1 (x := s) (e := e) (by rw [h0]; simp)
      refine wS_of (fl := .rt (.pd (.bool true))) (e := e) (by simp) ?_
      exact ⟨.pd (.bool true), _, rfl, f, hQ _⟩
  obtain ⟨r, as, e, rfl⟩ := key (fun r _ => r = .pd (.bool true)) (fun _ => rfl)
  exact ⟨as, e⟩
end T3

end
section
set_option linter.all false
set_option autoImplicit false
set_option Elab.async false
set_option maxRecDepth 100000
set_option maxHeartbeats 4000000
namespace T3
open PySem L2
open PyProof.Rows
variable [TabL]
end T3

end
section
set_option linter.all false
set_option autoImplicit false
set_option Elab.async false
set_option maxRecDepth 100000
set_option maxHeartbeats 4000000
namespace T3
open PySem L2
open PySem.Spec PyProof.Rows
variable [TabL]
theorem rev_at {α : Type} (xs : Array α) : ((List.range xs.size).filterMap fun (k : Nat) => xs[(((xs.size : Nat) : Int) - 1 + (k : Int) * -1).toNat]?).toArray = xs.toList.reverse.toArray := by
  have h : (List.range xs.size).filterMap (fun (k : Nat) => xs[(((xs.size : Nat) : Int) - 1 + (k : Int) * -1).toNat]?) = ((List.range xs.size).map fun k => xs.size - 1 - k).filterMap (xs[·]?) := by
    rw [List.filterMap_map]
    congr 1
    funext k
    have : (((xs.size : Nat) : Int) - 1 + (k : Int) * -1).toNat = xs.size - 1 - k := by omega
    simp only [this, Function.comp_apply]
  rw [h, PySem.W.krv_range, List.filterMap_reverse, PySem.W.krv_all]
section
variable {prog : Program} {w : World} {A : Around} {E : Value → Shared → Prop} {s : Shared}
theorem ap_rev {sl : Addr} {t : Tok} {n : Nat} {Q : Int × Int × Nat → Shared → Prop} (hs : s.heap.IsSliceOf sl .none .none (.int (-1) t)) (h : Q ((n : Int) - 1, -1, n) s) : wpAny (model prog w) A (Builtin.Slice.sliceApplied (.ref sl) (pure (n : Int))) Q E s := by
  obtain ⟨o, ho, hc, hd⟩ := id hs
  unfold Builtin.Slice.sliceApplied; unfold Builtin.Slice.sliceFields
  refine wpAny_bind (wpAny_bind (wpAny_field ho hd (x := .none) rfl (wpAny_bind (wpAny_field ho hd (x := .none) rfl ?_))))
  refine wpAny_bind (wpAny_field ho hd (x := .int (-1) t) rfl (wpAny_pure ?_))
  refine wpAny_bind (HT.slicePart_ (.int (-1) t) ?_)
  refine (show wpAny _ _ (if ((-1 : Int) == 0) = true then _ else _) _ _ s from ?_)
  rw [if_neg (by decide)]
  refine wpAny_bind (HT.slicePart_ .none (wpAny_bind (HT.slicePart_ .none (wpAny_bind (wpAny_pure ?_)))))
  have ad : Builtin.Slice.sliceAdjust none none (-1) (n : Int) = ((n : Int) - 1, -1) := by
    simp [Builtin.Slice.sliceAdjust]
  have pl : Builtin.Slice.slicePlaces ((n : Int) - 1) (-1) (-1) = n := by
    unfold Builtin.Slice.slicePlaces
    simp
    split <;> omega
  refine (show wpAny _ _ (match Builtin.Slice.sliceAdjust none none (-1) (n : Int) with | (a, b) => pure (a, (-1 : Int), Builtin.Slice.slicePlaces a b (-1))) _ _ s from ?_)
  rw [ad]
  refine (show wpAny _ _ (pure ((n : Int) - 1, (-1 : Int), Builtin.Slice.slicePlaces ((n : Int) - 1) (-1) (-1))) _ _ s from ?_)
  rw [pl]
  exact wpAny_pure h
theorem item_rev {t sl : Addr} {items : Array Value} {tk : Tok} {Q : Value → Shared → Prop} (ht : IsTup s.heap t items) (hs : s.heap.IsSliceOf sl .none .none (.int (-1) tk))
    (h : Q (.ref s.heap.objs.size) { s with heap := s.heap.push { cls := .type "tuple", data := .seq items.toList.reverse.toArray } })
    (hz : items.size ≤ sizeLine) : wpAny (model prog w) A (getItem (.ref t) (.ref sl)) Q E s := by
  have hok : sizeOk (.seq items.toList.reverse.toArray) := by
    show items.toList.reverse.toArray.size ≤ sizeLine
    simpa using hz
  obtain ⟨o, ho, hc, hd⟩ := id hs
  have hT : s.TypeIs (.ref sl) "slice" := ⟨o, ho, hc⟩
  unfold getItem
  try with_reducible refine wpAny_holding ?_
  first
    | (refine wpAny_bind (wpAny_pure ?_); refine wpAny_bind (wpAny_sequenceKey ht.typeIs (by decide) ?_))
    | refine wpAny_bind (wpAny_sequenceKey ht.typeIs (by decide) ?_)
  refine wpAny_bind (wpAny_callSpecial?_slot (name := Str.ofString "__getitem__") ht.typeIs PyProof.Rows.slot_tuple_getitem ?_)
  refine wpAny_call_entry PyProof.Rows.slot_tuple_getitem ht.typeIs entry_tuple_getitem ?_ (args_tuple_getitem _ _)
  refine (show wpAny _ _ (Builtin.Tuple.tupleItemsOf (.ref t) >>= _) _ _ s from ?_)
  refine wpAny_bind (tupleItemsOf_ ht (wpAny_bind (wpAny_typeOf hT ?_)))
  rw [if_pos (by decide)]
  refine wpAny_bind (ap_rev hs ?_)
  have no : ¬ ((((items.size : Nat) : Int) - 1 == 0 && (-1 : Int) == 1 && items.size == items.size) = true) := by simp
  refine (show wpAny _ _ (if (((items.size : Nat) : Int) - 1 == 0 && (-1 : Int) == 1 && items.size == items.size) = true then _ else _) _ _ s from ?_)
  rw [if_neg no, rev_at]
  first
    | exact wpAny_bind (m := Builtin.Tuple.tupleExact _) (wpAny_newObj_type (wpAny_pure ⟨_, rfl, wpAny_pure h⟩) hok)
    | exact wpAny_bind (m := Builtin.Tuple.tupleExact _) (wpAny_newObj_type (wpAny_bind (wpAny_pure (wpAny_pure ⟨_, rfl, wpAny_pure h⟩))) hok)
    | exact wpAny_bind (wpAny_bind (m := Builtin.Tuple.tupleExact _) (wpAny_newObj_type (wpAny_pure (wpAny_pure ⟨_, rfl, wpAny_pure h⟩)) hok))
    | exact wpAny_bind (wpAny_bind (m := Builtin.Tuple.tupleExact _) (wpAny_newObj_type (wpAny_pure ⟨_, rfl, wpAny_pure h⟩) hok))
end
def tRevT (K : PySem.W.Frag) (te : TE) : TE := fun σ H Q => te σ H fun x H1 => ∃ a xs, x = .ref a ∧ SqT K H1 a xs ∧ ∀ p, H1 p = none → Q (.ref p) (upd H1 p (.tup xs.reverse))
theorem pe_revT {X : Cx} {e : Expr} {te : TE} {k : Nat} {p1 p2 p3 pos : Pos} (he : PE X e te) : PE X (.Subscript e (.Slice none none (some (.UnaryOp .USub (.Constant (.int 1) k p1) p2)) p3) pos) (tRevT X.K te) := by
  constructor
  intro pins s σ H Q J h
  refine Subscript_ (thn (he.run pins s σ H _ J h) ?_)
  rintro v s1 ⟨x, H1, J1, rx, a, xs, rfl, hx, q⟩
  cases rx
  have step : PO X (some (.UnaryOp .USub (.Constant (.int 1) k p1) p2)) (tPart (tUn (rU fun i => .int (-i)) (tC (.int 1)))) := po_some (pe_un un_neg pe_int)
  refine wpAny_Slice (thn (po_none.run pins s1 σ H1 (fun a Ha => a = none ∧ Ha = H1) J1 ⟨rfl, rfl⟩) ?_)
  rintro va sa ⟨_, Ha, Ja, pa, ea, eb⟩
  subst ea eb
  refine thn (po_none.run pins sa σ Ha (fun b Hb => b = none ∧ Hb = Ha) Ja ⟨rfl, rfl⟩) ?_
  rintro vb sb ⟨_, Hb, Jb, pb, ec, ed⟩
  subst ec ed
  refine thn (step.run pins sb σ Hb (fun c Hc => c = some (-1) ∧ Hc = Hb) Jb ⟨1, rfl, -1, rfl, rfl, rfl⟩) ?_
  rintro vc sc ⟨_, Hc, Jc, pc, ee, ef⟩
  subst ee ef
  cases pa
  cases pb
  cases pc
  rename_i tk
  have J5 := Jc.kept (h' := sc.heap.push { cls := .type "slice", data := .fields #[.none, .none, .int (-1) tk] }) (t' := sc.toks) fun b ob q => Heap.get?_push_of_some _ q
  obtain ⟨its, r, ht, hz⟩ := J5.tuple hx
  have hlen := r.length
  refine (show wpAny (model X.prog X.w) X.A (subscriptTail e (.Slice none none (some (.UnaryOp .USub (.Constant (.int 1) k p1) p2)) p3) (.ref a) (.ref sc.heap.objs.size)) (EP X pins σ Q) X.xe { sc with heap := sc.heap.push { cls := .type "slice", data := .fields #[.none, .none, .int (-1) tk] } } from ?_)
  refine tail_any (ops := [.ref a, .ref sc.heap.objs.size]) ht.typeIs (PyProof.Rows.slot_tuple_getitem.lookup) ?_ (by with_unfolding_all rfl)
  refine item_rev ht (Heap.IsSliceOf.new _ .none .none (.int (-1) tk)) ?_ (by rw [List.size_toArray]; omega)
  refine ⟨.ref _, _, J5.laid (t' := sc.toks) (o := .tup xs.reverse) (fun b ob q => Heap.get?_push_of_some _ q) (Nat.le_refl _) ?_, rfl, q _ (J5.hok.fresh (Nat.le_refl _))⟩
  exact ⟨by rw [List.length_reverse]; exact hz, _, r.reverse, IsTup.new _ _⟩
def eRevT (f : EE) : EE := fun env => match f env with
  | some (d, e) => match tupOf d with
    | some xs => some (.pd (.tuple xs.reverse), e)
    | none => none
  | none => none
theorem e_revT {X : Cx} {e : Expr} {f : EE} {k : Nat} {p1 p2 p3 pos : Pos} (he : PE X e (tE X.K f)) : PE X (.Subscript e (.Slice none none (some (.UnaryOp .USub (.Constant (.int 1) k p1) p2)) p3) pos) (tE X.K (eRevT f)) := PE.imp (pe_revT he) fun σ H Q t => by
  obtain ⟨B, env, d, env', en, ev, q⟩ := t
  unfold eRevT at ev
  split at ev
  · rename_i d1 e1 h1
    split at ev
    · rename_i xs h2
      cases ev
      refine ⟨B, env, d1, _, en, h1, fun B1 H1 v a1 r1 => ?_⟩
      have r2 := tupOf_at r1.ra h2
      obtain ⟨a, us, rfl, g1, g2⟩ := Cn.tuple (.rp r2)
      refine ⟨a, us, rfl, g1, fun p np => ?_⟩
      obtain ⟨g, a2⟩ := a1.alloc en np (.tup us.reverse) False (fun _ => False) (fun _ f => f.elim)
      exact q _ _ _ a2 (.tup (.inl (.inl upd_same)) (g2.reverse.grow g))
    · cases ev
  · cases ev
@[simp] theorem z_revT (f : EE) (env : Sl) : eRevT f env = (match f env with
  | some (d, e) => match tupOf d with
    | some xs => some (.pd (.tuple xs.reverse), e)
    | none => none
  | none => none) := rfl
end T3

end
section
set_option linter.all false
set_option autoImplicit false
set_option Elab.async false
namespace T3
open PySem L2
variable [TabL]
section
variable {K : PySem.W.Frag} {B B' : Mset} {H H' : Hp} {σ : St} {e e' : Sl}
end
section
variable {X : Cx} {k n : Nat} {F : FnD} {x : Str} {p pos : Pos} {e : Expr} {es : List Expr} {fa : EA}
end
end T3

end
section
set_option linter.all false
set_option autoImplicit false
set_option Elab.async false
namespace T3
open PySem L2
variable [TabL]
abbrev Tp := Int × Int × Int
def TpB (p : Tp) : Prop := (0 ≤ p.1 ∧ p.1 < 64) ∧ (0 ≤ p.2.1 ∧ p.2.1 < 64) ∧ 0 ≤ p.2.2 ∧ p.2.2 < 64
instance (p : Tp) : Decidable (TpB p) := by unfold TpB; infer_instance
end T3

end
section
set_option linter.all false
set_option autoImplicit false
set_option Elab.async false
namespace T3
open PySem L2 PySem.W PyProof.Rows PyProof.V
variable [TabL]
end T3

end
section
set_option linter.all false
set_option autoImplicit false
set_option Elab.async false
namespace T3
open PySem L2
variable [TabL]
end T3

end
section
set_option linter.all false
set_option autoImplicit false
set_option Elab.async false
set_option maxRecDepth 100000
set_option maxHeartbeats 1000000
namespace ZE
open PySem RZ ZM
open PySem.Sem (wp)
section
variable {prog : Program} {w : World} {A : Around} {E : Value → Shared → Prop} {s : Shared}
end
end ZE

end
section
set_option linter.all false
set_option autoImplicit false
set_option Elab.async false
set_option maxRecDepth 100000
set_option maxHeartbeats 1000000
namespace ZE
open PySem PySem.Spec PyProof.Rows L2 RZ ZM
end ZE
namespace T3
open PySem L2
variable [TabL]
end T3

end
section
set_option linter.all false
set_option autoImplicit false
set_option Elab.async false
set_option maxRecDepth 100000
namespace LamA
open PySem PySem.Spec PyProof.Rows L2 LamX NdefX
section
variable {Z : Cx} {F : NF} {f : Addr} {params : Arguments} {body : Expr} {pm ctv : Value} {N ps fr : List Str} {ws : List (Option V)} {k i : Nat} {x : Str} {p pos : Pos} {e : Expr} {es : List Expr} {ta : TA} {tb : TE}
structure LamAt (Z : Cx) (F : NF) (f : Addr) (params : Arguments) (body : Expr) (pm ctv : Value) (fr : List Str) (ws : List (Option V)) : Prop where
  obj : Z.s_0.heap.get? f = some (PySem.W.kla_obj "<lambda>" F.qual params body F.scope F.cl pm F.c ctv)
  free : Z.H_0 f = none
  nfs : f ∉ Z.fs
  nex : f ∉ Z.ex
  cells : CellsAt F.cl fr ws Z.s_0.heap Z.H_0
  cex : ∀ y c, F.cl.lookup y = some c → c ∉ Z.ex
end
end LamA

end
section
set_option linter.all false
set_option autoImplicit false
set_option Elab.async false
set_option maxRecDepth 100000
namespace T3
open PySem L2
variable [TabL]
section
open LamA NdefX
variable {Z : Cx} {F : NF} {f a : Addr} {params : Arguments} {body : Expr} {pm ctv : Value} {N ps : List Str} {capt : Str} {k i : Nat} {x : Str} {p pos : Pos} {e : Expr} {es : List Expr} {fa : EA} {fb : EE} {xs : List PyData}
end
end T3

end
section
set_option linter.all false
set_option autoImplicit false
set_option Elab.async false
set_option maxRecDepth 100000
namespace LamA
open PySem PySem.Spec PyProof.Rows L2 LamX NdefX
section
variable {X : Cx} {pins : List (Addr × Obj)} {σ : L2.St} {H : Hp} {s : Shared}
end
end LamA
namespace T3
open PySem L2 LamA
variable [TabL]
section
variable {K : PySem.W.Frag} {B : Mset} {H H1 : Hp} {P c : Addr} {q : Str} {pos : Pos}
end
end T3

end
section
set_option linter.all false
set_option autoImplicit false
set_option Elab.async false
set_option maxRecDepth 100000
namespace T3
open PySem PySem.Spec PyProof.Rows L2 LamA NdefX LamX
variable [TabL]
section
variable {X : Cx} {x : Str} {st : Stmt} {Ng psg : List Str} {k j : Nat} {q capt : Str} {params : Arguments} {body : Expr} {scope : Scope} {M : PyData → List PyData → SS} {p lpos pos : Pos} {e1 e2 : Expr} {f1 f2 : EE} {cX P : Addr}
end
end T3

end
section
set_option linter.all false
set_option autoImplicit false
set_option Elab.async false
set_option maxRecDepth 100000
namespace T3
open PySem PySem.Spec PyProof.Rows L2 LamA LamX
variable [TabL]
end T3

end
section
set_option linter.all false
set_option autoImplicit false
set_option Elab.async false
namespace T3
open PySem L2
variable [TabL]
abbrev EP := Sl → Option (Int × Nat)
section
variable {X : Cx}
end
end T3

end
section
set_option linter.all false
set_option autoImplicit false
set_option Elab.async false
namespace T3
open PySem L2
variable [TabL]
end T3

end
section
set_option linter.all false
set_option autoImplicit false
set_option Elab.async false
namespace T3
open PySem L2
variable [TabL]
end T3

end
section
set_option linter.all false
set_option autoImplicit false
set_option Elab.async false
set_option maxRecDepth 10000
namespace T3
open PySem L2
variable [TabL]
end T3

end
section
set_option linter.all false
set_option autoImplicit false
set_option Elab.async false
set_option maxRecDepth 100000
namespace T3
open PySem PySem.Spec PyProof.Rows L2
variable [TabL]
section
variable {X : Cx} {tg e : Expr} {td : TE} {apos cpos : Pos}
end
end T3
namespace T3
open PySem L2
variable [TabL]
def itemsD (kvs : List (NestedKey × PyData)) : List PyData := kvs.map fun q => .tuple [q.1.data, q.2]
end T3

end
section
set_option linter.all false
set_option autoImplicit false
set_option Elab.async false
set_option maxRecDepth 100000
namespace L2
open PySem PySem.Spec PyProof.Rows
section
variable {X : Cx}
end
end L2
namespace T3
open PySem L2
variable [TabL]
section
variable {X : Cx}
end
end T3

end
section
set_option linter.all false
set_option autoImplicit false
set_option Elab.async false
set_option maxRecDepth 100000
namespace T3
open PySem PySem.Spec PySem.W L2 PyProof.Rows
variable [TabL]
structure DSrc (K : PySem.W.Frag) (B : Mset) (H : Hp) (h : Heap) (a : Addr) (ds : List PyData) where
  es : List DictEntry
  o : Obj
  ep : Nat
  ns : (a == sysModules) = false
  sz : es.length ≤ sizeLine
  ho : h.get? a = some o
  hx : o.ExactDict
  hd : o.data = .dict es.toArray ep
  ks : Paired (fun (e : DictEntry) (d : PyData) => ∃ v, L2.RelV v e.key ∧ Rp K B H v d) es ds
def PlainS (xs : List PyData) : Prop := PyData.canLayAll0 xs = true ∧ PySem.W.AllAlike xs ∧ PySem.W.Sortable xs ∧ ∀ d ∈ xs, d.depth ≤ 30
noncomputable instance (xs : List PyData) : Decidable (PlainS xs) := Classical.propDecidable _
end T3

end
section
set_option linter.all false
set_option autoImplicit false
set_option Elab.async false
set_option maxRecDepth 100000
namespace T3
open PySem L2
variable [TabL]
end T3

end
section
set_option linter.all false
set_option autoImplicit false
set_option Elab.async false
set_option maxRecDepth 100000
namespace T3
open PySem L2
variable [TabL]
def MinOk (xs : List PyData) : Prop := PyData.canLayAll0 xs = true ∧ PySem.W.AlikeAll xs ∧ PyData.depthAll xs ≤ 30
noncomputable instance (xs : List PyData) : Decidable (MinOk xs) := Classical.propDecidable _
end T3

end
section
set_option linter.all false
set_option autoImplicit false
set_option Elab.async false
set_option maxRecDepth 100000
namespace L2
open PySem PySem.Spec PyProof.Rows
abbrev TLay := Addr → V → V → Hp → (Hp → Prop) → Prop
structure PLay (X : Cx) (l : TLay) : Prop where
  run : ∀ (pins : List (Addr × Obj)) (σ : St) (H : Hp) (s : Shared) (D : Addr) (y z : V) (u r : Value) (N : Hp → Prop) (Q : Unit → Shared → Prop) (E : Value → Shared → Prop),
    Inv X pins σ H s → RelV y u → RelV z r → l D y z H N → (∀ s' H', Inv X pins σ H' s' → N H' → Q () s') → wpAny (model X.prog X.w) X.A (dictSet D u r) Q E s
structure LayT (l : TLay) (D : Addr) (J : It) (g : TG) (tk tv : TE) (vs : List Nat) (σ : St) (W : Nat → Nat → Hp → Prop) (fin : Hp → Prop) : Prop where
  turn : ∀ (i m : Nat) (H : Hp), W i m H → (J.stop i H ∧ fin H) ∨ (J.go i H ∧ ∃ Nx : Hp → Prop, (∀ H', Nx H' → ∃ m', m' < m ∧ W (i + 1) m' H') ∧
    ∀ x H', J.yld i H x H' → g x (wipe σ vs) H' fun τ H2 => wipe τ vs = wipe σ vs ∧ tk τ H2 fun y H4 => tv τ H4 fun z H5 => l D y z H5 Nx)
section
variable {X : Cx}
end
end L2
namespace T3
open PySem L2
variable [TabL]
section
variable {X : Cx}
end
end T3

end
section
set_option linter.all false
set_option autoImplicit false
set_option Elab.async false
set_option maxRecDepth 100000
namespace T3
open PySem L2
variable [TabL]
def gM (i : Nat) : GG := fun x env => match x with
  | .dict [(.bool true, .tuple xs)] => setR i (.nt xs) env
  | _ => setR i (.pd x) env
@[simp] theorem z_gM (i : Nat) (xs : List PyData) (env : Sl) : gM i (ntD xs) env = setR i (.nt xs) env := rfl
@[simp] theorem z_gMp (i : Nat) (xs : List PyData) (env : Sl) : gM i (.tuple xs) env = setR i (.pd (.tuple xs)) env := rfl
@[simp] theorem z_gMl (i : Nat) (xs : List PyData) (env : Sl) : gM i (.list xs) env = setR i (.pd (.list xs)) env := rfl
@[simp] theorem z_gMi (i : Nat) (n : Int) (env : Sl) : gM i (.int n) env = setR i (.pd (.int n)) env := rfl
section
variable {X : Cx} {a b : Expr} {fa fb : EE} {p p2 pos pos2 : Pos}
end
end T3

end
section
set_option linter.all false
set_option autoImplicit false
set_option Elab.async false
set_option maxRecDepth 100000
namespace T3
open PySem PySem.Spec PyProof.Rows L2
variable [TabL]
section
variable {X : Cx}
end
end T3

end
section
set_option linter.all false
set_option autoImplicit false
set_option Elab.async false
set_option maxRecDepth 100000
namespace T3
open PySem PySem.Spec PyProof.Rows L2
variable [TabL]
section
variable {X : Cx} {o e : Expr} {fo : EE} {fa : EA} {apos cpos : Pos}
end
end T3

end
section
set_option linter.all false
set_option autoImplicit false
set_option Elab.async false
set_option maxRecDepth 100000
namespace L2
open PySem PySem.Spec PyProof.Rows
section
variable {P : Program} {w : World} {A : Around} {E : Value → Shared → Prop} {s : Shared}
end
section
variable {X : Cx}
end
end L2
namespace T3
open PySem PySem.Spec PyProof.Rows L2
variable [TabL]
end T3

end
section
set_option linter.all false
set_option autoImplicit false
set_option Elab.async false
set_option maxRecDepth 100000
namespace T3
open PySem L2
variable [TabL]
theorem RpA.two {K : PySem.W.Frag} {B : Mset} {H : Hp} {us : List V} {x y : PyData} (h : RpA K B H us [x, y]) : ∃ w1 w2, us = [w1, w2] ∧ Rp K B H w1 x ∧ Rp K B H w2 y := by
  cases h with
  | cons u1 h =>
    cases h with
    | cons u2 h =>
      cases h
      exact ⟨_, _, rfl, u1, u2⟩
end T3

end
section
set_option linter.all false
set_option autoImplicit false
set_option Elab.async false
set_option maxRecDepth 100000
namespace T3
open PySem L2
variable [TabL]
end T3

end
section
set_option linter.all false
set_option autoImplicit false
set_option Elab.async false
set_option maxRecDepth 100000
namespace T3
open PySem PySem.Spec PyProof.Rows L2 LamA NdefX LamX
variable [TabL]
section
variable {X : Cx} {x : Str} {st : Stmt} {Ng psg : List Str} {k j : Nat} {q capt : Str} {params : Arguments} {body : Expr} {scope : Scope} {M : PyData → List PyData → SS} {p lpos pos : Pos} {e1 e2 : Expr} {f1 f2 : EE} {cX P : Addr} {y : Str} {x4 : PyData} {py : Pos}
end
end T3

end
section
set_option linter.all false
set_option autoImplicit false
set_option Elab.async false
set_option maxRecDepth 100000
namespace T3
open PySem L2
variable [TabL]
end T3

end
section
set_option linter.all false
set_option autoImplicit false
set_option Elab.async false
set_option maxRecDepth 100000
namespace T3
open PySem L2
variable [TabL]
noncomputable instance reprFits (x : Str) : Decidable ((reprText x).length ≤ sizeLine) := Classical.propDecidable _
end T3

end
section
set_option linter.all false
set_option autoImplicit false
set_option Elab.async false
set_option maxRecDepth 100000
namespace L2
open PySem PySem.Spec PyProof.Rows
def IteS (K : PySem.W.Frag) (a : Addr) (k : Int) : It :=
  ⟨fun i H => ∃ (xs : List V) (x : V), SqL K H a xs ∧ xs[i]? = some x, fun i H v H' => ∃ T x, v = .ref T ∧ H T = none ∧ H' = upd H T (.tup [.int (k + (i : Nat)), x]) ∧ ∀ xs, SqL K H a xs → xs[i]? = some x, fun i H => ∃ xs : List V, SqL K H a xs ∧ xs.length ≤ i⟩
theorem endW {prog : Program} {w : World} {A : Around} (nh : A.handled = none) (it l : Addr) (items : Array Value) (i : Nat) (big : items.size ≤ i) :
    Draws prog w A it [it, l] i (fun _ _ => True) (fun j h => j = i ∧ h.IsListIter it l i ∧ h.IsList l items) where
  live := fun _ _ q => let ⟨o, go, _⟩ := q.2.1; ⟨o, go⟩
  frame := fun _ _ _ q kk => ⟨q.1, q.2.1.at fun o z => kk it (by simp) o z, q.2.2.at fun o z => kk l (by simp) o z⟩
  item := fun j s Q E lt q _ => absurd q.1 (Nat.ne_of_lt lt)
  done := fun s Q E q z => wpAny_nextOf_list_end nh q.2.1 q.2.2 (by simp; omega) z
theorem turn_enumS {P : Program} {w : World} {K : PySem.W.Frag} {elts : List Expr} {kk : Nat} {tpos : Pos} (a e it : Addr) (k : Int) :
    Turn P w K (.Tuple elts kk tpos) (IteS K a k) [e, it] e (fun i h => (∃ od, IsEnum h e it (k + ((i : Nat) : Int)) od) ∧ h.IsListIter it a i ∧ e ≠ it ∧ a ≠ it ∧ e ≠ a) where
  mem := by simp
  obj := fun i h sT b hb => by
    obtain ⟨⟨od, gE⟩, ⟨o, gO, hc, gD⟩, _⟩ := sT
    have e' : b = e ∨ b = it := by simpa using hb
    rcases e' with z | z
    · rw [z]; exact ⟨_, gE, fun v q => nomatch q⟩
    · rw [z]; exact ⟨o, gO, fun v q => by rw [gD] at q; cases q⟩
  keep := fun i h h' sT k => let ⟨⟨od, gE⟩, hi, n1, n2, n3⟩ := sT; ⟨⟨od, k e (by simp) _ gE⟩, hi.at fun o q => k it (by simp) o q, n1, n2, n3⟩
  item := by
    intro X hP hw hK hc i pins s σ H E I fF sT gg
    subst hP hw hK
    obtain ⟨⟨od, gE⟩, gI, n1, n2, n3⟩ := sT
    obtain ⟨xs, x, gq, gX⟩ := gg
    obtain ⟨wz, rW, p, zS⟩ := I.list gq
    obtain ⟨u, gu, gr⟩ := rW.get gX
    have le1 : e < s.heap.objs.size := Heap.lt_size gE
    have le2 : it < s.heap.objs.size := by obtain ⟨_, q, _⟩ := gI; exact Heap.lt_size q
    have li : i < wz.toArray.size := by
      have := (List.getElem?_eq_some_iff.mp gu).1
      simpa using this
    refine wpAny_pyNext_enum_itemC (P := fun i v => wz.toArray[i]? = some v) (Draws.list (A := X.A.in1) (I.ok.hd hc) it a n2 wz.toArray) gE ⟨gI, p.isList⟩ li n1 (by simp; exact ⟨n1, n3⟩) fun u' h' tk hP' gO hst' hT hsz hk => ?_
    have eu : u' = u := by
      have h1 : wz.toArray[i]? = some u' := hP'
      have h2 : wz.toArray[i]? = some u := by simpa using gu
      rw [h1] at h2
      cases h2
      rfl
    subst eu
    refine ⟨_, rfl, wpAny_letOwnedTupleGo_enum (s := { s with heap := h', toks := tk + 1 }) gO fun h'' gE' sB => ?_⟩
    have hT2 : h''.get? s.heap.objs.size = some { cls := .type "tuple", data := .seq #[.int (k + (i : Nat)) tk, u'] } := (sB.2 _ (Nat.ne_of_gt le1)).trans hT
    have new : ObjOk X.prog X.w (upd H s.heap.objs.size (.tup [.int (k + (i : Nat)), x])) h'' s.heap.objs.size (.tup [.int (k + (i : Nat)), x]) :=
      ⟨by show 2 ≤ sizeLine; decide, [.int (k + (i : Nat)) tk, u'], .cons ⟨_, rfl⟩ (.cons gr .nil), ⟨_, hT2, rfl, _, rfl⟩⟩
    have I1 : Inv X pins σ (upd H s.heap.objs.size (.tup [.int (k + (i : Nat)), x])) { s with heap := h'', toks := tk + 1 } :=
      I.turnedNew (t' := tk + 1) (ch := [e, it]) (fun b ob hb q => (sB.2 b (fun z => hb (by simp [z]))).trans (hk b ob (fun z => hb (by simp [z])) (fun z => hb (by simp [z])) q)) fF (Nat.le_refl _) new
    refine ⟨.ref s.heap.objs.size, _, I1, rfl, ⟨_, x, rfl, I.hok.fresh (Nat.le_refl _), rfl, fun ys hy => by rw [I.list_inj hy gq]; exact gX⟩, ⟨⟨u', ?_⟩, hst'.1.at fun o q => (sB.2 it (Ne.symm n1)).trans q, n1, n2, n3⟩, fun b hb => ?_⟩
    · have e1 : k + ((i + 1 : Nat) : Int) = k + (i : Int) + 1 := by omega
      rw [e1]; exact gE'
    · have hb' : b < s.heap.objs.size := by
        have e' : b = e ∨ b = it := by simpa using hb
        rcases e' with z | z
        · rw [z]; exact le1
        · rw [z]; exact le2
      rw [upd_ne (Nat.ne_of_lt hb')]
      exact (fF b hb).1
  done := by
    intro X hP hw hK hc i pins s σ H E I fF sT gg
    subst hP hw hK
    obtain ⟨⟨od, gE⟩, gI, n1, n2, n3⟩ := sT
    obtain ⟨xs, gq, gX⟩ := gg
    obtain ⟨wz, rW, p, zS⟩ := I.list gq
    obtain ⟨f0, f1, f2, f3, f4, f5⟩ := fF it (by simp)
    have gl := rW.length
    have hi : i ≥ wz.length := by omega
    refine wpAny_pyNext_enum_endD (endW (A := X.A.in1) (I.ok.hd hc) it a wz.toArray i (by simp; omega)) gE ⟨rfl, gI, p.isList⟩ fun h' eb => ⟨rfl, I.turned (t' := s.toks) (fun b ob nb q => eb b ob nb q) f0 f1 f3 f4 f5⟩
  self := fun A i s Q E sT h => let ⟨⟨_, gE⟩, _⟩ := sT; wpAny_pyIter_enum gE h
theorem cw_ty {M : Model} {A : Around} {E : Value → Shared → Prop} {s : Shared} {env : Env} {pos : Pos} {T : String} {e : Expr} {rest : List Expr} {kws : List Keyword} {Q : Value → Shared → Prop}
    (h : wpAny M A (spliced (backTo pos (starEach (e :: rest) env))) (fun us t => wpAny M A (evalAll ((backToKw pos (keywordEach kws env)).map (·.2)))
      (fun ks t2 => wpAny M A (call (.type T) us (((backToKw pos (keywordEach kws env)).filterMap (·.1)).zip ks)) Q E t2) E t) E s)
    (hs : backTo pos (starEach (e :: rest) env) = (false, eval e env) :: backTo pos (starEach rest env)) (hp : (backTo pos (starEach (e :: rest) env)).any (·.1) = false)
    (ha : (backToKw pos (keywordEach kws env)).all (·.1.isSome) = true) (hk : (backToKw pos (keywordEach kws env)).any (·.1.isNone) = false) :
    wpAny M A (callWith pos (.type T) [] (backTo pos (starEach (e :: rest) env)) (backToKw pos (keywordEach kws env))) Q E s := by
  rw [hs] at h hp ⊢
  have hc := evalArgs_kwB (f := .type T) (Q := fun a t => wpAny M A (call (.type T) ([] ++ a.pos) a.kw) Q E t) ha h
  unfold callWith
  apply wpAny_bind
  apply wpAny_holding
  refine wpAny_mono hc (fun a t h1 => ?_) (fun _ _ x => x)
  apply wpAny_bind
  apply wpAny_standAt
  simp only [hp, hk, Bool.or_false]
  apply wpAny_bind
  apply wpAny_pure
  apply wpAny_bind
  refine wpAny_mono h1 (fun r t2 hr => ?_) (fun _ _ x => x)
  exact wpAny_bind (wpAny_holding (wpAny_point (wpAny_pure hr)))
def iEnumS (K : PySem.W.Frag) (ta : TA) (k : Int) : TI := fun σ H R => ta σ H fun vs H1 => ∃ a xs, vs = [.ref a] ∧ SqL K H1 a xs ∧ R (IteS K a k) H1
theorem pi_enumS {X : Cx} {e : Expr} {ta : TA} {p pos tpos cp kp : Pos} {elts : List Expr} {kk ck : Nat} (hg : Gl X "enumerate") (hm : X.mg "enumerate" = none) (ha : PA X [e] ta)
    (hs : backTo pos (starEach [e] X.env) = (false, eval e X.env) :: backTo pos (starEach [] X.env) := by rfl) (hp : (backTo pos (starEach [e] X.env)).any (·.1) = false := by rfl) :
    PI X (.Tuple elts kk tpos) (.Call (.Name "enumerate" p) [e] [⟨some "start", .Constant (.int 1) ck cp, kp⟩] pos) (iEnumS X.K ta 1) := by
  refine ⟨fun pins s σ H R I h => ?_⟩
  have pk : PK X [⟨some "start", .Constant (.int 1) ck cp, kp⟩] (tCons (tC (.int 1)) tNil) := pk_cons pe_int pk_nil
  refine wpAny_Call_Name_kw (ld_blt I hg hm boot_enumerate ?_ (by decide) (by decide))
  refine cw_ty (thn (ha.run pos pins s σ H _ I h) fun us s1 ⟨vs, H1, I1, r1, a, xs, ev, gq, q⟩ => ?_) hs hp rfl rfl
  subst ev
  refine thn (pk.run pos pins s1 σ H1 (fun zs H2 => zs = [.int 1] ∧ H2 = H1) I1 ⟨rfl, rfl⟩) fun ws s2 ⟨zs, H2, I2, r2, ez, eh⟩ => ?_
  subst ez eh
  cases r1 with
  | cons r rr =>
    cases rr
    cases r
    cases r2 with
    | cons t tt =>
      cases tt
      obtain ⟨tk, rfl⟩ := t
      obtain ⟨wz, rW, pl, zS⟩ := I2.list gq
      show wpAny _ _ (call (.type "enumerate") [.ref a] [(Str.ofString "start", .int 1 tk)]) _ _ _
      refine enum_begins_start (begins_list a wz.toArray) pl.isList (by decide) (by decide) fun h' gE gI zE kE => wpAny_pyIter_enum gE ?_
      have I3 : Inv X pins σ H2 { s2 with heap := h' } := I2.kept (t' := s2.toks) kE
      have la : a < s2.heap.objs.size := by
        obtain ⟨o, go, _⟩ := pl.isList
        exact Heap.lt_size go
      refine ⟨s2.heap.objs.size + 1, [s2.heap.objs.size + 1, s2.heap.objs.size], _, _, H2, rfl, I3, turn_enumS a (s2.heap.objs.size + 1) s2.heap.objs.size 1, ⟨⟨.none, gE⟩, ⟨_, gI, rfl, rfl⟩, Nat.succ_ne_self _, Nat.ne_of_lt la, Nat.ne_of_gt (Nat.lt_succ_of_lt la)⟩, fun b hb => ?_, q⟩
      have lb : s2.heap.objs.size ≤ b := by
        have : b = s2.heap.objs.size + 1 ∨ b = s2.heap.objs.size := by simpa using hb
        rcases this with z | z
        · rw [z]; exact Nat.le_add_right _ _
        · rw [z]; exact Nat.le_refl _
      exact I2.fpOk lb (I2.hok.fresh lb)
end L2

end
section
set_option linter.all false
set_option autoImplicit false
set_option Elab.async false
set_option maxRecDepth 100000
namespace T3
open PySem L2
variable [TabL]
theorem wk_esM {K : PySem.W.Frag} {a : Addr} {xs : List PyData} : Wk K (IteS K a 1) (fun q => q = a) (fun B H => ∃ vs, H a = some (.lst vs) ∧ RpA K B H vs xs) (enumD xs 1) where
  go i B H g hi := by
    obtain ⟨us, h1, h2⟩ := g
    simp only [enumD, List.length_map, List.length_range] at hi
    have l1 := h2.length
    exact ⟨us, us[i]'(by omega), .inl (.inl h1), by simp⟩
  stop B H g := by
    obtain ⟨us, h1, h2⟩ := g
    refine ⟨us, .inl (.inl h1), ?_⟩
    simp only [enumD, List.length_map, List.length_range]
    have l1 := h2.length
    omega
  yld i B H x H' d g hd hy := by
    obtain ⟨us, h1, h2⟩ := g
    obtain ⟨T, u, rfl, nT, rfl, f1⟩ := hy
    refine ⟨.inr (.inl ⟨T, _, nT, rfl⟩), ?_⟩
    obtain ⟨x, m1, m2⟩ := h2.getV (f1 us (.inl (.inl h1)))
    have hi : i < xs.length := (List.getElem?_eq_some_iff.mp m1).1
    simp only [enumD, List.getElem?_map, List.getElem?_range hi, Option.map_some] at hd
    cases hd
    have : xs.getD i .none = x := by
      rw [List.getD_eq_getElem?_getD, m1]
      rfl
    rw [this, show ((1 + i : Nat) : Int) = 1 + ((i : Nat) : Int) by omega]
    have gr : Grow B H B (upd H T (.tup [.int (1 + ((i : Nat) : Int)), u])) := ⟨fun q o h _ => keep_upd nT q o h, fun q h => .inl h⟩
    exact .tup (.inl (.inl upd_same)) (.cons (.int _) (.cons (m2.grow gr) .nil))
  keep W B H W' B' H' g s wb hp := by
    obtain ⟨vs, h1, h2⟩ := g
    exact ⟨vs, s.keep _ _ h1 (.inl ⟨hp a rfl, fun _ z => nomatch z⟩), h2.grow (s.grow wb)⟩
theorem wk_esD {K : PySem.W.Frag} {a : Addr} {xs : List PyData} : Wk K (IteS K a 1) (fun _ => False) (fun B H => Rp K B H (.ref a) (.list xs)) (enumD xs 1) where
  go i B H g hi := by
    obtain ⟨_, us, e, h1, h2⟩ := Cn.list (.rp g)
    cases e
    simp only [enumD, List.length_map, List.length_range] at hi
    have l1 := h2.length
    exact ⟨us, us[i]'(by omega), h1, by simp⟩
  stop B H g := by
    obtain ⟨_, us, e, h1, h2⟩ := Cn.list (.rp g)
    cases e
    refine ⟨us, h1, ?_⟩
    simp only [enumD, List.length_map, List.length_range]
    have l1 := h2.length
    omega
  yld i B H x H' d g hd hy := by
    obtain ⟨_, us, e, h1, h2⟩ := Cn.list (.rp g)
    cases e
    obtain ⟨T, u, rfl, nT, rfl, f1⟩ := hy
    refine ⟨.inr (.inl ⟨T, _, nT, rfl⟩), ?_⟩
    obtain ⟨x, m1, m2⟩ := h2.getV (f1 us h1)
    have hi : i < xs.length := (List.getElem?_eq_some_iff.mp m1).1
    simp only [enumD, List.getElem?_map, List.getElem?_range hi, Option.map_some] at hd
    cases hd
    have : xs.getD i .none = x := by
      rw [List.getD_eq_getElem?_getD, m1]
      rfl
    rw [this, show ((1 + i : Nat) : Int) = 1 + ((i : Nat) : Int) by omega]
    have gr : Grow B H B (upd H T (.tup [.int (1 + ((i : Nat) : Int)), u])) := ⟨fun q o h _ => keep_upd nT q o h, fun q h => .inl h⟩
    exact .tup (.inl (.inl upd_same)) (.cons (.int _) (.cons (m2.grow gr) .nil))
  keep W B H W' B' H' g s wb _ := g.grow (s.grow wb)
def iEnS (f : EE) : EI := fun env => match f env with
  | some (.pd (.list xs), e) => some (enumD xs 1, none, e)
  | some (.tmp (.ls xs), e) => some (enumD xs 1, none, e)
  | some (.var i, e) => match e[i]? with
    | some (some (.mu m (.ls xs))) => some (enumD xs 1, some (i, m), e.set i (some (.mu .fro (.ls xs))))
    | _ => none
  | _ => none
theorem i_enS {X : Cx} {e : Expr} {f : EE} {p pos tpos cp kp : Pos} {elts : List Expr} {kk ck : Nat} (hg : Gl X "enumerate") (hm : X.mg "enumerate" = none) (he : PE X e (tE X.K f)) (hs : starEach [e] X.env = [(false, eval e X.env)] := by rfl) :
    PI X (.Tuple elts kk tpos) (.Call (.Name "enumerate" p) [e] [⟨some "start", .Constant (.int 1) ck cp, kp⟩] pos) (tI X.K (iEnS f)) := PI.imp (pi_enumS hg hm (a_cons he a_nil hs) (by rw [hs]; rfl) (by rw [hs]; rfl)) fun σ H R h => by
  obtain ⟨B, env, xs, lk, env', en, ev, q⟩ := h
  unfold iEnS at ev
  split at ev
  · rename_i ys e h1
    cases ev
    refine ⟨B, env, [.pd (.list ys)], env', en, by simp [h1], fun B1 H1 vs a1 r1 => ?_⟩
    obtain ⟨v, rfl, r2⟩ := r1.one
    have r2 : Rp X.K B1 H1 v (.list ys) := r2
    obtain ⟨a, us, rfl, h2, h3⟩ := Cn.list (.rp r2)
    exact ⟨a, us, rfl, h2, q B1 H1 _ _ _ _ a1 rfl wk_esD r2 (fun _ z => z.elim)⟩
  · rename_i ys e h1
    cases ev
    refine ⟨B, env, [.tmp (.ls ys)], env', en, by simp [h1], fun B1 H1 vs a1 r1 => ?_⟩
    obtain ⟨v, rfl, r2⟩ := r1.one
    obtain ⟨a, rfl, k0, k1, ⟨us, k2, k3⟩, k4⟩ := r2
    refine ⟨a, us, rfl, .inl (.inl k2), q B1 H1 _ _ _ _ a1 rfl wk_esM ⟨us, k2, k3⟩ (fun p z => ?_)⟩
    subst z
    exact ⟨fun ⟨i, m, c, g1, _, g3⟩ => k4 i m c g1 g3, _, k2⟩
  · rename_i i e h1
    split at ev
    · rename_i m ys h2
      cases ev
      refine ⟨B, env, [.var i], e, en, by simp [h1], fun B1 H1 vs a1 r1 => ?_⟩
      obtain ⟨v, rfl, r2⟩ := r1.one
      have k1 : σ[i]? = some (some v) := r2
      obtain ⟨a, g1, g2, us, g3, g4⟩ := a1.en.mu i _ _ h2
      rw [k1] at g1
      cases g1
      refine ⟨a, us, rfl, .inl (.inl g3), q B1 H1 _ _ _ _ a1 ⟨_, h2, rfl⟩ wk_esM ⟨us, g3, g4⟩ (fun p z => ?_)⟩
      subst z
      refine ⟨fun ⟨j, m', c, z1, z2, z3⟩ => ?_, _, g3⟩
      rcases get_set z1 with ⟨e1, e2⟩ | ⟨e1, z1⟩
      · cases e2; exact z2 rfl
      · exact e1 (a1.en.inj i j _ _ _ _ _ h2 z1 k1 z3)
    · cases ev
  · cases ev
@[simp] theorem z_enS (f : EE) (env : Sl) : iEnS f env = (match f env with
  | some (.pd (.list xs), e) => some (enumD xs 1, none, e)
  | some (.tmp (.ls xs), e) => some (enumD xs 1, none, e)
  | some (.var i, e) => match e[i]? with
    | some (some (.mu m (.ls xs))) => some (enumD xs 1, some (i, m), e.set i (some (.mu .fro (.ls xs))))
    | _ => none
  | _ => none) := rfl
end T3

end
section
set_option linter.all false
set_option autoImplicit false
set_option Elab.async false
set_option maxRecDepth 100000
namespace L2
open PySem PySem.Spec PyProof.Rows
abbrev dKw (d : Value) : List (Str × Value) := [(Str.ofString "default", d)]
theorem argsMx (z d : Value) : argsOk "max" ⟨[z], dKw d⟩ := by
  unfold argsOk
  kernel_rfl
section
variable {prog : Program} {w : World} {A : Around}
theorem tree_kw {E : Value → Shared → Prop} {t : Shared} {fid : String} {bb : Builtin} {az : List Value} {kz : List (Str × Value)} {Q : Value → Shared → Prop} (h1 : builtinKind fid = none) (h2 : plainId fid = true)
    (h3 : entryFor table fid = some bb) (h4 : argsOk fid ⟨az, kz⟩)
    (h5 : wpAny (model prog w) A.in1 (bb ⟨az, kz⟩) (fun fin t' => match fin with
      | .done f => (match (Except.ok f : Result) with | .ok (.ret v) => Q v t' | .ok _ => False | .error e => E e t')
      | .again c => c.quiet = true ∧ codeAny (model prog w) A c (fun r t' => match r with | .ok (.ret v) => Q v t' | .ok _ => False | .error e => E e t') t') E t) :
    wpAny (model prog w) A (call (.builtin fid) az kz) Q E t := by
  refine wpAny_call (codeAny_call_builtin h2 h3 ?_)
  simp only [checkBuiltinCall, h1]
  cases sg : Manifest.signature? fid with
  | none => exact wpAny_pure h5
  | some sig =>
    simp only [argsOk, sg] at h4
    have h6 : Bind.checkArgs fid sig ⟨az, kz⟩ = pure () := h4
    show wpAny _ A.in1 (Bind.checkArgs fid sig ⟨az, kz⟩) _ _ t
    rw [h6]
    exact wpAny_pure h5
variable {R : Result → Shared → Prop} {it : Addr} {fs ws : List Addr} {m : Nat} {Pv : Nat → Value → Prop} {Sv : Nat → Heap → Prop} {d : Value}
theorem mx_more (ww : Walks prog w A.in1 it fs ws m Pv Sv) (gt : Nat → Nat → Bool) (hg : CmpOf prog w A.in1 .Gt Pv gt) (B : Addr) (hB : B ∉ fs) :
    ∀ (k j : Nat) (t : Shared) (top : Value) (ep : Nat), m - (j + 1) = k → j + 1 ≤ m → Sv (j + 1) t.heap → Pv (argBest gt j) top →
    t.heap.get? B = some { cls := .type "list", dict := none, data := .seq #[top, top] ep, slots := #[] } →
    (∀ v hp tn, Pv (argBest gt (m - 1)) v → (∀ b o, b ∉ ws → b ≠ B → t.heap.get? b = some o → hp.get? b = some o) → R (.ok (.ret v)) { t with heap := hp, toks := tn }) →
    codeAny (model prog w) A (.builtin "max.loop" ⟨[.ref it, .none, .ref B], dKw d⟩) R t := by
  have nB : B ∉ ws := fun z => hB (ww.sub _ z)
  have nm : (toString "max" ++ toString ".loop" : String) = "max.loop" := by decide
  intro k
  induction k with
  | zero =>
    intro j t top ep hk hj hs hp gB hR
    have hm : j + 1 = m := by omega
    refine codeAny_builtin F.entry_max_loop ?_
    rw [Around.under_plainId F.plain_max_loop _]
    show wpAny _ A.in1 (seqItems? (.ref B) >>= _) _ _ t
    refine wpAny_bind (wpAny_seqItems gB rfl ?_)
    show wpAny _ A.in1 (tryCatch (pyNext (.ref it)) _ >>= _) _ _ t
    refine wpAny_bind (wpAny_tryCatch (ww.done t _ _ (hm ▸ hs) fun hq tn kq => ?_))
    have gB' := kq B _ nB gB
    show wpAny _ A.in1 (updateSeq B (fun _ => #[]) >>= _) _ _ _
    refine wpAny_bind ?_
    refine wpAny_updateSeq gB' rfl (wpAny_bind (wpAny_letGo (wpAny_pure ?_)))
    exact hR top _ tn (by rw [← hm]; exact hp) fun b o n1 n2 q => (Heap.get?_update_other _ _ (Ne.symm n2)).trans (kq b o n1 q)
  | succ k ih =>
    intro j t top ep hk hj hs hp gB hR
    have hm : j + 1 < m := by omega
    refine codeAny_builtin F.entry_max_loop ?_
    rw [Around.under_plainId F.plain_max_loop _]
    show wpAny _ A.in1 (seqItems? (.ref B) >>= _) _ _ t
    refine wpAny_bind (wpAny_seqItems gB rfl ?_)
    show wpAny _ A.in1 (tryCatch (pyNext (.ref it)) _ >>= _) _ _ t
    refine wpAny_bind (wpAny_tryCatch (ww.item (j + 1) t _ _ hm hs fun u hq tn hu hs' kq => ?_))
    have gB' := kq B _ nB gB
    show wpAny _ A.in1 (tryCatch (holding [u, u] (richCompare .Gt u top >>= _)) _ >>= _) _ _ _
    refine wpAny_bind (wpAny_tryCatch (wpAny_holding (wpAny_bind (hg (j + 1) (argBest gt j) u top _ _ _ hu hp ?_))))
    refine wpAny_bind (wpAny_holding (wpAny_truthy_bool ?_))
    refine wpAny_bind (wpAny_letGo (wpAny_pure ?_))
    cases hb : gt (j + 1) (argBest gt j) with
    | true =>
      simp only [if_true]
      refine wpAny_bind ?_
      refine wpAny_updateSeq gB' rfl (wpAny_bind (wpAny_letGo ?_))
      rw [nm]
      refine wpAny_pure ⟨plainId_quiet F.plain_max_loop _, ih (j + 1) _ u _ (by omega) hm (ww.frame _ _ _ hs' fun b hbf o q => ?_) (by simp only [argBest, hb, if_true]; exact hu) (Heap.get?_update_self _ gB' rfl)
        fun v hr tr hv kr => ?_⟩
      · exact (Heap.get?_update_other _ _ (fun z : B = b => hB (by rw [z]; exact hbf))).trans q
      · exact hR v hr tr hv fun b o n1 n2 q => kr b o n1 n2 ((Heap.get?_update_other _ _ (Ne.symm n2)).trans (kq b o n1 q))
    | false =>
      simp only [Bool.false_eq_true, if_false]
      refine wpAny_bind (wpAny_letGo ?_)
      rw [nm]
      refine wpAny_pure ⟨plainId_quiet F.plain_max_loop _, ih (j + 1) _ top ep (by omega) hm hs' (by simp only [argBest, hb, Bool.false_eq_true, if_false]; exact hp) gB' fun v hr tr hv kr => ?_⟩
      exact hR v hr tr hv fun b o n1 n2 q => kr b o n1 n2 (kq b o n1 q)
theorem mx_first (ww : Walks prog w A.in1 it fs ws m Pv Sv) (gt : Nat → Nat → Bool) (hg : CmpOf prog w A.in1 .Gt Pv gt) (B : Addr) (hB : B ∉ fs) {t : Shared} {ep : Nat} (hs : Sv 0 t.heap)
    (gB : t.heap.get? B = some { cls := .type "list", dict := none, data := .seq #[] ep, slots := #[] })
    (h0 : m = 0 → ∀ hp tn, (∀ b o, b ∉ ws → b ≠ B → t.heap.get? b = some o → hp.get? b = some o) → R (.ok (.ret d)) { t with heap := hp, toks := tn })
    (hR : 0 < m → ∀ v hp tn, Pv (argBest gt (m - 1)) v → (∀ b o, b ∉ ws → b ≠ B → t.heap.get? b = some o → hp.get? b = some o) → R (.ok (.ret v)) { t with heap := hp, toks := tn }) :
    codeAny (model prog w) A (.builtin "max.loop" ⟨[.ref it, .none, .ref B], dKw d⟩) R t := by
  have nB : B ∉ ws := fun z => hB (ww.sub _ z)
  have nm : (toString "max" ++ toString ".loop" : String) = "max.loop" := by decide
  refine codeAny_builtin F.entry_max_loop ?_
  rw [Around.under_plainId F.plain_max_loop _]
  show wpAny _ A.in1 (seqItems? (.ref B) >>= _) _ _ t
  refine wpAny_bind (wpAny_seqItems gB rfl ?_)
  show wpAny _ A.in1 (tryCatch (pyNext (.ref it)) _ >>= _) _ _ t
  by_cases z : m = 0
  · refine wpAny_bind (wpAny_tryCatch (ww.done t _ _ (z ▸ hs) fun hq tn kq => ?_))
    refine wpAny_bind (wpAny_rule ?_)
    exact wpAny_pure (h0 z _ _ fun b o n1 n2 q => kq b o n1 q)
  · have hm : 0 < m := by omega
    refine wpAny_bind (wpAny_tryCatch (ww.item 0 t _ _ hm hs fun u hq tn hu hs' kq => ?_))
    have gB' := kq B _ nB gB
    show wpAny _ A.in1 (updateSeq B (fun _ => #[u, u]) >>= _) _ _ _
    refine wpAny_bind ?_
    refine wpAny_updateSeq gB' rfl ?_
    rw [nm]
    refine wpAny_pure ⟨plainId_quiet F.plain_max_loop _, mx_more ww gt hg B hB _ 0 _ u _ rfl hm (ww.frame _ _ _ hs' fun b hbf o q => ?_) hu (Heap.get?_update_self _ gB' rfl) fun v hr tr hv kr => ?_⟩
    · exact (Heap.get?_update_other _ _ (fun z : B = b => hB (by rw [z]; exact hbf))).trans q
    · exact hR hm v hr tr hv fun b o n1 n2 q => kr b o n1 n2 ((Heap.get?_update_other _ _ (Ne.symm n2)).trans (kq b o n1 q))
end
def maxD (d : Int) : List Int → Int
  | [] => d
  | n :: ns => ns.foldl max n
def rMaxD (K : PySem.W.Frag) : List V → List V → Hp → VK → Prop := fun vs zs H Q => ∃ (a : Addr) (ns : List Int) (d : Int), vs = [V.ref a] ∧ zs = [V.int d] ∧ SqL K H a (ns.map V.int) ∧ Q (.int (maxD d ns)) H
theorem cr_maxD {X : Cx} (hc : X.calm = true) : CallRK X (.builtin "max") [Str.ofString "default"] (rMaxD X.K) := by
  intro pins t σ H xs zs us wz Q I r1 r2 h
  obtain ⟨a, ns, d, rfl, rfl, hs, q⟩ := h
  obtain ⟨its, rv, hl, _⟩ := I.list hs
  rw [Vals.ref1 r1]
  cases r2 with
  | cons r r3 =>
    cases r3
    obtain ⟨tk, rfl⟩ := r
    obtain ⟨ys, e⟩ := rv.ints.allInts.items
    have hn : numsOf (intItems ys).toList = ns := by rw [← e]; exact rv.ints.numsOf
    rw [nums_intItems] at hn
    subst hn
    have hl' := hl.isList
    rw [e] at hl'
    show wpAny _ _ (call (.builtin "max") [.ref a] (dKw (.int d tk))) _ _ _
    have nm : (toString "max" ++ toString ".loop" : String) = "max.loop" := by decide
    refine tree_kw F.kind_max F.plain_max F.entry_max (argsMx _ _) ?_
    show wpAny _ X.A.in1 (Builtin.Builtins.bindParams "max" ["key", "default"] 0 ⟨[], dKw (.int d tk)⟩ >>= _) _ _ t
    refine wpAny_bind (wpAny_of_eq (show Builtin.Builtins.bindParams "max" ["key", "default"] 0 ⟨[], dKw (.int d tk)⟩ = pure [none, some (.int d tk)] from rfl) ?_)
    refine wpAny_bind (wpAny_pure ?_)
    refine wpAny_bind (iter_intList hl' fun t2 e2 st hf nl => ?_)
    subst e2
    refine wpAny_bind (wpAny_newObj_type ?_)
    rw [nm]
    refine wpAny_pure ⟨plainId_quiet F.plain_max_loop _, ?_⟩
    refine mx_first (Walks.list (A := X.A.in1) (I.ok.hd hc) _ a nl (intItems ys)) _ (CmpOf.ints_gt (numAt ys) (fun _ _ => intItems_at)) _ (fun hm => Nat.lt_irrefl _ (hf _ hm)) ((Walks.list (prog := X.prog) (w := X.w) (A := X.A.in1) (I.ok.hd hc) _ a nl (intItems ys)).frame 0 _ _ st fun b _ o q => Heap.get?_push_of_some _ q) (Heap.get?_push_size _ rfl) ?_ ?_
    · intro hm hp tn kq
      have e0 : ys.toList.map (·.1) = [] := by
        have : ys.size = 0 := by simpa [intItems] using hm
        have : ys = #[] := Array.eq_empty_of_size_eq_zero this
        rw [this]; rfl
      rw [e0] at q
      refine ⟨.int d, H, I.kept fun b o g => ?_, ⟨_, rfl⟩, q⟩
      have lb := Heap.lt_size g
      refine kq b o (by simpa using Nat.ne_of_lt lb) ?_ (Heap.get?_push_of_some _ (Heap.get?_push_of_some _ g))
      show b ≠ (t.heap.push _).objs.size
      rw [Heap.size_push]; exact Nat.ne_of_lt (Nat.lt_succ_of_lt lb)
    · intro hm v hp tn hv kq
      obtain ⟨u, rfl⟩ := intItems_at hv
      have hsz : 0 < ys.size := by simpa [intItems] using hm
      obtain ⟨g1, g2⟩ := argBest_gt (numAt ys) (ys.size - 1)
      have em : (intItems ys).size = ys.size := by simp [intItems]
      have eq : maxD d (ys.toList.map (·.1)) = numAt ys (argBest (fun i j => decide (numAt ys i > numAt ys j)) ((intItems ys).size - 1)) := by
        rw [em]
        have hmem : numAt ys (argBest (fun i j => decide (numAt ys i > numAt ys j)) (ys.size - 1)) ∈ ys.toList.map (·.1) := by
          rw [numAt_eq]; exact PySem.getD_mem (by rw [List.length_map, Array.length_toList]; omega)
        have hall : ∀ y, y ∈ ys.toList.map (·.1) → y ≤ numAt ys (argBest (fun i j => decide (numAt ys i > numAt ys j)) (ys.size - 1)) := by
          intro y hy
          obtain ⟨j, hj, rfl⟩ := mem_getD hy
          rw [List.length_map, Array.length_toList] at hj
          rw [← numAt_eq]; exact g2 j (by omega)
        cases hns : ys.toList.map (·.1) with
        | nil => rw [hns] at hmem; cases hmem
        | cons n ns => rw [hns] at hmem hall; exact T3.foldl_max ns n _ hmem hall
      refine ⟨.int _, H, I.kept fun b o g => ?_, ⟨_, rfl⟩, eq ▸ q⟩
      have lb := Heap.lt_size g
      refine kq b o (by simpa using Nat.ne_of_lt lb) ?_ (Heap.get?_push_of_some _ (Heap.get?_push_of_some _ g))
      show b ≠ (t.heap.push _).objs.size
      rw [Heap.size_push]; exact Nat.ne_of_lt (Nat.lt_succ_of_lt lb)
end L2

end
section
set_option linter.all false
set_option autoImplicit false
set_option Elab.async false
set_option maxRecDepth 100000
namespace T3
open PySem L2
variable [TabL]
theorem EnvR.nones {K : PySem.W.Frag} {B : Mset} {H : Hp} {σ : St} (hd : ∀ a, B a → ∃ o, H a = some o) (tb : TbB B H) : EnvR K B H σ (List.replicate σ.length none) := by
  have no : ∀ (i : Nat) (s : S), (List.replicate σ.length (none : Option S))[i]? ≠ some (some s) := fun i s h => by
    rw [List.getElem?_replicate] at h
    split at h
    · cases h
    · cases h
  exact ⟨by simp, fun i x h => absurd h (no i _), fun i x h => absurd h (no i _), fun i m c h => absurd h (no i _), fun i j m n c d a h => absurd h (no i _), hd, tb⟩
theorem EnvR.putD {K : PySem.W.Frag} {B : Mset} {H : Hp} {σ : St} {env : Sl} {i : Nat} {v : V} {x : PyData} (en : EnvR K B H σ env) (hv : σ[i]? = some (some v)) (r : Rp K B H v x) : EnvR K B H σ (env.set i (some (.pd x))) := by
  refine ⟨by simp [en.len], fun j y h => ?_, fun j y h => ?_, fun j m c h => ?_, fun j k m n c d a h1 h2 h3 h4 => ?_, en.dom, en.tb⟩
  · rcases get_set h with ⟨e, e'⟩ | ⟨e, h⟩
    · cases e'; subst e; exact ⟨v, hv, r⟩
    · exact en.pd j y h
  · rcases get_set h with ⟨e, e'⟩ | ⟨e, h⟩
    · cases e'
    · exact en.nt j y h
  · rcases get_set h with ⟨e, e'⟩ | ⟨e, h⟩
    · cases e'
    · exact en.mu j m c h
  · rcases get_set h1 with ⟨e, e'⟩ | ⟨e, h1⟩
    · cases e'
    · rcases get_set h2 with ⟨e, e'⟩ | ⟨e, h2⟩
      · cases e'
      · exact en.inj j k m n c d a h1 h2 h3 h4
def noMu (env : Sl) : Bool := env.all fun s => match s with
  | some (.mu _ _) => false
  | _ => true
theorem noMu_wof {σ : St} {env : Sl} (h : noMu env = true) (a : Addr) : ¬ Wof σ env a := by
  rintro ⟨i, m, c, h1, _, _⟩
  have := List.all_eq_true.mp h _ (List.mem_of_getElem? h1)
  simp at this
theorem noMu_nones {n : Nat} : noMu (List.replicate n none) = true := by
  simp [noMu]
theorem noMu_put {env : Sl} {i : Nat} {x : PyData} (h : noMu env = true) : noMu (env.set i (some (.pd x))) = true := by
  unfold noMu at h ⊢
  rw [List.all_eq_true] at h ⊢
  intro s hs
  rcases List.mem_or_eq_of_mem_set hs with hs | rfl
  · exact h s hs
  · rfl
structure Gw (H H' : Hp) : Prop where
  keep : ∀ a o, H a = some o → (NT o ∨ Imm o) → H' a = some o
  liv : ∀ a, H' a = none → H a = none
theorem Gw.grow {H H' : Hp} (g : Gw H H') (B : Mset) : Grow B H B H' := ⟨fun a o h q => g.keep a o h (q.imp (·.2) id), fun a h => .inl h⟩
theorem Gw.trans {H H1 H2 : Hp} (g : Gw H H1) (g' : Gw H1 H2) : Gw H H2 := ⟨fun a o h q => g'.keep a o (g.keep a o h q) q, fun a h => g.liv a (g'.liv a h)⟩
theorem Gw.of_at {K : PySem.W.Frag} {σ : St} {B B' : Mset} {H H' : Hp} {env env' : Sl} (a : At K σ B H env B' H' env') (h : noMu env = true) : Gw H H' :=
  ⟨fun p o hp q => a.st.keep p o hp (q.imp (fun z => ⟨noMu_wof h p, z⟩) id), a.st.liv⟩
theorem Gw.fresh {H : Hp} {p : Addr} {o : HO} (h : H p = none) : Gw H (upd H p o) :=
  ⟨fun a o' e _ => keep_upd h a o' e, fun a e => by
    by_cases z : a = p
    · rw [z]; exact h
    · rw [upd_ne z] at e; exact e⟩
structure F4 where
  a : Addr
  b : Addr
  c : Addr
  d : Addr
def F4.has (q : F4) : Mset := fun x => x = q.a ∨ x = q.b ∨ x = q.c ∨ x = q.d
def F4.with (q : F4) (B : Mset) : Mset := fun x => B x ∨ q.has x
theorem TbB.less {B B' : Mset} {H : Hp} (h : TbB B H) (l : ∀ a, B' a → B a) : TbB B' H := fun p hp => by
  obtain ⟨ps, h1, h2, h3, h4⟩ := h p hp
  exact ⟨ps, h1, fun z => h2 (l _ z), h3, fun pos cv hc => let ⟨c, e1, e2, e3⟩ := h4 pos cv hc; ⟨c, e1, e2, fun z => e3 (l _ z)⟩⟩
theorem TbB.more {B : Mset} {H : Hp} {q : F4} (h : TbB B H) (l : ∀ x, q.has x → ∃ vs, H x = some (.lst vs)) : TbB (q.with B) H := fun p hp => by
  obtain ⟨ps, h1, h2, h3, h4⟩ := h p hp
  refine ⟨ps, h1, fun z => z.elim h2 fun z => ?_, h3, fun pos cv hc => ?_⟩
  · obtain ⟨vs, e⟩ := l _ z
    rw [h1] at e
    cases e
  · obtain ⟨c, e1, e2, e3⟩ := h4 pos cv hc
    refine ⟨c, e1, e2, fun z => z.elim e3 fun z => ?_⟩
    obtain ⟨vs, e⟩ := l _ z
    rw [e2] at e
    cases e
structure W4 where
  w0 : List Int
  w1 : List Int
  u0 : List PyData
  u1 : List PyData
structure WI (K : PySem.W.Frag) (B : Mset) (H₀ : Hp) (n : Nat) (T1 T2 C : Addr) (q : F4) (xs : List PyData) (s : W4) (σ : St) (H : Hp) : Prop where
  len : σ.length = n
  s2 : σ[2]? = some (some (.ref T1))
  s3 : σ[3]? = some (some (.ref T2))
  t1 : H T1 = some (.tup [.ref q.a, .ref q.b])
  t2 : H T2 = some (.tup [.ref q.c, .ref q.d])
  la : H q.a = some (.lst (s.w0.map V.int))
  lb : H q.b = some (.lst (s.w1.map V.int))
  lc : ∃ vs, H q.c = some (.lst vs) ∧ RpA K (q.with B) H vs s.u0
  ld : ∃ vs, H q.d = some (.lst vs) ∧ RpA K (q.with B) H vs s.u1
  lx : ∃ vs, H C = some (.lst vs) ∧ RpA K (q.with B) H vs xs
  gw : Gw H₀ H
  tb : TbB B H
structure Ap (B : Mset) (H₀ : Hp) (C : Addr) (q : F4) : Prop where
  ab : q.a ≠ q.b
  ac : q.a ≠ q.c
  ad : q.a ≠ q.d
  bc : q.b ≠ q.c
  bd : q.b ≠ q.d
  cd : q.c ≠ q.d
  ca : C ≠ q.a
  cb : C ≠ q.b
  cc : C ≠ q.c
  cdd : C ≠ q.d
  f : ∀ x, q.has x → H₀ x = none
  dom : ∀ x, B x → ∃ o, H₀ x = some o
theorem Ap.out {B : Mset} {H₀ : Hp} {C : Addr} {q : F4} (h : Ap B H₀ C q) {x : Addr} (hx : q.has x) : ¬ B x := fun z => by
  obtain ⟨o, e⟩ := h.dom x z
  rw [h.f x hx] at e
  cases e
variable {K : PySem.W.Frag} {B : Mset} {H₀ : Hp} {n : Nat} {T1 T2 C : Addr} {q : F4} {xs : List PyData} {s : W4} {σ : St} {H : Hp}
theorem nt_lst (vs : List V) : NT (.lst vs) := fun _ z => nomatch z
theorem WI.go (i : WI K B H₀ n T1 T2 C q xs s σ H) {H' : Hp} (g : Gw H H') (tb : TbB B H') : WI K B H₀ n T1 T2 C q xs s σ H' := by
  have l : ∀ {x : Addr} {ds : List PyData}, (∃ vs, H x = some (.lst vs) ∧ RpA K (q.with B) H vs ds) → ∃ vs, H' x = some (.lst vs) ∧ RpA K (q.with B) H' vs ds := fun ⟨vs, h1, h2⟩ => ⟨vs, g.keep _ _ h1 (.inl (nt_lst _)), h2.grow (g.grow _)⟩
  exact ⟨i.len, i.s2, i.s3, g.keep _ _ i.t1 (.inr trivial), g.keep _ _ i.t2 (.inr trivial), g.keep _ _ i.la (.inl (nt_lst _)), g.keep _ _ i.lb (.inl (nt_lst _)), l i.lc, l i.ld, l i.lx, i.gw.trans g, tb⟩
theorem WI.put (i : WI K B H₀ n T1 T2 C q xs s σ H) {j : Nat} (h2 : j ≠ 2) (h3 : j ≠ 3) {v : V} : WI K B H₀ n T1 T2 C q xs s (σ.set j (some v)) H :=
  ⟨by simp [i.len], by rw [List.getElem?_set_ne h2]; exact i.s2, by rw [List.getElem?_set_ne h3]; exact i.s3, i.t1, i.t2, i.la, i.lb, i.lc, i.ld, i.lx, i.gw, i.tb⟩
theorem upd_grow {p : Addr} {zs ys : List V} (hp : q.has p) (h : H p = some (.lst zs)) : Grow (q.with B) H (q.with B) (upd H p (.lst ys)) := by
  refine ⟨fun a o e r => ?_, fun a z => .inl z⟩
  by_cases z : a = p
  · subst z
    rw [h] at e
    cases e
    rcases r with r | r
    · exact absurd (.inr hp) r.1
    · exact r.elim
  · rw [upd_ne z]; exact e
theorem upd_tb {p : Addr} {zs ys : List V} (tb : TbB B H) (h : H p = some (.lst zs)) : TbB B (upd H p (.lst ys)) := fun r hr => by
  obtain ⟨ps, h1, h2, h3, h4⟩ := tb r hr
  have ne : ∀ {x : Addr} {o : HO}, H x = some o → (∀ vs, o ≠ .lst vs) → x ≠ p := fun e n z => by
    subst z
    rw [h] at e
    cases e
    exact n _ rfl
  refine ⟨ps, by rw [upd_ne (ne h1 (fun _ z => nomatch z))]; exact h1, h2, h3, fun pos cv hc => ?_⟩
  obtain ⟨c, e1, e2, e3⟩ := h4 pos cv hc
  exact ⟨c, e1, by rw [upd_ne (ne e2 (fun _ z => nomatch z))]; exact e2, e3⟩
theorem upd_gw {p : Addr} {ys : List V} (g : Gw H₀ H) (h : H₀ p = none) : Gw H₀ (upd H p (.lst ys)) :=
  ⟨fun a o e r => by
    have z : a ≠ p := fun z => by rw [z, h] at e; cases e
    rw [upd_ne z]
    exact g.keep a o e r, fun a e => by
    by_cases z : a = p
    · rw [z]; exact h
    · rw [upd_ne z] at e; exact g.liv a e⟩
end T3

end
section
set_option linter.all false
set_option autoImplicit false
set_option Elab.async false
set_option maxRecDepth 100000
namespace T3
open PySem L2
variable [TabL]
section
variable {K : PySem.W.Frag} {B : Mset} {H₀ : Hp} {n : Nat} {T1 T2 C : Addr} {q : F4} {xs : List PyData} {s : W4} {σ : St} {H : Hp}
theorem WI.adda (i : WI K B H₀ n T1 T2 C q xs s σ H) (ap : Ap B H₀ C q) (k : Int) : WI K B H₀ n T1 T2 C q xs { s with w0 := s.w0 ++ [k] } σ (upd H q.a (.lst (s.w0.map V.int ++ [V.int k]))) := by
  have g := upd_grow (B := B) (ys := s.w0.map V.int ++ [V.int k]) (q := q) (.inl rfl) i.la
  obtain ⟨v2, c1, c2⟩ := i.lc
  obtain ⟨v3, d1, d2⟩ := i.ld
  obtain ⟨v4, x1, x2⟩ := i.lx
  refine ⟨i.len, i.s2, i.s3, ?_, ?_, ?_, ?_, ⟨v2, ?_, c2.grow g⟩, ⟨v3, ?_, d2.grow g⟩, ⟨v4, ?_, x2.grow g⟩, upd_gw i.gw (ap.f _ (.inl rfl)), upd_tb i.tb i.la⟩
  · rw [upd_ne (fun z => by have := i.t1; rw [z, i.la] at this; cases this)]; exact i.t1
  · rw [upd_ne (fun z => by have := i.t2; rw [z, i.la] at this; cases this)]; exact i.t2
  · rw [upd_same]; simp
  · rw [upd_ne ap.ab.symm]; exact i.lb
  · rw [upd_ne ap.ac.symm]; exact c1
  · rw [upd_ne ap.ad.symm]; exact d1
  · rw [upd_ne ap.ca]; exact x1
theorem WI.addb (i : WI K B H₀ n T1 T2 C q xs s σ H) (ap : Ap B H₀ C q) (k : Int) : WI K B H₀ n T1 T2 C q xs { s with w1 := s.w1 ++ [k] } σ (upd H q.b (.lst (s.w1.map V.int ++ [V.int k]))) := by
  have g := upd_grow (B := B) (ys := s.w1.map V.int ++ [V.int k]) (q := q) (.inr (.inl rfl)) i.lb
  obtain ⟨v2, c1, c2⟩ := i.lc
  obtain ⟨v3, d1, d2⟩ := i.ld
  obtain ⟨v4, x1, x2⟩ := i.lx
  refine ⟨i.len, i.s2, i.s3, ?_, ?_, ?_, ?_, ⟨v2, ?_, c2.grow g⟩, ⟨v3, ?_, d2.grow g⟩, ⟨v4, ?_, x2.grow g⟩, upd_gw i.gw (ap.f _ (.inr (.inl rfl))), upd_tb i.tb i.lb⟩
  · rw [upd_ne (fun z => by have := i.t1; rw [z, i.lb] at this; cases this)]; exact i.t1
  · rw [upd_ne (fun z => by have := i.t2; rw [z, i.lb] at this; cases this)]; exact i.t2
  · rw [upd_ne ap.ab]; exact i.la
  · rw [upd_same]; simp
  · rw [upd_ne ap.bc.symm]; exact c1
  · rw [upd_ne ap.bd.symm]; exact d1
  · rw [upd_ne ap.cb]; exact x1
theorem WI.addc (i : WI K B H₀ n T1 T2 C q xs s σ H) (ap : Ap B H₀ C q) {vs : List V} (hc : H q.c = some (.lst vs)) {v : V} {t : PyData} (r : Rp K (q.with B) H v t) : WI K B H₀ n T1 T2 C q xs { s with u0 := s.u0 ++ [t] } σ (upd H q.c (.lst (vs ++ [v]))) := by
  have g := upd_grow (B := B) (ys := vs ++ [v]) (q := q) (.inr (.inr (.inl rfl))) hc
  obtain ⟨v2, c1, c2⟩ := i.lc
  obtain ⟨v3, d1, d2⟩ := i.ld
  obtain ⟨v4, x1, x2⟩ := i.lx
  rw [hc] at c1
  cases c1
  refine ⟨i.len, i.s2, i.s3, ?_, ?_, ?_, ?_, ⟨vs ++ [v], upd_same, (c2.append (.cons r .nil)).grow g⟩, ⟨v3, ?_, d2.grow g⟩, ⟨v4, ?_, x2.grow g⟩, upd_gw i.gw (ap.f _ (.inr (.inr (.inl rfl)))), upd_tb i.tb hc⟩
  · rw [upd_ne (fun z => by have := i.t1; rw [z, hc] at this; cases this)]; exact i.t1
  · rw [upd_ne (fun z => by have := i.t2; rw [z, hc] at this; cases this)]; exact i.t2
  · rw [upd_ne ap.ac]; exact i.la
  · rw [upd_ne ap.bc]; exact i.lb
  · rw [upd_ne ap.cd.symm]; exact d1
  · rw [upd_ne ap.cc]; exact x1
theorem WI.addd (i : WI K B H₀ n T1 T2 C q xs s σ H) (ap : Ap B H₀ C q) {vs : List V} (hc : H q.d = some (.lst vs)) {v : V} {t : PyData} (r : Rp K (q.with B) H v t) : WI K B H₀ n T1 T2 C q xs { s with u1 := s.u1 ++ [t] } σ (upd H q.d (.lst (vs ++ [v]))) := by
  have g := upd_grow (B := B) (ys := vs ++ [v]) (q := q) (.inr (.inr (.inr rfl))) hc
  obtain ⟨v2, c1, c2⟩ := i.lc
  obtain ⟨v3, d1, d2⟩ := i.ld
  obtain ⟨v4, x1, x2⟩ := i.lx
  rw [hc] at d1
  cases d1
  refine ⟨i.len, i.s2, i.s3, ?_, ?_, ?_, ?_, ⟨v2, ?_, c2.grow g⟩, ⟨vs ++ [v], upd_same, (d2.append (.cons r .nil)).grow g⟩, ⟨v4, ?_, x2.grow g⟩, upd_gw i.gw (ap.f _ (.inr (.inr (.inr rfl)))), upd_tb i.tb hc⟩
  · rw [upd_ne (fun z => by have := i.t1; rw [z, hc] at this; cases this)]; exact i.t1
  · rw [upd_ne (fun z => by have := i.t2; rw [z, hc] at this; cases this)]; exact i.t2
  · rw [upd_ne ap.ad]; exact i.la
  · rw [upd_ne ap.bd]; exact i.lb
  · rw [upd_ne ap.cd]; exact c1
  · rw [upd_ne ap.cdd]; exact x1
end
def envW (n : Nat) (s : W4) (t : PyData) (c : Int) : Sl := (((List.replicate n none).set 3 (some (.pd (.tuple [.list s.u0, .list s.u1])))).set 4 (some (.pd t))).set 5 (some (.pd (.int c)))
def addW (s : W4) (c : Int) (k : Int) (t : PyData) : W4 := if c = 0 then { s with w0 := s.w0 ++ [k], u0 := s.u0 ++ [t] } else { s with w1 := s.w1 ++ [k], u1 := s.u1 ++ [t] }
def stepW (fm : EE) (n : Nat) (s : W4) (t : PyData) : Option W4 := match t with
  | .tuple (.int c :: _) => if c = 0 ∨ c = 1 then match fm (envW n s t c) with
      | some (.tmp (.ls ms), _) => match ints? ms with
        | some ks => some (addW s c (maxD 0 ks) t)
        | none => none
      | _ => none
    else none
  | _ => none
def foldW (fm : EE) (n : Nat) : List PyData → W4 → Option W4
  | [], s => some s
  | t :: ts, s => match stepW fm n s t with
    | none => none
    | some s' => foldW fm n ts s'
def W0 : W4 := ⟨[], [], [], []⟩
def outW (s : W4) : PyData := .tuple [.list (s.w0.map .int), .list (s.w1.map .int)]
def isNo (env : Sl) (i : Nat) : Bool := match env[i]? with
  | some none => true
  | _ => false
theorem isNo_eq {env : Sl} {i : Nat} (h : isNo env i = true) : env[i]? = some none := by
  unfold isNo at h
  split at h
  · assumption
  · cases h
def sWaits (fc fm : EE) : SS := fun env =>
  if noMu env = true ∧ isNo env 2 = true ∧ isNo env 3 = true ∧ 7 ≤ env.length then
    match fc env with
    | some (.tmp (.ls xs), _) => if xs.length ≤ 10000 then match foldW fm env.length xs W0 with
        | some s => some (.rt (.pd (outW s)), List.replicate env.length none)
        | none => none
      else none
    | _ => none
  else none
def tPairL : TE := tTup (tCons (tLst tNil) (tCons (tLst tNil) tNil))
def tApp1 (K : PySem.W.Frag) : TS := tDrop (tBM K "list" rAppend (tOp (rIxT K) (tVar 2) (tVar 5)) (tCons (tCKw (rMaxD K) (tCons (tVar 6) tNil) (tCons (tC (.int 0)) tNil)) tNil))
def tApp2 (K : PySem.W.Frag) : TS := tDrop (tBM K "list" rAppend (tOp (rIxT K) (tVar 3) (tVar 5)) (tCons (tVar 4) tNil))
def tBody (K : PySem.W.Frag) (fm : EE) : TS := tSeq (tAsg (tOp (rIxT K) (tVar 4) (tC (.int 0))) (gName 5)) (tSeq (tAsg (tE K fm) (gName 6)) (tSeq (tApp1 K) (tApp2 K)))
def tWaits (K : PySem.W.Frag) (fc fm : EE) : TS := tSeq (tAsg tPairL (gName 2)) (tSeq (tAsg tPairL (gName 3)) (tSeq (tFor (iList K (tE K fc)) (gName 4) (tBody K fm)) (tRet (tVar 2))))
theorem size2 {vs : List V} (h : vs.length ≤ 10000) : vs.length < sizeLine := Nat.lt_of_lt_of_le (Nat.lt_of_le_of_lt h (by decide)) (show 100000 ≤ sizeLine by decide)
theorem rd_body {K : PySem.W.Frag} {fm : EE} {D : Ends} {B : Mset} {H₀ : Hp} {n : Nat} {T1 T2 C : Addr} {q : F4} {xs : List PyData} {s s' : W4} {σ : St} {H : Hp} {v : V} {t : PyData}
    (i : WI K B H₀ n T1 T2 C q xs s σ H) (ap : Ap B H₀ C q) (hn : 7 ≤ n) (r : Rp K (q.with B) H v t) (st : stepW fm n s t = some s') (l0 : s.w0.length ≤ 10000) (l1 : s.w1.length ≤ 10000) (l2 : s.u0.length ≤ 10000) (l3 : s.u1.length ≤ 10000)
    (hq : ∀ σ' H', WI K B H₀ n T1 T2 C q xs s' σ' H' → D.nx σ' H') : tBody K fm D (σ.set 4 (some v)) H := by
  unfold stepW at st
  split at st
  rotate_left
  · cases st
  rename_i c rest
  split at st
  rotate_left
  · cases st
  rename_i hc
  split at st
  rotate_left
  · cases st
  rename_i ms e1 hm
  split at st
  rotate_left
  · cases st
  rename_i ks hk
  cases st
  have em := ints_map hk
  subst em
  have i4 := i.put (j := 4) (v := v) (by decide) (by decide)
  have h4 : (σ.set 4 (some v))[4]? = some (some v) := by rw [List.getElem?_set_self (by have := i.len; omega)]
  obtain ⟨p, vs, rfl, hp, hvs⟩ : ∃ (p : Addr) (vs : List V), v = .ref p ∧ SqT K H p vs ∧ RpA K (q.with B) H vs (.int c :: rest) := by
    cases r with
    | tup h1 h2 => exact ⟨_, _, rfl, h1, h2⟩
  obtain ⟨x0, vs', rfl⟩ : ∃ x0 vs', vs = x0 :: vs' := by cases hvs with | cons a b => exact ⟨_, _, rfl⟩
  have hx0 : x0 = .int c := by cases hvs with | cons a b => cases a; rfl
  subst hx0
  have at0 : ∀ (y : V) (ys : List V), atI (y :: ys) 0 = some y := fun y ys => by simp [atI, ixN]
  refine ⟨.ref p, h4, p, _, 0, .int c, rfl, rfl, hp, at0 _ _, ?_⟩
  show tAsg (tE K fm) (gName 6) _ ((σ.set 4 _).set 5 (some (.int c))) H
  have i5 := i4.put (j := 5) (v := .int c) (by decide) (by decide)
  have h5 : ((σ.set 4 (some (V.ref p))).set 5 (some (.int c)))[5]? = some (some (.int c)) := by rw [List.getElem?_set_self (by have := i4.len; omega)]
  have h4' : ((σ.set 4 (some (V.ref p))).set 5 (some (.int c)))[4]? = some (some (.ref p)) := by rw [List.getElem?_set_ne (by decide)]; exact h4
  generalize ((σ.set 4 (some (V.ref p))).set 5 (some (V.int c))) = σ5 at i5 h5 h4' ⊢
  -- the comprehension reads the lists as data
  have less : Grow (q.with B) H B H := ⟨fun _ _ h _ => h, fun a h => .inl (.inl h)⟩
  have dom : ∀ a, B a → ∃ o, H a = some o := fun a h => by
    obtain ⟨o, e⟩ := ap.dom a h
    cases z : H a with
    | some o => exact ⟨o, rfl⟩
    | none => have := i5.gw.liv a z; rw [e] at this; cases this
  have en : EnvR K B H σ5 (envW n s (.tuple (.int c :: rest)) c) := by
    have e0 := EnvR.nones (K := K) (σ := σ5) dom i5.tb
    rw [i5.len] at e0
    obtain ⟨vc, c1, c2⟩ := i5.lc
    obtain ⟨vd, d1, d2⟩ := i5.ld
    have r3 : Rp K B H (.ref T2) (.tuple [.list s.u0, .list s.u1]) := .tup (.inl (.inl i5.t2)) (.cons (.lst c1 (ap.out (.inr (.inr (.inl rfl)))) (c2.grow less)) (.cons (.lst d1 (ap.out (.inr (.inr (.inr rfl)))) (d2.grow less)) .nil))
    exact ((e0.putD i5.s3 r3).putD h4' (r.grow less)).putD h5 (.int c)
  refine ⟨B, _, _, _, en, hm, fun B1 H1 vm a1 r1 => ?_⟩
  have nm : noMu (envW n s (.tuple (.int c :: rest)) c) = true := noMu_put (noMu_put (noMu_put noMu_nones))
  have g1 := Gw.of_at a1 nm
  obtain ⟨m, rfl, _, _, ⟨us, m1, m2⟩, _⟩ := r1
  have eu := m2.ints
  subst eu
  have i6 := (i5.go g1 (a1.en.tb.less fun a h => a1.st.old a h (noMu_wof nm a))).put (j := 6) (v := .ref m) (by decide) (by decide)
  have r6 := r.grow (g1.grow _)
  have h6 : (σ5.set 6 (some (V.ref m)))[6]? = some (some (.ref m)) := by rw [List.getElem?_set_self (by have := i5.len; omega)]
  have h65 : (σ5.set 6 (some (V.ref m)))[5]? = some (some (.int c)) := by rw [List.getElem?_set_ne (by decide)]; exact h5
  have h64 : (σ5.set 6 (some (V.ref m)))[4]? = some (some (.ref p)) := by rw [List.getElem?_set_ne (by decide)]; exact h4'
  show tSeq (tApp1 K) (tApp2 K) D (σ5.set 6 (some (V.ref m))) H1
  generalize (σ5.set 6 (some (V.ref m))) = σ6 at i6 h6 h65 h64 ⊢
  have at1 : ∀ (x y : V), atI [x, y] 1 = some y := fun x y => by simp [atI, ixN]
  rcases hc with rfl | rfl
  · refine ⟨.ref T1, i6.s2, .int 0, h65, T1, _, 0, .ref q.a, rfl, rfl, .inl (.inl i6.t1), at0 _ _, .inl ⟨rfl, _, .inl (.inl i6.la)⟩, .ref m, h6, m, ks, 0, rfl, rfl, .inl (.inl m1), q.a, _, _, rfl, rfl, i6.la, size2 (by simpa using l0), ?_⟩
    have i7 := i6.adda ap (maxD 0 ks)
    have g7 := upd_grow (B := B) (ys := s.w0.map V.int ++ [V.int (maxD 0 ks)]) (q := q) (.inl rfl) i6.la
    have r7 := r6.grow g7
    generalize upd H1 q.a _ = H7 at i7 r7 ⊢
    obtain ⟨vc, c1, c2⟩ := i7.lc
    refine ⟨.ref T2, i7.s3, .int 0, h65, T2, _, 0, .ref q.c, rfl, rfl, .inl (.inl i7.t2), at0 _ _, .inl ⟨rfl, _, .inl (.inl c1)⟩, .ref p, h64, q.c, _, _, rfl, rfl, c1, size2 (by rw [c2.length]; exact l2), ?_⟩
    refine hq _ _ ?_
    simpa [addW] using i7.addc ap c1 r7
  · refine ⟨.ref T1, i6.s2, .int 1, h65, T1, _, 1, .ref q.b, rfl, rfl, .inl (.inl i6.t1), at1 _ _, .inl ⟨rfl, _, .inl (.inl i6.lb)⟩, .ref m, h6, m, ks, 0, rfl, rfl, .inl (.inl m1), q.b, _, _, rfl, rfl, i6.lb, size2 (by simpa using l1), ?_⟩
    have i7 := i6.addb ap (maxD 0 ks)
    have g7 := upd_grow (B := B) (ys := s.w1.map V.int ++ [V.int (maxD 0 ks)]) (q := q) (.inr (.inl rfl)) i6.lb
    have r7 := r6.grow g7
    generalize upd H1 q.b _ = H7 at i7 r7 ⊢
    obtain ⟨vc, c1, c2⟩ := i7.ld
    refine ⟨.ref T2, i7.s3, .int 1, h65, T2, _, 1, .ref q.d, rfl, rfl, .inl (.inl i7.t2), at1 _ _, .inl ⟨rfl, _, .inl (.inl c1)⟩, .ref p, h64, q.d, _, _, rfl, rfl, c1, size2 (by rw [c2.length]; exact l3), ?_⟩
    refine hq _ _ ?_
    simpa [addW] using i7.addd ap c1 r7
end T3

end
section
set_option linter.all false
set_option autoImplicit false
set_option Elab.async false
set_option maxRecDepth 100000
namespace T3
open PySem L2
variable [TabL]
theorem EnvR.setN {K : PySem.W.Frag} {B : Mset} {H : Hp} {σ : St} {env : Sl} {i : Nat} {v : Option V} (en : EnvR K B H σ env) (h : env[i]? = some none) : EnvR K B H (σ.set i v) env := by
  have ne : ∀ {j : Nat} {s : S}, env[j]? = some (some s) → i ≠ j := fun e z => by subst z; rw [h] at e; cases e
  refine ⟨by simp [en.len], fun j x e => ?_, fun j x e => ?_, fun j m c e => ?_, fun j k m n c d a h1 h2 h3 h4 => ?_, en.dom, en.tb⟩
  · rw [List.getElem?_set_ne (ne e)]; exact en.pd j x e
  · rw [List.getElem?_set_ne (ne e)]; exact en.nt j x e
  · rw [List.getElem?_set_ne (ne e)]; exact en.mu j m c e
  · rw [List.getElem?_set_ne (ne h1)] at h3
    rw [List.getElem?_set_ne (ne h2)] at h4
    exact en.inj j k m n c d a h1 h2 h3 h4
theorem EnvR.goN {K : PySem.W.Frag} {B B' : Mset} {H H' : Hp} {σ : St} {env : Sl} (en : EnvR K B H σ env) (nm : noMu env = true) (g : Grow B H B' H') (hd : ∀ a, B' a → ∃ o, H' a = some o) (tb : TbB B' H') : EnvR K B' H' σ env := by
  have no : ∀ (i : Nat) (m : Md) (c : Ct), env[i]? ≠ some (some (.mu m c)) := fun i m c h => by
    have := List.all_eq_true.mp nm _ (List.mem_of_getElem? h)
    simp at this
  refine ⟨en.len, fun j x e => ?_, fun j x e => ?_, fun j m c e => absurd e (no j m c), fun j k m n c d a h1 => absurd h1 (no j m c), hd, tb⟩
  · obtain ⟨v, h1, h2⟩ := en.pd j x e; exact ⟨v, h1, h2.grow g⟩
  · obtain ⟨v, h1, h2⟩ := en.nt j x e; exact ⟨v, h1, h2.grow g⟩
theorem TbB.fresh {B : Mset} {H : Hp} {p : Addr} {o : HO} (tb : TbB B H) (h : H p = none) : TbB B (upd H p o) := tb.on (fun a o' e _ => keep_upd h a o' e) fun a z => .inl z
theorem stepW_add {fm : EE} {n : Nat} {s s' : W4} {t : PyData} (h : stepW fm n s t = some s') : ∃ c k, s' = addW s c k t := by
  unfold stepW at h
  split at h
  rotate_left
  · cases h
  split at h
  rotate_left
  · cases h
  split at h
  rotate_left
  · cases h
  split at h
  rotate_left
  · cases h
  cases h
  exact ⟨_, _, rfl⟩
theorem rd_wloop {K : PySem.W.Frag} {fm : EE} {D : Ends} {B : Mset} {H₀ : Hp} {n : Nat} {T1 T2 C : Addr} {q : F4} {xs : List PyData} {s sf : W4} {σ : St} {H : Hp}
    (i0 : WI K B H₀ n T1 T2 C q xs s σ H) (ap : Ap B H₀ C q) (hn : 7 ≤ n) (hx : xs.length ≤ 10000) (hs : s = W0) (hf : foldW fm n xs s = some sf)
    (hq : ∀ σ' H', WI K B H₀ n T1 T2 C q xs sf σ' H' → D.nx σ' H') : ∃ W : Nat → Nat → St → Hp → Prop, (∃ m, W 0 m σ H) ∧ ∀ i m σ H, W i m σ H →
  ((Itl K C).stop i H ∧ D.nx σ H) ∨ ((Itl K C).go i H ∧ ∃ N : St → Hp → Prop, (∀ σ' H', N σ' H' → ∃ m', m' < m ∧ W (i + 1) m' σ' H') ∧ ∀ x H', (Itl K C).yld i H x H' → gName 4 x σ H' fun σ2 H2 => tBody K fm { D with nx := N, ct := N, bk := D.nx } σ2 H2) := by
  refine ⟨fun i m σ H => i ≤ xs.length ∧ m = xs.length - i ∧ ∃ s, foldW fm n (xs.drop i) s = some sf ∧ s.w0.length ≤ i ∧ s.w1.length ≤ i ∧ s.u0.length ≤ i ∧ s.u1.length ≤ i ∧ WI K B H₀ n T1 T2 C q xs s σ H,
    ⟨_, Nat.zero_le _, rfl, s, hf, by simp [hs, W0], by simp [hs, W0], by simp [hs, W0], by simp [hs, W0], i0⟩, ?_⟩
  rintro i m σi Hi ⟨hi, rfl, si, fi, l0, l1, l2, l3, wi⟩
  obtain ⟨vs, x1, x2⟩ := wi.lx
  by_cases hlt : i < xs.length
  · have hd : xs.drop i = xs[i] :: xs.drop (i + 1) := List.drop_eq_getElem_cons hlt
    rw [hd] at fi
    unfold foldW at fi
    cases hst : stepW fm n si xs[i] with
    | none => rw [hst] at fi; cases fi
    | some s' =>
      rw [hst] at fi
      have hv : i < vs.length := by rw [x2.length]; exact hlt
      refine .inr ⟨⟨vs, vs[i], .inl (.inl x1), by simp⟩, fun σ' H' => ∃ s', foldW fm n (xs.drop (i + 1)) s' = some sf ∧ s'.w0.length ≤ i + 1 ∧ s'.w1.length ≤ i + 1 ∧ s'.u0.length ≤ i + 1 ∧ s'.u1.length ≤ i + 1 ∧ WI K B H₀ n T1 T2 C q xs s' σ' H',
        fun σ' H' ⟨s', a⟩ => ⟨xs.length - (i + 1), by omega, hlt, rfl, s', a⟩, fun x H' hy => ?_⟩
      obtain ⟨rfl, hy⟩ := hy
      obtain ⟨v, k1, k2⟩ := x2.get (List.getElem?_eq_getElem hlt)
      rw [hy vs (.inl (.inl x1))] at k1
      cases k1
      refine rd_body wi ap hn k2 hst (by omega) (by omega) (by omega) (by omega) fun σ' H' w' => ⟨s', fi, ?_, ?_, ?_, ?_, w'⟩
      all_goals
        obtain ⟨c, k, rfl⟩ := stepW_add hst
        unfold addW
        by_cases hc : c = 0
        · rw [if_pos hc]; simp only [List.length_append, List.length_cons, List.length_nil]; omega
        · rw [if_neg hc]; simp only [List.length_append, List.length_cons, List.length_nil]; omega
  · have e : i = xs.length := by omega
    subst e
    rw [List.drop_length] at fi
    cases fi
    exact .inl ⟨⟨vs, .inl (.inl x1), by rw [x2.length]; exact Nat.le_refl _⟩, hq _ _ wi⟩
theorem rd_waits {K : PySem.W.Frag} {fc fm : EE} {D : Ends} {σ : St} {H : Hp} (h : tS K (sWaits fc fm) D σ H) : tWaits K fc fm D σ H := by
  obtain ⟨B, env, fl, env', en, ev, hq⟩ := h
  unfold sWaits at ev
  split at ev
  rotate_left
  · cases ev
  rename_i hh
  obtain ⟨nm, n2, n3, n7⟩ := hh
  replace n2 := isNo_eq n2
  replace n3 := isNo_eq n3
  split at ev
  rotate_left
  · cases ev
  rename_i xs e1 hfc
  split at ev
  rotate_left
  · cases ev
  rename_i hx
  split at ev
  rotate_left
  · cases ev
  rename_i sf hf
  cases ev
  have z2 : 2 ≤ sizeLine := by decide
  refine ⟨by decide, fun a fa => ⟨by decide, fun b fb => ⟨z2, fun T1 f1 => ?_⟩⟩⟩
  refine ⟨by decide, fun c fc' => ⟨by decide, fun d fd => ⟨z2, fun T2 f2 => ?_⟩⟩⟩
  show tSeq (tFor (iList K (tE K fc)) (gName 4) (tBody K fm)) (tRet (tVar 2)) D ((σ.set 2 (some (.ref T1))).set 3 (some (.ref T2))) _
  have ga := Gw.fresh (o := .lst []) fa
  have gb := Gw.fresh (o := .lst []) fb
  have g1 := Gw.fresh (o := .tup [.ref a, .ref b]) f1
  have gc := Gw.fresh (o := .lst []) fc'
  have gd := Gw.fresh (o := .lst []) fd
  have g2 := Gw.fresh (o := .tup [.ref c, .ref d]) f2
  have tb6 := (((((en.tb.fresh fa (o := .lst [])).fresh fb (o := .lst [])).fresh f1 (o := .tup [.ref a, .ref b])).fresh fc' (o := .lst [])).fresh fd (o := .lst [])).fresh f2 (o := .tup [.ref c, .ref d])
  have ka := ((((gb.trans g1).trans gc).trans gd).trans g2).keep a (.lst []) upd_same (.inl (nt_lst _))
  have kb := (((g1.trans gc).trans gd).trans g2).keep b (.lst []) upd_same (.inl (nt_lst _))
  have k1 := ((gc.trans gd).trans g2).keep T1 (.tup [.ref a, .ref b]) upd_same (.inr trivial)
  have kc := (gd.trans g2).keep c (.lst []) upd_same (.inl (nt_lst _))
  have kd := g2.keep d (.lst []) upd_same (.inl (nt_lst _))
  have k2 : upd (upd (upd (upd (upd (upd H a (.lst [])) b (.lst [])) T1 (.tup [.ref a, .ref b])) c (.lst [])) d (.lst [])) T2 (.tup [.ref c, .ref d]) T2 = some (.tup [.ref c, .ref d]) := upd_same
  have nab : a ≠ b := fun z => by subst z; rw [upd_same] at fb; cases fb
  have nac : a ≠ c := fun z => by subst z; have := (gb.trans g1).keep a (.lst []) upd_same (.inl (nt_lst _)); rw [fc'] at this; cases this
  have nad : a ≠ d := fun z => by subst z; have := ((gb.trans g1).trans gc).keep a (.lst []) upd_same (.inl (nt_lst _)); rw [fd] at this; cases this
  have nbc : b ≠ c := fun z => by subst z; have := g1.keep b (.lst []) upd_same (.inl (nt_lst _)); rw [fc'] at this; cases this
  have nbd : b ≠ d := fun z => by subst z; have := (g1.trans gc).keep b (.lst []) upd_same (.inl (nt_lst _)); rw [fd] at this; cases this
  have ncd : c ≠ d := fun z => by subst z; rw [upd_same] at fd; cases fd
  have hb : H b = none := ga.liv b fb
  have hc : H c = none := ((ga.trans gb).trans g1).liv c fc'
  have hd : H d = none := (((ga.trans gb).trans g1).trans gc).liv d fd
  have g6 := ((((ga.trans gb).trans g1).trans gc).trans gd).trans g2
  generalize upd (upd (upd (upd (upd (upd H a (.lst [])) b (.lst [])) T1 (.tup [.ref a, .ref b])) c (.lst [])) d (.lst [])) T2 (.tup [.ref c, .ref d]) = H6 at *
  have fresh : ∀ x, F4.has ⟨a, b, c, d⟩ x → H x = none := by
    rintro x (rfl | rfl | rfl | rfl)
    · exact fa
    · exact hb
    · exact hc
    · exact hd
  have lst6 : ∀ x, F4.has ⟨a, b, c, d⟩ x → ∃ vs, H6 x = some (.lst vs) := by
    rintro x (rfl | rfl | rfl | rfl)
    · exact ⟨_, ka⟩
    · exact ⟨_, kb⟩
    · exact ⟨_, kc⟩
    · exact ⟨_, kd⟩
  have e6 : EnvR K (F4.with ⟨a, b, c, d⟩ B) H6 ((σ.set 2 (some (.ref T1))).set 3 (some (.ref T2))) env :=
    ((en.setN n2).setN n3).goN nm ⟨fun x o hx r => g6.keep x o hx (r.imp (·.2) id), fun x z => z.elim .inl fun z => .inr (fresh x z)⟩
      (fun x z => z.elim (fun z => by
        obtain ⟨o, e⟩ := en.dom x z
        cases y : H6 x with
        | some o => exact ⟨o, rfl⟩
        | none => have := g6.liv x y; rw [e] at this; cases this) fun z => let ⟨vs, e⟩ := lst6 x z; ⟨_, e⟩) (tb6.more lst6)
  refine ⟨_, env, _, _, e6, hfc, fun B7 H7 v a7 r7 => ?_⟩
  obtain ⟨C, rfl, hC, bC, ⟨vs, v1, v2⟩, _⟩ := r7
  have g7 := Gw.of_at a7 nm
  have sub7 : ∀ x, F4.with ⟨a, b, c, d⟩ B x → B7 x := fun x hx => a7.st.old x hx (noMu_wof nm x)
  have len := en.len
  have wi : WI K B H env.length T1 T2 C ⟨a, b, c, d⟩ xs W0 ((σ.set 2 (some (.ref T1))).set 3 (some (.ref T2))) H7 := by
    refine ⟨by simp [len], ?_, ?_, g7.keep _ _ k1 (.inr trivial), g7.keep _ _ k2 (.inr trivial), g7.keep _ _ ka (.inl (nt_lst _)), g7.keep _ _ kb (.inl (nt_lst _)), ⟨[], g7.keep _ _ kc (.inl (nt_lst _)), .nil⟩, ⟨[], g7.keep _ _ kd (.inl (nt_lst _)), .nil⟩,
      ⟨vs, v1, v2.grow ⟨fun _ _ h _ => h, fun x z => .inl (sub7 x z)⟩⟩, g6.trans g7, a7.en.tb.less fun x z => sub7 x (.inl z)⟩
    · rw [List.getElem?_set_ne (by decide), List.getElem?_set_self (by omega)]
    · rw [List.getElem?_set_self (by simp; omega)]
  have nC : ∀ x vs, H6 x = some (.lst vs) → C ≠ x := fun x vs e z => by subst z; rw [hC] at e; cases e
  have ap : Ap B H C ⟨a, b, c, d⟩ := ⟨nab, nac, nad, nbc, nbd, ncd, nC _ _ ka, nC _ _ kb, nC _ _ kc, nC _ _ kd, fresh, en.dom⟩
  refine ⟨C, rfl, ⟨vs, .inl (.inl v1)⟩, rd_wloop wi ap n7 hx rfl hf fun σ' H' w => ?_⟩
  refine ⟨.ref T1, w.s2, hq B σ' H' ⟨⟨fun x o hx r => w.gw.keep x o hx (r.imp (·.2) id), fun x z => .inl z, fun x z _ => z, fun x z => absurd z (noMu_wof noMu_nones x), w.gw.liv⟩, ?_, fun i m c h => ?_⟩ _ ?_⟩
  · have := EnvR.nones (K := K) (σ := σ') (fun x z => by
      obtain ⟨o, e⟩ := en.dom x z
      cases y : H' x with
      | some o => exact ⟨o, rfl⟩
      | none => have := w.gw.liv x y; rw [e] at this; cases this) w.tb
    rw [w.len] at this
    exact this
  · have := List.all_eq_true.mp nm _ (List.mem_of_getElem? h)
    simp at this
  · exact .tup (.inl (.inl w.t1)) (.cons (.lst w.la (ap.out (.inl rfl)) (RpA.of_ints _)) (.cons (.lst w.lb (ap.out (.inr (.inl rfl))) (RpA.of_ints _)) .nil))
section
variable {X : Cx} {fc fm : EE}
theorem ss_waits {st1 st2 st3 st4 : Stmt} (h1 : PS X st1 (tAsg tPairL (gName 2))) (h2 : PS X st2 (tAsg tPairL (gName 3))) (h3 : PS X st3 (tFor (iList X.K (tE X.K fc)) (gName 4) (tBody X.K fm))) (h4 : PS X st4 (tRet (tVar 2))) :
    PSs X [st1, st2, st3, st4] (tS X.K (sWaits fc fm)) := PSs.imp (pss_cons h1 (pss_cons h2 (pss_cons h3 (pss_one h4)))) fun _ _ _ t => rd_waits t
theorem st_pair {i : Nat} {x : Str} {p p1 p2 p3 pos : Pos} {k : Nat} (hN : X.N.Nodup) (hi : X.N[i]? = some x) (hx : Loc X.env.scope x) (hs : swapsWith (.Tuple [.List [] p1, .List [] p2] k p3) (some (.Name x p)) pos.line X.env = pure false := by rfl)
    (hf : X.fn x = true ∨ X.env.scope.names.lookup x = some .local := by first | exact .inl rfl | exact .inr rfl | assumption) : PS X (.Assign [.Name x p] (.Tuple [.List [] p1, .List [] p2] k p3) pos) (tAsg tPairL (gName i)) :=
  ps_set hN hi hx (pe_tup (pa_cons (L2.pe_lst pa_nil) (pa_cons (L2.pe_lst pa_nil) pa_nil))) hs hf
theorem st_turns {x : Str} {p pos : Pos} {e : Expr} {body : List Stmt} (hN : X.N.Nodup) (hi : X.N[4]? = some x) (hx : Loc X.env.scope x) (hp : PassesOwn (model X.prog X.w) X.A X.env X.xe) (hc : X.calm = true) (he : PE X e (tE X.K fc)) (hb : PSs X body (tBody X.K fm)) (hs : ∀ x, foldedSetIterable e X.env x = pure x := by intro _; rfl)
    (hf : X.fn x = true ∨ X.env.scope.names.lookup x = some .local := by first | exact .inl rfl | exact .inr rfl | assumption) : PS X (.For (.Name x p) e body [] pos) (tFor (iList X.K (tE X.K fc)) (gName 4) (tBody X.K fm)) :=
  ps_for hp hc (pi_list he) (pg_name hN hi hx hf) hb hs
theorem ss_body {st1 st2 st3 st4 : Stmt} (h1 : PS X st1 (tAsg (tOp (rIxT X.K) (tVar 4) (tC (.int 0))) (gName 5))) (h2 : PS X st2 (tAsg (tE X.K fm) (gName 6))) (h3 : PS X st3 (tApp1 X.K)) (h4 : PS X st4 (tApp2 X.K)) : PSs X [st1, st2, st3, st4] (tBody X.K fm) :=
  pss_cons h1 (pss_cons h2 (pss_cons h3 (pss_one h4)))
theorem st_cube {x : Str} {p p2 pos : Pos} {a b : Expr} (hN : X.N.Nodup) (hi : X.N[5]? = some x) (hx : Loc X.env.scope x) (ha : PE X a (tVar 4)) (hb : PE X b (tC (.int 0))) (hl : PlainIx b := by exact fun _ _ => rfl) (hs : swapsWith (.Subscript a b p2) (some (.Name x p)) pos.line X.env = pure false := by rfl)
    (hf : X.fn x = true ∨ X.env.scope.names.lookup x = some .local := by first | exact .inl rfl | exact .inr rfl | assumption) : PS X (.Assign [.Name x p] (.Subscript a b p2) pos) (tAsg (tOp (rIxT X.K) (tVar 4) (tC (.int 0))) (gName 5)) := ps_set hN hi hx (pe_ix ix_tup ha hb hl) hs hf
theorem x_setLcR {i : Nat} {y : Str} {py : Pos} {elt tg iter : Expr} {ifs : List Expr} {scope : Scope} {pos spos : Pos} {it : EI} {g : GG} {t : EB} {f : EE} {vs : List Nat} (own : List (Str × Nat)) (hc : X.calm = true) (hN : X.N.Nodup) (hv : own.map (·.2) = vs) (hy : X.N[i]? = some y) (hyl : X.env.scope.names.lookup y = some .local)
    (hsw : swapsWith (.ListComp elt [⟨tg, iter, ifs, 0⟩] scope pos) (some (.Name y py)) spos.line X.env = pure true) (hi : PI X tg iter (tI X.K it)) (ok : BlkOk X.N X.env.scope scope own) (ho : Only g vs)
    (hg : ∀ (s : Shared) (H : Hp) (C : Addr) (cl : List (Str × Addr)) (fp : List Addr), PG (X.blk s H scope (compEnvC scope cl C X.env) fp) tg (tGv X.K g vs)) (ht : ∀ (s : Shared) (H : Hp) (C : Addr) (cl : List (Str × Addr)) (fp : List Addr), PTs (X.blk s H scope (compEnvC scope cl C X.env) fp) ifs (tT X.K t))
    (he : ∀ (s : Shared) (H : Hp) (C : Addr) (cl : List (Str × Addr)) (fp : List Addr), PE (X.blk s H scope (compEnvC scope cl C X.env) fp) elt (tE X.K f)) (hs : ∀ x, foldedSetIterable iter X.env x = pure x := by intro _; rfl) :
    PS X (.Assign [.Name y py] (.ListComp elt [⟨tg, iter, ifs, 0⟩] scope pos) spos) (tAsg (tE X.K (eLc it g t f vs)) (gName i)) := by
  subst hv
  exact PS.imp (ps_setLc hc hN hy hyl hsw hi ok hg ht he hs) fun _ _ _ q => rd_lc ho q
theorem st_app1 {o b m : Expr} {ip apos cpos pos mp p kp : Pos} {kx : Nat} {kc : Pos} (hc : X.calm = true) (hg : Gl X "max") (hm : X.mg "max" = none) (ho : PE X o (tVar 2)) (hb : PE X b (tVar 5)) (hmm : PE X m (tVar 6)) (hl : PlainIx b := by exact fun _ _ => rfl)
    (hbase : attributeBase (.Subscript o b ip) "append" X.env (eval (.Subscript o b ip) X.env) = eval (.Subscript o b ip) X.env := by rfl)
    (hline : (apos.endLine == cpos.line) = true := by rfl) (hsm : starEach [m] X.env = (false, eval m X.env) :: starEach [] X.env := by rfl)
    (hss : starEach [.Call (.Name "max" p) [m] [⟨some "default", .Constant (.int 0) kx kc, kp⟩] mp] X.env = (false, eval (.Call (.Name "max" p) [m] [⟨some "default", .Constant (.int 0) kx kc, kp⟩] mp) X.env) :: starEach [] X.env := by rfl)
    (hsx : swapsWith (.Call (.Attribute (.Subscript o b ip) "append" apos) [.Call (.Name "max" p) [m] [⟨some "default", .Constant (.int 0) kx kc, kp⟩] mp] [] cpos) none pos.line X.env = pure false := by rfl) :
    PS X (.Expr (.Call (.Attribute (.Subscript o b ip) "append" apos) [.Call (.Name "max" p) [m] [⟨some "default", .Constant (.int 0) kx kc, kp⟩] mp] [] cpos) pos) (tApp1 X.K) := by
  have hmax := pe_callBK (pos := mp) (p := p) (kws := [⟨some "default", .Constant (.int 0) kx kc, kp⟩]) (cr_maxD hc) hg hm (by decide +kernel) (pa_cons hmm pa_nil hsm) (pk_cons pe_int pk_nil) (by decide) (by decide) (by rw [hsm]; rfl) (by rw [hsm]; rfl) rfl rfl rfl
  exact ps_expr (pe_bm PySem.F.plainAttrs_list PySem.F.slot_list_append PySem.F.type_list_append mt_append (pe_ix ix_tup ho hb hl) (pa_cons hmax pa_nil hss) hbase (by rw [hss]; rfl) hline hss rfl) hsx
theorem st_app2 {o b m : Expr} {ip apos cpos pos : Pos} (ho : PE X o (tVar 3)) (hb : PE X b (tVar 5)) (hmm : PE X m (tVar 4)) (hl : PlainIx b := by exact fun _ _ => rfl)
    (hbase : attributeBase (.Subscript o b ip) "append" X.env (eval (.Subscript o b ip) X.env) = eval (.Subscript o b ip) X.env := by rfl)
    (hline : (apos.endLine == cpos.line) = true := by rfl) (hsm : starEach [m] X.env = (false, eval m X.env) :: starEach [] X.env := by rfl)
    (hsx : swapsWith (.Call (.Attribute (.Subscript o b ip) "append" apos) [m] [] cpos) none pos.line X.env = pure false := by rfl) :
    PS X (.Expr (.Call (.Attribute (.Subscript o b ip) "append" apos) [m] [] cpos) pos) (tApp2 X.K) :=
  ps_expr (pe_bm PySem.F.plainAttrs_list PySem.F.slot_list_append PySem.F.type_list_append mt_append (pe_ix ix_tup ho hb hl) (pa_cons hmm pa_nil hsm) hbase (by rw [hsm]; rfl) hline hsm rfl) hsx
end
end T3

end
section
set_option linter.all false
set_option autoImplicit false
set_option Elab.async false
set_option maxRecDepth 100000
set_option maxHeartbeats 1000000
namespace ZM3
open PySem RZ ZM
open PySem.Sem (wp)
theorem neq {a b : Addr} (h : @Ne Nat a b) : a ≠ b := h
abbrev IsTri (h : Heap) (T : Addr) (a b c : Value) : Prop := h.get? T = some { cls := .type "tuple", data := .seq #[a, b, c] }
section
variable {prog : Program} {w : World} {A : Around} {E : Value → Shared → Prop} {s : Shared}
theorem upd3 {T : Addr} {a b c x : Value} {k : Nat} {Q : Unit → Shared → Prop} (hT : IsTri s.heap T a b c)
    (h : ∀ h', h'.get? T = some { cls := .type "tuple", data := .seq ((#[a, b, c] : Array Value).setIfInBounds k x) } → Heap.SameBut T s.heap h' → Q () { s with heap := h' }) :
    wpAny (model prog w) A (updateSeq T (·.setIfInBounds k x)) Q E s := by
  refine wpAny_updateSeq hT rfl (h _ ?_ (Heap.SameBut.update ..))
  rw [Heap.get?_update_self _ hT rfl]
  simp [Obj.mapSeq]
variable {I l1 l2 l3 : Nat}
theorem item3 {x y v a b c : Value} {P1 P2 P3 R1 R2 R3 : Heap → Prop} {Q : Value → Shared → Prop} (b1 : l1 < I) (b2 : l2 < I) (b3 : l3 < I)
    (S1 : Stp prog w I P1 x R1) (S2 : Stp prog w (I + 1) P2 y R2) (S3 : Stp prog w (I + 2) P3 v R3) (o1 : Of I l1 P1) (o2 : Of (I + 1) l2 P2) (o3 : Of (I + 2) l3 P3)
    (q1 : ∀ b h h', Heap.ExtBut b h h' → I ≠ b → R1 h → R1 h') (q2 : ∀ b h h', Heap.ExtBut b h h' → I + 1 ≠ b → R2 h → R2 h') (q3 : ∀ b h h', Heap.ExtBut b h h' → I + 2 ≠ b → R3 h → R3 h')
    (hz : IsZip s.heap (I + 5) (I + 3) (I + 4) .none) (hTI : IsTri s.heap (I + 3) (.ref I) (.ref (I + 1)) (.ref (I + 2))) (hTO : IsTri s.heap (I + 4) a b c) (p1 : P1 s.heap) (p2 : P2 s.heap) (p3 : P3 s.heap)
    (hQ : ∀ h', IsZip h' (I + 5) (I + 3) (I + 4) (rawInt s.heap.objs.size) → IsTri h' (I + 4) x y v → R1 h' → R2 h' → R3 h' → IsTri h' s.heap.objs.size x y v → h'.objs.size = s.heap.objs.size + 1 →
      (∀ e o, e ≠ I + 5 → e ≠ I + 4 → e ≠ I → e ≠ I + 1 → e ≠ I + 2 → s.heap.get? e = some o → h'.get? e = some o) → Q (.ref s.heap.objs.size) { s with heap := h' }) :
    wpAny (model prog w) A (Builtin.«zip.__next__» ⟨[.ref (I + 5)], []⟩) (fun fin s' => ∃ v, fin = .done (.ret v) ∧ Q v s') E s := by
  have lz : I + 5 < s.heap.objs.size := Heap.lt_size hz
  show wpAny _ _ (field (.ref (I + 5)) 2 >>= _) _ _ _
  refine wpAny_bind (wpAny_field hz rfl (x := .bool false) rfl ?_)
  show wpAny _ _ (field (.ref (I + 5)) 3 >>= _) _ _ _
  refine wpAny_bind (wpAny_field hz rfl (x := .ref (I + 3)) rfl (wpAny_bind (wpAny_seqItems hTI rfl ?_)))
  show wpAny _ _ (Builtin.SmallTypes.ownedTupleIsFree (.ref (I + 5)) >>= _) _ _ _
  refine wpAny_bind ?_
  unfold Builtin.SmallTypes.ownedTupleIsFree
  refine wpAny_bind (wpAny_field hz rfl (x := .none) rfl (wpAny_pure ?_))
  simp only [if_true]
  refine wpAny_bind (wpAny_rule (wpAny_bind (wpAny_field hz rfl (x := .ref (I + 4)) rfl (wpAny_bind (wpAny_setField_rec hz (by simp) fun ha za sa => wpAny_bind ?_)))))
  replace za : IsZip ha (I + 5) (I + 3) (I + 4) .ellipsis := za
  simp only [List.zipIdx_cons, List.zipIdx_nil, List.forIn_cons, List.forIn_nil]
  refine wpAny_bind (wpAny_bind (wpAny_onRaise ?_))
  show wpAny _ _ (Builtin.SmallTypes.nextOf (.ref I) >>= _) _ _ _
  refine wpAny_bind (S1 (o1 _ _ _ sa.extBut (neq (by omega)) (neq (by omega)) p1) fun hb rb sb => wpAny_pure ?_)
  have tb : IsTri hb (I + 4) a b c := sb.extBut _ _ (neq (by omega)) (sa.extBut _ _ (neq (by omega)) hTO)
  refine wpAny_bind (wpAny_seqItems tb rfl (wpAny_bind (upd3 tb fun hc tc sc => wpAny_bind (wpAny_letGo (wpAny_pure ?_)))))
  replace tc : IsTri hc (I + 4) x b c := tc
  refine wpAny_bind (wpAny_bind (wpAny_onRaise ?_))
  show wpAny _ _ (Builtin.SmallTypes.nextOf (.ref (I + 1)) >>= _) _ _ _
  refine wpAny_bind (S2 (o2 _ _ _ sc.extBut (neq (by omega)) (neq (by omega)) (o2 _ _ _ sb.extBut (neq (by omega)) (neq (by omega)) (o2 _ _ _ sa.extBut (neq (by omega)) (neq (by omega)) p2))) fun hd rd sd => wpAny_pure ?_)
  have td : IsTri hd (I + 4) x b c := sd.extBut _ _ (neq (by omega)) tc
  refine wpAny_bind (wpAny_seqItems td rfl (wpAny_bind (upd3 td fun he te se => wpAny_bind (wpAny_letGo (wpAny_pure ?_)))))
  replace te : IsTri he (I + 4) x y c := te
  refine wpAny_bind (wpAny_bind (wpAny_onRaise ?_))
  show wpAny _ _ (Builtin.SmallTypes.nextOf (.ref (I + 2)) >>= _) _ _ _
  refine wpAny_bind (S3 (o3 _ _ _ se.extBut (neq (by omega)) (neq (by omega)) (o3 _ _ _ sd.extBut (neq (by omega)) (neq (by omega)) (o3 _ _ _ sc.extBut (neq (by omega)) (neq (by omega)) (o3 _ _ _ sb.extBut (neq (by omega)) (neq (by omega)) (o3 _ _ _ sa.extBut (neq (by omega)) (neq (by omega)) p3))))) fun hf rf sf => wpAny_pure ?_)
  have tf : IsTri hf (I + 4) x y c := sf.extBut _ _ (neq (by omega)) te
  refine wpAny_bind (wpAny_seqItems tf rfl (wpAny_bind (upd3 tf fun hg tg sg => wpAny_bind (wpAny_letGo (wpAny_pure (wpAny_pure ?_))))))
  replace tg : IsTri hg (I + 4) x y v := tg
  refine wpAny_bind (wpAny_seqItems tg rfl (wpAny_bind (wpAny_newTuple ?_)))
  have sz : hg.objs.size = s.heap.objs.size := by rw [sg.1, sf.1, se.1, sd.1, sc.1, sb.1, sa.1]
  have zg : IsZip hg (I + 5) (I + 3) (I + 4) .ellipsis := sg.extBut _ _ (neq (by omega)) (sf.extBut _ _ (neq (by omega)) (se.extBut _ _ (neq (by omega)) (sd.extBut _ _ (neq (by omega)) (sc.extBut _ _ (neq (by omega)) (sb.extBut _ _ (neq (by omega)) za)))))
  have r1 : R1 hg := q1 _ _ _ sg.extBut (neq (by omega)) (q1 _ _ _ sf.extBut (neq (by omega)) (q1 _ _ _ se.extBut (neq (by omega)) (q1 _ _ _ sd.extBut (neq (by omega)) (q1 _ _ _ sc.extBut (neq (by omega)) rb))))
  have r2 : R2 hg := q2 _ _ _ sg.extBut (neq (by omega)) (q2 _ _ _ sf.extBut (neq (by omega)) (q2 _ _ _ se.extBut (neq (by omega)) rd))
  have r3 : R3 hg := q3 _ _ _ sg.extBut (neq (by omega)) rf
  have kp : ∀ e o, e ≠ I + 5 → e ≠ I + 4 → e ≠ I → e ≠ I + 1 → e ≠ I + 2 → s.heap.get? e = some o → hg.get? e = some o := fun e o c1 c2 c3 c4 c5 q =>
    sg.extBut _ _ c2 (sf.extBut _ _ c5 (se.extBut _ _ c2 (sd.extBut _ _ c4 (sc.extBut _ _ c2 (sb.extBut _ _ c3 (sa.extBut _ _ c1 q))))))
  have zl : I + 5 < hg.objs.size := Heap.lt_size zg
  show wpAny _ _ (Builtin.SmallTypes.ownedTupleHandOut (.ref (I + 5)) (.ref hg.objs.size) >>= _) _ _ _
  refine wpAny_bind ?_
  unfold Builtin.SmallTypes.ownedTupleHandOut
  have zp : IsZip (hg.push { cls := .type "tuple", data := .seq #[x, y, v] }) (I + 5) (I + 3) (I + 4) .ellipsis := Heap.get?_push_of_some _ zg
  have ep : Heap.ExtBut hg.objs.size hg (hg.push { cls := .type "tuple", data := .seq #[x, y, v] }) := fun e o _ q => Heap.get?_push_of_some _ q
  refine wpAny_bind (wpAny_setField_rec zp (by simp) fun hm zm sm => ?_)
  replace zm : IsZip hm (I + 5) (I + 3) (I + 4) (rawInt hg.objs.size) := zm
  refine wpAny_setField_rec zm (by simp) fun hn zn sn => wpAny_pure ⟨_, rfl, ?_⟩
  replace zn : IsZip hn (I + 5) (I + 3) (I + 4) (rawInt hg.objs.size) := zn
  have up : ∀ e o, e ≠ I + 5 → hg.get? e = some o → hn.get? e = some o := fun e o c1 q => sn.extBut _ _ c1 (sm.extBut _ _ c1 (Heap.get?_push_of_some _ q))
  have tn : IsTri hn hg.objs.size x y v := sn.extBut _ _ (Nat.ne_of_gt zl) (sm.extBut _ _ (Nat.ne_of_gt zl) (Heap.get?_push_size _ rfl))
  have s8 : hn.objs.size = hg.objs.size + 1 := by rw [sn.1, sm.1, Heap.size_push]
  have r1' : R1 hn := q1 _ _ _ sn.extBut (neq (by omega)) (q1 _ _ _ sm.extBut (neq (by omega)) (q1 _ _ _ ep (neq (by omega)) r1))
  have r2' : R2 hn := q2 _ _ _ sn.extBut (neq (by omega)) (q2 _ _ _ sm.extBut (neq (by omega)) (q2 _ _ _ ep (neq (by omega)) r2))
  have r3' : R3 hn := q3 _ _ _ sn.extBut (neq (by omega)) (q3 _ _ _ sm.extBut (neq (by omega)) (q3 _ _ _ ep (neq (by omega)) r3))
  show Q (.ref hg.objs.size) _
  rw [sz] at zn tn s8
  rw [sz]
  exact hQ hn zn (up _ _ (neq (by omega)) tg) r1' r2' r3' tn s8 fun e o c1 c2 c3 c4 c5 q => up e o c1 (kp e o c1 c2 c3 c4 c5 q)
theorem end3 {a b c : Value} {P1 P2 P3 : Heap → Prop} {Q : PySem.Fin → Shared → Prop} (hh : A.handled = none) (b1 : l1 < I) (b2 : l2 < I) (b3 : l3 < I)
    (o1 : Of I l1 P1) (o2 : Of (I + 1) l2 P2) (o3 : Of (I + 2) l3 P3)
    (K : Fin prog w I P1 ∨ (∃ x R1, Stp prog w I P1 x R1) ∧ (Fin prog w (I + 1) P2 ∨ (∃ y R2, Stp prog w (I + 1) P2 y R2) ∧ Fin prog w (I + 2) P3))
    (hz : IsZip s.heap (I + 5) (I + 3) (I + 4) .none) (hTI : IsTri s.heap (I + 3) (.ref I) (.ref (I + 1)) (.ref (I + 2))) (hTO : IsTri s.heap (I + 4) a b c) (p1 : P1 s.heap) (p2 : P2 s.heap) (p3 : P3 s.heap)
    (hE : ∀ h' e, (∀ e o, e ≠ I + 5 → e ≠ I + 4 → e ≠ I → e ≠ I + 1 → e ≠ I + 2 → s.heap.get? e = some o → h'.get? e = some o) → (∃ o, h'.get? e = some o ∧ o.cls = .type "StopIteration") → E (.ref e) { s with heap := h' }) :
    wpAny (model prog w) A (Builtin.«zip.__next__» ⟨[.ref (I + 5)], []⟩) Q E s := by
  show wpAny _ _ (field (.ref (I + 5)) 2 >>= _) _ _ _
  refine wpAny_bind (wpAny_field hz rfl (x := .bool false) rfl ?_)
  show wpAny _ _ (field (.ref (I + 5)) 3 >>= _) _ _ _
  refine wpAny_bind (wpAny_field hz rfl (x := .ref (I + 3)) rfl (wpAny_bind (wpAny_seqItems hTI rfl ?_)))
  show wpAny _ _ (Builtin.SmallTypes.ownedTupleIsFree (.ref (I + 5)) >>= _) _ _ _
  refine wpAny_bind ?_
  unfold Builtin.SmallTypes.ownedTupleIsFree
  refine wpAny_bind (wpAny_field hz rfl (x := .none) rfl (wpAny_pure ?_))
  simp only [if_true]
  refine wpAny_bind (wpAny_rule (wpAny_bind (wpAny_field hz rfl (x := .ref (I + 4)) rfl (wpAny_bind (wpAny_setField_rec hz (by simp) fun ha za sa => wpAny_bind ?_)))))
  replace za : IsZip ha (I + 5) (I + 3) (I + 4) .ellipsis := za
  simp only [List.zipIdx_cons, List.zipIdx_nil, List.forIn_cons, List.forIn_nil]
  refine wpAny_bind (wpAny_bind (wpAny_onRaise ?_))
  show wpAny _ _ (Builtin.SmallTypes.nextOf (.ref I) >>= _) _ _ _
  have pa := o1 _ _ _ sa.extBut (neq (by omega)) (neq (by omega)) p1
  rcases K with F | ⟨⟨x, R1, S1⟩, K⟩
  · refine wpAny_bind (F hh pa fun hb e sb ⟨oe, g, q⟩ => ?_)
    have zb : IsZip hb (I + 5) (I + 3) (I + 4) .ellipsis := sb _ _ (neq (by omega)) za
    have ne : e ≠ I + 5 := fun x => by subst x; rw [zb] at g; cases g; simp at q
    exact wpAny_setField_rec zb (by simp) fun hc _ sc => hE hc e (fun e o c1 _ c3 _ _ x => sc.extBut _ _ c1 (sb _ _ c3 (sa.extBut _ _ c1 x))) ⟨oe, sc.extBut _ _ ne g, q⟩
  · refine wpAny_bind (S1 pa fun hb rb sb => wpAny_pure ?_)
    have tb : IsTri hb (I + 4) a b c := sb.extBut _ _ (neq (by omega)) (sa.extBut _ _ (neq (by omega)) hTO)
    refine wpAny_bind (wpAny_seqItems tb rfl (wpAny_bind (upd3 tb fun hc tc sc => wpAny_bind (wpAny_letGo (wpAny_pure ?_)))))
    replace tc : IsTri hc (I + 4) x b c := tc
    refine wpAny_bind (wpAny_bind (wpAny_onRaise ?_))
    show wpAny _ _ (Builtin.SmallTypes.nextOf (.ref (I + 1)) >>= _) _ _ _
    have pc := o2 _ _ _ sc.extBut (neq (by omega)) (neq (by omega)) (o2 _ _ _ sb.extBut (neq (by omega)) (neq (by omega)) (o2 _ _ _ sa.extBut (neq (by omega)) (neq (by omega)) p2))
    have zc : IsZip hc (I + 5) (I + 3) (I + 4) .ellipsis := sc.extBut _ _ (neq (by omega)) (sb.extBut _ _ (neq (by omega)) za)
    rcases K with F | ⟨⟨y, R2, S2⟩, F⟩
    · refine wpAny_bind (F hh pc fun hd e sd ⟨oe, g, q⟩ => ?_)
      have zd : IsZip hd (I + 5) (I + 3) (I + 4) .ellipsis := sd _ _ (neq (by omega)) zc
      have ne : e ≠ I + 5 := fun x => by subst x; rw [zd] at g; cases g; simp at q
      exact wpAny_setField_rec zd (by simp) fun hf _ sf => hE hf e (fun e o c1 c2 c3 c4 _ x => sf.extBut _ _ c1 (sd _ _ c4 (sc.extBut _ _ c2 (sb.extBut _ _ c3 (sa.extBut _ _ c1 x))))) ⟨oe, sf.extBut _ _ ne g, q⟩
    · refine wpAny_bind (S2 pc fun hd rd sd => wpAny_pure ?_)
      have td : IsTri hd (I + 4) x b c := sd.extBut _ _ (neq (by omega)) tc
      refine wpAny_bind (wpAny_seqItems td rfl (wpAny_bind (upd3 td fun he te se => wpAny_bind (wpAny_letGo (wpAny_pure ?_)))))
      refine wpAny_bind (wpAny_bind (wpAny_onRaise ?_))
      show wpAny _ _ (Builtin.SmallTypes.nextOf (.ref (I + 2)) >>= _) _ _ _
      have pe := o3 _ _ _ se.extBut (neq (by omega)) (neq (by omega)) (o3 _ _ _ sd.extBut (neq (by omega)) (neq (by omega)) (o3 _ _ _ sc.extBut (neq (by omega)) (neq (by omega)) (o3 _ _ _ sb.extBut (neq (by omega)) (neq (by omega)) (o3 _ _ _ sa.extBut (neq (by omega)) (neq (by omega)) p3))))
      refine wpAny_bind (F hh pe fun hf e sf ⟨oe, g, q⟩ => ?_)
      have zf : IsZip hf (I + 5) (I + 3) (I + 4) .ellipsis := sf _ _ (neq (by omega)) (se.extBut _ _ (neq (by omega)) (sd.extBut _ _ (neq (by omega)) zc))
      have ne : e ≠ I + 5 := fun x => by subst x; rw [zf] at g; cases g; simp at q
      exact wpAny_setField_rec zf (by simp) fun hg _ sg => hE hg e (fun e o c1 c2 c3 c4 c5 x => sg.extBut _ _ c1 (sf _ _ c5 (se.extBut _ _ c2 (sd.extBut _ _ c4 (sc.extBut _ _ c2 (sb.extBut _ _ c3 (sa.extBut _ _ c1 x))))))) ⟨oe, sg.extBut _ _ ne g, q⟩
end
end ZM3

end
section
set_option linter.all false
set_option autoImplicit false
set_option Elab.async false
set_option maxRecDepth 100000
set_option maxHeartbeats 1000000
namespace ZM3
open PySem PySem.Spec PyProof.Rows L2 RZ ZM
theorem tc3 (a b c : Value) : checkTypeCall "zip" ⟨[a, b, c], []⟩ = pure () := by kernel_rfl
theorem nc3 (a b c : Value) : checkBuiltinCall "zip.__new__" ⟨[.type "zip", a, b, c], []⟩ = pure () := by kernel_rfl
theorem oi4 (a b c d : Value) : argsOk "object.__init__" ⟨[a, b, c, d], []⟩ := by
  unfold argsOk
  rw [signature?_of (id := "object.__init__") (n := ['_', '_', 't', 'i', 'n', 'i', '_', '_']) (o := ['t', 'c', 'e', 'j', 'b', 'o']) (by kernel_rfl) F.owner_object]
  kernel_rfl
abbrev g1 (h : Heap) (l1 : Addr) : Heap := h.push { cls := .type "list_iterator", data := .fields #[.ref l1, .int 0 0] }
abbrev g2 (h : Heap) (l1 l2 : Addr) : Heap := (g1 h l1).push { cls := .type "list_iterator", data := .fields #[.ref l2, .int 0 0] }
abbrev g3 (h : Heap) (l1 l2 l3 : Addr) : Heap := (g2 h l1 l2).push { cls := .type "tuple_iterator", data := .fields #[.ref l3, .int 0 0] }
abbrev g4 (h : Heap) (l1 l2 l3 : Addr) : Heap := (g3 h l1 l2 l3).push { cls := .type "tuple", data := .seq #[.ref h.objs.size, .ref (g1 h l1).objs.size, .ref (g2 h l1 l2).objs.size] }
abbrev g5 (h : Heap) (l1 l2 l3 : Addr) : Heap := (g4 h l1 l2 l3).push { cls := .type "tuple", data := .seq #[.none, .none, .none] }
abbrev g6 (h : Heap) (l1 l2 l3 : Addr) : Heap := (g5 h l1 l2 l3).push { cls := .type "zip", data := .fields #[.none, .bool false, .bool false, .ref (g3 h l1 l2 l3).objs.size, .ref (g4 h l1 l2 l3).objs.size] }
theorem meets3 (l1 l2 l3 : Addr) (xs ys zs : Array Value) :
    Meets (Builtin.«zip.__new__» ⟨[.type "zip", .ref l1, .ref l2, .ref l3], []⟩) (fun _ R s => s.heap.IsList l1 xs ∧ s.heap.IsList l2 ys ∧ s.heap.IsTuple l3 zs ∧ R (.ok (.ret (.ref (g5 s.heap l1 l2 l3).objs.size))) { s with heap := g6 s.heap l1 l2 l3 }) :=
  .of_wp fun prog w A R s h => by
    obtain ⟨hp, g, d, tk, os⟩ := s
    obtain ⟨u1, u2, u3, h⟩ := h
    have hsub := sub_zip
    have v1 : Heap.IsList (Shared.heap ⟨hp, g, d, tk, os⟩) l1 xs := u1
    have v2 : Heap.IsList (Shared.heap ⟨hp.push { cls := .type "list_iterator", data := .fields #[.ref l1, .int 0 0] }, g, d, tk, os⟩) l2 ys := Heap.IsList.push u2 _
    have v3 : Heap.IsTuple (Shared.heap ⟨(hp.push { cls := .type "list_iterator", data := .fields #[.ref l1, .int 0 0] }).push { cls := .type "list_iterator", data := .fields #[.ref l2, .int 0 0] }, g, d, tk, os⟩) l3 zs := Heap.IsTuple.push (Heap.IsTuple.push u3 _) _
    wp_walk using wpAny_pyIter_list v1, wpAny_pyIter_list v2, wpAny_pyIter_tuple v3
    exact ⟨_, rfl, h⟩
theorem call3 {prog : Program} {w : World} {A : Around} {E : Value → Shared → Prop} {s : Shared} {l1 l2 l3 : Addr} {xs ys zs : Array Value} {Q : Value → Shared → Prop} (u1 : s.heap.IsList l1 xs) (u2 : s.heap.IsList l2 ys) (u3 : s.heap.IsTuple l3 zs)
    (h : ∀ h', IsZip h' (s.heap.objs.size + 5) (s.heap.objs.size + 3) (s.heap.objs.size + 4) .none → IsTri h' (s.heap.objs.size + 3) (.ref s.heap.objs.size) (.ref (s.heap.objs.size + 1)) (.ref (s.heap.objs.size + 2)) →
      IsTri h' (s.heap.objs.size + 4) .none .none .none → h'.IsListIter s.heap.objs.size l1 0 → h'.IsListIter (s.heap.objs.size + 1) l2 0 → h'.IsTupleIter (s.heap.objs.size + 2) l3 0 → (∀ c o, s.heap.get? c = some o → h'.get? c = some o) → Q (.ref (s.heap.objs.size + 5)) { s with heap := h' }) :
    wpAny (model prog w) A (call (.type "zip") [.ref l1, .ref l2, .ref l3]) Q E s := by
  refine callType_new F.called_zip (by decide) (tc3 _ _ _) (nc3 _ _ _) (fun obj => oi4 obj _ _ _) F.entry_zip_new (meets3 l1 l2 l3 xs ys zs) ⟨u1, u2, u3, ?_⟩
  have za : (g1 s.heap l1).objs.size = s.heap.objs.size + 1 := Heap.size_push ..
  have zb : (g2 s.heap l1 l2).objs.size = s.heap.objs.size + 2 := by rw [Heap.size_push, za]
  have zc : (g3 s.heap l1 l2 l3).objs.size = s.heap.objs.size + 3 := by rw [Heap.size_push, zb]
  have zd : (g4 s.heap l1 l2 l3).objs.size = s.heap.objs.size + 4 := by rw [Heap.size_push, zc]
  have ze : (g5 s.heap l1 l2 l3).objs.size = s.heap.objs.size + 5 := by rw [Heap.size_push, zd]
  have up : ∀ c o, (g5 s.heap l1 l2 l3).get? c = some o → (g6 s.heap l1 l2 l3).get? c = some o := fun c o e => Heap.get?_push_of_some _ e
  have up2 : ∀ c o, (g4 s.heap l1 l2 l3).get? c = some o → (g6 s.heap l1 l2 l3).get? c = some o := fun c o e => up c o (Heap.get?_push_of_some _ e)
  have up3 : ∀ c o, (g3 s.heap l1 l2 l3).get? c = some o → (g6 s.heap l1 l2 l3).get? c = some o := fun c o e => up2 c o (Heap.get?_push_of_some _ e)
  have up4 : ∀ c o, (g2 s.heap l1 l2).get? c = some o → (g6 s.heap l1 l2 l3).get? c = some o := fun c o e => up3 c o (Heap.get?_push_of_some _ e)
  have up5 : ∀ c o, (g1 s.heap l1).get? c = some o → (g6 s.heap l1 l2 l3).get? c = some o := fun c o e => up4 c o (Heap.get?_push_of_some _ e)
  have k6 : (g6 s.heap l1 l2 l3).get? (g5 s.heap l1 l2 l3).objs.size = some _ := Heap.get?_push_size _ rfl
  have k5 : (g6 s.heap l1 l2 l3).get? (g4 s.heap l1 l2 l3).objs.size = some _ := up _ _ (Heap.get?_push_size _ rfl)
  have k4 : (g6 s.heap l1 l2 l3).get? (g3 s.heap l1 l2 l3).objs.size = some _ := up2 _ _ (Heap.get?_push_size _ rfl)
  have k3 : (g6 s.heap l1 l2 l3).get? (g2 s.heap l1 l2).objs.size = some _ := up3 _ _ (Heap.get?_push_size _ rfl)
  have k2 : (g6 s.heap l1 l2 l3).get? (g1 s.heap l1).objs.size = some _ := up4 _ _ (Heap.get?_push_size _ rfl)
  have k1 : (g6 s.heap l1 l2 l3).get? s.heap.objs.size = some _ := up5 _ _ (Heap.get?_push_size _ rfl)
  show _ ∧ _
  rw [zc, zd, ze] at k6
  rw [za, zb, zc] at k4
  rw [zd] at k5
  rw [zb] at k3
  rw [za] at k2
  rw [ze]
  exact ⟨⟨_, k6, rfl⟩, h _ k6 k4 k5 ⟨_, k1, rfl, rfl⟩ ⟨_, k2, rfl, rfl⟩ ⟨_, k3, rfl, rfl⟩ fun c o x => up5 c o (Heap.get?_push_of_some _ x)⟩
section
variable {prog : Program} {w : World} {A : Around} {E : Value → Shared → Prop} {s : Shared} {I l1 l2 l3 : Nat}
theorem wn3 {x y v a b c : Value} {P1 P2 P3 R1 R2 R3 : Heap → Prop} {Q : Option Value → Shared → Prop} (b1 : l1 < I) (b2 : l2 < I) (b3 : l3 < I)
    (S1 : ZM.Stp prog w I P1 x R1) (S2 : ZM.Stp prog w (I + 1) P2 y R2) (S3 : ZM.Stp prog w (I + 2) P3 v R3) (o1 : Of I l1 P1) (o2 : Of (I + 1) l2 P2) (o3 : Of (I + 2) l3 P3)
    (q1 : ∀ b h h', Heap.ExtBut b h h' → I ≠ b → R1 h → R1 h') (q2 : ∀ b h h', Heap.ExtBut b h h' → I + 1 ≠ b → R2 h → R2 h') (q3 : ∀ b h h', Heap.ExtBut b h h' → I + 2 ≠ b → R3 h → R3 h')
    (hz : IsZip s.heap (I + 5) (I + 3) (I + 4) .none) (hTI : IsTri s.heap (I + 3) (.ref I) (.ref (I + 1)) (.ref (I + 2))) (hTO : IsTri s.heap (I + 4) a b c) (p1 : P1 s.heap) (p2 : P2 s.heap) (p3 : P3 s.heap)
    (hQ : ∀ h', IsZip h' (I + 5) (I + 3) (I + 4) (rawInt s.heap.objs.size) → IsTri h' (I + 4) x y v → R1 h' → R2 h' → R3 h' → IsTri h' s.heap.objs.size x y v → h'.objs.size = s.heap.objs.size + 1 →
      (∀ e o, e ≠ I + 5 → e ≠ I + 4 → e ≠ I → e ≠ I + 1 → e ≠ I + 2 → s.heap.get? e = some o → h'.get? e = some o) → Q (some (.ref s.heap.objs.size)) { s with heap := h' }) :
    wpAny (model prog w) A (pyNext (.ref (I + 5))) Q E s := by
  have hT : s.TypeIs (.ref (I + 5)) "zip" := ⟨_, hz, rfl⟩
  unfold pyNext
  exact wpAny_bind (wpAny_attempt (wpAny_callSpecial?_slot (name := Str.ofString "__next__") hT F.slot_zip_next
    (wpAny_call_entry F.slot_zip_next hT F.entry_zip_next (item3 b1 b2 b3 S1 S2 S3 o1 o2 o3 q1 q2 q3 hz hTI hTO p1 p2 p3 fun h' a1 a2 a3 a4 a5 a6 a7 a8 => wpAny_pure (hQ h' a1 a2 a3 a4 a5 a6 a7 a8)) (F.args_zip_next_1 _))))
theorem we3 {a b c : Value} {P1 P2 P3 : Heap → Prop} {Q : Option Value → Shared → Prop} (hh : A.handled = none) (b1 : l1 < I) (b2 : l2 < I) (b3 : l3 < I)
    (o1 : Of I l1 P1) (o2 : Of (I + 1) l2 P2) (o3 : Of (I + 2) l3 P3)
    (K : ZM.Fin prog w I P1 ∨ (∃ x R1, ZM.Stp prog w I P1 x R1) ∧ (ZM.Fin prog w (I + 1) P2 ∨ (∃ y R2, ZM.Stp prog w (I + 1) P2 y R2) ∧ ZM.Fin prog w (I + 2) P3))
    (hz : IsZip s.heap (I + 5) (I + 3) (I + 4) .none) (hTI : IsTri s.heap (I + 3) (.ref I) (.ref (I + 1)) (.ref (I + 2))) (hTO : IsTri s.heap (I + 4) a b c) (p1 : P1 s.heap) (p2 : P2 s.heap) (p3 : P3 s.heap)
    (hQ : ∀ h', (∀ e o, e ≠ I + 5 → e ≠ I + 4 → e ≠ I → e ≠ I + 1 → e ≠ I + 2 → s.heap.get? e = some o → h'.get? e = some o) → Q none { s with heap := h' }) : wpAny (model prog w) A (pyNext (.ref (I + 5))) Q E s := by
  have hT : s.TypeIs (.ref (I + 5)) "zip" := ⟨_, hz, rfl⟩
  unfold pyNext
  refine wpAny_bind (wpAny_attempt (wpAny_callSpecial?_slot (name := Str.ofString "__next__") hT F.slot_zip_next
    (wpAny_call_entry F.slot_zip_next hT F.entry_zip_next (end3 hh b1 b2 b3 o1 o2 o3 K hz hTI hTO p1 p2 p3 fun h' e hk ⟨o, ho, hc⟩ => ?_) (F.args_zip_next_1 _))))
  exact wpAny_bind (wpAny_isInstance (T := "StopIteration") (b := true) ⟨o, ho, hc⟩ isSubtype_stop (wpAny_pure (hQ _ hk)))
theorem lt_of_nat {a b : Addr} (h : @LT.lt Nat _ a b) : a < b := h
theorem nat_of_lt {a b : Addr} (h : a < b) : @LT.lt Nat _ a b := h
end
def It3 (K : PySem.W.Frag) (a b c : Addr) : It :=
  ⟨fun i H => ∃ (xs ys zs : List V) (x y z : V), SqL K H a xs ∧ SqL K H b ys ∧ SqT K H c zs ∧ xs[i]? = some x ∧ ys[i]? = some y ∧ zs[i]? = some z,
    fun i H v H' => ∃ T x y z, v = .ref T ∧ H T = none ∧ H' = upd H T (.tup [x, y, z]) ∧ (∀ xs, SqL K H a xs → xs[i]? = some x) ∧ (∀ ys, SqL K H b ys → ys[i]? = some y) ∧ ∀ zs, SqT K H c zs → zs[i]? = some z,
    fun i H => ∃ xs ys zs : List V, SqL K H a xs ∧ SqL K H b ys ∧ SqT K H c zs ∧ (xs.length ≤ i ∨ ys.length ≤ i ∨ zs.length ≤ i)⟩
theorem turn3 {P : Program} {w : World} {K : PySem.W.Frag} {elts : List Expr} {kk : Nat} {tpos : Pos} {a b c : Addr} {I : Nat} (b1 : a < I) (b2 : b < I) (b3 : c < I) :
    Turn P w K (.Tuple elts kk tpos) (It3 K a b c) [I + 5, I + 3, I + 4, I, I + 1, I + 2] (I + 5) (fun i h => IsZip h (I + 5) (I + 3) (I + 4) .none ∧ IsTri h (I + 3) (.ref I) (.ref (I + 1)) (.ref (I + 2)) ∧ (∃ x y z, IsTri h (I + 4) x y z) ∧ h.IsListIter I a i ∧ h.IsListIter (I + 1) b i ∧ h.IsTupleIter (I + 2) c i) where
  mem := by simp
  obj := fun i h st e he => by
    obtain ⟨hz, hTI, ⟨x, y, z, hTO⟩, ⟨o1, e1, _, d1⟩, ⟨o2, e2, _, d2⟩, ⟨o3, e3, _, d3⟩⟩ := st
    simp only [List.mem_cons, List.not_mem_nil, or_false] at he
    rcases he with rfl | rfl | rfl | rfl | rfl | rfl
    · exact ⟨_, hz, fun v q => nomatch q⟩
    · exact ⟨_, hTI, fun v q => nomatch q⟩
    · exact ⟨_, hTO, fun v q => nomatch q⟩
    · exact ⟨o1, e1, fun v q => by rw [d1] at q; cases q⟩
    · exact ⟨o2, e2, fun v q => by rw [d2] at q; cases q⟩
    · exact ⟨o3, e3, fun v q => by rw [d3] at q; cases q⟩
  keep := fun i h h' st k => by
    obtain ⟨hz, hTI, ⟨x, y, z, hTO⟩, h1, h2, h3⟩ := st
    exact ⟨k _ (by simp) _ hz, k _ (by simp) _ hTI, ⟨x, y, z, k _ (by simp) _ hTO⟩, h1.at fun o q => k _ (by simp) o q, h2.at fun o q => k _ (by simp) o q, h3.at fun o q => k _ (by simp) o q⟩
  item := by
    intro X hP hw hK hc i pins s σ H E IV hf st hg
    subst hP hw hK
    obtain ⟨hz, hTI, ⟨x0, y0, z0, hTO⟩, h1, h2, h3⟩ := st
    obtain ⟨xs, ys, zs, x, y, z, hqx, hqy, hqz, hx, hy, hzz⟩ := hg
    obtain ⟨its, rv, p, _⟩ := IV.list hqx
    obtain ⟨its2, rv2, p2, _⟩ := IV.list hqy
    obtain ⟨its3, rv3, p3, _⟩ := IV.tuple hqz
    obtain ⟨u, hu, ru⟩ := rv.get hx
    obtain ⟨u2, hu2, ru2⟩ := rv2.get hy
    obtain ⟨u3, hu3, ru3⟩ := rv3.get hzz
    have hzl : I + 5 < s.heap.objs.size := Heap.lt_size hz
    refine wn3 b1 b2 b3 (stp_list (i := i) (xs := its.toArray) (by simpa using hu)) (stp_list (i := i) (xs := its2.toArray) (by simpa using hu2)) (stp_tup (i := i) (xs := its3.toArray) (by simpa using hu3)) of_list of_list of_tup of_list1 of_list1 of_tup1 hz hTI hTO ⟨h1, p.isList⟩ ⟨h2, p2.isList⟩ ⟨h3, p3⟩ fun h' z' TO' h1' h2' h3' hT hsz hk => ?_
    refine ⟨_, rfl, wpAny_letOwnedTupleGo_zip (s := { s with heap := h' }) z' fun h'' z'' sb => ?_⟩
    have hT2 : h''.get? s.heap.objs.size = some { cls := .type "tuple", data := .seq #[u, u2, u3] } := (sb.2 _ (Nat.ne_of_gt hzl)).trans hT
    have new : ObjOk X.prog X.w (upd H s.heap.objs.size (.tup [x, y, z])) h'' s.heap.objs.size (.tup [x, y, z]) := ⟨by show 3 ≤ sizeLine; decide, [u, u2, u3], .cons ru (.cons ru2 (.cons ru3 .nil)), ⟨_, hT2, rfl, _, rfl⟩⟩
    have I1 : Inv X pins σ (upd H s.heap.objs.size (.tup [x, y, z])) { s with heap := h'' } :=
      IV.turnedNew (t' := s.toks) (ch := [I + 5, I + 3, I + 4, I, I + 1, I + 2]) (fun c o hb q => (sb.2 c (fun q' => hb (by simp [q']))).trans (hk c o (fun q' => hb (by simp [q'])) (fun q' => hb (by simp [q'])) (fun q' => hb (by simp [q'])) (fun q' => hb (by simp [q'])) (fun q' => hb (by simp [q'])) q)) hf (Nat.le_refl _) new
    refine ⟨.ref s.heap.objs.size, _, I1, rfl, ⟨_, x, y, z, rfl, IV.hok.fresh (Nat.le_refl _), rfl, fun l hl => by rw [IV.list_inj hl hqx]; exact hx, fun l hl => by rw [IV.list_inj hl hqy]; exact hy, fun l hl => by rw [IV.tuple_inj hl hqz]; exact hzz⟩, ⟨z'', ?_, ⟨u, u2, u3, ?_⟩, ?_, ?_, ?_⟩, fun c hcm => ?_⟩
    · exact (sb.2 _ (neq (by omega))).trans (hk _ _ (neq (by omega)) (neq (by omega)) (neq (by omega)) (neq (by omega)) (neq (by omega)) hTI)
    · exact (sb.2 _ (neq (by omega))).trans TO'
    · exact h1'.at fun o q => (sb.2 _ (neq (by omega))).trans q
    · exact h2'.at fun o q => (sb.2 _ (neq (by omega))).trans q
    · exact h3'.at fun o q => (sb.2 _ (neq (by omega))).trans q
    · have hlt : c < s.heap.objs.size := by
        have hcm' := hcm
        simp only [List.mem_cons, List.not_mem_nil, or_false] at hcm'
        rcases hcm' with q | q | q | q | q | q <;> (rw [q]; refine lt_of_nat ?_; have := nat_of_lt hzl; omega)
      rw [upd_ne (Nat.ne_of_lt hlt)]
      exact (hf c hcm).1
  done := by
    intro X hP hw hK hc i pins s σ H E IV hf st hg
    subst hP hw hK
    obtain ⟨hz, hTI, ⟨x0, y0, z0, hTO⟩, h1, h2, h3⟩ := st
    obtain ⟨xs, ys, zs, hqx, hqy, hqz, hend⟩ := hg
    obtain ⟨its, rv, p, _⟩ := IV.list hqx
    obtain ⟨its2, rv2, p2, _⟩ := IV.list hqy
    obtain ⟨its3, rv3, p3, _⟩ := IV.tuple hqz
    have l1 := rv.length
    have l2 := rv2.length
    have l3 := rv3.length
    refine we3 (IV.ok.hd hc) b1 b2 b3 of_list of_list of_tup ?_ hz hTI hTO ⟨h1, p.isList⟩ ⟨h2, p2.isList⟩ ⟨h3, p3⟩ fun h' hk => ⟨rfl, IV.turnedL (t' := s.toks) (ch := [I + 5, I + 3, I + 4, I, I + 1, I + 2]) (fun c o hb q =>
      hk c o (fun q' => hb (by simp [q'])) (fun q' => hb (by simp [q'])) (fun q' => hb (by simp [q'])) (fun q' => hb (by simp [q'])) (fun q' => hb (by simp [q'])) q) hf⟩
    by_cases q : its.length ≤ i
    · exact .inl (fin_list (by simp; omega))
    · refine .inr ⟨⟨its[i]'(by omega), _, stp_list (by simp)⟩, ?_⟩
      by_cases q2 : its2.length ≤ i
      · exact .inl (fin_list (by simp; omega))
      · exact .inr ⟨⟨its2[i]'(by omega), _, stp_list (by simp)⟩, fin_tup (by simp; omega)⟩
  self := fun A i s Q E st h => wpAny_pyIter_zip st.1 h
end ZM3

end
section
set_option linter.all false
set_option autoImplicit false
set_option Elab.async false
set_option maxRecDepth 100000
set_option maxHeartbeats 1000000
namespace ZM3
open PySem PySem.Spec PyProof.Rows L2 RZ ZM
def iZ3 (K : PySem.W.Frag) (ta : TA) : TI := fun σ H R => ta σ H fun vs H1 => ∃ a b c xs ys zs, vs = [.ref a, .ref b, .ref c] ∧ SqL K H1 a xs ∧ SqL K H1 b ys ∧ SqT K H1 c zs ∧ R (It3 K a b c) H1
theorem pi_z3 {X : Cx} {e e2 e3 : Expr} {ta : TA} {p pos tpos : Pos} {elts : List Expr} {kk : Nat} (hg : Gl X "zip") (hm : X.mg "zip" = none) (ha : PA X [e, e2, e3] ta)
    (hs : starEach [e, e2, e3] X.env = (false, eval e X.env) :: starEach [e2, e3] X.env := by rfl) (hpl : (backTo pos (starEach [e2, e3] X.env)).any (·.1) = false := by rfl) :
    PI X (.Tuple elts kk tpos) (.Call (.Name "zip" p) [e, e2, e3] [] pos) (iZ3 X.K ta) := by
  refine ⟨fun pins s σ H R I h => ?_⟩
  refine Call_ (ld_blt I hg hm PyProof.Rows.boot_zip (PyProof.Rows.callWith_type1 (thn (ha.run pos pins s σ H _ I h) fun us s1 ⟨vs, H1, I1, r1, q1⟩ => ?_) hs hpl))
  obtain ⟨a, b, c, xs, ys, zs, ex, hqx, hqy, hqz, q⟩ := q1
  subst ex
  obtain ⟨us', rfl⟩ : ∃ us', us = .ref a :: us' := by cases r1 with | cons r rr => cases r; exact ⟨_, rfl⟩
  obtain ⟨us2, rfl⟩ : ∃ us2, us' = .ref b :: us2 := by cases r1 with | cons r rr => cases rr with | cons r' rr => cases r'; exact ⟨_, rfl⟩
  obtain rfl : us2 = [.ref c] := by cases r1 with | cons r rr => cases rr with | cons r' rr => cases rr with | cons r3 rr => cases r3; cases rr; rfl
  have fresh6 : ∀ e, e ∈ [s1.heap.objs.size + 5, s1.heap.objs.size + 3, s1.heap.objs.size + 4, s1.heap.objs.size, s1.heap.objs.size + 1, s1.heap.objs.size + 2] → FpOk X pins H1 e := fun e hcm => by
    have hle : s1.heap.objs.size ≤ e := by
      simp only [List.mem_cons, List.not_mem_nil, or_false] at hcm
      rcases hcm with z | z | z | z | z | z <;> rw [z] <;> omega
    exact I1.fpOk hle (I1.hok.fresh hle)
  obtain ⟨its, rv, p1, _⟩ := I1.list hqx
  obtain ⟨its2, rv2, p2, _⟩ := I1.list hqy
  obtain ⟨its3, rv3, p3, _⟩ := I1.tuple hqz
  obtain ⟨o3, ho3, _⟩ := id p3
  refine call3 (show s1.heap.IsList a its.toArray from p1.isList) (show s1.heap.IsList b its2.toArray from p2.isList) (show s1.heap.IsTuple c its3.toArray from p3) fun h' hz hTI hTO h1 h2 h3 hk => wpAny_pyIter_zip hz ?_
  have I2 : Inv X pins σ H1 { s1 with heap := h' } := I1.kept (t' := s1.toks) hk
  exact ⟨s1.heap.objs.size + 5, [s1.heap.objs.size + 5, s1.heap.objs.size + 3, s1.heap.objs.size + 4, s1.heap.objs.size, s1.heap.objs.size + 1, s1.heap.objs.size + 2], _, _, H1, rfl, I2, turn3 (I := s1.heap.objs.size) p1.lt p2.lt (Heap.lt_size ho3), ⟨hz, hTI, ⟨_, _, _, hTO⟩, h1, h2, h3⟩, fresh6, q⟩
end ZM3
namespace T3
open PySem L2
variable [TabL]
def zipD3 : List PyData → List PyData → List PyData → List PyData
  | x :: xs, y :: ys, z :: zs => .tuple [x, y, z] :: zipD3 xs ys zs
  | _, _, _ => []
theorem zipD3_len : ∀ (xs ys zs : List PyData), (zipD3 xs ys zs).length = min xs.length (min ys.length zs.length)
  | [], _, _ => by simp [zipD3]
  | _ :: _, [], _ => by simp [zipD3]
  | _ :: _, _ :: _, [] => by simp [zipD3]
  | x :: xs, y :: ys, z :: zs => by simp only [zipD3, List.length_cons, zipD3_len xs ys zs]; omega
theorem zipD3_at : ∀ {xs ys zs : List PyData} {i : Nat} {x y z : PyData}, xs[i]? = some x → ys[i]? = some y → zs[i]? = some z → (zipD3 xs ys zs)[i]? = some (.tuple [x, y, z])
  | [], _, _, _, _, _, _, h, _, _ => by simp at h
  | _ :: _, [], _, _, _, _, _, _, h, _ => by simp at h
  | _ :: _, _ :: _, [], _, _, _, _, _, _, h => by simp at h
  | a :: xs, b :: ys, c :: zs, 0, x, y, z, h1, h2, h3 => by simp at h1 h2 h3; subst h1 h2 h3; rfl
  | a :: xs, b :: ys, c :: zs, i + 1, x, y, z, h1, h2, h3 => by
    simp only [List.getElem?_cons_succ] at h1 h2 h3
    simp only [zipD3, List.getElem?_cons_succ]
    exact zipD3_at h1 h2 h3
theorem wk_z3 {K : PySem.W.Frag} {a b c : Addr} {xs ys zs : List PyData} : Wk K (ZM3.It3 K a b c) (fun q => q = a ∨ q = b) (fun B H => (∃ vs, H a = some (.lst vs) ∧ RpA K B H vs xs) ∧ (∃ vs, H b = some (.lst vs) ∧ RpA K B H vs ys) ∧ Rp K B H (.ref c) (.tuple zs)) (zipD3 xs ys zs) where
  go i B H g hi := by
    obtain ⟨⟨us, h1, h2⟩, ⟨vs, h3, h4⟩, g3⟩ := g
    obtain ⟨_, ws, e, h5, h6⟩ := Cn.tuple (.rp g3)
    cases e
    rw [zipD3_len] at hi
    have l1 := h2.length
    have l2 := h4.length
    have l3 := h6.length
    exact ⟨us, vs, ws, us[i]'(by omega), vs[i]'(by omega), ws[i]'(by omega), .inl (.inl h1), .inl (.inl h3), h5, by simp, by simp, by simp⟩
  stop B H g := by
    obtain ⟨⟨us, h1, h2⟩, ⟨vs, h3, h4⟩, g3⟩ := g
    obtain ⟨_, ws, e, h5, h6⟩ := Cn.tuple (.rp g3)
    cases e
    refine ⟨us, vs, ws, .inl (.inl h1), .inl (.inl h3), h5, ?_⟩
    rw [zipD3_len]
    have l1 := h2.length
    have l2 := h4.length
    have l3 := h6.length
    omega
  yld i B H x H' d g hd hy := by
    obtain ⟨⟨us, h1, h2⟩, ⟨vs, h3, h4⟩, g3⟩ := g
    obtain ⟨_, ws, e, h5, h6⟩ := Cn.tuple (.rp g3)
    cases e
    obtain ⟨T, u, v, w, rfl, nT, rfl, f1, f2, f3⟩ := hy
    refine ⟨.inr (.inl ⟨T, _, nT, rfl⟩), ?_⟩
    obtain ⟨x, m1, m2⟩ := h2.getV (f1 us (.inl (.inl h1)))
    obtain ⟨y, m3, m4⟩ := h4.getV (f2 vs (.inl (.inl h3)))
    obtain ⟨z, m5, m6⟩ := h6.getV (f3 ws h5)
    rw [zipD3_at m1 m3 m5] at hd
    cases hd
    have gr : Grow B H B (upd H T (.tup [u, v, w])) := ⟨fun q o h _ => keep_upd nT q o h, fun q h => .inl h⟩
    exact .tup (.inl (.inl upd_same)) (.cons (m2.grow gr) (.cons (m4.grow gr) (.cons (m6.grow gr) .nil)))
  keep W B H W' B' H' g s wb hp := by
    obtain ⟨⟨us, h1, h2⟩, ⟨vs, h3, h4⟩, g3⟩ := g
    exact ⟨⟨us, s.keep _ _ h1 (.inl ⟨hp a (.inl rfl), fun _ z => nomatch z⟩), h2.grow (s.grow wb)⟩, ⟨vs, s.keep _ _ h3 (.inl ⟨hp b (.inr rfl), fun _ z => nomatch z⟩), h4.grow (s.grow wb)⟩, g3.grow (s.grow wb)⟩
def iZt3 (f : EA) : EI := fun env => match f env with
  | some ([.var i, .tmp (.ls ys), d3], e) => match e[i]? with
    | some (some (.mu m (.ls xs))) => match tupOf d3 with
      | none => none
      | some zs => some (zipD3 xs ys zs, some (i, m), e.set i (some (.mu .fro (.ls xs))))
    | _ => none
  | _ => none
theorem i_z3 {X : Cx} {e e2 e3 : Expr} {f : EA} {p pos tpos : Pos} {elts : List Expr} {kk : Nat} (hg : Gl X "zip") (hm : X.mg "zip" = none) (ha : PA X [e, e2, e3] (tA X.K f))
    (hs : starEach [e, e2, e3] X.env = (false, eval e X.env) :: starEach [e2, e3] X.env := by rfl) (hpl : (backTo pos (starEach [e2, e3] X.env)).any (·.1) = false := by rfl) :
    PI X (.Tuple elts kk tpos) (.Call (.Name "zip" p) [e, e2, e3] [] pos) (tI X.K (iZt3 f)) := PI.imp (ZM3.pi_z3 hg hm ha hs hpl) fun σ H R h => by
  obtain ⟨B, env, xs, lk, env', en, ev, q⟩ := h
  unfold iZt3 at ev
  split at ev
  · rename_i i ys d3 e1 h1
    split at ev
    · rename_i m xs h2
      split at ev
      · cases ev
      rename_i zs h3
      cases ev
      refine ⟨B, env, _, _, en, h1, fun B1 H1 vs a1 rr => ?_⟩
      match vs, rr with
      | [v, u, w], rr =>
        have k := rr.each 0 v (.var i) rfl rfl
        have r2 := rr.each 1 u (.tmp (.ls ys)) rfl rfl
        have r3 := tupOf_at (rr.each 2 w d3 rfl rfl) h3
        have k1 := k
        unfold RA at k1
        obtain ⟨a, g1, g2, us, g3, g4⟩ := a1.en.mu i _ _ h2
        have ev : v = .ref a := by
          have := k1.symm.trans g1
          simpa using this
        subst ev
        obtain ⟨b, rfl, k0, kb, ⟨ws, w1, w2⟩, k4⟩ := r2
        obtain ⟨c, zz, rfl, g5, _⟩ := Cn.tuple (.rp r3)
        refine ⟨a, b, c, us, ws, zz, rfl, .inl (.inl g3), .inl (.inl w1), g5, q B1 H1 _ _ _ _ a1 ⟨_, h2, rfl⟩ wk_z3 ⟨⟨us, g3, g4⟩, ⟨ws, w1, w2⟩, r3⟩ (fun p z => ?_)⟩
        rcases z with z | z
        · subst z
          refine ⟨fun ⟨j, m', c, z1, z2, z3⟩ => ?_, _, g3⟩
          rcases get_set z1 with ⟨e1, e2⟩ | ⟨e1, z1⟩
          · cases e2; exact z2 rfl
          · exact e1 (a1.en.inj i j _ _ _ _ _ h2 z1 k1 z3)
        · subst z
          refine ⟨fun ⟨j, m', c, z1, z2, z3⟩ => ?_, _, w1⟩
          rcases get_set z1 with ⟨e1, e2⟩ | ⟨e1, z1⟩
          · cases e2; exact z2 rfl
          · exact k4 j _ _ z1 z3
      | [], rr => have := rr.len; simp at this
      | [_], rr => have := rr.len; simp at this
      | [_, _], rr => have := rr.len; simp at this
      | _ :: _ :: _ :: _ :: _, rr => have := rr.len; simp at this
    · cases ev
  · cases ev
@[simp] theorem z_zt3 (f : EA) (env : Sl) : iZt3 f env = (match f env with
  | some ([.var i, .tmp (.ls ys), d3], e) => match e[i]? with
    | some (some (.mu m (.ls xs))) => match tupOf d3 with
      | none => none
      | some zs => some (zipD3 xs ys zs, some (i, m), e.set i (some (.mu .fro (.ls xs))))
    | _ => none
  | _ => none) := rfl
end T3

end
section
set_option linter.all false
set_option autoImplicit false
set_option Elab.async false
set_option maxRecDepth 100000
namespace T3
open PySem L2
variable [TabL]
def rGetI (K : PySem.W.Frag) : V → V → Hp → VK → Prop := fun o i H Q => ∃ (p : Addr) (xs : List V) (k : Int) (v : V), o = .ref p ∧ i = .int k ∧ 0 ≤ k ∧ SqL K H p xs ∧ xs[k.toNat]? = some v ∧ Q v H
theorem get_listI {X : Cx} : PGet X (rGetI X.K) := by
  intro pins s σ H o i ov iv Q I ro ri h
  obtain ⟨p, xs, k, v, rfl, rfl, h0, hq, hv, q⟩ := h
  cases ro
  obtain ⟨t, rfl⟩ := ri
  obtain ⟨its, rv, pl, hz⟩ := I.list hq
  obtain ⟨w, hw, rw'⟩ := rv.get hv
  have hl := rv.length
  have hn := line63
  have hlt : k.toNat < xs.length := (List.getElem?_eq_some_iff.mp hv).1
  exact PySem.wpAny_getItem_list pl.isList h0 (by omega) (by simpa using hw) ⟨v, H, I, rw', q⟩
def sAugS (fo fi : EE) (b : Int) : SS := fun env => match fo env with
  | some (.var j, e1) => match fi e1 with
    | some (.pd (.int k), e2) => match e2[j]? with
      | some (some (.mu m (.ls xs))) => if 0 ≤ k then match xs[k.toNat]? with
          | some (.int a) => match putL j k (.int (a + b)) e2 with
            | some e4 => some (.nx, e4)
            | none => none
          | _ => none
        else none
      | _ => none
    | _ => none
  | _ => none
theorem rd_augS {K : PySem.W.Frag} {fo fi : EE} {b : Int} {D : Ends} {σ : St} {H : Hp} (h : tS K (sAugS fo fi b) D σ H) : tAugS (tE K fo) (tE K fi) (tC (.int b)) (rGetI K) (ipI fun i j => i + j) rSetL D σ H := by
  obtain ⟨B, env, fl, env', en, ev, hq⟩ := h
  unfold sAugS at ev
  split at ev
  rotate_left
  · cases ev
  rename_i j e1 h1
  split at ev
  rotate_left
  · cases ev
  rename_i k e2 h2
  split at ev
  rotate_left
  · cases ev
  rename_i m xs h3
  split at ev
  rotate_left
  · cases ev
  rename_i h0
  split at ev
  rotate_left
  · cases ev
  rename_i a h4
  split at ev
  rotate_left
  · cases ev
  rename_i e4 h7
  cases ev
  refine ⟨B, env, _, _, en, h1, fun B1 H1 o a1 r1 => ⟨B1, e1, _, _, a1.en, h2, fun B2 H2 w a2 r2 => ?_⟩⟩
  have r2 : Rp K B2 H2 w (.int k) := r2
  cases r2
  have a12 := a1.trans en a2
  have hx : σ[j]? = some (some o) := r1.1
  obtain ⟨p, g1, g2, us, g3, g4⟩ := a12.en.mu j _ _ h3
  rw [hx] at g1
  cases g1
  obtain ⟨v, hv, rv⟩ := g4.get h4
  cases rv
  refine ⟨p, us, k, .int a, rfl, rfl, h0, .inl (.inl g3), hv, a, b, rfl, rfl, ?_⟩
  unfold putL at h7
  split at h7
  rotate_left
  · cases h7
  rename_i m2 zs hm
  split at h7
  · cases h7
  rename_i hf
  split at h7
  · cases h7
  rename_i i hi
  cases h7
  rw [h3] at hm
  cases hm
  refine ⟨p, us, k, i, rfl, rfl, g3, by rw [g4.length]; exact hi, ?_⟩
  obtain ⟨gw, aw⟩ := AtS.write (o := .lst (us.set i (.int (a + b)))) (c' := .ls (xs.set i (.int (a + b)))) a12.en h3 hf hx (fun o' h' im => by rw [g3] at h'; cases h'; exact im) (fun H' _ h1 g' => ⟨_, h1, (g4.set (.int (a + b)) i).grow g'⟩)
  exact hq _ _ _ ((a12.trans en aw).s)
theorem s_augS {X : Cx} {o i e : Expr} {fo fi : EE} {b : Int} {tpos pos : Pos} (ho : PE X o (tE X.K fo)) (hi : PE X i (tE X.K fi)) (he : PE X e (tC (.int b)))
    (ha : ∀ ov iv new, augStore i ov iv new = (do holding [new, ov, iv] (setItem ov iv new); release [new, ov, iv] []; pure .next) := by intros; rfl) :
    PS X (.AugAssign (.Subscript o i tpos) .Add e pos) (tS X.K (sAugS fo fi b)) := PS.imp (ps_augS ho hi get_listI he ip_add set_list ha) fun _ _ _ t => rd_augS t
@[simp] theorem z_augS (fo fi : EE) (b : Int) (env : Sl) : sAugS fo fi b env = (match fo env with
  | some (.var j, e1) => match fi e1 with
    | some (.pd (.int k), e2) => match e2[j]? with
      | some (some (.mu m (.ls xs))) => if 0 ≤ k then match xs[k.toNat]? with
          | some (.int a) => match putL j k (.int (a + b)) e2 with
            | some e4 => some (.nx, e4)
            | none => none
          | _ => none
        else none
      | _ => none
    | _ => none
  | _ => none) := rfl
end T3

end
section
set_option linter.all false
set_option autoImplicit false
set_option Elab.async false
set_option maxRecDepth 100000
namespace T3
open PySem L2 PySem.Spec PyProof.Rows
variable [TabL]
end T3

end
section
set_option linter.all false
set_option autoImplicit false
set_option Elab.async false
set_option maxRecDepth 100000
namespace T3
open PySem L2
variable [TabL]
end T3

end
section
set_option linter.all false
set_option autoImplicit false
set_option Elab.async false
set_option maxRecDepth 100000
namespace T3
open PySem L2
variable [TabL]
section
variable {X : Cx} {pins : List (Addr × Obj)} {σ : St} {H : Hp} {s : Shared} {a : Addr} {A : Around} {E : Value → Shared → Prop}
end
section
variable {X : Cx} {o e f : Expr} {apos cpos : Pos} {td ty tx : TE}
end
section
variable {X : Cx} {o e f : Expr} {apos cpos : Pos} {fd fk fx : EE}
end
end T3

end
section
set_option linter.all false
set_option autoImplicit false
set_option Elab.async false
set_option maxRecDepth 100000
namespace T3
open PySem L2
variable [TabL]
end T3

end
section
set_option linter.all false
set_option autoImplicit false
set_option Elab.async false
set_option maxRecDepth 100000
namespace L2
open PySem PySem.Spec PyProof.Rows
section
variable {P : Program} {w : World} {A : Around} {E : Value → Shared → Prop} {s : Shared}
end
section
variable {X : Cx}
end
end L2

end
section
set_option linter.all false
set_option autoImplicit false
set_option Elab.async false
set_option maxRecDepth 100000
namespace T3
open PySem PySem.Spec PyProof.Rows L2
variable [TabL]
end T3

end
section
set_option linter.all false
set_option autoImplicit false
set_option Elab.async false
namespace T3
open PySem PySem.Spec PyProof.Rows L2
variable [TabL]
theorem Vals.at {vs : List V} {us : List Value} (h : Vals vs us) (i : Nat) : (vs[i]? = none ∧ us[i]? = none) ∨ ∃ v u, vs[i]? = some v ∧ us[i]? = some u ∧ RelV v u := by
  induction h generalizing i with
  | nil => exact .inl ⟨by simp, by simp⟩
  | cons r _ ih => cases i with
    | zero => exact .inr ⟨_, _, rfl, rfl, r⟩
    | succ i => simpa using ih i
section
variable {X : Cx} {k n m : Nat} {F : FnD} {x : Str} {p pos kpos : Pos} {e : Expr} {es : List Expr} {kws : List Keyword} {fa : EA} {fe : EE} {ks : List Str} {is : List Nat} {nm : Option Str}
end
end T3

end
section
set_option linter.all false
set_option autoImplicit false
set_option Elab.async false
set_option maxRecDepth 100000
namespace T3
open PySem PySem.Spec PyProof.Rows L2 LamA LamX
variable [TabL]
end T3

end
section
set_option linter.all false
set_option autoImplicit false
set_option Elab.async false
set_option maxRecDepth 100000
namespace T3
open PySem PySem.Spec PyProof.Rows L2
variable [TabL]
mutual
/-- no list in it, and no dict but such as have numbers and texts for keys -/
def okZ : PyData → Bool
  | .none => true
  | .bool _ => true
  | .int _ => true
  | .str _ => true
  | .tuple xs => okZs xs
  | .dict ((.list [.none], .none) :: kvs) => okZk kvs
  | _ => false
def okZs : List PyData → Bool
  | [] => true
  | x :: xs => okZ x && okZs xs
def okZk : List (PyData × PyData) → Bool
  | [] => true
  | (_, x) :: kvs => okZ x && okZk kvs
end
mutual
/-- the datum as the repr tells it -/
def realZ : PyData → PyData
  | .tuple xs => .tuple (realZs xs)
  | .dict ((.list [.none], .none) :: kvs) => .dict (realZk kvs)
  | x => x
def realZs : List PyData → List PyData
  | [] => []
  | x :: xs => realZ x :: realZs xs
def realZk : List (PyData × PyData) → List (PyData × PyData)
  | [] => []
  | (k, x) :: kvs => (k, realZ x) :: realZk kvs
end
theorem realZk_fst : ∀ kvs : List (PyData × PyData), (realZk kvs).map (·.1) = kvs.map (·.1)
  | [] => rfl
  | (k, x) :: kvs => by simp [realZk, realZk_fst kvs]
theorem realZk_snd : ∀ kvs : List (PyData × PyData), (realZk kvs).map (·.2) = realZs (kvs.map (·.2))
  | [] => rfl
  | (k, x) :: kvs => by simp [realZk, realZs, realZk_snd kvs]
theorem okZk_snd : ∀ kvs : List (PyData × PyData), okZk kvs = okZs (kvs.map (·.2))
  | [] => rfl
  | (k, x) :: kvs => by simp [okZk, okZs, okZk_snd kvs]
theorem reads_keys {P : Program} {w : World} {h : Heap} : ∀ {es : List DictEntry} {vs : List (L2.Key × Value)}, Pairs (mixKind P w) es vs → ReadsAll h (es.map (·.key)) (vs.map fun q => keyD q.1) []
  | _, _, .nil => .nil
  | _, _, .cons (e := e) (kv := kv) h1 h2 r => by
    have ih := reads_keys (h := h) r
    obtain ⟨k, v⟩ := kv
    have k1 : keyIs k e.key = true := h1
    have one : Reads h e.key (keyD k) [] := by
      generalize e.key = u at *
      cases k with
      | inl i => cases u <;> simp [keyIs, Value.isInt] at k1; subst k1; exact .int _ _
      | inr x => cases u <;> simp [keyIs, Value.isStrOf] at k1; subst k1; exact .str _ _
    exact .cons (as := []) (bs := []) one ih
theorem pairs_val {P : Program} {w : World} : ∀ {es : List DictEntry} {vs : List (L2.Key × Value)}, Pairs (mixKind P w) es vs → es.map (·.val) = vs.map (·.2)
  | _, _, .nil => rfl
  | _, _, .cons h1 h2 r => by simp [h2, pairs_val r]
theorem kv_fst : ∀ {ws : List (L2.Key × V)} {vs : List (L2.Key × Value)}, KV ws vs → vs.map (·.1) = ws.map (·.1)
  | _, _, .nil => rfl
  | _, _, .cons h r => by simp [← h.1, kv_fst r]
theorem kv_snd : ∀ {ws : List (L2.Key × V)} {vs : List (L2.Key × Value)}, KV ws vs → Vals (ws.map (·.2)) (vs.map (·.2))
  | _, _, .nil => .nil
  | _, _, .cons h r => .cons h.2 (kv_snd r)
mutual
theorem Rp.readsZ {X : Cx} {pins : List (Addr × Obj)} {σ : L2.St} {B : Mset} {H : Hp} {s : Shared} (I : Inv X pins σ H s) : ∀ {v : V} {d : PyData}, Rp X.K B H v d → okZ d = true → ∀ u, RelV v u → ∃ as, Reads s.heap u (realZ d) as ∧ ¬ sysModules ∈ as
  | _, _, .non, _, u, e => by
    have e : u = .none := e
    subst e; exact ⟨[], .none, by simp⟩
  | _, _, .bl b, _, u, e => by
    have e : u = .bool b := e
    subst e; exact ⟨[], .bool b, by simp⟩
  | _, _, .int i, _, u, e => by
    obtain ⟨t, rfl⟩ : ∃ t, u = .int i t := e
    exact ⟨[], .int i t, by simp⟩
  | _, _, .str x, _, u, e => by
    obtain ⟨t, rfl⟩ : ∃ t, u = .str x t := e
    exact ⟨[], .str x t, by simp⟩
  | _, _, .tup h r, ok, u, e => by
    have e : u = .ref _ := e
    subst e
    obtain ⟨its, hv, ht, _⟩ := I.tuple h
    obtain ⟨as, h1, h2⟩ := RpA.readsZ I r (by unfold okZ at ok; exact ok) _ hv
    obtain ⟨o, g1, g2, n, g3⟩ := ht
    unfold realZ
    exact ⟨as, .tuple g1 g2 g3 (by simpa using h1), h2⟩
  | _, _, .dck (kvs := kvs) h nb hk r, ok, u, e => by
    have e : u = .ref _ := e
    subst e
    obtain ⟨_, na, vs, kv, o, es, ep, g1, g2, g3, g4, g5, g6⟩ := (I.hok _ _ h : ObjOk _ _ _ _ _ (.dK _))
    obtain ⟨as, h1, h2⟩ := RpA.readsZ I r (by unfold okZ at ok; rw [okZk_snd, List.map_map] at ok; exact ok) _ (kv_snd kv)
    have hk2 : vs.map (·.1) = kvs.map (·.1) := (kv_fst kv).trans hk
    have rk := reads_keys (h := s.heap) g5
    have rv := pairs_val g5
    unfold realZ
    refine ⟨_ :: [] ++ as, .dict g1 g2.1 g3 (as := []) (bs := as) ?_ ?_, ?_⟩
    · rw [realZk_fst, List.map_map]
      have : vs.map (fun q => keyD q.1) = kvs.map ((fun q : PyData × PyData => q.1) ∘ fun q => (keyD q.1, q.2)) := by
        have := congrArg (List.map keyD) hk2
        simpa [List.map_map, Function.comp_def] using this
      rw [← this]
      exact rk
    · rw [rv, realZk_snd, List.map_map]
      exact h1
    · simp only [List.cons_append, List.nil_append, List.mem_cons, not_or]
      exact ⟨fun z => by rw [← z] at na; simp at na, h2⟩
  | _, _, .lst _ _ _, ok, _, _ => by simp [okZ] at ok
  | _, _, .frz _ _, ok, _, _ => by simp [okZ] at ok
  | _, _, .kls _ _ _ _ _ _ _, ok, _, _ => by simp [okZ] at ok
  | _, _, .fn _, ok, _, _ => by simp [okZ] at ok
  | _, _, .exn, ok, _, _ => by simp [okZ] at ok
  | _, _, .ntp _ _ _, ok, _, _ => by simp [okZ] at ok
  | _, _, .lam _ _ _ _ _, ok, _, _ => by simp [okZ] at ok
  | _, _, .dct _ _ _ _ _ _, ok, _, _ => by simp [okZ] at ok
theorem RpA.readsZ {X : Cx} {pins : List (Addr × Obj)} {σ : L2.St} {B : Mset} {H : Hp} {s : Shared} (I : Inv X pins σ H s) : ∀ {vs : List V} {ds : List PyData}, RpA X.K B H vs ds → okZs ds = true → ∀ us, Vals vs us → ∃ as, ReadsAll s.heap us (realZs ds) as ∧ ¬ sysModules ∈ as
  | _, _, .nil, _, us, e => by
    cases e
    exact ⟨[], .nil, by simp⟩
  | _, _, .cons r1 r2, ok, us, e => by
    cases e with
    | cons e1 e2 =>
      simp only [okZs, Bool.and_eq_true] at ok
      obtain ⟨as, a1, a2⟩ := Rp.readsZ I r1 ok.1 _ e1
      obtain ⟨bs, b1, b2⟩ := RpA.readsZ I r2 ok.2 _ e2
      exact ⟨as ++ bs, .cons a1 b1, by simp [a2, b2]⟩
end
def ShZ (d : PyData) : Prop := okZ d = true ∧ (realZ d).showable = true ∧ (realZ d).depth ≤ 60 ∧ (realZ d).shown.length ≤ 1000000
noncomputable instance (d : PyData) : Decidable (ShZ d) := Classical.propDecidable _
def oIsiZ (t : T5) : List PyData → Option PyData
  | [.dict ((.list [.none], .none) :: _)] => some (.bool false)
  | ds => oIsi t ds
@[simp] theorem oIsiZ_d (t : T5) (kvs : List (L2.Key × PyData)) : oIsiZ t [dkD kvs] = some (.bool false) := rfl
@[simp] theorem oIsiZ_i (t : T5) (i : Int) : oIsiZ t [.int i] = some (.bool (isi5 t (.int i))) := rfl
@[simp] theorem oIsiZ_b (t : T5) (i : Bool) : oIsiZ t [.bool i] = some (.bool (isi5 t (.bool i))) := rfl
@[simp] theorem oIsiZ_n (t : T5) : oIsiZ t [.none] = some (.bool (isi5 t .none)) := rfl
@[simp] theorem oIsiZ_s (t : T5) (i : Str) : oIsiZ t [.str i] = some (.bool (isi5 t (.str i))) := rfl
@[simp] theorem oIsiZ_t (t : T5) (i : List PyData) : oIsiZ t [.tuple i] = some (.bool (isi5 t (.tuple i))) := rfl
@[simp] theorem oIsiZ_l (t : T5) (i : List PyData) : oIsiZ t [.list i] = some (.bool (isi5 t (.list i))) := rfl
end T3

end
section
set_option linter.all false
set_option autoImplicit false
set_option Elab.async false
set_option maxRecDepth 100000
set_option maxHeartbeats 4000000
namespace T3
open PySem L2 MM
open PyProof.Rows
variable [TabL]
end T3

end
section
set_option linter.all false
set_option autoImplicit false
set_option Elab.async false
namespace T3
open PySem PySem.Spec PyProof.Rows L2 LamX
section
variable {P : Program} {w : World} {K : PySem.W.Frag} {mg mb : Str → Option Value} {k : Nat} {fa a t cc : Addr} {fd : FuncData} {x : Str} {sp : Sp} {s : Shared} {vs : List Value} {ns : List Int}
abbrev emT : Obj := { cls := .none, data := .fields #[] }
structure Sct (K : PySem.W.Frag) (a t : Addr) (H : Hp) : Prop where
  tb : H t = some (.tbl #[])
  kind : ∀ b, b ≠ t → H b = none ∨ ∃ o xs, H b = some (.frz o (.lst xs))
  two : ∀ b, H b ≠ none → b = a ∨ b = t
  free : H a ≠ none → K.lookup a = none
theorem Sct.off {H : Hp} (c : Sct K a t H) (ha : s.heap.get? a = some { cls := .type "list", data := .seq vs.toArray }) (ht : s.heap.get? t = some emT) {b : Addr} {o : Obj} (h : s.heap.get? b = some o) (n1 : ∀ xs m, o.data ≠ .seq xs m) (n2 : o.data ≠ .fields #[]) : H b = none := by
  apply Classical.byContradiction
  intro z
  rcases c.two b z with e | e
  · subst e
    rw [ha] at h
    injection h with h
    exact n1 _ _ (by rw [← h])
  · subst e
    rw [ht] at h
    injection h with h
    exact n2 (by rw [← h])
theorem Sct.off_d {H : Hp} (c : Sct K a t H) (ha : s.heap.get? a = some { cls := .type "list", data := .seq vs.toArray }) (ht : s.heap.get? t = some emT) {b : Addr} {o : Obj} {es : Array DictEntry} {m : Nat} (h : s.heap.get? b = some o) (d : o.data = .dict es m) : H b = none :=
  c.off ha ht h (fun xs n z => by rw [d] at z; cases z) (fun z => by rw [d] at z; cases z)
theorem Sct.spc {H : Hp} (c : Sct K a t H) (ha : s.heap.get? a = some { cls := .type "list", data := .seq vs.toArray }) (ht : s.heap.get? t = some emT) {b : Addr} {m : Str → Option Value} (h : s.heap.Ns b m) : (hidT s.heap H).Ns b m := by
  obtain ⟨o, es, n, h1, h2, h3⟩ := h
  exact ⟨o, es, n, hidT_get h1 (c.off_d ha ht h1 h2), h2, h3⟩
theorem Sct.kin {H : Hp} (c : Sct K a t H) (nT : K.lookup t = none) (KX : K.In s.heap) : K.In (hidT s.heap H) := by
  intro b o h
  refine hidT_get (KX b o h) (Classical.byContradiction fun z => ?_)
  rcases c.two b z with e | e
  · subst e
    rw [c.free z] at h
    cases h
  · subst e
    rw [nT] at h
    cases h
theorem Sct.tbB {H : Hp} (c : Sct K a t H) (ha : s.heap.get? a = some { cls := .type "list", data := .seq vs.toArray }) (ht : s.heap.get? t = some emT) (hd : PySem.W.CodeHd s.heap cc t) (hm : s.heap.Ns mainGlobals mg)
    (bm : ∃ (q : Addr) (ob : Obj), mg "__builtins__" = some (.ref q) ∧ q ≠ builtinsNs ∧ s.heap.get? q = some ob ∧ ob.cls = .type "module" ∧ ob.dict = some builtinsNs ∧ ob.data = .plain) : LamX.TabB (hidT s.heap H) mg cc t := by
  refine ⟨?_, ?_, ?_⟩
  · obtain ⟨o, us, file, tf, flags, tg, inF, text, tt, e1, r1, r2, r3, r4⟩ := hd
    exact ⟨o, us, file, tf, flags, tg, inF, text, tt, hidT_get e1 (c.off ha ht e1 (fun xs m z => by rw [r2] at z; cases z) (fun z => by rw [r2] at z; cases z; simp at r3)), r1, r2, r3, r4⟩
  · obtain ⟨q, ob, b1, b2, b3, b4, b5, b6⟩ := bm
    refine ⟨q, ob, b1, b2, fun z => ?_, fun z => ?_, hidT_get b3 (c.off ha ht b3 (fun xs m z => by rw [b6] at z; cases z) (fun z => by rw [b6] at z; cases z)), b4, b5, b6⟩
    · obtain ⟨o, es, ep, g1, g2, _⟩ := hm
      rw [z, g1] at b3
      cases b3
      rw [g2] at b6
      cases b6
    · rw [z, ht] at b3
      cases b3
      cases b6
  · intro z
    obtain ⟨o, es, ep, g1, g2, _⟩ := hm
    rw [z, ht] at g1
    cases g1
    cases g2
theorem Sct.run {H : Hp} (c : Sct K a t H) (nT : K.lookup t = none) (ha : s.heap.get? a = some { cls := .type "list", data := .seq vs.toArray }) (ht : s.heap.get? t = some emT) (hd : PySem.W.CodeHd s.heap cc t) (KX : K.In s.heap) (hm : s.heap.Ns mainGlobals mg) (hb : s.heap.Ns builtinsNs mb) (hbb : ∀ x : Str, x ≠ "__name__" → mb x = bootBuiltins x) (nl : s.heap.NoLimit) (hg : s.gens = #[])
    (bm : ∃ (q : Addr) (ob : Obj), mg "__builtins__" = some (.ref q) ∧ q ≠ builtinsNs ∧ s.heap.get? q = some ob ∧ ob.cls = .type "module" ∧ ob.dict = some builtinsNs ∧ ob.data = .plain)
    (hr : Room k callerA) (F : ∀ base : Heap, K.In base → base.Ns mainGlobals mg → LamX.TabB base mg cc t → FnG P w K mg base k fa fd [x] sp) (bi : ∀ (s : Shared) (u : Value), BindsTo s fd ⟨[u], []⟩ [(x, u)]) (hok : HOk P w H s.heap)
    (hs : sp [.ref a] H (fun v _ => v = .bl true) fun _ _ _ => False) :
    codeAny (model P w) callerA (.call (.ref fa) ⟨[.ref a], []⟩) (fun r s2 => r = .ok (.ret (.bool true)) ∧ OldK s.heap s2.heap ∧ s2.os = s.os ∧ AllBare s2.gens) s := by
  obtain ⟨mc, n1, n2⟩ := nl
  have md : Mod K mg (hidT s.heap H) := ⟨c.kin nT KX, c.spc ha ht hm, ⟨mb, c.spc ha ht hb, hbb⟩, mc, c.spc ha ht n1, n2⟩
  have ev : Env0 P w K mg (hidT s.heap H) callerA [] s H := {
    frames := rfl
    mod := md
    bs := fun b o h => of_hidT h
    bsz := Nat.le_of_eq (hidT_size _ _)
    funs := trivial
    frf := fun b h => nomatch (show b ∈ ([] : List Addr) from h)
    hok := hok
    bare := .of_eq hg }
  have tbl := c.tbB ha ht hd hm bm
  have cl := (F _ md.kin (c.spc ha ht hm) tbl).go callerA [] s H ⟨[.ref a], []⟩ [.ref a] [.ref a] _ _ hr rfl ev (bi s (.ref a)) (.cons rfl .nil) hs
  refine codeAny_mono cl ?_
  intro r s2 h
  match r, h with
  | .ok .next, h => exact h.elim
  | .ok .brk, h => exact h.elim
  | .ok .cont, h => exact h.elim
  | .error _, h => exact h.elim
  | .ok (.ret u), ⟨v, H2, os, br, un, hok2, rv, q⟩ =>
    have q : v = .bl true := q
    subst q
    have eu : u = .bool true := rv
    subst eu
    have old : ∀ b o, b ≠ t → s.heap.get? b = some o → s2.heap.get? b = some o := fun b o nt h => by
      rcases c.kind b nt with z | ⟨ob, ys, z⟩
      · exact un.keep b o h z (fun y => nomatch (show b ∈ ([] : List Addr) from y)) (by simp)
      · have h1 := (hok b _ z).1
        rw [h] at h1
        cases h1
        exact (hok2 b _ (un.frzs b o _ z)).1
    obtain ⟨mo, z⟩ := un.tbls t #[] c.tb
    have hz := hok2 t _ z
    rw [Array.empty_append] at hz
    refine ⟨rfl, ⟨fun b o h => ?_, fun b o h => ?_⟩, os, br⟩
    · by_cases e : b = t
      · subst e
        rw [ht] at h
        cases h
        exact .inr (.inl ⟨(hd.tab ht).isCodeTable, rfl, #[], mo, rfl, by rw [Array.empty_append]; exact hz⟩)
      · exact .inl (old b o e h)
    · by_cases e : b = t
      · subst e; exact ⟨_, hz⟩
      · exact ⟨o, old b o e h⟩
end
end T3

end
section
set_option linter.all false
set_option autoImplicit false
set_option Elab.async false
namespace T3
open PySem PySem.Spec PyProof.Rows L2
variable [TabL]
end T3

end
section
set_option linter.all false
set_option autoImplicit false
set_option Elab.async false
set_option maxRecDepth 100000
namespace T3
open PySem PySem.Spec PyProof.Rows L2
variable [TabL]
abbrev XS := Sl → Str → Sl → Prop
def tX (K : PySem.W.Frag) (mg : Str → Option Value) (W : WX) (x : XS) : TS := fun _ σ H => ∃ B env nm C env', EnvR K B H σ env ∧ x env nm env' ∧ mg nm = some (.ref C) ∧ ∀ B' σ' H', AtS K σ B H env σ' B' H' env' → W (.ref C) none σ' H'
def tXE (K : PySem.W.Frag) (mg : Str → Option Value) (W : WX) (x : XS) : TE := fun σ H _ => ∃ B env nm C env', EnvR K B H σ env ∧ x env nm env' ∧ mg nm = some (.ref C) ∧ ∀ B' H', At K σ B H env B' H' env' → W (.ref C) none σ H'
theorem tX.e {K : PySem.W.Frag} {mg : Str → Option Value} {W : WX} {x : XS} {D : Ends} {σ : L2.St} {H : Hp} {Q : VK} (h : tX K mg W x D σ H) : tXE K mg W x σ H Q := by
  obtain ⟨B, env, nm, C, env', en, hx, hm, q⟩ := h
  exact ⟨B, env, nm, C, env', en, hx, hm, fun B' H' a => q B' σ H' a.s⟩
abbrev FnX := List S → Str → Prop
section
variable {X : Cx} {W : WX} {st : Stmt} {rest : List Stmt} {f : SS} {x y : XS} {e : Expr} {pos : Pos}
end
end T3

end
section
set_option linter.all false
set_option autoImplicit false
set_option Elab.async false
set_option maxRecDepth 100000
namespace T3
open PySem PySem.Spec PyProof.Rows PySem.Calls L2
variable [TabL]
section
variable {X : Cx} {C : Addr} {bmB : List Value} {B newId initId : String}
end
structure ExK (K : PySem.W.Frag) (mg : Str → Option Value) (x : Str) (C : Addr) : Prop where
  g : mg x = some (.ref C)
  q : PySem.W.excIn K C [.type "ValueError", .type "Exception", .type "BaseException", .type "object"] "ValueError.__new__" = true
  kp : PySem.W.keepIn K (.ref C) = true
  bs : PySem.W.subIn K (.ref C) (.type "BaseException") = some true
  ty : PySem.W.typeIn K (.ref C) = some (.type "type")
section
variable {X : Cx} {W : WX} {p pos pos2 : Pos} {x : Str} {C : Addr}
end
end T3

end
section
set_option linter.all false
set_option autoImplicit false
set_option Elab.async false
set_option maxRecDepth 100000
namespace T3
open PySem PySem.Spec PyProof.Rows PySem.Calls L2
variable [TabL]
section
variable {X : Cx} {W : WX} {k n : Nat} {F : FnX} {x : Str} {p pos : Pos} {e : Expr} {es : List Expr} {fa : EA}
end
end T3

end
section
set_option linter.all false
set_option autoImplicit false
set_option Elab.async false
set_option maxRecDepth 100000
namespace LamA
open PySem PySem.Spec PyProof.Rows L2 LamX NdefX
section
variable {Z : Cx} {W : WX} {F : NF} {f : Addr} {params : Arguments} {body : Expr} {pm ctv : Value} {N fr : List Str} {ws : List (Option V)} {k i : Nat} {x : Str} {p pos : Pos} {tb : XK → TE}
end
end LamA

end
section
set_option linter.all false
set_option autoImplicit false
set_option Elab.async false
set_option maxRecDepth 100000
namespace T3
open PySem PySem.Spec PyProof.Rows L2
variable [TabL]
abbrev XF := Sl → Option (Str × Sl)
section
variable {X : Cx} {W : WX} {st : Stmt} {rest : List Stmt} {f : SS} {x y : XF} {e : Expr} {pos : Pos}
end
end T3

end
section
set_option linter.all false
set_option autoImplicit false
set_option Elab.async false
set_option maxRecDepth 100000
namespace T3
open PySem PySem.Spec PyProof.Rows L2 LamA NdefX LamX
variable [TabL]
structure Wrap (Z : Cx) (e ec : Expr) (wr : EE → EE) : Prop where
  ex : ∃ tw : TE → TE, (∀ te, PE Z ec te → PE Z e (tw te)) ∧ (∀ (fb : EE) (τ σ : L2.St) (H : Hp) (Q : VK) (te : TE), (∀ Q', tE Z.K fb τ H Q' → te σ H Q') → tE Z.K (wr fb) τ H Q → tw te σ H Q) ∧ (∀ (σ : L2.St) (H : Hp) (Q : VK) (te : TE), (∀ Q', te σ H Q') → tw te σ H Q)
end T3

end
section
set_option linter.all false
set_option autoImplicit false
set_option Elab.async false
set_option maxRecDepth 100000
namespace T3
open PySem PySem.Spec PyProof.Rows L2 LamA NdefX LamX
variable [TabL]
section
variable {X : Cx} {x : Str} {st : Stmt} {Ng fr : List Str} {a n te : Str} {k i : Nat} {q : Str} {params : Arguments} {body e1 : Expr} {b0 : Stmt} {su : List Stmt} {scope : Scope} {p lpos pos q1 q2 tp rp hp np : Pos} {cX P CT : Addr} {js : List Nat} {fb : EE} {xb : XF} {wr : EE → EE} {hs : Str → Option PyData}
end
end T3

end
section
set_option linter.all false
set_option autoImplicit false
set_option Elab.async false
set_option maxRecDepth 100000
namespace T3
open PySem PySem.Spec PyProof.Rows L2
variable [TabL]
section
variable {X : Cx} {a D : Addr} {oe : Obj} {pn : List (Addr × Obj)} {n x : Str} {i : Nat} {p p1 p2 pos : Pos} {v : V} {u : Value} {b : Bool}
end
end T3

end
section
set_option linter.all false
set_option autoImplicit false
set_option Elab.async false
set_option maxRecDepth 100000
namespace T3
open PySem PySem.Spec PyProof.Rows L2
variable [TabL]
end T3
namespace T3
open PySem PySem.Spec PyProof.Rows L2
structure ExA (K : PySem.W.Frag) (mg : Str → Option Value) (x : Str) (C CT : Addr) : Prop extends ExK K mg x C where
  c : L2.ExcC K C
  e : PySem.W.exmOne K (.ref C) (.ref CT) = some true
end T3
namespace T3
open PySem PySem.Spec PyProof.Rows L2
variable [TabL]
end T3
namespace T3
open PySem L2
end T3

end
section
set_option linter.all false
set_option autoImplicit false
set_option Elab.async false
set_option maxRecDepth 100000
namespace T3
open PySem PySem.Spec PyProof.Rows L2
variable [TabL]
section
variable {X : Cx} {a C : Addr} {oe : Obj} {pn : List (Addr × Obj)} {x n par : Str} {st : Stmt} {Nw : List Str} {k i : Nat} {b : SS} {p p1 pos : Pos} {e : Expr} {fa : EE}
end
end T3

end
section
set_option linter.all false
set_option autoImplicit false
set_option Elab.async false
namespace T3
open PySem PySem.Spec PyProof.Rows L2 LamX
section
variable {P : Program} {w : World} {K : PySem.W.Frag} {mg mb : Str → Option Value} {k : Nat} {fa a : Addr} {cs : List (Addr × Addr)} {fd : FuncData} {x : Str} {sp : Sp} {s : Shared} {vs : List Value} {ns : List Int}
structure Scs (K : PySem.W.Frag) (a : Addr) (cs : List (Addr × Addr)) (H : Hp) : Prop where
  tb : ∀ p ∈ cs, H p.2 = some (.tbl #[])
  kind : ∀ b, (∀ p ∈ cs, b ≠ p.2) → H b = none ∨ ∃ o xs, H b = some (.frz o (.lst xs))
  two : ∀ b, H b ≠ none → b = a ∨ ∃ p ∈ cs, b = p.2
  free : H a ≠ none → K.lookup a = none
theorem Scs.off {H : Hp} (c : Scs K a cs H) (ha : s.heap.get? a = some { cls := .type "list", data := .seq vs.toArray }) (ht : ∀ p ∈ cs, s.heap.get? p.2 = some emT) {b : Addr} {o : Obj} (h : s.heap.get? b = some o) (n1 : ∀ xs m, o.data ≠ .seq xs m) (n2 : o.data ≠ .fields #[]) : H b = none := by
  apply Classical.byContradiction
  intro z
  rcases c.two b z with e | e
  · subst e
    rw [ha] at h
    injection h with h
    exact n1 _ _ (by rw [← h])
  · obtain ⟨p, hp, rfl⟩ := e
    rw [ht p hp] at h
    injection h with h
    exact n2 (by rw [← h])
theorem Scs.off_d {H : Hp} (c : Scs K a cs H) (ha : s.heap.get? a = some { cls := .type "list", data := .seq vs.toArray }) (ht : ∀ p ∈ cs, s.heap.get? p.2 = some emT) {b : Addr} {o : Obj} {es : Array DictEntry} {m : Nat} (h : s.heap.get? b = some o) (d : o.data = .dict es m) : H b = none :=
  c.off ha ht h (fun xs n z => by rw [d] at z; cases z) (fun z => by rw [d] at z; cases z)
theorem Scs.spc {H : Hp} (c : Scs K a cs H) (ha : s.heap.get? a = some { cls := .type "list", data := .seq vs.toArray }) (ht : ∀ p ∈ cs, s.heap.get? p.2 = some emT) {b : Addr} {m : Str → Option Value} (h : s.heap.Ns b m) : (hidT s.heap H).Ns b m := by
  obtain ⟨o, es, n, h1, h2, h3⟩ := h
  exact ⟨o, es, n, hidT_get h1 (c.off_d ha ht h1 h2), h2, h3⟩
theorem Scs.kin {H : Hp} (c : Scs K a cs H) (nT : ∀ p ∈ cs, K.lookup p.2 = none) (KX : K.In s.heap) : K.In (hidT s.heap H) := by
  intro b o h
  refine hidT_get (KX b o h) (Classical.byContradiction fun z => ?_)
  rcases c.two b z with e | e
  · subst e
    rw [c.free z] at h
    cases h
  · obtain ⟨p, hp, rfl⟩ := e
    rw [nT p hp] at h
    cases h
theorem Scs.tbB {H : Hp} (c : Scs K a cs H) (ha : s.heap.get? a = some { cls := .type "list", data := .seq vs.toArray }) (ht : ∀ p ∈ cs, s.heap.get? p.2 = some emT) (hd : ∀ p ∈ cs, PySem.W.CodeHd s.heap p.1 p.2) (hm : s.heap.Ns mainGlobals mg)
    (bm : ∃ (q : Addr) (ob : Obj), mg "__builtins__" = some (.ref q) ∧ q ≠ builtinsNs ∧ s.heap.get? q = some ob ∧ ob.cls = .type "module" ∧ ob.dict = some builtinsNs ∧ ob.data = .plain) : ∀ p ∈ cs, LamX.TabB (hidT s.heap H) mg p.1 p.2 := by
  intro p hp
  refine ⟨?_, ?_, ?_⟩
  · obtain ⟨o, us, file, tf, flags, tg, inF, text, tt, e1, r1, r2, r3, r4⟩ := hd p hp
    exact ⟨o, us, file, tf, flags, tg, inF, text, tt, hidT_get e1 (c.off ha ht e1 (fun xs m z => by rw [r2] at z; cases z) (fun z => by rw [r2] at z; cases z; simp at r3)), r1, r2, r3, r4⟩
  · obtain ⟨q, ob, b1, b2, b3, b4, b5, b6⟩ := bm
    refine ⟨q, ob, b1, b2, fun z => ?_, fun z => ?_, hidT_get b3 (c.off ha ht b3 (fun xs m z => by rw [b6] at z; cases z) (fun z => by rw [b6] at z; cases z)), b4, b5, b6⟩
    · obtain ⟨o, es, ep, g1, g2, _⟩ := hm
      rw [z, g1] at b3
      cases b3
      rw [g2] at b6
      cases b6
    · rw [z, ht p hp] at b3
      cases b3
      cases b6
  · intro z
    obtain ⟨o, es, ep, g1, g2, _⟩ := hm
    rw [z, ht p hp] at g1
    cases g1
    cases g2
theorem Scs.run {H : Hp} (c : Scs K a cs H) (nT : ∀ p ∈ cs, K.lookup p.2 = none) (ha : s.heap.get? a = some { cls := .type "list", data := .seq vs.toArray }) (ht : ∀ p ∈ cs, s.heap.get? p.2 = some emT) (hd : ∀ p ∈ cs, PySem.W.CodeHd s.heap p.1 p.2) (KX : K.In s.heap) (hm : s.heap.Ns mainGlobals mg) (hb : s.heap.Ns builtinsNs mb) (hbb : ∀ x : Str, x ≠ "__name__" → mb x = bootBuiltins x) (nl : s.heap.NoLimit) (hg : s.gens = #[])
    (bm : ∃ (q : Addr) (ob : Obj), mg "__builtins__" = some (.ref q) ∧ q ≠ builtinsNs ∧ s.heap.get? q = some ob ∧ ob.cls = .type "module" ∧ ob.dict = some builtinsNs ∧ ob.data = .plain)
    (hr : Room k callerA) (F : ∀ base : Heap, K.In base → base.Ns mainGlobals mg → (∀ p ∈ cs, LamX.TabB base mg p.1 p.2) → FnG P w K mg base k fa fd [x] sp) (bi : ∀ (s : Shared) (u : Value), BindsTo s fd ⟨[u], []⟩ [(x, u)]) (hok : HOk P w H s.heap)
    (hs : sp [.ref a] H (fun v _ => v = .bl true) fun _ _ _ => False) :
    codeAny (model P w) callerA (.call (.ref fa) ⟨[.ref a], []⟩) (fun r s2 => r = .ok (.ret (.bool true)) ∧ OldK s.heap s2.heap ∧ s2.os = s.os ∧ AllBare s2.gens) s := by
  obtain ⟨mc, n1, n2⟩ := nl
  have md : Mod K mg (hidT s.heap H) := ⟨c.kin nT KX, c.spc ha ht hm, ⟨mb, c.spc ha ht hb, hbb⟩, mc, c.spc ha ht n1, n2⟩
  have ev : Env0 P w K mg (hidT s.heap H) callerA [] s H := {
    frames := rfl
    mod := md
    bs := fun b o h => of_hidT h
    bsz := Nat.le_of_eq (hidT_size _ _)
    funs := trivial
    frf := fun b h => nomatch (show b ∈ ([] : List Addr) from h)
    hok := hok
    bare := .of_eq hg }
  have tbl := c.tbB ha ht hd hm bm
  have cl := (F _ md.kin (c.spc ha ht hm) tbl).go callerA [] s H ⟨[.ref a], []⟩ [.ref a] [.ref a] _ _ hr rfl ev (bi s (.ref a)) (.cons rfl .nil) hs
  refine codeAny_mono cl ?_
  intro r s2 h
  match r, h with
  | .ok .next, h => exact h.elim
  | .ok .brk, h => exact h.elim
  | .ok .cont, h => exact h.elim
  | .error _, h => exact h.elim
  | .ok (.ret u), ⟨v, H2, os, br, un, hok2, rv, q⟩ =>
    have q : v = .bl true := q
    subst q
    have eu : u = .bool true := rv
    subst eu
    have old : ∀ b o, (∀ p ∈ cs, b ≠ p.2) → s.heap.get? b = some o → s2.heap.get? b = some o := fun b o nt h => by
      rcases c.kind b nt with z | ⟨ob, ys, z⟩
      · exact un.keep b o h z (fun y => nomatch (show b ∈ ([] : List Addr) from y)) (by simp)
      · have h1 := (hok b _ z).1
        rw [h] at h1
        cases h1
        exact (hok2 b _ (un.frzs b o _ z)).1
    have tbs : ∀ p ∈ cs, ∃ mo, s2.heap.get? p.2 = some { cls := .none, data := .fields (#[] ++ mo) } := fun p hp => by
      obtain ⟨mo, z⟩ := un.tbls p.2 #[] (c.tb p hp)
      exact ⟨mo, hok2 p.2 _ z⟩
    refine ⟨rfl, ⟨fun b o h => ?_, fun b o h => ?_⟩, os, br⟩
    · by_cases e : ∃ p ∈ cs, b = p.2
      · obtain ⟨p, hp, rfl⟩ := e
        rw [ht p hp] at h
        cases h
        obtain ⟨mo, hz⟩ := tbs p hp
        rw [Array.empty_append] at hz
        exact .inr (.inl ⟨((hd p hp).tab (ht p hp)).isCodeTable, rfl, #[], mo, rfl, by rw [Array.empty_append]; exact hz⟩)
      · exact .inl (old b o (fun p hp z => e ⟨p, hp, z⟩) h)
    · by_cases e : ∃ p ∈ cs, b = p.2
      · obtain ⟨p, hp, rfl⟩ := e
        obtain ⟨mo, hz⟩ := tbs p hp
        exact ⟨_, hz⟩
      · exact ⟨o, old b o (fun p hp z => e ⟨p, hp, z⟩) h⟩
end
section
variable [TabL]
end
end T3

end
section
set_option linter.all false
set_option autoImplicit false
set_option Elab.async false
set_option maxRecDepth 100000
namespace T3
open PySem PySem.Spec PyProof.Rows L2 LamA NdefX LamX
variable [TabL]
section
variable {X : Cx} {x : Str} {st : Stmt} {Ng psg : List Str} {k j : Nat} {q capt : Str} {params : Arguments} {body : Expr} {scope : Scope} {M : PyData → List PyData → SS} {p lpos pos : Pos} {e1 e2 : Expr} {f1 f2 : EE} {cX P : Addr}
end
section
variable {X : Cx} {x : Str} {st : Stmt} {Ng psg : List Str} {k j : Nat} {q capt : Str} {params : Arguments} {body : Expr} {scope : Scope} {M : PyData → List PyData → SS} {p lpos pos : Pos} {e1 e2 : Expr} {f1 f2 : EE} {cX P : Addr} {y : Str} {x4 : PyData} {py : Pos}
end
end T3

end
section
set_option linter.all false
set_option autoImplicit false
set_option Elab.async false
set_option maxRecDepth 100000
namespace T3
open PySem PySem.Spec PyProof.Rows L2
variable [TabL]
def SplOk (a b : Str) : Prop := (b.length == 0) = false ∧ a.length + 2 ≤ sizeLine
noncomputable instance (a b : Str) : Decidable (SplOk a b) := Classical.propDecidable _
end T3

end
section
set_option linter.all false
set_option autoImplicit false
set_option Elab.async false
set_option maxRecDepth 100000
namespace T3
open PySem PySem.Spec PyProof.Rows L2
variable [TabL]
section
variable {X : Cx} {W : WX} {k : Nat} {F : FnD} {x : Str} {xx : XS} {p pos : Pos} {a : Expr}
end
end T3

end
section
set_option linter.all false
set_option autoImplicit false
set_option Elab.async false
set_option maxRecDepth 100000
namespace T3
open PySem L2
variable [TabL]
section
variable {X : Cx} {o e : Expr} {apos cpos : Pos} {td te : TE}
end
section
variable {X : Cx} {o e : Expr} {apos cpos : Pos} {fd fe : EE}
end
end T3

end
section
set_option linter.all false
set_option autoImplicit false
set_option Elab.async false
set_option maxRecDepth 100000
namespace T3
open PySem L2
variable [TabL]
section
variable {prog : Program} {w : World} {A : Around} {E : Value → Shared → Prop} {s : Shared}
end
end T3

end
section
set_option linter.all false
set_option autoImplicit false
set_option Elab.async false
set_option maxRecDepth 100000
namespace T3
open PySem PySem.Spec PySem.W L2 PyProof.Rows
variable [TabL]
end T3

end
section
set_option linter.all false
set_option autoImplicit false
set_option Elab.async false
set_option maxRecDepth 100000
set_option maxHeartbeats 4000000
namespace L66
open PySem L2 T3
noncomputable section
-- CASES a0 l0 c0 k0 a1 l1 c1 k1 a2 l2 c2 k2 a3 l3 c3 k3 a4 l4 c4 k4 a5 l5 c5 k5 a6 l6 c6 k6 a7 l7 c7 k7 a8 l8 c8 k8 a9 l9 c9 k9 a10 l10 c10 k10 a11 l11 c11 k11 a12 l12 c12 k12 a13 l13 c13 k13 a14 l14 c14 k14 a15 l15 c15 k15 a16 l16 c16 k16 a17 l17 c17 k17 a18 l18 c18 k18 a19 l19 c19 k19 a20 l20 c20 k20 a21 l21 c21 k21 a22 l22 c22 k22 a23 l23 c23 k23 a24 l24 c24 k24 a25 l25 c25 k25 a26 l26 c26 k26 a27 l27 c27 k27 a28 l28 c28 k28 a29 l29 c29 k29 a30 l30 c30 k30 a31 l31 c31 k31 a32 l32 c32 k32 a33 l33 c33 k33 a34 l34 c34 k34 a35 l35 c35 k35 a36 l36 c36 k36 a37 l37 c37 k37 a38 l38 c38 k38 a39 l39 c39 k39 a40 l40 c40 k40 a41 l41 c41 k41 a42 l42 c42 k42 a43 l43 c43 k43 a44 l44 c44 k44 a45 l45 c45 k45 a46 l46 c46 k46 a47 l47 c47 k47 a48 l48 c48 k48 a49 l49 c49 k49 z_isinstance z_bool z_int z_len z_tuple z_all z_zip z_str z_list z_enumerate z_max z_range z_sorted z_min ca_LAST_LINE cb_LAST_LINE ca_MOST_CELLS cb_MOST_CELLS ca_LYINGS cb_LYINGS ca_OPPOSITE_SUM cb_OPPOSITE_SUM ca_LETTERS cb_LETTERS ca_LAST_CUBE cb_LAST_CUBE ca_MOST_TURNS cb_MOST_TURNS da_STEPS dl_STEPS dk_STEPS db_STEPS
-- LEVEL 12
-- HOT 0
def topS (i : Nat) : Stmt := PySem.Challenge.pw_tumblemarks_k66_whole_how_many_add.main.body.getD i (.Pass ⟨0, 0, 0, 0⟩)
def v_LAST_LINE : PyData := (.int 3)
def v_MOST_CELLS : PyData := (.int 9)
def v_OPPOSITE_SUM : PyData := (.int 5)
def v_LETTERS : PyData := (.tuple [(.str "n"), (.str "e"), (.str "s"), (.str "w")])
def v_LYINGS : PyData := (.tuple [(.tuple [(.int 0), (.int 1), (.int 2)]), (.tuple [(.int 0), (.int 2), (.int 4)]), (.tuple [(.int 0), (.int 3), (.int 1)]), (.tuple [(.int 0), (.int 4), (.int 3)]), (.tuple [(.int 1), (.int 0), (.int 3)]), (.tuple [(.int 1), (.int 2), (.int 0)]), (.tuple [(.int 1), (.int 3), (.int 5)]), (.tuple [(.int 1), (.int 5), (.int 2)]), (.tuple [(.int 2), (.int 0), (.int 1)]), (.tuple [(.int 2), (.int 1), (.int 5)]), (.tuple [(.int 2), (.int 4), (.int 0)]), (.tuple [(.int 2), (.int 5), (.int 4)]), (.tuple [(.int 3), (.int 0), (.int 4)]), (.tuple [(.int 3), (.int 1), (.int 0)]), (.tuple [(.int 3), (.int 4), (.int 5)]), (.tuple [(.int 3), (.int 5), (.int 1)]), (.tuple [(.int 4), (.int 0), (.int 2)]), (.tuple [(.int 4), (.int 2), (.int 5)]), (.tuple [(.int 4), (.int 3), (.int 0)]), (.tuple [(.int 4), (.int 5), (.int 3)]), (.tuple [(.int 5), (.int 1), (.int 3)]), (.tuple [(.int 5), (.int 2), (.int 1)]), (.tuple [(.int 5), (.int 3), (.int 4)]), (.tuple [(.int 5), (.int 4), (.int 2)])])
def v_LAST_CUBE : PyData := (.int 1)
def v_MOST_TURNS : PyData := (.int 24)
def v_STEPS : List (Str × PyData) := [("n", (.tuple [(.int 0), (.int 1)])), ("e", (.tuple [(.int 1), (.int 0)])), ("s", (.tuple [(.int 0), (.int (-1))])), ("w", (.tuple [(.int (-1)), (.int 0)]))]
abbrev s_is_whole : Stmt := topS 13
abbrev N_is_whole : List Str := ["thing", "most"]
theorem sc_is_whole : FnScope N_is_whole ["thing", "most"] (defScope s_is_whole) := ⟨rfl, rfl, rfl, by decide +kernel, rfl, by decide +kernel, by decide +kernel⟩
def m_is_whole : SS := (sRet (eB (bAnd (bT (eThen (eOne (eVar 0)) (kE (oIsi .int)))) (bAnd (bNot (bT (eThen (eOne (eVar 0)) (kE (oIsi .bool))))) (bT (eCh (Cm.f .le) (Cm.f .le) (eC (.int 0)) (eVar 0) (eVar 1)))))))
def f_is_whole : FnD := runFn 2 m_is_whole
theorem p_is_whole {P : Program} {w : World} {K : PySem.W.Frag} {mg : Str → Option Value} {base : Heap} (at_ : At0 K mg "is_whole" s_is_whole ["thing", "most"]) (z_isinstance : mg "isinstance" = none) (z_bool : mg "bool" = none) (z_int : mg "int" = none) : Has P w K mg base "is_whole" 2 f_is_whole 1 := by
  have nd := sc_is_whole.nd
  refine has_of (b := m_is_whole) (N := N_is_whole) (k := 0) at_ sc_is_whole rfl fun f cdv A outer s H E hr => ?_
  exact (ss_one (s_ret (e_and (e_bool (e_isi .int (e_var (pv 0)) (by rfl) z_isinstance (by rfl) z_int (by decide +kernel))) (e_and (e_not (e_bool (e_isi .bool (e_var (pv 0)) (by rfl) z_isinstance (by rfl) z_bool (by decide +kernel)))) (e_and1 (e_chain .le .le k_int (e_var (pv 0)) (e_var (pv 1))))))))
abbrev s_is_cell : Stmt := topS 14
abbrev N_is_cell : List Str := ["thing", "column", "line"]
theorem sc_is_cell : FnScope N_is_cell ["thing"] (defScope s_is_cell) := ⟨rfl, rfl, rfl, by decide +kernel, rfl, by decide +kernel, by decide +kernel⟩
def m_is_cell : SS := (sSeq (sIf (bOr (bNot (bT (eThen (eOne (eVar 0)) (kE (oIsi .tuple))))) (bT (eNe (eThen (eCons (eVar 0) eNil) (kE oLen)) (eC (.int 2))))) (sRet (eC (.bool false))) sPass)
  (sSeq (sAsg (eVar 0) (gT 2 (gCn (gN 1) (gCn (gN 2) gNl))))
  (sRet (eB (bAnd (bT (eCall f_is_whole (eCons (eVar 1) (eCons (eC v_LAST_LINE) eNil)))) (bT (eCall f_is_whole (eCons (eVar 2) (eCons (eC v_LAST_LINE) eNil)))))))))
def f_is_cell : FnD := runFn 3 m_is_cell
theorem p_is_cell {P : Program} {w : World} {K : PySem.W.Frag} {mg : Str → Option Value} {base : Heap} (at_ : At0 K mg "is_cell" s_is_cell ["thing"]) (h_is_whole : Has P w K mg base "is_whole" 2 f_is_whole 1) (z_len : mg "len" = none) (z_isinstance : mg "isinstance" = none) (z_tuple : mg "tuple" = none) (c_LAST_LINE : KC K mg "LAST_LINE" v_LAST_LINE) : Has P w K mg base "is_cell" 1 f_is_cell 2 := by
  have nd := sc_is_cell.nd
  refine has_of (b := m_is_cell) (N := N_is_cell) (k := 1) at_ sc_is_cell rfl fun f cdv A outer s H E hr => ?_
  exact (ss_cons (s_if (PW.pt (b_or (b_not (b_truth (e_isi .tuple (e_var (pv 0)) (by rfl) z_isinstance (by rfl) z_tuple (by decide +kernel)))) (b_or1 (y_cmp (q_ne hr) (x_blt (w_len rfl hr) z_len (a_cons (e_var (pv 0)) a_nil)) k_int)))) (ss_one (s_ret k_bl)) ss_nil)
    (ss_cons (s_asg (e_var (pv 0)) (g_tup rfl (gs_cons (g_name (i := 1) nd rfl (.inl rfl)) (gs_cons (g_name (i := 2) nd rfl (.inl rfl)) gs_nil))))
    (ss_one (s_ret (e_and (e_bool (e_fn h_is_whole (hr.mono (by decide)) (lenA_cons (lenA_cons lenA_nil)) (a_cons (e_var (pv 1)) (a_cons (e_glob c_LAST_LINE) a_nil)))) (e_and1 (e_fn h_is_whole (hr.mono (by decide)) (lenA_cons (lenA_cons lenA_nil)) (a_cons (e_var (pv 2)) (a_cons (e_glob c_LAST_LINE) a_nil)))))))))
abbrev s_is_rising : Stmt := topS 15
abbrev N_is_rising : List Str := ["things", "one", "other"]
theorem sc_is_rising : FnScope N_is_rising ["things"] (defScope s_is_rising) := ⟨rfl, rfl, rfl, by decide +kernel, rfl, by decide +kernel, by decide +kernel⟩
def m_is_rising : SS := (sRet (eThen (eCons (eLc (iZt (eCons (eVar 0) (eCons (eSl (eVar 0) (oSome (eC (.int 1))) oNo) eNil))) (gT 2 (gCn (gN 1) (gCn (gN 2) gNl))) bYes (eLt (eVar 1) (eVar 2)) [1, 2]) eNil) (kE oAll)))
def f_is_rising : FnD := runFn 3 m_is_rising
theorem p_is_rising {P : Program} {w : World} {K : PySem.W.Frag} {mg : Str → Option Value} {base : Heap} (at_ : At0 K mg "is_rising" s_is_rising ["things"]) (z_all : mg "all" = none) (z_zip : mg "zip" = none) : Has P w K mg base "is_rising" 1 f_is_rising 1 := by
  have nd := sc_is_rising.nd
  refine has_of (b := m_is_rising) (N := N_is_rising) (k := 0) at_ sc_is_rising rfl fun f cdv A outer s H E hr => ?_
  exact (ss_one (s_ret (x_blt (w_all rfl hr) z_all (a_cons (x_lc [("one", 1), ("other", 2)] rfl nd rfl (i_zip (by rfl) z_zip (a_cons (e_var (pv 0)) (a_cons (e_sl (e_var (pv 0)) (o_some k_int) o_no) a_nil))) (blkOk_by (N := N_is_rising) (sc := defScope s_is_rising) (by decide +kernel)) (only_gT (only_gCn (only_gN (by decide)) (only_gCn (only_gN (by decide)) only_gNl))) (fun _ _ _ _ _ => (v_tup rfl (vs_cons (v_name (i := 1) (by decide) nd rfl (.inl rfl)) (vs_cons (v_name (i := 2) (by decide) nd rfl (.inl rfl)) vs_nil)))) (fun _ _ _ _ _ => ts_yes) (fun _ _ _ _ _ => (x_cmp (q_lt hr) (e_var (pv 1)) (e_var (pv 2))))) a_nil))))
abbrev s_is_floor : Stmt := topS 16
abbrev N_is_floor : List Str := ["thing", "part"]
theorem sc_is_floor : FnScope N_is_floor ["thing"] (defScope s_is_floor) := ⟨rfl, rfl, rfl, by decide +kernel, rfl, by decide +kernel, by decide +kernel⟩
def m_is_floor : SS := (sSeq (sIf (bOr (bNot (bT (eThen (eOne (eVar 0)) (kE (oIsi .tuple))))) (bNot (bT (eCh (Cm.f .le) (Cm.f .le) (eC (.int 1)) (eThen (eCons (eVar 0) eNil) (kE oLen)) (eC v_MOST_CELLS))))) (sRet (eC (.bool false))) sPass)
  (sRet (eB (bAnd (bT (eThen (eCons (eLc (iSeq (eVar 0)) (gN 1) bYes (eCall f_is_cell (eCons (eVar 1) eNil)) [1]) eNil) (kE oAll))) (bT (eCall f_is_rising (eCons (eVar 0) eNil)))))))
def f_is_floor : FnD := runFn 2 m_is_floor
theorem p_is_floor {P : Program} {w : World} {K : PySem.W.Frag} {mg : Str → Option Value} {base : Heap} (at_ : At0 K mg "is_floor" s_is_floor ["thing"]) (h_is_rising : Has P w K mg base "is_rising" 1 f_is_rising 1) (h_is_cell : Has P w K mg base "is_cell" 1 f_is_cell 2) (z_len : mg "len" = none) (z_isinstance : mg "isinstance" = none) (z_tuple : mg "tuple" = none) (z_all : mg "all" = none) (c_MOST_CELLS : KC K mg "MOST_CELLS" v_MOST_CELLS) : Has P w K mg base "is_floor" 1 f_is_floor 3 := by
  have nd := sc_is_floor.nd
  refine has_of (b := m_is_floor) (N := N_is_floor) (k := 2) at_ sc_is_floor rfl fun f cdv A outer s H E hr => ?_
  exact (ss_cons (s_if (PW.pt (b_or (b_not (b_truth (e_isi .tuple (e_var (pv 0)) (by rfl) z_isinstance (by rfl) z_tuple (by decide +kernel)))) (b_or1 (b_not (b_chain .le .le k_int (x_blt (w_len rfl hr) z_len (a_cons (e_var (pv 0)) a_nil)) (e_glob c_MOST_CELLS)))))) (ss_one (s_ret k_bl)) ss_nil)
    (ss_one (s_ret (e_and (e_bool (x_blt (w_all rfl hr) z_all (a_cons (x_lc [("part", 1)] rfl nd rfl (i_seq (e_var (pv 0))) (blkOk_by (N := N_is_floor) (sc := defScope s_is_floor) (by decide +kernel)) (only_gN (by decide)) (fun _ _ _ _ _ => (v_name (i := 1) (by decide) nd rfl (.inl rfl))) (fun _ _ _ _ _ => ts_yes) (fun _ _ _ _ _ => (e_fn h_is_cell (hr.mono (by decide)) (lenA_cons lenA_nil) (a_cons (e_var (pv 1)) a_nil)))) a_nil))) (e_and1 (e_fn h_is_rising (hr.mono (by decide)) (lenA_cons lenA_nil) (a_cons (e_var (pv 0)) a_nil)))))))
abbrev s_is_cell_of : Stmt := topS 17
abbrev N_is_cell_of : List Str := ["floor", "thing"]
theorem sc_is_cell_of : FnScope N_is_cell_of ["floor", "thing"] (defScope s_is_cell_of) := ⟨rfl, rfl, rfl, by decide +kernel, rfl, by decide +kernel, by decide +kernel⟩
def m_is_cell_of : SS := (sRet (eB (bAnd (bT (eCall f_is_cell (eCons (eVar 1) eNil))) (bT (eIn (eVar 1) (eVar 0))))))
def f_is_cell_of : FnD := runFn 2 m_is_cell_of
theorem p_is_cell_of {P : Program} {w : World} {K : PySem.W.Frag} {mg : Str → Option Value} {base : Heap} (at_ : At0 K mg "is_cell_of" s_is_cell_of ["floor", "thing"]) (h_is_cell : Has P w K mg base "is_cell" 1 f_is_cell 2) : Has P w K mg base "is_cell_of" 2 f_is_cell_of 3 := by
  have nd := sc_is_cell_of.nd
  refine has_of (b := m_is_cell_of) (N := N_is_cell_of) (k := 2) at_ sc_is_cell_of rfl fun f cdv A outer s H E hr => ?_
  exact (ss_one (s_ret (e_and (e_bool (e_fn h_is_cell (hr.mono (by decide)) (lenA_cons lenA_nil) (a_cons (e_var (pv 1)) a_nil))) (e_and1 (x_cmp (q_in hr) (e_var (pv 1)) (e_var (pv 0)))))))
abbrev s_is_lying : Stmt := topS 18
abbrev N_is_lying : List Str := ["thing", "face"]
theorem sc_is_lying : FnScope N_is_lying ["thing"] (defScope s_is_lying) := ⟨rfl, rfl, rfl, by decide +kernel, rfl, by decide +kernel, by decide +kernel⟩
def m_is_lying : SS := (sSeq (sIf (bNot (bT (eThen (eOne (eVar 0)) (kE (oIsi .tuple))))) (sRet (eC (.bool false))) sPass)
  (sRet (eB (bAnd (bT (eThen (eCons (eLc (iSeq (eVar 0)) (gN 1) bYes (eCall f_is_whole (eCons (eVar 1) (eCons (eC v_OPPOSITE_SUM) eNil))) [1]) eNil) (kE oAll))) (bT (eIn (eVar 0) (eC v_LYINGS)))))))
def f_is_lying : FnD := runFn 2 m_is_lying
theorem p_is_lying {P : Program} {w : World} {K : PySem.W.Frag} {mg : Str → Option Value} {base : Heap} (at_ : At0 K mg "is_lying" s_is_lying ["thing"]) (h_is_whole : Has P w K mg base "is_whole" 2 f_is_whole 1) (z_isinstance : mg "isinstance" = none) (z_tuple : mg "tuple" = none) (z_all : mg "all" = none) (c_LYINGS : KC K mg "LYINGS" v_LYINGS) (c_OPPOSITE_SUM : KC K mg "OPPOSITE_SUM" v_OPPOSITE_SUM) : Has P w K mg base "is_lying" 1 f_is_lying 2 := by
  have nd := sc_is_lying.nd
  refine has_of (b := m_is_lying) (N := N_is_lying) (k := 1) at_ sc_is_lying rfl fun f cdv A outer s H E hr => ?_
  exact (ss_cons (s_if (b_not (b_truth (e_isi .tuple (e_var (pv 0)) (by rfl) z_isinstance (by rfl) z_tuple (by decide +kernel)))) (ss_one (s_ret k_bl)) ss_nil)
    (ss_one (s_ret (e_and (e_bool (x_blt (w_all rfl hr) z_all (a_cons (x_lc [("face", 1)] rfl nd rfl (i_seq (e_var (pv 0))) (blkOk_by (N := N_is_lying) (sc := defScope s_is_lying) (by decide +kernel)) (only_gN (by decide)) (fun _ _ _ _ _ => (v_name (i := 1) (by decide) nd rfl (.inl rfl))) (fun _ _ _ _ _ => ts_yes) (fun _ _ _ _ _ => (e_fn h_is_whole (hr.mono (by decide)) (lenA_cons (lenA_cons lenA_nil)) (a_cons (e_var (pv 1)) (a_cons (e_glob c_OPPOSITE_SUM) a_nil))))) a_nil))) (e_and1 (x_cmp (q_in hr) (e_var (pv 0)) (e_glob c_LYINGS)))))))
abbrev s_is_stand : Stmt := topS 19
abbrev N_is_stand : List Str := ["floor", "thing", "cell", "lying"]
theorem sc_is_stand : FnScope N_is_stand ["floor", "thing"] (defScope s_is_stand) := ⟨rfl, rfl, rfl, by decide +kernel, rfl, by decide +kernel, by decide +kernel⟩
def m_is_stand : SS := (sSeq (sIf (bOr (bNot (bT (eThen (eOne (eVar 1)) (kE (oIsi .tuple))))) (bT (eNe (eThen (eCons (eVar 1) eNil) (kE oLen)) (eC (.int 2))))) (sRet (eC (.bool false))) sPass)
  (sSeq (sAsg (eVar 1) (gT 2 (gCn (gN 2) (gCn (gN 3) gNl))))
  (sRet (eB (bAnd (bT (eCall f_is_cell_of (eCons (eVar 0) (eCons (eVar 2) eNil)))) (bT (eCall f_is_lying (eCons (eVar 3) eNil))))))))
def f_is_stand : FnD := runFn 4 m_is_stand
theorem p_is_stand {P : Program} {w : World} {K : PySem.W.Frag} {mg : Str → Option Value} {base : Heap} (at_ : At0 K mg "is_stand" s_is_stand ["floor", "thing"]) (h_is_lying : Has P w K mg base "is_lying" 1 f_is_lying 2) (h_is_cell_of : Has P w K mg base "is_cell_of" 2 f_is_cell_of 3) (z_len : mg "len" = none) (z_isinstance : mg "isinstance" = none) (z_tuple : mg "tuple" = none) : Has P w K mg base "is_stand" 2 f_is_stand 4 := by
  have nd := sc_is_stand.nd
  refine has_of (b := m_is_stand) (N := N_is_stand) (k := 3) at_ sc_is_stand rfl fun f cdv A outer s H E hr => ?_
  exact (ss_cons (s_if (PW.pt (b_or (b_not (b_truth (e_isi .tuple (e_var (pv 1)) (by rfl) z_isinstance (by rfl) z_tuple (by decide +kernel)))) (b_or1 (y_cmp (q_ne hr) (x_blt (w_len rfl hr) z_len (a_cons (e_var (pv 1)) a_nil)) k_int)))) (ss_one (s_ret k_bl)) ss_nil)
    (ss_cons (s_asg (e_var (pv 1)) (g_tup rfl (gs_cons (g_name (i := 2) nd rfl (.inl rfl)) (gs_cons (g_name (i := 3) nd rfl (.inl rfl)) gs_nil))))
    (ss_one (s_ret (e_and (e_bool (e_fn h_is_cell_of (hr.mono (by decide)) (lenA_cons (lenA_cons lenA_nil)) (a_cons (e_var (pv 0)) (a_cons (e_var (pv 2)) a_nil)))) (e_and1 (e_fn h_is_lying (hr.mono (by decide)) (lenA_cons lenA_nil) (a_cons (e_var (pv 3)) a_nil))))))))
abbrev s_is_letter : Stmt := topS 20
abbrev N_is_letter : List Str := ["thing"]
theorem sc_is_letter : FnScope N_is_letter ["thing"] (defScope s_is_letter) := ⟨rfl, rfl, rfl, by decide +kernel, rfl, by decide +kernel, by decide +kernel⟩
def m_is_letter : SS := (sRet (eB (bAnd (bT (eThen (eOne (eVar 0)) (kE (oIsi .str)))) (bT (eIn (eVar 0) (eC v_LETTERS))))))
def f_is_letter : FnD := runFn 1 m_is_letter
theorem p_is_letter {P : Program} {w : World} {K : PySem.W.Frag} {mg : Str → Option Value} {base : Heap} (at_ : At0 K mg "is_letter" s_is_letter ["thing"]) (z_isinstance : mg "isinstance" = none) (z_str : mg "str" = none) (c_LETTERS : KC K mg "LETTERS" v_LETTERS) : Has P w K mg base "is_letter" 1 f_is_letter 1 := by
  have nd := sc_is_letter.nd
  refine has_of (b := m_is_letter) (N := N_is_letter) (k := 0) at_ sc_is_letter rfl fun f cdv A outer s H E hr => ?_
  exact (ss_one (s_ret (e_and (e_bool (e_isi .str (e_var (pv 0)) (by rfl) z_isinstance (by rfl) z_str (by decide +kernel))) (e_and1 (x_cmp (q_in hr) (e_var (pv 0)) (e_glob c_LETTERS))))))
abbrev s_need_floor : Stmt := topS 21
abbrev N_need_floor : List Str := ["floor"]
theorem sc_need_floor : FnScope N_need_floor ["floor"] (defScope s_need_floor) := ⟨rfl, rfl, rfl, by decide +kernel, rfl, by decide +kernel, by decide +kernel⟩
def m_need_floor : SS := (sIf (bNot (bT (eCall f_is_floor (eCons (eVar 0) eNil)))) sNever sPass)
def f_need_floor : FnD := runFn 1 m_need_floor
theorem p_need_floor {P : Program} {w : World} {K : PySem.W.Frag} {mg : Str → Option Value} {base : Heap} (at_ : At0 K mg "need_floor" s_need_floor ["floor"]) (h_is_floor : Has P w K mg base "is_floor" 1 f_is_floor 3) : Has P w K mg base "need_floor" 1 f_need_floor 4 := by
  have nd := sc_need_floor.nd
  refine has_of (b := m_need_floor) (N := N_need_floor) (k := 3) at_ sc_need_floor rfl fun f cdv A outer s H E hr => ?_
  exact (ss_one (s_if (b_not (b_truth (e_fn h_is_floor (hr.mono (by decide)) (lenA_cons lenA_nil) (a_cons (e_var (pv 0)) a_nil)))) (ss_one s_never) ss_nil))
abbrev s_rolled_cell : Stmt := topS 22
abbrev N_rolled_cell : List Str := ["cell", "letter", "column", "line", "eastward", "northward"]
theorem sc_rolled_cell : FnScope N_rolled_cell ["cell", "letter"] (defScope s_rolled_cell) := ⟨rfl, rfl, rfl, by decide +kernel, rfl, by decide +kernel, by decide +kernel⟩
def m_rolled_cell : SS := (sSeq (sAsg (eVar 0) (gT 2 (gCn (gN 2) (gCn (gN 3) gNl))))
  (sSeq (sAsg (eKd v_STEPS (eVar 1)) (gT 2 (gCn (gN 4) (gCn (gN 5) gNl))))
  (sRet (eThen (eCons (eAdd (eVar 2) (eVar 4)) (eCons (eAdd (eVar 3) (eVar 5)) eNil)) kTup))))
def f_rolled_cell : FnD := runFn 6 m_rolled_cell
theorem p_rolled_cell {P : Program} {w : World} {K : PySem.W.Frag} {mg : Str → Option Value} {base : Heap} (at_ : At0 K mg "rolled_cell" s_rolled_cell ["cell", "letter"]) (d_STEPS : KD K w mg "STEPS" v_STEPS) : Has P w K mg base "rolled_cell" 2 f_rolled_cell 1 := by
  have nd := sc_rolled_cell.nd
  refine has_of (b := m_rolled_cell) (N := N_rolled_cell) (k := 0) at_ sc_rolled_cell rfl fun f cdv A outer s H E hr => ?_
  exact (ss_cons (s_asg (e_var (pv 0)) (g_tup rfl (gs_cons (g_name (i := 2) nd rfl (.inl rfl)) (gs_cons (g_name (i := 3) nd rfl (.inl rfl)) gs_nil))))
    (ss_cons (s_asg (e_kdn d_STEPS (e_var (pv 1))) (g_tup rfl (gs_cons (g_name (i := 4) nd rfl (.inl rfl)) (gs_cons (g_name (i := 5) nd rfl (.inl rfl)) gs_nil))))
    (ss_one (s_ret (e_tup (a_cons (x_add (e_var (pv 2)) (e_var (pv 4))) (a_cons (x_add (e_var (pv 3)) (e_var (pv 5))) a_nil)))))))
abbrev s_rolled_lying : Stmt := topS 23
abbrev N_rolled_lying : List Str := ["lying", "letter", "low", "north", "east"]
theorem sc_rolled_lying : FnScope N_rolled_lying ["lying", "letter"] (defScope s_rolled_lying) := ⟨rfl, rfl, rfl, by decide +kernel, rfl, by decide +kernel, by decide +kernel⟩
def m_rolled_lying : SS := (sSeq (sAsg (eVar 0) (gT 3 (gCn (gN 2) (gCn (gN 3) (gCn (gN 4) gNl)))))
  (sSeq (sIf (bT (eEq (eVar 1) (eC (.str "n")))) (sRet (eThen (eCons (eVar 3) (eCons (eSub (eC v_OPPOSITE_SUM) (eVar 2)) (eCons (eVar 4) eNil))) kTup)) sPass)
  (sSeq (sIf (bT (eEq (eVar 1) (eC (.str "s")))) (sRet (eThen (eCons (eSub (eC v_OPPOSITE_SUM) (eVar 3)) (eCons (eVar 2) (eCons (eVar 4) eNil))) kTup)) sPass)
  (sSeq (sIf (bT (eEq (eVar 1) (eC (.str "e")))) (sRet (eThen (eCons (eVar 4) (eCons (eVar 3) (eCons (eSub (eC v_OPPOSITE_SUM) (eVar 2)) eNil))) kTup)) sPass)
  (sRet (eThen (eCons (eSub (eC v_OPPOSITE_SUM) (eVar 4)) (eCons (eVar 3) (eCons (eVar 2) eNil))) kTup))))))
def f_rolled_lying : FnD := runFn 5 m_rolled_lying
theorem p_rolled_lying {P : Program} {w : World} {K : PySem.W.Frag} {mg : Str → Option Value} {base : Heap} (at_ : At0 K mg "rolled_lying" s_rolled_lying ["lying", "letter"]) (c_OPPOSITE_SUM : KC K mg "OPPOSITE_SUM" v_OPPOSITE_SUM) : Has P w K mg base "rolled_lying" 2 f_rolled_lying 1 := by
  have nd := sc_rolled_lying.nd
  refine has_of (b := m_rolled_lying) (N := N_rolled_lying) (k := 0) at_ sc_rolled_lying rfl fun f cdv A outer s H E hr => ?_
  exact (ss_cons (s_asg (e_var (pv 0)) (g_tup rfl (gs_cons (g_name (i := 2) nd rfl (.inl rfl)) (gs_cons (g_name (i := 3) nd rfl (.inl rfl)) (gs_cons (g_name (i := 4) nd rfl (.inl rfl)) gs_nil)))))
    (ss_cons (s_if (y_cmp (q_eq hr) (e_var (pv 1)) k_str) (ss_one (s_ret (e_tup (a_cons (e_var (pv 3)) (a_cons (x_sub (e_glob c_OPPOSITE_SUM) (e_var (pv 2))) (a_cons (e_var (pv 4)) a_nil)))))) ss_nil)
    (ss_cons (s_if (y_cmp (q_eq hr) (e_var (pv 1)) k_str) (ss_one (s_ret (e_tup (a_cons (x_sub (e_glob c_OPPOSITE_SUM) (e_var (pv 3))) (a_cons (e_var (pv 2)) (a_cons (e_var (pv 4)) a_nil)))))) ss_nil)
    (ss_cons (s_if (y_cmp (q_eq hr) (e_var (pv 1)) k_str) (ss_one (s_ret (e_tup (a_cons (e_var (pv 4)) (a_cons (e_var (pv 3)) (a_cons (x_sub (e_glob c_OPPOSITE_SUM) (e_var (pv 2))) a_nil)))))) ss_nil)
    (ss_one (s_ret (e_tup (a_cons (x_sub (e_glob c_OPPOSITE_SUM) (e_var (pv 4))) (a_cons (e_var (pv 3)) (a_cons (e_var (pv 2)) a_nil))))))))))
abbrev s_rolled_stand : Stmt := topS 24
abbrev N_rolled_stand : List Str := ["stand", "letter", "cell", "lying"]
theorem sc_rolled_stand : FnScope N_rolled_stand ["stand", "letter"] (defScope s_rolled_stand) := ⟨rfl, rfl, rfl, by decide +kernel, rfl, by decide +kernel, by decide +kernel⟩
def m_rolled_stand : SS := (sSeq (sAsg (eVar 0) (gT 2 (gCn (gN 2) (gCn (gN 3) gNl))))
  (sRet (eThen (eCons (eCall f_rolled_cell (eCons (eVar 2) (eCons (eVar 1) eNil))) (eCons (eCall f_rolled_lying (eCons (eVar 3) (eCons (eVar 1) eNil))) eNil)) kTup)))
def f_rolled_stand : FnD := runFn 4 m_rolled_stand
theorem p_rolled_stand {P : Program} {w : World} {K : PySem.W.Frag} {mg : Str → Option Value} {base : Heap} (at_ : At0 K mg "rolled_stand" s_rolled_stand ["stand", "letter"]) (h_rolled_lying : Has P w K mg base "rolled_lying" 2 f_rolled_lying 1) (h_rolled_cell : Has P w K mg base "rolled_cell" 2 f_rolled_cell 1) : Has P w K mg base "rolled_stand" 2 f_rolled_stand 2 := by
  have nd := sc_rolled_stand.nd
  refine has_of (b := m_rolled_stand) (N := N_rolled_stand) (k := 1) at_ sc_rolled_stand rfl fun f cdv A outer s H E hr => ?_
  exact (ss_cons (s_asg (e_var (pv 0)) (g_tup rfl (gs_cons (g_name (i := 2) nd rfl (.inl rfl)) (gs_cons (g_name (i := 3) nd rfl (.inl rfl)) gs_nil))))
    (ss_one (s_ret (e_tup (a_cons (e_fn h_rolled_cell (hr.mono (by decide)) (lenA_cons (lenA_cons lenA_nil)) (a_cons (e_var (pv 2)) (a_cons (e_var (pv 1)) a_nil))) (a_cons (e_fn h_rolled_lying (hr.mono (by decide)) (lenA_cons (lenA_cons lenA_nil)) (a_cons (e_var (pv 3)) (a_cons (e_var (pv 1)) a_nil))) a_nil))))))
abbrev s_is_pair : Stmt := topS 28
abbrev N_is_pair : List Str := ["floor", "thing", "part"]
theorem sc_is_pair : FnScope N_is_pair ["floor", "thing"] (defScope s_is_pair) := ⟨rfl, rfl, rfl, by decide +kernel, rfl, by decide +kernel, by decide +kernel⟩
def m_is_pair : SS := (sSeq (sIf (bOr (bNot (bT (eThen (eOne (eVar 1)) (kE (oIsi .tuple))))) (bT (eNe (eThen (eCons (eVar 1) eNil) (kE oLen)) (eC (.int 2))))) (sRet (eC (.bool false))) sPass)
  (sRet (eB (bAnd (bT (eThen (eCons (eLc (iSeq (eVar 1)) (gN 2) bYes (eCall f_is_stand (eCons (eVar 0) (eCons (eVar 2) eNil))) [2]) eNil) (kE oAll))) (bT (eNe (eIx (eIx (eVar 1) (eC (.int 0))) (eC (.int 0))) (eIx (eIx (eVar 1) (eC (.int 1))) (eC (.int 0)))))))))
def f_is_pair : FnD := runFn 3 m_is_pair
theorem p_is_pair {P : Program} {w : World} {K : PySem.W.Frag} {mg : Str → Option Value} {base : Heap} (at_ : At0 K mg "is_pair" s_is_pair ["floor", "thing"]) (h_is_stand : Has P w K mg base "is_stand" 2 f_is_stand 4) (z_len : mg "len" = none) (z_isinstance : mg "isinstance" = none) (z_tuple : mg "tuple" = none) (z_all : mg "all" = none) : Has P w K mg base "is_pair" 2 f_is_pair 5 := by
  have nd := sc_is_pair.nd
  refine has_of (b := m_is_pair) (N := N_is_pair) (k := 4) at_ sc_is_pair rfl fun f cdv A outer s H E hr => ?_
  exact (ss_cons (s_if (PW.pt (b_or (b_not (b_truth (e_isi .tuple (e_var (pv 1)) (by rfl) z_isinstance (by rfl) z_tuple (by decide +kernel)))) (b_or1 (y_cmp (q_ne hr) (x_blt (w_len rfl hr) z_len (a_cons (e_var (pv 1)) a_nil)) k_int)))) (ss_one (s_ret k_bl)) ss_nil)
    (ss_one (s_ret (e_and (e_bool (x_blt (w_all rfl hr) z_all (a_cons (x_lc [("part", 2)] rfl nd rfl (i_seq (e_var (pv 1))) (blkOk_by (N := N_is_pair) (sc := defScope s_is_pair) (by decide +kernel)) (only_gN (by decide)) (fun _ _ _ _ _ => (v_name (i := 2) (by decide) nd rfl (.inl rfl))) (fun _ _ _ _ _ => ts_yes) (fun _ _ _ _ _ => (e_fn h_is_stand (hr.mono (by decide)) (lenA_cons (lenA_cons lenA_nil)) (a_cons (e_var (pv 0)) (a_cons (e_var (pv 2)) a_nil))))) a_nil))) (e_and1 (x_cmp (q_ne hr) (x_ix (x_ix (e_var (pv 1)) k_int) k_int) (x_ix (x_ix (e_var (pv 1)) k_int) k_int)))))))
abbrev s_is_turn : Stmt := topS 29
abbrev N_is_turn : List Str := ["thing", "cube", "letter"]
theorem sc_is_turn : FnScope N_is_turn ["thing"] (defScope s_is_turn) := ⟨rfl, rfl, rfl, by decide +kernel, rfl, by decide +kernel, by decide +kernel⟩
def m_is_turn : SS := (sSeq (sIf (bOr (bNot (bT (eThen (eOne (eVar 0)) (kE (oIsi .tuple))))) (bT (eNe (eThen (eCons (eVar 0) eNil) (kE oLen)) (eC (.int 2))))) (sRet (eC (.bool false))) sPass)
  (sSeq (sAsg (eVar 0) (gT 2 (gCn (gN 1) (gCn (gN 2) gNl))))
  (sRet (eB (bAnd (bT (eCall f_is_whole (eCons (eVar 1) (eCons (eC v_LAST_CUBE) eNil)))) (bT (eCall f_is_letter (eCons (eVar 2) eNil))))))))
def f_is_turn : FnD := runFn 3 m_is_turn
theorem p_is_turn {P : Program} {w : World} {K : PySem.W.Frag} {mg : Str → Option Value} {base : Heap} (at_ : At0 K mg "is_turn" s_is_turn ["thing"]) (h_is_letter : Has P w K mg base "is_letter" 1 f_is_letter 1) (h_is_whole : Has P w K mg base "is_whole" 2 f_is_whole 1) (z_len : mg "len" = none) (z_isinstance : mg "isinstance" = none) (z_tuple : mg "tuple" = none) (c_LAST_CUBE : KC K mg "LAST_CUBE" v_LAST_CUBE) : Has P w K mg base "is_turn" 1 f_is_turn 2 := by
  have nd := sc_is_turn.nd
  refine has_of (b := m_is_turn) (N := N_is_turn) (k := 1) at_ sc_is_turn rfl fun f cdv A outer s H E hr => ?_
  exact (ss_cons (s_if (PW.pt (b_or (b_not (b_truth (e_isi .tuple (e_var (pv 0)) (by rfl) z_isinstance (by rfl) z_tuple (by decide +kernel)))) (b_or1 (y_cmp (q_ne hr) (x_blt (w_len rfl hr) z_len (a_cons (e_var (pv 0)) a_nil)) k_int)))) (ss_one (s_ret k_bl)) ss_nil)
    (ss_cons (s_asg (e_var (pv 0)) (g_tup rfl (gs_cons (g_name (i := 1) nd rfl (.inl rfl)) (gs_cons (g_name (i := 2) nd rfl (.inl rfl)) gs_nil))))
    (ss_one (s_ret (e_and (e_bool (e_fn h_is_whole (hr.mono (by decide)) (lenA_cons (lenA_cons lenA_nil)) (a_cons (e_var (pv 1)) (a_cons (e_glob c_LAST_CUBE) a_nil)))) (e_and1 (e_fn h_is_letter (hr.mono (by decide)) (lenA_cons lenA_nil) (a_cons (e_var (pv 2)) a_nil))))))))
abbrev s_is_turns : Stmt := topS 30
abbrev N_is_turns : List Str := ["thing", "part"]
theorem sc_is_turns : FnScope N_is_turns ["thing"] (defScope s_is_turns) := ⟨rfl, rfl, rfl, by decide +kernel, rfl, by decide +kernel, by decide +kernel⟩
def m_is_turns : SS := (sSeq (sIf (bOr (bNot (bT (eThen (eOne (eVar 0)) (kE (oIsi .tuple))))) (bT (eGt (eThen (eCons (eVar 0) eNil) (kE oLen)) (eC v_MOST_TURNS)))) (sRet (eC (.bool false))) sPass)
  (sRet (eThen (eCons (eLc (iSeq (eVar 0)) (gN 1) bYes (eCall f_is_turn (eCons (eVar 1) eNil)) [1]) eNil) (kE oAll))))
def f_is_turns : FnD := runFn 2 m_is_turns
theorem p_is_turns {P : Program} {w : World} {K : PySem.W.Frag} {mg : Str → Option Value} {base : Heap} (at_ : At0 K mg "is_turns" s_is_turns ["thing"]) (h_is_turn : Has P w K mg base "is_turn" 1 f_is_turn 2) (z_len : mg "len" = none) (z_isinstance : mg "isinstance" = none) (z_tuple : mg "tuple" = none) (z_all : mg "all" = none) (c_MOST_TURNS : KC K mg "MOST_TURNS" v_MOST_TURNS) : Has P w K mg base "is_turns" 1 f_is_turns 3 := by
  have nd := sc_is_turns.nd
  refine has_of (b := m_is_turns) (N := N_is_turns) (k := 2) at_ sc_is_turns rfl fun f cdv A outer s H E hr => ?_
  exact (ss_cons (s_if (PW.pt (b_or (b_not (b_truth (e_isi .tuple (e_var (pv 0)) (by rfl) z_isinstance (by rfl) z_tuple (by decide +kernel)))) (b_or1 (y_cmp (q_gt hr) (x_blt (w_len rfl hr) z_len (a_cons (e_var (pv 0)) a_nil)) (e_glob c_MOST_TURNS))))) (ss_one (s_ret k_bl)) ss_nil)
    (ss_one (s_ret (x_blt (w_all rfl hr) z_all (a_cons (x_lc [("part", 1)] rfl nd rfl (i_seq (e_var (pv 0))) (blkOk_by (N := N_is_turns) (sc := defScope s_is_turns) (by decide +kernel)) (only_gN (by decide)) (fun _ _ _ _ _ => (v_name (i := 1) (by decide) nd rfl (.inl rfl))) (fun _ _ _ _ _ => ts_yes) (fun _ _ _ _ _ => (e_fn h_is_turn (hr.mono (by decide)) (lenA_cons lenA_nil) (a_cons (e_var (pv 1)) a_nil)))) a_nil)))))
abbrev s_need_pair : Stmt := topS 31
abbrev N_need_pair : List Str := ["floor", "pair"]
theorem sc_need_pair : FnScope N_need_pair ["floor", "pair"] (defScope s_need_pair) := ⟨rfl, rfl, rfl, by decide +kernel, rfl, by decide +kernel, by decide +kernel⟩
def m_need_pair : SS := (sIf (bNot (bT (eCall f_is_pair (eCons (eVar 0) (eCons (eVar 1) eNil))))) sNever sPass)
def f_need_pair : FnD := runFn 2 m_need_pair
theorem p_need_pair {P : Program} {w : World} {K : PySem.W.Frag} {mg : Str → Option Value} {base : Heap} (at_ : At0 K mg "need_pair" s_need_pair ["floor", "pair"]) (h_is_pair : Has P w K mg base "is_pair" 2 f_is_pair 5) : Has P w K mg base "need_pair" 2 f_need_pair 6 := by
  have nd := sc_need_pair.nd
  refine has_of (b := m_need_pair) (N := N_need_pair) (k := 5) at_ sc_need_pair rfl fun f cdv A outer s H E hr => ?_
  exact (ss_one (s_if (b_not (b_truth (e_fn h_is_pair (hr.mono (by decide)) (lenA_cons (lenA_cons lenA_nil)) (a_cons (e_var (pv 0)) (a_cons (e_var (pv 1)) a_nil))))) (ss_one s_never) ss_nil))
abbrev s_need_turns : Stmt := topS 32
abbrev N_need_turns : List Str := ["turns"]
theorem sc_need_turns : FnScope N_need_turns ["turns"] (defScope s_need_turns) := ⟨rfl, rfl, rfl, by decide +kernel, rfl, by decide +kernel, by decide +kernel⟩
def m_need_turns : SS := (sIf (bNot (bT (eCall f_is_turns (eCons (eVar 0) eNil)))) sNever sPass)
def f_need_turns : FnD := runFn 1 m_need_turns
theorem p_need_turns {P : Program} {w : World} {K : PySem.W.Frag} {mg : Str → Option Value} {base : Heap} (at_ : At0 K mg "need_turns" s_need_turns ["turns"]) (h_is_turns : Has P w K mg base "is_turns" 1 f_is_turns 3) : Has P w K mg base "need_turns" 1 f_need_turns 4 := by
  have nd := sc_need_turns.nd
  refine has_of (b := m_need_turns) (N := N_need_turns) (k := 3) at_ sc_need_turns rfl fun f cdv A outer s H E hr => ?_
  exact (ss_one (s_if (b_not (b_truth (e_fn h_is_turns (hr.mono (by decide)) (lenA_cons lenA_nil) (a_cons (e_var (pv 0)) a_nil)))) (ss_one s_never) ss_nil))
abbrev s_rolled_pair : Stmt := topS 33
abbrev N_rolled_pair : List Str := ["pair", "turn", "cube", "letter", "stands"]
theorem sc_rolled_pair : FnScope N_rolled_pair ["pair", "turn"] (defScope s_rolled_pair) := ⟨rfl, rfl, rfl, by decide +kernel, rfl, by decide +kernel, by decide +kernel⟩
def m_rolled_pair : SS := (sSeq (sAsg (eVar 1) (gT 2 (gCn (gN 2) (gCn (gN 3) gNl))))
  (sSeq (sSet 4 (eThen (eCons (eVar 0) eNil) (kL oList)))
  (sSeq (sAsg (eCall f_rolled_stand (eCons (eIx (eVar 0) (eVar 2)) (eCons (eVar 3) eNil))) (gS (eVar 4) (eVar 2)))
  (sRet (eThen (eCons (eVar 4) eNil) kTupN)))))
def f_rolled_pair : FnD := runFn 5 m_rolled_pair
theorem p_rolled_pair {P : Program} {w : World} {K : PySem.W.Frag} {mg : Str → Option Value} {base : Heap} (at_ : At0 K mg "rolled_pair" s_rolled_pair ["pair", "turn"]) (h_rolled_stand : Has P w K mg base "rolled_stand" 2 f_rolled_stand 2) (z_list : mg "list" = none) (z_tuple : mg "tuple" = none) : Has P w K mg base "rolled_pair" 2 f_rolled_pair 3 := by
  have nd := sc_rolled_pair.nd
  refine has_of (b := m_rolled_pair) (N := N_rolled_pair) (k := 2) at_ sc_rolled_pair rfl fun f cdv A outer s H E hr => ?_
  exact (ss_cons (s_asg (e_var (pv 1)) (g_tup rfl (gs_cons (g_name (i := 2) nd rfl (.inl rfl)) (gs_cons (g_name (i := 3) nd rfl (.inl rfl)) gs_nil))))
    (ss_cons (s_set (i := 4) nd rfl (.inl rfl) (x_bty (w_list rfl hr) z_list (a_cons (e_var (pv 0)) a_nil)))
    (ss_cons (s_asg (e_fn h_rolled_stand (hr.mono (by decide)) (lenA_cons (lenA_cons lenA_nil)) (a_cons (x_ix (e_var (pv 0)) (e_var (pv 2))) (a_cons (e_var (pv 3)) a_nil))) (g_sub (e_var (pv 4)) (e_var (pv 2))))
    (ss_one (s_ret (x_bty (w_tuple rfl hr) z_tuple (a_cons (e_var (pv 4)) a_nil)))))))
abbrev s_pairs_on : Stmt := topS 34
abbrev N_pairs_on : List Str := ["pair", "turns", "pairs", "turn"]
theorem sc_pairs_on : FnScope N_pairs_on ["pair", "turns"] (defScope s_pairs_on) := ⟨rfl, rfl, rfl, by decide +kernel, rfl, by decide +kernel, by decide +kernel⟩
def m_pairs_on : SS := (sSeq (sSet 2 (eThen (eCons (eVar 0) eNil) kLst))
  (sSeq (sFor (iSeq (eVar 1)) (gN 3) (sExpr (eBM isL (eVar 2) (eCons (eCall f_rolled_pair (eCons (eIx (eVar 2) (eNeg (eC (.int 1)))) (eCons (eVar 3) eNil))) eNil) kAppend)))
  (sRet (eVar 2))))
def f_pairs_on : FnD := runFn 4 m_pairs_on
theorem p_pairs_on {P : Program} {w : World} {K : PySem.W.Frag} {mg : Str → Option Value} {base : Heap} (at_ : At0 K mg "pairs_on" s_pairs_on ["pair", "turns"]) (h_rolled_pair : Has P w K mg base "rolled_pair" 2 f_rolled_pair 3) : Has P w K mg base "pairs_on" 2 f_pairs_on 4 := by
  have nd := sc_pairs_on.nd
  refine has_of (b := m_pairs_on) (N := N_pairs_on) (k := 3) at_ sc_pairs_on rfl fun f cdv A outer s H E hr => ?_
  exact (ss_cons (s_set (i := 2) nd rfl (.inl rfl) (e_lst (a_cons (e_var (pv 0)) a_nil)))
    (ss_cons (s_for PassesOwn.never rfl (i_seq (e_var (pv 1))) (g_name (i := 3) nd rfl (.inl rfl)) (ss_one (s_expr (m_append (e_var (pv 2)) (a_cons (e_fn h_rolled_pair (hr.mono (by decide)) (lenA_cons (lenA_cons lenA_nil)) (a_cons (x_ix (e_var (pv 2)) (x_neg k_int)) (a_cons (e_var (pv 3)) a_nil))) a_nil)))))
    (ss_one (s_ret (e_var (pv 2))))))
abbrev s_place_stop : Stmt := topS 35
abbrev N_place_stop : List Str := ["floor", "pair", "turns", "behind", "place", "here"]
theorem sc_place_stop : FnScope N_place_stop ["floor", "pair", "turns"] (defScope s_place_stop) := ⟨rfl, rfl, rfl, by decide +kernel, rfl, by decide +kernel, by decide +kernel⟩
def m_place_stop : SS := (sSeq (sSet 3 (eSl (eCall f_pairs_on (eCons (eVar 1) (eCons (eVar 2) eNil))) (oSome (eC (.int 1))) oNo))
  (sSeq (sFor (iEnL (eVar 3)) (gT 2 (gCn (gN 4) (gCn (gN 5) gNl))) (sIf (bNot (bT (eCall f_is_pair (eCons (eVar 0) (eCons (eVar 5) eNil))))) (sRet (eVar 4)) sPass))
  (sRet (eC .none))))
def f_place_stop : FnD := runFn 6 m_place_stop
theorem p_place_stop {P : Program} {w : World} {K : PySem.W.Frag} {mg : Str → Option Value} {base : Heap} (at_ : At0 K mg "place_stop" s_place_stop ["floor", "pair", "turns"]) (h_pairs_on : Has P w K mg base "pairs_on" 2 f_pairs_on 4) (h_is_pair : Has P w K mg base "is_pair" 2 f_is_pair 5) (z_enumerate : mg "enumerate" = none) : Has P w K mg base "place_stop" 3 f_place_stop 6 := by
  have nd := sc_place_stop.nd
  refine has_of (b := m_place_stop) (N := N_place_stop) (k := 5) at_ sc_place_stop rfl fun f cdv A outer s H E hr => ?_
  exact (ss_cons (s_set (i := 3) nd rfl (.inl rfl) (e_sl (e_fn h_pairs_on (hr.mono (by decide)) (lenA_cons (lenA_cons lenA_nil)) (a_cons (e_var (pv 1)) (a_cons (e_var (pv 2)) a_nil))) (o_some k_int) o_no))
    (ss_cons (s_for PassesOwn.never rfl (i_enL (by rfl) z_enumerate (e_var (pv 3))) (g_tup rfl (gs_cons (g_name (i := 4) nd rfl (.inl rfl)) (gs_cons (g_name (i := 5) nd rfl (.inl rfl)) gs_nil))) (ss_one (s_if (b_not (b_truth (e_fn h_is_pair (hr.mono (by decide)) (lenA_cons (lenA_cons lenA_nil)) (a_cons (e_var (pv 0)) (a_cons (e_var (pv 5)) a_nil))))) (ss_one (s_ret (e_var (pv 4)))) ss_nil)))
    (ss_one (s_ret k_non))))
abbrev s_need_let_turns : Stmt := topS 36
abbrev N_need_let_turns : List Str := ["floor", "pair", "turns"]
theorem sc_need_let_turns : FnScope N_need_let_turns ["floor", "pair", "turns"] (defScope s_need_let_turns) := ⟨rfl, rfl, rfl, by decide +kernel, rfl, by decide +kernel, by decide +kernel⟩
def m_need_let_turns : SS := (sIf (bT (eIsn (eCall f_place_stop (eCons (eVar 0) (eCons (eVar 1) (eCons (eVar 2) eNil)))) (eC .none))) sNever sPass)
def f_need_let_turns : FnD := runFn 3 m_need_let_turns
theorem p_need_let_turns {P : Program} {w : World} {K : PySem.W.Frag} {mg : Str → Option Value} {base : Heap} (at_ : At0 K mg "need_let_turns" s_need_let_turns ["floor", "pair", "turns"]) (h_place_stop : Has P w K mg base "place_stop" 3 f_place_stop 6) : Has P w K mg base "need_let_turns" 3 f_need_let_turns 7 := by
  have nd := sc_need_let_turns.nd
  refine has_of (b := m_need_let_turns) (N := N_need_let_turns) (k := 6) at_ sc_need_let_turns rfl fun f cdv A outer s H E hr => ?_
  exact (ss_one (s_if (y_cmp (q_isn hr) (e_fn h_place_stop (hr.mono (by decide)) (lenA_cons (lenA_cons (lenA_cons lenA_nil))) (a_cons (e_var (pv 0)) (a_cons (e_var (pv 1)) (a_cons (e_var (pv 2)) a_nil)))) k_non) (ss_one s_never) ss_nil))
abbrev s_need_taken : Stmt := topS 37
abbrev N_need_taken : List Str := ["floor", "pair", "turns"]
theorem sc_need_taken : FnScope N_need_taken ["floor", "pair", "turns"] (defScope s_need_taken) := ⟨rfl, rfl, rfl, by decide +kernel, rfl, by decide +kernel, by decide +kernel⟩
def m_need_taken : SS := (sSeq (sExpr (eCall f_need_floor (eCons (eVar 0) eNil)))
  (sSeq (sExpr (eCall f_need_pair (eCons (eVar 0) (eCons (eVar 1) eNil))))
  (sSeq (sExpr (eCall f_need_turns (eCons (eVar 2) eNil)))
  (sExpr (eCall f_need_let_turns (eCons (eVar 0) (eCons (eVar 1) (eCons (eVar 2) eNil))))))))
def f_need_taken : FnD := runFn 3 m_need_taken
theorem p_need_taken {P : Program} {w : World} {K : PySem.W.Frag} {mg : Str → Option Value} {base : Heap} (at_ : At0 K mg "need_taken" s_need_taken ["floor", "pair", "turns"]) (h_need_floor : Has P w K mg base "need_floor" 1 f_need_floor 4) (h_need_pair : Has P w K mg base "need_pair" 2 f_need_pair 6) (h_need_turns : Has P w K mg base "need_turns" 1 f_need_turns 4) (h_need_let_turns : Has P w K mg base "need_let_turns" 3 f_need_let_turns 7) : Has P w K mg base "need_taken" 3 f_need_taken 8 := by
  have nd := sc_need_taken.nd
  refine has_of (b := m_need_taken) (N := N_need_taken) (k := 7) at_ sc_need_taken rfl fun f cdv A outer s H E hr => ?_
  exact (ss_cons (s_expr (e_fn h_need_floor (hr.mono (by decide)) (lenA_cons lenA_nil) (a_cons (e_var (pv 0)) a_nil)))
    (ss_cons (s_expr (e_fn h_need_pair (hr.mono (by decide)) (lenA_cons (lenA_cons lenA_nil)) (a_cons (e_var (pv 0)) (a_cons (e_var (pv 1)) a_nil))))
    (ss_cons (s_expr (e_fn h_need_turns (hr.mono (by decide)) (lenA_cons lenA_nil) (a_cons (e_var (pv 2)) a_nil)))
    (ss_one (s_expr (e_fn h_need_let_turns (hr.mono (by decide)) (lenA_cons (lenA_cons (lenA_cons lenA_nil))) (a_cons (e_var (pv 0)) (a_cons (e_var (pv 1)) (a_cons (e_var (pv 2)) a_nil)))))))))
abbrev s_pair_behind : Stmt := topS 38
abbrev N_pair_behind : List Str := ["floor", "pair", "turns"]
theorem sc_pair_behind : FnScope N_pair_behind ["floor", "pair", "turns"] (defScope s_pair_behind) := ⟨rfl, rfl, rfl, by decide +kernel, rfl, by decide +kernel, by decide +kernel⟩
def m_pair_behind : SS := (sSeq (sExpr (eCall f_need_taken (eCons (eVar 0) (eCons (eVar 1) (eCons (eVar 2) eNil)))))
  (sRet (eIx (eCall f_pairs_on (eCons (eVar 1) (eCons (eVar 2) eNil))) (eNeg (eC (.int 1))))))
def f_pair_behind : FnD := runFn 3 m_pair_behind
theorem p_pair_behind {P : Program} {w : World} {K : PySem.W.Frag} {mg : Str → Option Value} {base : Heap} (at_ : At0 K mg "pair_behind" s_pair_behind ["floor", "pair", "turns"]) (h_need_taken : Has P w K mg base "need_taken" 3 f_need_taken 8) (h_pairs_on : Has P w K mg base "pairs_on" 2 f_pairs_on 4) : Has P w K mg base "pair_behind" 3 f_pair_behind 9 := by
  have nd := sc_pair_behind.nd
  refine has_of (b := m_pair_behind) (N := N_pair_behind) (k := 8) at_ sc_pair_behind rfl fun f cdv A outer s H E hr => ?_
  exact (ss_cons (s_expr (e_fn h_need_taken (hr.mono (by decide)) (lenA_cons (lenA_cons (lenA_cons lenA_nil))) (a_cons (e_var (pv 0)) (a_cons (e_var (pv 1)) (a_cons (e_var (pv 2)) a_nil)))))
    (ss_one (s_ret (x_ix (e_fn h_pairs_on (hr.mono (by decide)) (lenA_cons (lenA_cons lenA_nil)) (a_cons (e_var (pv 1)) (a_cons (e_var (pv 2)) a_nil))) (x_neg k_int)))))
abbrev s_turns_of : Stmt := topS 40
abbrev N_turns_of : List Str := ["turns", "cube", "turn"]
theorem sc_turns_of : FnScope N_turns_of ["turns", "cube"] (defScope s_turns_of) := ⟨rfl, rfl, rfl, by decide +kernel, rfl, by decide +kernel, by decide +kernel⟩
def m_turns_of : SS := (sRet (eLc (iSeq (eVar 0)) (gN 2) (bT (eEq (eIx (eVar 2) (eC (.int 0))) (eVar 1))) (eVar 2) [2]))
def f_turns_of : FnD := runFn 3 m_turns_of
theorem p_turns_of {P : Program} {w : World} {K : PySem.W.Frag} {mg : Str → Option Value} {base : Heap} (at_ : At0 K mg "turns_of" s_turns_of ["turns", "cube"])  : Has P w K mg base "turns_of" 2 f_turns_of 1 := by
  have nd := sc_turns_of.nd
  refine has_of (b := m_turns_of) (N := N_turns_of) (k := 0) at_ sc_turns_of rfl fun f cdv A outer s H E hr => ?_
  exact (ss_one (s_ret (x_lc [("turn", 2)] rfl nd rfl (i_seq (e_var (pv 0))) (blkOk_by (N := N_turns_of) (sc := defScope s_turns_of) (by decide +kernel)) (only_gN (by decide)) (fun _ _ _ _ _ => (v_name (i := 2) (by decide) nd rfl (.inl rfl))) (fun _ _ _ _ _ => (ts_one (y_cmp (q_eq hr) (x_ix (e_var (pv 2)) k_int) (e_var (pv 1))))) (fun _ _ _ _ _ => (e_var (pv 2))))))
abbrev s_cells_of : Stmt := topS 41
abbrev N_cells_of : List Str := ["pair", "turns", "pairs", "cells", "here", "there", "turn", "cube"]
theorem sc_cells_of : FnScope N_cells_of ["pair", "turns"] (defScope s_cells_of) := ⟨rfl, rfl, rfl, by decide +kernel, rfl, by decide +kernel, by decide +kernel⟩
def m_cells_of : SS := (sSeq (sSet 2 (eCall f_pairs_on (eCons (eVar 0) (eCons (eVar 1) eNil))))
  (sSeq (sSet 3 (eThen eNil kLst))
  (sSeq (sFor (iZt3 (eCons (eVar 2) (eCons (eSl (eVar 2) (oSome (eC (.int 1))) oNo) (eCons (eVar 1) eNil)))) (gT 3 (gCn (gN 4) (gCn (gN 5) (gCn (gN 6) gNl)))) (sSeq (sSet 7 (eIx (eVar 6) (eC (.int 0))))
  (sExpr (eBM isL (eVar 3) (eCons (eThen (eCons (eVar 7) (eCons (eIx (eIx (eVar 4) (eVar 7)) (eC (.int 0))) (eCons (eIx (eIx (eVar 5) (eVar 7)) (eC (.int 0))) eNil))) kTup) eNil) kAppend))))
  (sRet (eVar 3)))))
def f_cells_of : FnD := runFn 8 m_cells_of
theorem p_cells_of {P : Program} {w : World} {K : PySem.W.Frag} {mg : Str → Option Value} {base : Heap} (at_ : At0 K mg "cells_of" s_cells_of ["pair", "turns"]) (h_pairs_on : Has P w K mg base "pairs_on" 2 f_pairs_on 4) (z_zip : mg "zip" = none) : Has P w K mg base "cells_of" 2 f_cells_of 5 := by
  have nd := sc_cells_of.nd
  refine has_of (b := m_cells_of) (N := N_cells_of) (k := 4) at_ sc_cells_of rfl fun f cdv A outer s H E hr => ?_
  exact (ss_cons (s_set (i := 2) nd rfl (.inl rfl) (e_fn h_pairs_on (hr.mono (by decide)) (lenA_cons (lenA_cons lenA_nil)) (a_cons (e_var (pv 0)) (a_cons (e_var (pv 1)) a_nil))))
    (ss_cons (s_set (i := 3) nd rfl (.inl rfl) (e_lst a_nil))
    (ss_cons (s_for PassesOwn.never rfl (i_z3 (by rfl) z_zip (a_cons (e_var (pv 2)) (a_cons (e_sl (e_var (pv 2)) (o_some k_int) o_no) (a_cons (e_var (pv 1)) a_nil)))) (g_tup rfl (gs_cons (g_name (i := 4) nd rfl (.inl rfl)) (gs_cons (g_name (i := 5) nd rfl (.inl rfl)) (gs_cons (g_name (i := 6) nd rfl (.inl rfl)) gs_nil)))) (ss_cons (s_set (i := 7) nd rfl (.inl rfl) (x_ix (e_var (pv 6)) k_int))
    (ss_one (s_expr (m_append (e_var (pv 3)) (a_cons (e_tup (a_cons (e_var (pv 7)) (a_cons (x_ix (x_ix (e_var (pv 4)) (e_var (pv 7))) k_int) (a_cons (x_ix (x_ix (e_var (pv 5)) (e_var (pv 7))) k_int) a_nil)))) a_nil))))))
    (ss_one (s_ret (e_var (pv 3)))))))
abbrev s_do_meet : Stmt := topS 42
abbrev N_do_meet : List Str := ["one", "other"]
theorem sc_do_meet : FnScope N_do_meet ["one", "other"] (defScope s_do_meet) := ⟨rfl, rfl, rfl, by decide +kernel, rfl, by decide +kernel, by decide +kernel⟩
def m_do_meet : SS := (sRet (eB (bOr (bT (eIn (eIx (eVar 0) (eC (.int 1))) (eSl (eVar 1) (oSome (eC (.int 1))) oNo))) (bT (eIn (eIx (eVar 0) (eC (.int 2))) (eSl (eVar 1) (oSome (eC (.int 1))) oNo))))))
def f_do_meet : FnD := runFn 2 m_do_meet
theorem p_do_meet {P : Program} {w : World} {K : PySem.W.Frag} {mg : Str → Option Value} {base : Heap} (at_ : At0 K mg "do_meet" s_do_meet ["one", "other"])  : Has P w K mg base "do_meet" 2 f_do_meet 1 := by
  have nd := sc_do_meet.nd
  refine has_of (b := m_do_meet) (N := N_do_meet) (k := 0) at_ sc_do_meet rfl fun f cdv A outer s H E hr => ?_
  exact (ss_one (s_ret (e_or (e_bool (x_cmp (q_in hr) (x_ix (e_var (pv 0)) k_int) (e_sl (e_var (pv 1)) (o_some k_int) o_no))) (e_and1 (x_cmp (q_in hr) (x_ix (e_var (pv 0)) k_int) (e_sl (e_var (pv 1)) (o_some k_int) o_no))))))
abbrev s_waits : Stmt := topS 43
abbrev N_waits : List Str := ["pair", "turns", "waited", "gone", "turn", "cube", "meeting", "number", "other"]
theorem sc_waits : FnScope N_waits ["pair", "turns"] (defScope s_waits) := ⟨rfl, rfl, rfl, by decide +kernel, rfl, by decide +kernel, by decide +kernel⟩
def m_waits : SS := (sWaits (eCall f_cells_of (eCons (eVar 0) (eCons (eVar 1) eNil))) (eLc (iEnS (eIx (eVar 3) (eSub (eC (.int 1)) (eVar 5)))) (gT 2 (gCn (gN 7) (gCn (gN 8) gNl))) (bT (eCall f_do_meet (eCons (eVar 4) (eCons (eVar 8) eNil)))) (eVar 7) [7, 8]))
def f_waits : FnD := runFn 9 m_waits
theorem p_waits {P : Program} {w : World} {K : PySem.W.Frag} {mg : Str → Option Value} {base : Heap} (at_ : At0 K mg "waits" s_waits ["pair", "turns"]) (h_cells_of : Has P w K mg base "cells_of" 2 f_cells_of 5) (h_do_meet : Has P w K mg base "do_meet" 2 f_do_meet 1) (z_max : mg "max" = none) (z_enumerate : mg "enumerate" = none) : Has P w K mg base "waits" 2 f_waits 6 := by
  have nd := sc_waits.nd
  refine has_of (b := m_waits) (N := N_waits) (k := 5) at_ sc_waits rfl fun f cdv A outer s H E hr => ?_
  exact (ss_waits (st_pair (i := 2) nd rfl (.inl rfl)) (st_pair (i := 3) nd rfl (.inl rfl)) (st_turns nd rfl (.inr rfl) PassesOwn.never rfl (e_fn h_cells_of (hr.mono (by decide)) (lenA_cons (lenA_cons lenA_nil)) (a_cons (e_var (pv 0)) (a_cons (e_var (pv 1)) a_nil))) (ss_body (st_cube nd rfl (.inl rfl) (pv 4) pe_int) (x_setLcR (i := 6) [("number", 7), ("other", 8)] rfl nd rfl rfl rfl (sw_true rfl rfl rfl (by decide +kernel)) (i_enS (by rfl) z_enumerate (x_ix (e_var (pv 3)) (x_sub k_int (e_var (pv 5))))) (blkOk_by (N := N_waits) (sc := defScope s_waits) (by decide +kernel)) (only_gT (only_gCn (only_gN (by decide)) (only_gCn (only_gN (by decide)) only_gNl))) (fun _ _ _ _ _ => (v_tup rfl (vs_cons (v_name (i := 7) (by decide) nd rfl (.inl rfl)) (vs_cons (v_name (i := 8) (by decide) nd rfl (.inl rfl)) vs_nil)))) (fun _ _ _ _ _ => (ts_one (b_truth (e_fn h_do_meet (hr.mono (by decide)) (lenA_cons (lenA_cons lenA_nil)) (a_cons (e_var (pv 4)) (a_cons (e_var (pv 8)) a_nil)))))) (fun _ _ _ _ _ => (e_var (pv 7)))) (st_app1 rfl rfl z_max (pv 2) (pv 5) (pv 6)) (st_app2 (pv 3) (pv 5) (pv 4)))) (ps_ret (pv 2)))
abbrev s_may_go : Stmt := topS 44
abbrev N_may_go : List Str := ["waited", "done", "cube", "place"]
theorem sc_may_go : FnScope N_may_go ["waited", "done", "cube"] (defScope s_may_go) := ⟨rfl, rfl, rfl, by decide +kernel, rfl, by decide +kernel, by decide +kernel⟩
def m_may_go : SS := (sSeq (sSet 3 (eIx (eVar 1) (eVar 2)))
  (sRet (eB (bAnd (bT (eLt (eVar 3) (eThen (eCons (eIx (eVar 0) (eVar 2)) eNil) (kE oLen)))) (bT (eLe (eIx (eIx (eVar 0) (eVar 2)) (eVar 3)) (eIx (eVar 1) (eSub (eC (.int 1)) (eVar 2)))))))))
def f_may_go : FnD := runFn 4 m_may_go
theorem p_may_go {P : Program} {w : World} {K : PySem.W.Frag} {mg : Str → Option Value} {base : Heap} (at_ : At0 K mg "may_go" s_may_go ["waited", "done", "cube"]) (z_len : mg "len" = none) : Has P w K mg base "may_go" 3 f_may_go 1 := by
  have nd := sc_may_go.nd
  refine has_of (b := m_may_go) (N := N_may_go) (k := 0) at_ sc_may_go rfl fun f cdv A outer s H E hr => ?_
  exact (ss_cons (s_set (i := 3) nd rfl (.inl rfl) (x_ix (e_var (pv 1)) (e_var (pv 2))))
    (ss_one (s_ret (e_and (e_bool (x_cmp (q_lt hr) (e_var (pv 3)) (x_blt (w_len rfl hr) z_len (a_cons (x_ix (e_var (pv 0)) (e_var (pv 2))) a_nil)))) (e_and1 (x_cmp (q_le hr) (x_ix (x_ix (e_var (pv 0)) (e_var (pv 2))) (e_var (pv 3))) (x_ix (e_var (pv 1)) (x_sub k_int (e_var (pv 2))))))))))
abbrev s_least_order : Stmt := topS 45
abbrev N_least_order : List Str := ["pair", "turns", "waited", "own", "done", "told", "cube"]
theorem sc_least_order : FnScope N_least_order ["pair", "turns"] (defScope s_least_order) := ⟨rfl, rfl, rfl, by decide +kernel, rfl, by decide +kernel, by decide +kernel⟩
noncomputable def m_least_order : SS := (sSeq (sSet 2 (eCall f_waits (eCons (eVar 0) (eCons (eVar 1) eNil))))
  (sSeq (sSet 3 (eThen (eCons (eCall f_turns_of (eCons (eVar 1) (eCons (eC (.int 0)) eNil))) (eCons (eCall f_turns_of (eCons (eVar 1) (eCons (eC (.int 1)) eNil))) eNil)) kTup))
  (sSeq (sSet 4 (eThen (eCons (eC (.int 0)) (eCons (eC (.int 0)) eNil)) kLst))
  (sSeq (sSet 5 (eThen eNil kLst))
  (sSeq (sWhile (bT (eLt (eThen (eCons (eVar 5) eNil) (kE oLen)) (eThen (eCons (eVar 1) eNil) (kE oLen)))) (sSeq (sSet 6 (eIf (bT (eCall f_may_go (eCons (eVar 2) (eCons (eVar 4) (eCons (eC (.int 0)) eNil))))) (eC (.int 0)) (eC (.int 1))))
  (sSeq (sExpr (eBM isL (eVar 5) (eCons (eIx (eIx (eVar 3) (eVar 6)) (eIx (eVar 4) (eVar 6))) eNil) kAppend))
  (sAugS (eVar 4) (eVar 6) 1))))
  (sRet (eThen (eCons (eVar 5) eNil) kTupN)))))))
noncomputable def f_least_order : FnD := runFn 7 m_least_order
theorem p_least_order {P : Program} {w : World} {K : PySem.W.Frag} {mg : Str → Option Value} {base : Heap} (at_ : At0 K mg "least_order" s_least_order ["pair", "turns"]) (h_waits : Has P w K mg base "waits" 2 f_waits 6) (h_turns_of : Has P w K mg base "turns_of" 2 f_turns_of 1) (h_may_go : Has P w K mg base "may_go" 3 f_may_go 1) (z_len : mg "len" = none) (z_tuple : mg "tuple" = none) : Has P w K mg base "least_order" 2 f_least_order 7 := by
  have nd := sc_least_order.nd
  refine has_of (b := m_least_order) (N := N_least_order) (k := 6) at_ sc_least_order rfl fun f cdv A outer s H E hr => ?_
  exact (ss_cons (s_set (i := 2) nd rfl (.inl rfl) (e_fn h_waits (hr.mono (by decide)) (lenA_cons (lenA_cons lenA_nil)) (a_cons (e_var (pv 0)) (a_cons (e_var (pv 1)) a_nil))))
    (ss_cons (s_set (i := 3) nd rfl (.inl rfl) (e_tup (a_cons (e_fn h_turns_of (hr.mono (by decide)) (lenA_cons (lenA_cons lenA_nil)) (a_cons (e_var (pv 1)) (a_cons k_int a_nil))) (a_cons (e_fn h_turns_of (hr.mono (by decide)) (lenA_cons (lenA_cons lenA_nil)) (a_cons (e_var (pv 1)) (a_cons k_int a_nil))) a_nil))))
    (ss_cons (s_set (i := 4) nd rfl (.inl rfl) (e_lst (a_cons k_int (a_cons k_int a_nil))))
    (ss_cons (s_set (i := 5) nd rfl (.inl rfl) (e_lst a_nil))
    (ss_cons (s_while PassesOwn.never (y_cmp (q_lt hr) (x_blt (w_len rfl hr) z_len (a_cons (e_var (pv 5)) a_nil)) (x_blt (w_len rfl hr) z_len (a_cons (e_var (pv 1)) a_nil))) (ss_cons (s_set (i := 6) nd rfl (.inl rfl) (e_if (b_truth (e_fn h_may_go (hr.mono (by decide)) (lenA_cons (lenA_cons (lenA_cons lenA_nil))) (a_cons (e_var (pv 2)) (a_cons (e_var (pv 4)) (a_cons k_int a_nil))))) k_int k_int))
    (ss_cons (s_expr (m_append (e_var (pv 5)) (a_cons (x_ix (x_ix (e_var (pv 3)) (e_var (pv 6))) (x_ix (e_var (pv 4)) (e_var (pv 6)))) a_nil)))
    (ss_one (s_augS (e_var (pv 4)) (e_var (pv 6)) pe_int)))))
    (ss_one (s_ret (x_bty (w_tuple rfl hr) z_tuple (a_cons (e_var (pv 5)) a_nil)))))))))
abbrev s_least_turns : Stmt := topS 46
abbrev N_least_turns : List Str := ["floor", "pair", "turns"]
theorem sc_least_turns : FnScope N_least_turns ["floor", "pair", "turns"] (defScope s_least_turns) := ⟨rfl, rfl, rfl, by decide +kernel, rfl, by decide +kernel, by decide +kernel⟩
noncomputable def m_least_turns : SS := (sSeq (sExpr (eCall f_need_taken (eCons (eVar 0) (eCons (eVar 1) (eCons (eVar 2) eNil)))))
  (sRet (eCall f_least_order (eCons (eVar 1) (eCons (eVar 2) eNil)))))
noncomputable def f_least_turns : FnD := runFn 3 m_least_turns
theorem p_least_turns {P : Program} {w : World} {K : PySem.W.Frag} {mg : Str → Option Value} {base : Heap} (at_ : At0 K mg "least_turns" s_least_turns ["floor", "pair", "turns"]) (h_need_taken : Has P w K mg base "need_taken" 3 f_need_taken 8) (h_least_order : Has P w K mg base "least_order" 2 f_least_order 7) : Has P w K mg base "least_turns" 3 f_least_turns 9 := by
  have nd := sc_least_turns.nd
  refine has_of (b := m_least_turns) (N := N_least_turns) (k := 8) at_ sc_least_turns rfl fun f cdv A outer s H E hr => ?_
  exact (ss_cons (s_expr (e_fn h_need_taken (hr.mono (by decide)) (lenA_cons (lenA_cons (lenA_cons lenA_nil))) (a_cons (e_var (pv 0)) (a_cons (e_var (pv 1)) (a_cons (e_var (pv 2)) a_nil)))))
    (ss_one (s_ret (e_fn h_least_order (hr.mono (by decide)) (lenA_cons (lenA_cons lenA_nil)) (a_cons (e_var (pv 1)) (a_cons (e_var (pv 2)) a_nil))))))
abbrev s_how_many : Stmt := topS 47
abbrev N_how_many : List Str := ["floor", "pair", "turns", "waited", "ways", "one", "other", "many"]
theorem sc_how_many : FnScope N_how_many ["floor", "pair", "turns"] (defScope s_how_many) := ⟨rfl, rfl, rfl, by decide +kernel, rfl, by decide +kernel, by decide +kernel⟩
def m_how_many : SS := (sSeq (sExpr (eCall f_need_taken (eCons (eVar 0) (eCons (eVar 1) (eCons (eVar 2) eNil)))))
  (sSeq (sSet 3 (eCall f_waits (eCons (eVar 1) (eCons (eVar 2) eNil))))
  (sSeq (sSet 4 (eDisp [((eThen (eCons (eC (.int 0)) (eCons (eC (.int 0)) eNil)) kTup), (eC (.int 1)))]))
  (sSeq (sFor (iRg1 (eCons (eAdd (eThen (eCons (eIx (eVar 3) (eC (.int 0))) eNil) (kE oLen)) (eC (.int 1))) eNil)) (gN 5) (sFor (iRg1 (eCons (eAdd (eThen (eCons (eIx (eVar 3) (eC (.int 1))) eNil) (kE oLen)) (eC (.int 1))) eNil)) (gN 6) (sSeq (sSet 7 (eGt2 (eVar 4) (eThen (eCons (eVar 5) (eCons (eVar 6) eNil)) kTup) (eC (.int 0))))
  (sSeq (sIf (bT (eCall f_may_go (eCons (eVar 3) (eCons (eThen (eCons (eVar 5) (eCons (eVar 6) eNil)) kTup) (eCons (eC (.int 0)) eNil))))) (sAsg (eAdd (eGt2 (eVar 4) (eThen (eCons (eAdd (eVar 5) (eC (.int 1))) (eCons (eVar 6) eNil)) kTup) (eC (.int 0))) (eVar 7)) (gDs (eVar 4) (eThen (eCons (eAdd (eVar 5) (eC (.int 1))) (eCons (eVar 6) eNil)) kTup))) sPass)
  (sIf (bT (eCall f_may_go (eCons (eVar 3) (eCons (eThen (eCons (eVar 5) (eCons (eVar 6) eNil)) kTup) (eCons (eC (.int 1)) eNil))))) (sAsg (eAdd (eGt2 (eVar 4) (eThen (eCons (eVar 5) (eCons (eAdd (eVar 6) (eC (.int 1))) eNil)) kTup) (eC (.int 0))) (eVar 7)) (gDs (eVar 4) (eThen (eCons (eVar 5) (eCons (eAdd (eVar 6) (eC (.int 1))) eNil)) kTup))) sPass)))))
  (sRet (eDg (eVar 4) (eThen (eCons (eThen (eCons (eIx (eVar 3) (eC (.int 0))) eNil) (kE oLen)) (eCons (eThen (eCons (eIx (eVar 3) (eC (.int 1))) eNil) (kE oLen)) eNil)) kTup)))))))
def f_how_many : FnD := runFn 8 m_how_many
theorem p_how_many {P : Program} {w : World} {K : PySem.W.Frag} {mg : Str → Option Value} {base : Heap} (at_ : At0 K mg "how_many" s_how_many ["floor", "pair", "turns"]) (h_need_taken : Has P w K mg base "need_taken" 3 f_need_taken 8) (h_waits : Has P w K mg base "waits" 2 f_waits 6) (h_may_go : Has P w K mg base "may_go" 3 f_may_go 1) (z_range : mg "range" = none) (z_len : mg "len" = none) : Has P w K mg base "how_many" 3 f_how_many 9 := by
  have nd := sc_how_many.nd
  refine has_of (b := m_how_many) (N := N_how_many) (k := 8) at_ sc_how_many rfl fun f cdv A outer s H E hr => ?_
  exact (ss_cons (s_expr (e_fn h_need_taken (hr.mono (by decide)) (lenA_cons (lenA_cons (lenA_cons lenA_nil))) (a_cons (e_var (pv 0)) (a_cons (e_var (pv 1)) (a_cons (e_var (pv 2)) a_nil)))))
    (ss_cons (s_set (i := 3) nd rfl (.inl rfl) (e_fn h_waits (hr.mono (by decide)) (lenA_cons (lenA_cons lenA_nil)) (a_cons (e_var (pv 1)) (a_cons (e_var (pv 2)) a_nil))))
    (ss_cons (s_set (i := 4) nd rfl (.inl rfl) (e_disp (u9 hr) (ds_cons (e_tup (a_cons k_int (a_cons k_int a_nil))) k_int ds_nil)))
    (ss_cons (s_for PassesOwn.never rfl (i_rg1 (by rfl) z_range (a_cons (x_add (x_blt (w_len rfl hr) z_len (a_cons (x_ix (e_var (pv 3)) k_int) a_nil)) k_int) a_nil)) (g_name (i := 5) nd rfl (.inl rfl)) (ss_one (s_for PassesOwn.never rfl (i_rg1 (by rfl) z_range (a_cons (x_add (x_blt (w_len rfl hr) z_len (a_cons (x_ix (e_var (pv 3)) k_int) a_nil)) k_int) a_nil)) (g_name (i := 6) nd rfl (.inl rfl)) (ss_cons (s_set (i := 7) nd rfl (.inl rfl) (e_gt2 (u9 hr) (e_var (pv 4)) (e_tup (a_cons (e_var (pv 5)) (a_cons (e_var (pv 6)) a_nil))) k_int))
    (ss_cons (s_if (b_truth (e_fn h_may_go (hr.mono (by decide)) (lenA_cons (lenA_cons (lenA_cons lenA_nil))) (a_cons (e_var (pv 3)) (a_cons (e_tup (a_cons (e_var (pv 5)) (a_cons (e_var (pv 6)) a_nil))) (a_cons k_int a_nil))))) (ss_one (s_asg (x_add (e_gt2 (u9 hr) (e_var (pv 4)) (e_tup (a_cons (x_add (e_var (pv 5)) k_int) (a_cons (e_var (pv 6)) a_nil))) k_int) (e_var (pv 7))) (g_dsub (u9 hr) (e_var (pv 4)) (e_tup (a_cons (x_add (e_var (pv 5)) k_int) (a_cons (e_var (pv 6)) a_nil)))))) ss_nil)
    (ss_one (s_if (b_truth (e_fn h_may_go (hr.mono (by decide)) (lenA_cons (lenA_cons (lenA_cons lenA_nil))) (a_cons (e_var (pv 3)) (a_cons (e_tup (a_cons (e_var (pv 5)) (a_cons (e_var (pv 6)) a_nil))) (a_cons k_int a_nil))))) (ss_one (s_asg (x_add (e_gt2 (u9 hr) (e_var (pv 4)) (e_tup (a_cons (e_var (pv 5)) (a_cons (x_add (e_var (pv 6)) k_int) a_nil))) k_int) (e_var (pv 7))) (g_dsub (u9 hr) (e_var (pv 4)) (e_tup (a_cons (e_var (pv 5)) (a_cons (x_add (e_var (pv 6)) k_int) a_nil)))))) ss_nil)))))))
    (ss_one (s_ret (e_dg (u9 hr) (e_var (pv 4)) (e_tup (a_cons (x_blt (w_len rfl hr) z_len (a_cons (x_ix (e_var (pv 3)) k_int) a_nil)) (a_cons (x_blt (w_len rfl hr) z_len (a_cons (x_ix (e_var (pv 3)) k_int) a_nil)) a_nil))))))))))
abbrev s__law_cell : Stmt := topS 49
abbrev N__law_cell : List Str := ["_law_script", "_law_k"]
theorem sc__law_cell : FnScope N__law_cell ["_law_script", "_law_k"] (defScope s__law_cell) := ⟨rfl, rfl, rfl, by decide +kernel, rfl, by decide +kernel, by decide +kernel⟩
def m__law_cell : SS := (sSeq (sIf (bT (eLt (eVar 1) (eThen (eCons (eVar 0) eNil) (kE oLen)))) (sRet (eIx (eVar 0) (eVar 1))) sPass)
  (sRet (eC (.int 0))))
def f__law_cell : FnD := runFn 2 m__law_cell
theorem p__law_cell {P : Program} {w : World} {K : PySem.W.Frag} {mg : Str → Option Value} {base : Heap} (at_ : At0 K mg "_law_cell" s__law_cell ["_law_script", "_law_k"]) (z_len : mg "len" = none) : Has P w K mg base "_law_cell" 2 f__law_cell 1 := by
  have nd := sc__law_cell.nd
  refine has_of (b := m__law_cell) (N := N__law_cell) (k := 0) at_ sc__law_cell rfl fun f cdv A outer s H E hr => ?_
  exact (ss_cons (s_if (y_cmp (q_lt hr) (e_var (pv 1)) (x_blt (w_len rfl hr) z_len (a_cons (e_var (pv 0)) a_nil))) (ss_one (s_ret (x_ix (e_var (pv 0)) (e_var (pv 1))))) ss_nil)
    (ss_one (s_ret k_int)))
abbrev s__law_pen : Stmt := topS 50
abbrev N__law_pen : List Str := ["_law_cell_here"]
theorem sc__law_pen : FnScope N__law_pen ["_law_cell_here"] (defScope s__law_pen) := ⟨rfl, rfl, rfl, by decide +kernel, rfl, by decide +kernel, by decide +kernel⟩
def m__law_pen : SS := (sRet (eThen (eCons (eThen (eCons (eC (.int 0)) (eCons (eSub (eVar 0) (ePow (eC (.int 10)) (eC (.int 18)))) eNil)) (kE oMax)) (eCons (eMod (eVar 0) (eC (.int 1000000007))) (eCons (eC (.int 0)) eNil))) kLst))
def f__law_pen : FnD := runFn 1 m__law_pen
theorem p__law_pen {P : Program} {w : World} {K : PySem.W.Frag} {mg : Str → Option Value} {base : Heap} (at_ : At0 K mg "_law_pen" s__law_pen ["_law_cell_here"]) (z_max : mg "max" = none) : Has P w K mg base "_law_pen" 1 f__law_pen 1 := by
  have nd := sc__law_pen.nd
  refine has_of (b := m__law_pen) (N := N__law_pen) (k := 0) at_ sc__law_pen rfl fun f cdv A outer s H E hr => ?_
  exact (ss_one (s_ret (e_lst (a_cons (x_blt (w_max rfl hr) z_max (a_cons k_int (a_cons (x_sub (e_var (pv 0)) (x_pow k_int k_int)) a_nil))) (a_cons (x_mod (e_var (pv 0)) k_int) (a_cons k_int a_nil))))))
abbrev s__law_draw : Stmt := topS 51
abbrev N__law_draw : List Str := ["_law_pen_here", "_law_many", "_law_digit", "_law_stir"]
theorem sc__law_draw : FnScope N__law_draw ["_law_pen_here", "_law_many"] (defScope s__law_draw) := ⟨rfl, rfl, rfl, by decide +kernel, rfl, by decide +kernel, by decide +kernel⟩
def m__law_draw : SS := (sSeq (sIf (bT (eGt (eIx (eVar 0) (eC (.int 0))) (eC (.int 0)))) (sSeq (sSet 2 (eMod (eIx (eVar 0) (eC (.int 0))) (eVar 1)))
  (sSeq (sAsg (eFdiv (eIx (eVar 0) (eC (.int 0))) (eVar 1)) (gS (eVar 0) (eC (.int 0))))
  (sRet (eVar 2)))) sPass)
  (sSeq (sAsg (eAdd (eIx (eVar 0) (eC (.int 2))) (eC (.int 1))) (gS (eVar 0) (eC (.int 2))))
  (sSeq (sSet 3 (eMod (eMul (eAdd (eIx (eVar 0) (eC (.int 1))) (eMul (eC (.int 17)) (eIx (eVar 0) (eC (.int 2))))) (eAdd (eC (.int 69621)) (eMul (eC (.int 2)) (eIx (eVar 0) (eC (.int 2)))))) (eC (.int 2147483647))))
  (sSeq (sSet 3 (eMod (eAdd (eAdd (eMul (eVar 3) (eVar 3)) (eMul (eC (.int 40503)) (eIx (eVar 0) (eC (.int 2))))) (eC (.int 5))) (eC (.int 2147483629))))
  (sRet (eMod (eFdiv (eMod (eMul (eVar 3) (eC (.int 48271))) (eC (.int 2147483647))) (eC (.int 32))) (eVar 1)))))))
def f__law_draw : FnD := runFn 4 m__law_draw
theorem p__law_draw {P : Program} {w : World} {K : PySem.W.Frag} {mg : Str → Option Value} {base : Heap} (at_ : At0 K mg "_law_draw" s__law_draw ["_law_pen_here", "_law_many"])  : Has P w K mg base "_law_draw" 2 f__law_draw 1 := by
  have nd := sc__law_draw.nd
  refine has_of (b := m__law_draw) (N := N__law_draw) (k := 0) at_ sc__law_draw rfl fun f cdv A outer s H E hr => ?_
  exact (ss_cons (s_if (y_cmp (q_gt hr) (x_ix (e_var (pv 0)) k_int) k_int) (ss_cons (s_set (i := 2) nd rfl (.inl rfl) (x_mod (x_ix (e_var (pv 0)) k_int) (e_var (pv 1))))
    (ss_cons (s_asg (x_fdiv (x_ix (e_var (pv 0)) k_int) (e_var (pv 1))) (g_sub (e_var (pv 0)) k_int))
    (ss_one (s_ret (e_var (pv 2)))))) ss_nil)
    (ss_cons (s_asg (x_add (x_ix (e_var (pv 0)) k_int) k_int) (g_sub (e_var (pv 0)) k_int))
    (ss_cons (s_set (i := 3) nd rfl (.inl rfl) (x_mod (x_mul (x_add (x_ix (e_var (pv 0)) k_int) (x_mul k_int (x_ix (e_var (pv 0)) k_int))) (x_add k_int (x_mul k_int (x_ix (e_var (pv 0)) k_int)))) k_int))
    (ss_cons (s_set (i := 3) nd rfl (.inl rfl) (x_mod (x_add (x_add (x_mul (e_var (pv 3)) (e_var (pv 3))) (x_mul k_int (x_ix (e_var (pv 0)) k_int))) k_int) k_int))
    (ss_one (s_ret (x_mod (x_fdiv (x_mod (x_mul (e_var (pv 3)) k_int) k_int) k_int) (e_var (pv 1)))))))))
abbrev s__law_pick : Stmt := topS 52
abbrev N__law_pick : List Str := ["_law_pen_here", "_law_things"]
theorem sc__law_pick : FnScope N__law_pick ["_law_pen_here", "_law_things"] (defScope s__law_pick) := ⟨rfl, rfl, rfl, by decide +kernel, rfl, by decide +kernel, by decide +kernel⟩
def m__law_pick : SS := (sRet (eIx (eVar 1) (eCall f__law_draw (eCons (eVar 0) (eCons (eThen (eCons (eVar 1) eNil) (kE oLen)) eNil)))))
def f__law_pick : FnD := runFn 2 m__law_pick
theorem p__law_pick {P : Program} {w : World} {K : PySem.W.Frag} {mg : Str → Option Value} {base : Heap} (at_ : At0 K mg "_law_pick" s__law_pick ["_law_pen_here", "_law_things"]) (h__law_draw : Has P w K mg base "_law_draw" 2 f__law_draw 1) (z_len : mg "len" = none) : Has P w K mg base "_law_pick" 2 f__law_pick 2 := by
  have nd := sc__law_pick.nd
  refine has_of (b := m__law_pick) (N := N__law_pick) (k := 1) at_ sc__law_pick rfl fun f cdv A outer s H E hr => ?_
  exact (ss_one (s_ret (x_ix (e_var (pv 1)) (e_fn h__law_draw (hr.mono (by decide)) (lenA_cons (lenA_cons lenA_nil)) (a_cons (e_var (pv 0)) (a_cons (x_blt (w_len rfl hr) z_len (a_cons (e_var (pv 1)) a_nil)) a_nil))))))
abbrev s__law_beside : Stmt := topS 53
abbrev N__law_beside : List Str := ["_law_cell_here", "_law_letter", "_law_across", "_law_up"]
theorem sc__law_beside : FnScope N__law_beside ["_law_cell_here", "_law_letter"] (defScope s__law_beside) := ⟨rfl, rfl, rfl, by decide +kernel, rfl, by decide +kernel, by decide +kernel⟩
def m__law_beside : SS := (sSeq (sAsg (eDx (eDisp [((eC (.str "e")), (eThen (eCons (eC (.int 1)) (eCons (eC (.int 0)) eNil)) kTup)), ((eC (.str "n")), (eThen (eCons (eC (.int 0)) (eCons (eC (.int 1)) eNil)) kTup)), ((eC (.str "s")), (eThen (eCons (eC (.int 0)) (eCons (eNeg (eC (.int 1))) eNil)) kTup)), ((eC (.str "w")), (eThen (eCons (eNeg (eC (.int 1))) (eCons (eC (.int 0)) eNil)) kTup))]) (eVar 1)) (gT 2 (gCn (gN 2) (gCn (gN 3) gNl))))
  (sRet (eThen (eCons (eAdd (eIx (eVar 0) (eC (.int 0))) (eVar 2)) (eCons (eAdd (eIx (eVar 0) (eC (.int 1))) (eVar 3)) eNil)) kTup)))
def f__law_beside : FnD := runFn 4 m__law_beside
theorem p__law_beside {P : Program} {w : World} {K : PySem.W.Frag} {mg : Str → Option Value} {base : Heap} (at_ : At0 K mg "_law_beside" s__law_beside ["_law_cell_here", "_law_letter"])  : Has P w K mg base "_law_beside" 2 f__law_beside 1 := by
  have nd := sc__law_beside.nd
  refine has_of (b := m__law_beside) (N := N__law_beside) (k := 0) at_ sc__law_beside rfl fun f cdv A outer s H E hr => ?_
  exact (ss_cons (s_asg (e_dx (u9 hr) (e_disp (u9 hr) (ds_cons k_str (e_tup (a_cons k_int (a_cons k_int a_nil))) (ds_cons k_str (e_tup (a_cons k_int (a_cons k_int a_nil))) (ds_cons k_str (e_tup (a_cons k_int (a_cons (x_neg k_int) a_nil))) (ds_cons k_str (e_tup (a_cons (x_neg k_int) (a_cons k_int a_nil))) ds_nil))))) (e_var (pv 1))) (g_tup rfl (gs_cons (g_name (i := 2) nd rfl (.inl rfl)) (gs_cons (g_name (i := 3) nd rfl (.inl rfl)) gs_nil))))
    (ss_one (s_ret (e_tup (a_cons (x_add (x_ix (e_var (pv 0)) k_int) (e_var (pv 2))) (a_cons (x_add (x_ix (e_var (pv 0)) k_int) (e_var (pv 3))) a_nil))))))
abbrev s__law_others : Stmt := topS 54
abbrev N__law_others : List Str := ["_law_cells", "_law_found", "_law_column", "_law_up"]
theorem sc__law_others : FnScope N__law_others ["_law_cells"] (defScope s__law_others) := ⟨rfl, rfl, rfl, by decide +kernel, rfl, by decide +kernel, by decide +kernel⟩
def m__law_others : SS := (sSeq (sSet 1 (eThen eNil kLst))
  (sSeq (sFor (iRg1 (eCons (eC (.int 4)) eNil)) (gN 2) (sSet 1 (eAdd (eVar 1) (eLc (iRg1 (eCons (eC (.int 4)) eNil)) (gN 3) (bT (eNin (eThen (eCons (eVar 2) (eCons (eVar 3) eNil)) kTup) (eVar 0))) (eThen (eCons (eVar 2) (eCons (eVar 3) eNil)) kTup) [3]))))
  (sRet (eVar 1))))
def f__law_others : FnD := runFn 4 m__law_others
theorem p__law_others {P : Program} {w : World} {K : PySem.W.Frag} {mg : Str → Option Value} {base : Heap} (at_ : At0 K mg "_law_others" s__law_others ["_law_cells"]) (z_range : mg "range" = none) : Has P w K mg base "_law_others" 1 f__law_others 1 := by
  have nd := sc__law_others.nd
  refine has_of (b := m__law_others) (N := N__law_others) (k := 0) at_ sc__law_others rfl fun f cdv A outer s H E hr => ?_
  exact (ss_cons (s_set (i := 1) nd rfl (.inl rfl) (e_lst a_nil))
    (ss_cons (s_for PassesOwn.never rfl (i_rg1 (by rfl) z_range (a_cons k_int a_nil)) (g_name (i := 2) nd rfl (.inr rfl)) (ss_one (s_set (i := 1) nd rfl (.inl rfl) (x_add (e_var (pv 1)) (x_lc [("_law_up", 3)] rfl nd rfl (i_rg1 (by rfl) z_range (a_cons k_int a_nil)) (blkOk_by (N := N__law_others) (sc := defScope s__law_others) (by decide +kernel)) (only_gN (by decide)) (fun _ _ _ _ _ => (v_name (i := 3) (by decide) nd rfl (.inl rfl))) (fun _ _ _ _ _ => (ts_one (y_cmp (q_nin hr) (e_tup (a_cons (e_var (pv 2)) (a_cons (e_var (pv 3)) a_nil))) (e_var (pv 0))))) (fun _ _ _ _ _ => (e_tup (a_cons (e_var (pv 2)) (a_cons (e_var (pv 3)) a_nil)))))))))
    (ss_one (s_ret (e_var (pv 1))))))
abbrev s__law_floor : Stmt := topS 55
abbrev N__law_floor : List Str := ["_law_pen_here", "_law_least", "_law_most", "_law_found", "_law_turn", "_law_near", "_law_one", "_law_side"]
theorem sc__law_floor : FnScope N__law_floor ["_law_pen_here", "_law_least", "_law_most"] (defScope s__law_floor) := ⟨rfl, rfl, rfl, by decide +kernel, rfl, by decide +kernel, by decide +kernel⟩
def m__law_floor : SS := (sSeq (sSet 3 (eThen (eCons (eThen (eCons (eCall f__law_draw (eCons (eVar 0) (eCons (eC (.int 4)) eNil))) (eCons (eCall f__law_draw (eCons (eVar 0) (eCons (eC (.int 4)) eNil))) eNil)) kTup) eNil) kLst))
  (sSeq (sFor (iRg1 (eCons (eAdd (eSub (eVar 1) (eC (.int 1))) (eCall f__law_draw (eCons (eVar 0) (eCons (eAdd (eSub (eVar 2) (eVar 1)) (eC (.int 1))) eNil)))) eNil)) (gN 4) (sSeq (sSet 5 (eLc (iSeq (eCall f__law_others (eCons (eVar 3) eNil))) (gN 6) (bT (eNe (eLc (iSeq (eC (.str "ensw"))) (gN 7) (bT (eIn (eCall f__law_beside (eCons (eVar 6) (eCons (eVar 7) eNil))) (eVar 3))) (eC (.int 1)) [7]) (eThen eNil kLst))) (eVar 6) [6]))
  (sExpr (eBM isL (eVar 3) (eCons (eCall f__law_pick (eCons (eVar 0) (eCons (eIf (bT (eGt (eCall f__law_draw (eCons (eVar 0) (eCons (eC (.int 7)) eNil))) (eC (.int 0)))) (eVar 5) (eCall f__law_others (eCons (eVar 3) eNil))) eNil))) eNil) kAppend))))
  (sRet (eThen (eCons (eThen (eCons (eVar 3) eNil) kSorted) eNil) kTupN))))
def f__law_floor : FnD := runFn 8 m__law_floor
theorem p__law_floor {P : Program} {w : World} {K : PySem.W.Frag} {mg : Str → Option Value} {base : Heap} (at_ : At0 K mg "_law_floor" s__law_floor ["_law_pen_here", "_law_least", "_law_most"]) (h__law_draw : Has P w K mg base "_law_draw" 2 f__law_draw 1) (h__law_others : Has P w K mg base "_law_others" 1 f__law_others 1) (h__law_beside : Has P w K mg base "_law_beside" 2 f__law_beside 1) (h__law_pick : Has P w K mg base "_law_pick" 2 f__law_pick 2) (z_range : mg "range" = none) (z_tuple : mg "tuple" = none) (z_sorted : mg "sorted" = none) : Has P w K mg base "_law_floor" 3 f__law_floor 3 := by
  have nd := sc__law_floor.nd
  refine has_of (b := m__law_floor) (N := N__law_floor) (k := 2) at_ sc__law_floor rfl fun f cdv A outer s H E hr => ?_
  exact (ss_cons (s_set (i := 3) nd rfl (.inr rfl) (e_lst (a_cons (e_tup (a_cons (e_fn h__law_draw (hr.mono (by decide)) (lenA_cons (lenA_cons lenA_nil)) (a_cons (e_var (pv 0)) (a_cons k_int a_nil))) (a_cons (e_fn h__law_draw (hr.mono (by decide)) (lenA_cons (lenA_cons lenA_nil)) (a_cons (e_var (pv 0)) (a_cons k_int a_nil))) a_nil))) a_nil)))
    (ss_cons (s_for PassesOwn.never rfl (i_rg1 (by rfl) z_range (a_cons (x_add (x_sub (e_var (pv 1)) k_int) (e_fn h__law_draw (hr.mono (by decide)) (lenA_cons (lenA_cons lenA_nil)) (a_cons (e_var (pv 0)) (a_cons (x_add (x_sub (e_var (pv 2)) (e_var (pv 1))) k_int) a_nil)))) a_nil)) (g_name (i := 4) nd rfl (.inl rfl)) (ss_cons (x_setLc (i := 5) [("_law_one", 6)] rfl nd rfl rfl rfl (sw_true rfl rfl rfl (by decide +kernel)) (i_seq (e_fn h__law_others (hr.mono (by decide)) (lenA_cons lenA_nil) (a_cons (e_var (pv 3)) a_nil))) (blkOk_by (N := N__law_floor) (sc := defScope s__law_floor) (by decide +kernel)) (only_gN (by decide)) (fun _ _ _ _ _ => (v_name (i := 6) (by decide) nd rfl (.inr rfl))) (fun _ _ _ _ _ => (ts_one (y_cmp (q_ne hr) (x_lc [("_law_side", 7)] rfl nd rfl (i_seq k_str) (blk2 (N := N__law_floor) (by decide +kernel)) (only_gN (by decide)) (fun _ _ _ _ _ => (v_name (i := 7) (by decide) nd rfl (.inl rfl))) (fun _ _ _ _ _ => (ts_one (y_cmp (q_in hr) (e_fn h__law_beside (hr.mono (by decide)) (lenA_cons (lenA_cons lenA_nil)) (a_cons (e_var (pv 6)) (a_cons (e_var (pv 7)) a_nil))) (e_var (pv 3))))) (fun _ _ _ _ _ => k_int)) (e_lst a_nil)))) (fun _ _ _ _ _ => (e_var (pv 6))))
    (ss_one (s_expr (m_append (e_var (pv 3)) (a_cons (e_fn h__law_pick (hr.mono (by decide)) (lenA_cons (lenA_cons lenA_nil)) (a_cons (e_var (pv 0)) (a_cons (e_if (y_cmp (q_gt hr) (e_fn h__law_draw (hr.mono (by decide)) (lenA_cons (lenA_cons lenA_nil)) (a_cons (e_var (pv 0)) (a_cons k_int a_nil))) k_int) (e_var (pv 5)) (e_fn h__law_others (hr.mono (by decide)) (lenA_cons lenA_nil) (a_cons (e_var (pv 3)) a_nil))) a_nil))) a_nil))))))
    (ss_one (s_ret (x_bty (w_tuple rfl hr) z_tuple (a_cons (x_blt (w_sorted rfl hr) z_sorted (a_cons (e_var (pv 3)) a_nil)) a_nil))))))
abbrev s__law_rolled : Stmt := topS 56
abbrev N__law_rolled : List Str := ["_law_lying_here", "_law_letter", "_law_low", "_law_north", "_law_east"]
theorem sc__law_rolled : FnScope N__law_rolled ["_law_lying_here", "_law_letter"] (defScope s__law_rolled) := ⟨rfl, rfl, rfl, by decide +kernel, rfl, by decide +kernel, by decide +kernel⟩
def m__law_rolled : SS := (sSeq (sAsg (eVar 0) (gT 3 (gCn (gN 2) (gCn (gN 3) (gCn (gN 4) gNl)))))
  (sSeq (sIf (bT (eIns (eVar 1) (eC (.str "ns")))) (sRet (eIf (bT (eEq (eVar 1) (eC (.str "n")))) (eThen (eCons (eVar 3) (eCons (eSub (eC (.int 5)) (eVar 2)) (eCons (eVar 4) eNil))) kTup) (eThen (eCons (eSub (eC (.int 5)) (eVar 3)) (eCons (eVar 2) (eCons (eVar 4) eNil))) kTup))) sPass)
  (sRet (eIf (bT (eEq (eVar 1) (eC (.str "e")))) (eThen (eCons (eVar 4) (eCons (eVar 3) (eCons (eSub (eC (.int 5)) (eVar 2)) eNil))) kTup) (eThen (eCons (eSub (eC (.int 5)) (eVar 4)) (eCons (eVar 3) (eCons (eVar 2) eNil))) kTup)))))
def f__law_rolled : FnD := runFn 5 m__law_rolled
theorem p__law_rolled {P : Program} {w : World} {K : PySem.W.Frag} {mg : Str → Option Value} {base : Heap} (at_ : At0 K mg "_law_rolled" s__law_rolled ["_law_lying_here", "_law_letter"])  : Has P w K mg base "_law_rolled" 2 f__law_rolled 1 := by
  have nd := sc__law_rolled.nd
  refine has_of (b := m__law_rolled) (N := N__law_rolled) (k := 0) at_ sc__law_rolled rfl fun f cdv A outer s H E hr => ?_
  exact (ss_cons (s_asg (e_var (pv 0)) (g_tup rfl (gs_cons (g_name (i := 2) nd rfl (.inl rfl)) (gs_cons (g_name (i := 3) nd rfl (.inl rfl)) (gs_cons (g_name (i := 4) nd rfl (.inl rfl)) gs_nil)))))
    (ss_cons (s_if (y_cmp (q_ins hr) (e_var (pv 1)) k_str) (ss_one (s_ret (e_if (y_cmp (q_eq hr) (e_var (pv 1)) k_str) (e_tup (a_cons (e_var (pv 3)) (a_cons (x_sub k_int (e_var (pv 2))) (a_cons (e_var (pv 4)) a_nil)))) (e_tup (a_cons (x_sub k_int (e_var (pv 3))) (a_cons (e_var (pv 2)) (a_cons (e_var (pv 4)) a_nil))))))) ss_nil)
    (ss_one (s_ret (e_if (y_cmp (q_eq hr) (e_var (pv 1)) k_str) (e_tup (a_cons (e_var (pv 4)) (a_cons (e_var (pv 3)) (a_cons (x_sub k_int (e_var (pv 2))) a_nil)))) (e_tup (a_cons (x_sub k_int (e_var (pv 4))) (a_cons (e_var (pv 3)) (a_cons (e_var (pv 2)) a_nil)))))))))
abbrev s__law_lying : Stmt := topS 57
abbrev N__law_lying : List Str := ["_law_pen_here", "_law_found", "_law_turn"]
theorem sc__law_lying : FnScope N__law_lying ["_law_pen_here"] (defScope s__law_lying) := ⟨rfl, rfl, rfl, by decide +kernel, rfl, by decide +kernel, by decide +kernel⟩
def m__law_lying : SS := (sSeq (sSet 1 (eThen (eCons (eC (.int 0)) (eCons (eC (.int 1)) (eCons (eC (.int 2)) eNil))) kTup))
  (sSeq (sFor (iRg1 (eCons (eCall f__law_draw (eCons (eVar 0) (eCons (eC (.int 7)) eNil))) eNil)) (gN 2) (sSet 1 (eCall f__law_rolled (eCons (eVar 1) (eCons (eIx (eC (.str "ensw")) (eCall f__law_draw (eCons (eVar 0) (eCons (eC (.int 4)) eNil)))) eNil)))))
  (sRet (eVar 1))))
def f__law_lying : FnD := runFn 3 m__law_lying
theorem p__law_lying {P : Program} {w : World} {K : PySem.W.Frag} {mg : Str → Option Value} {base : Heap} (at_ : At0 K mg "_law_lying" s__law_lying ["_law_pen_here"]) (h__law_draw : Has P w K mg base "_law_draw" 2 f__law_draw 1) (h__law_rolled : Has P w K mg base "_law_rolled" 2 f__law_rolled 1) (z_range : mg "range" = none) : Has P w K mg base "_law_lying" 1 f__law_lying 2 := by
  have nd := sc__law_lying.nd
  refine has_of (b := m__law_lying) (N := N__law_lying) (k := 1) at_ sc__law_lying rfl fun f cdv A outer s H E hr => ?_
  exact (ss_cons (s_set (i := 1) nd rfl (.inl rfl) (e_tup (a_cons k_int (a_cons k_int (a_cons k_int a_nil)))))
    (ss_cons (s_for PassesOwn.never rfl (i_rg1 (by rfl) z_range (a_cons (e_fn h__law_draw (hr.mono (by decide)) (lenA_cons (lenA_cons lenA_nil)) (a_cons (e_var (pv 0)) (a_cons k_int a_nil))) a_nil)) (g_name (i := 2) nd rfl (.inl rfl)) (ss_one (s_set (i := 1) nd rfl (.inl rfl) (e_fn h__law_rolled (hr.mono (by decide)) (lenA_cons (lenA_cons lenA_nil)) (a_cons (e_var (pv 1)) (a_cons (x_ix k_str (e_fn h__law_draw (hr.mono (by decide)) (lenA_cons (lenA_cons lenA_nil)) (a_cons (e_var (pv 0)) (a_cons k_int a_nil)))) a_nil))))))
    (ss_one (s_ret (e_var (pv 1))))))
abbrev s__law_pair : Stmt := topS 58
abbrev N__law_pair : List Str := ["_law_pen_here", "_law_floor_here", "_law_first", "_law_second"]
theorem sc__law_pair : FnScope N__law_pair ["_law_pen_here", "_law_floor_here"] (defScope s__law_pair) := ⟨rfl, rfl, rfl, by decide +kernel, rfl, by decide +kernel, by decide +kernel⟩
def m__law_pair : SS := (sSeq (sSet 2 (eCall f__law_draw (eCons (eVar 0) (eCons (eThen (eCons (eVar 1) eNil) (kE oLen)) eNil))))
  (sSeq (sSet 3 (eMod (eAdd (eAdd (eVar 2) (eC (.int 1))) (eCall f__law_draw (eCons (eVar 0) (eCons (eSub (eThen (eCons (eVar 1) eNil) (kE oLen)) (eC (.int 1))) eNil)))) (eThen (eCons (eVar 1) eNil) (kE oLen))))
  (sRet (eThen (eCons (eThen (eCons (eIx (eVar 1) (eVar 2)) (eCons (eCall f__law_lying (eCons (eVar 0) eNil)) eNil)) kTup) (eCons (eThen (eCons (eIx (eVar 1) (eVar 3)) (eCons (eCall f__law_lying (eCons (eVar 0) eNil)) eNil)) kTup) eNil)) kTup))))
def f__law_pair : FnD := runFn 4 m__law_pair
theorem p__law_pair {P : Program} {w : World} {K : PySem.W.Frag} {mg : Str → Option Value} {base : Heap} (at_ : At0 K mg "_law_pair" s__law_pair ["_law_pen_here", "_law_floor_here"]) (h__law_draw : Has P w K mg base "_law_draw" 2 f__law_draw 1) (h__law_lying : Has P w K mg base "_law_lying" 1 f__law_lying 2) (z_len : mg "len" = none) : Has P w K mg base "_law_pair" 2 f__law_pair 3 := by
  have nd := sc__law_pair.nd
  refine has_of (b := m__law_pair) (N := N__law_pair) (k := 2) at_ sc__law_pair rfl fun f cdv A outer s H E hr => ?_
  exact (ss_cons (s_set (i := 2) nd rfl (.inl rfl) (e_fn h__law_draw (hr.mono (by decide)) (lenA_cons (lenA_cons lenA_nil)) (a_cons (e_var (pv 0)) (a_cons (x_blt (w_len rfl hr) z_len (a_cons (e_var (pv 1)) a_nil)) a_nil))))
    (ss_cons (s_set (i := 3) nd rfl (.inl rfl) (x_mod (x_add (x_add (e_var (pv 2)) k_int) (e_fn h__law_draw (hr.mono (by decide)) (lenA_cons (lenA_cons lenA_nil)) (a_cons (e_var (pv 0)) (a_cons (x_sub (x_blt (w_len rfl hr) z_len (a_cons (e_var (pv 1)) a_nil)) k_int) a_nil)))) (x_blt (w_len rfl hr) z_len (a_cons (e_var (pv 1)) a_nil))))
    (ss_one (s_ret (e_tup (a_cons (e_tup (a_cons (x_ix (e_var (pv 1)) (e_var (pv 2))) (a_cons (e_fn h__law_lying (hr.mono (by decide)) (lenA_cons lenA_nil) (a_cons (e_var (pv 0)) a_nil)) a_nil))) (a_cons (e_tup (a_cons (x_ix (e_var (pv 1)) (e_var (pv 3))) (a_cons (e_fn h__law_lying (hr.mono (by decide)) (lenA_cons lenA_nil) (a_cons (e_var (pv 0)) a_nil)) a_nil))) a_nil)))))))
abbrev s__law_on : Stmt := topS 59
abbrev N__law_on : List Str := ["_law_cells", "_law_turn", "_law_later"]
theorem sc__law_on : FnScope N__law_on ["_law_cells", "_law_turn"] (defScope s__law_on) := ⟨rfl, rfl, rfl, by decide +kernel, rfl, by decide +kernel, by decide +kernel⟩
def m__law_on : SS := (sSeq (sSet 2 (eCall f__law_beside (eCons (eIx (eVar 0) (eIx (eVar 1) (eC (.int 0)))) (eCons (eIx (eVar 1) (eC (.int 1))) eNil))))
  (sRet (eIf (bT (eEq (eIx (eVar 1) (eC (.int 0))) (eC (.int 0)))) (eThen (eCons (eVar 2) (eCons (eIx (eVar 0) (eC (.int 1))) eNil)) kTup) (eThen (eCons (eIx (eVar 0) (eC (.int 0))) (eCons (eVar 2) eNil)) kTup))))
def f__law_on : FnD := runFn 3 m__law_on
theorem p__law_on {P : Program} {w : World} {K : PySem.W.Frag} {mg : Str → Option Value} {base : Heap} (at_ : At0 K mg "_law_on" s__law_on ["_law_cells", "_law_turn"]) (h__law_beside : Has P w K mg base "_law_beside" 2 f__law_beside 1) : Has P w K mg base "_law_on" 2 f__law_on 2 := by
  have nd := sc__law_on.nd
  refine has_of (b := m__law_on) (N := N__law_on) (k := 1) at_ sc__law_on rfl fun f cdv A outer s H E hr => ?_
  exact (ss_cons (s_set (i := 2) nd rfl (.inl rfl) (e_fn h__law_beside (hr.mono (by decide)) (lenA_cons (lenA_cons lenA_nil)) (a_cons (x_ix (e_var (pv 0)) (x_ix (e_var (pv 1)) k_int)) (a_cons (x_ix (e_var (pv 1)) k_int) a_nil))))
    (ss_one (s_ret (e_if (y_cmp (q_eq hr) (x_ix (e_var (pv 1)) k_int) k_int) (e_tup (a_cons (e_var (pv 2)) (a_cons (x_ix (e_var (pv 0)) k_int) a_nil))) (e_tup (a_cons (x_ix (e_var (pv 0)) k_int) (a_cons (e_var (pv 2)) a_nil)))))))
abbrev s__law_is_let : Stmt := topS 60
abbrev N__law_is_let : List Str := ["_law_floor_here", "_law_cells", "_law_turn", "_law_one", "_law_other"]
theorem sc__law_is_let : FnScope N__law_is_let ["_law_floor_here", "_law_cells", "_law_turn"] (defScope s__law_is_let) := ⟨rfl, rfl, rfl, by decide +kernel, rfl, by decide +kernel, by decide +kernel⟩
def m__law_is_let : SS := (sSeq (sAsg (eCall f__law_on (eCons (eVar 1) (eCons (eVar 2) eNil))) (gT 2 (gCn (gN 3) (gCn (gN 4) gNl))))
  (sRet (eB (bAnd (bT (eIn (eVar 3) (eVar 0))) (bAnd (bT (eIn (eVar 4) (eVar 0))) (bT (eNe (eVar 3) (eVar 4))))))))
def f__law_is_let : FnD := runFn 5 m__law_is_let
theorem p__law_is_let {P : Program} {w : World} {K : PySem.W.Frag} {mg : Str → Option Value} {base : Heap} (at_ : At0 K mg "_law_is_let" s__law_is_let ["_law_floor_here", "_law_cells", "_law_turn"]) (h__law_on : Has P w K mg base "_law_on" 2 f__law_on 2) : Has P w K mg base "_law_is_let" 3 f__law_is_let 3 := by
  have nd := sc__law_is_let.nd
  refine has_of (b := m__law_is_let) (N := N__law_is_let) (k := 2) at_ sc__law_is_let rfl fun f cdv A outer s H E hr => ?_
  exact (ss_cons (s_asg (e_fn h__law_on (hr.mono (by decide)) (lenA_cons (lenA_cons lenA_nil)) (a_cons (e_var (pv 1)) (a_cons (e_var (pv 2)) a_nil))) (g_tup rfl (gs_cons (g_name (i := 3) nd rfl (.inl rfl)) (gs_cons (g_name (i := 4) nd rfl (.inl rfl)) gs_nil))))
    (ss_one (s_ret (e_and (e_bool (x_cmp (q_in hr) (e_var (pv 3)) (e_var (pv 0)))) (e_and (e_bool (x_cmp (q_in hr) (e_var (pv 4)) (e_var (pv 0)))) (e_and1 (x_cmp (q_ne hr) (e_var (pv 3)) (e_var (pv 4)))))))))
abbrev s__law_all_turns : Stmt := topS 61
abbrev N__law_all_turns : List Str := ["_law_letter"]
theorem sc__law_all_turns : FnScope N__law_all_turns [] (defScope s__law_all_turns) := ⟨rfl, rfl, rfl, by decide +kernel, rfl, by decide +kernel, by decide +kernel⟩
def m__law_all_turns : SS := (sRet (eAdd (eLc (iSeq (eC (.str "ensw"))) (gN 0) bYes (eThen (eCons (eC (.int 0)) (eCons (eVar 0) eNil)) kTup) [0]) (eLc (iSeq (eC (.str "ensw"))) (gN 0) bYes (eThen (eCons (eC (.int 1)) (eCons (eVar 0) eNil)) kTup) [0])))
def f__law_all_turns : FnD := runFn 1 m__law_all_turns
theorem p__law_all_turns {P : Program} {w : World} {K : PySem.W.Frag} {mg : Str → Option Value} {base : Heap} (at_ : At0 K mg "_law_all_turns" s__law_all_turns [])  : Has P w K mg base "_law_all_turns" 0 f__law_all_turns 1 := by
  have nd := sc__law_all_turns.nd
  refine has_of (b := m__law_all_turns) (N := N__law_all_turns) (k := 0) at_ sc__law_all_turns rfl fun f cdv A outer s H E hr => ?_
  exact (ss_one (s_ret (x_add (x_lc [("_law_letter", 0)] rfl nd rfl (i_seq k_str) (blkOk_by (N := N__law_all_turns) (sc := defScope s__law_all_turns) (by decide +kernel)) (only_gN (by decide)) (fun _ _ _ _ _ => (v_name (i := 0) (by decide) nd rfl (.inl rfl))) (fun _ _ _ _ _ => ts_yes) (fun _ _ _ _ _ => (e_tup (a_cons k_int (a_cons (e_var (pv 0)) a_nil))))) (x_lc [("_law_letter", 0)] rfl nd rfl (i_seq k_str) (blkOk_by (N := N__law_all_turns) (sc := defScope s__law_all_turns) (by decide +kernel)) (only_gN (by decide)) (fun _ _ _ _ _ => (v_name (i := 0) (by decide) nd rfl (.inl rfl))) (fun _ _ _ _ _ => ts_yes) (fun _ _ _ _ _ => (e_tup (a_cons k_int (a_cons (e_var (pv 0)) a_nil))))))))
abbrev s__law_turns : Stmt := topS 62
abbrev N__law_turns : List Str := ["_law_pen_here", "_law_floor_here", "_law_pair_here", "_law_many", "_law_cells", "_law_found", "_law_turn", "_law_some", "_law_one"]
theorem sc__law_turns : FnScope N__law_turns ["_law_pen_here", "_law_floor_here", "_law_pair_here", "_law_many"] (defScope s__law_turns) := ⟨rfl, rfl, rfl, by decide +kernel, rfl, by decide +kernel, by decide +kernel⟩
def m__law_turns : SS := (sSeq (sParN [4, 5] (eCons (eThen (eCons (eIx (eIx (eVar 2) (eC (.int 0))) (eC (.int 0))) (eCons (eIx (eIx (eVar 2) (eC (.int 1))) (eC (.int 0))) eNil)) kTup) (eCons (eThen eNil kTup) eNil)))
  (sSeq (sFor (iRg1 (eCons (eVar 3) eNil)) (gN 6) (sSeq (sSet 7 (eLc (iSeq (eCall f__law_all_turns eNil)) (gN 8) (bT (eCall f__law_is_let (eCons (eVar 1) (eCons (eVar 4) (eCons (eVar 8) eNil))))) (eVar 8) [8]))
  (sIf (bT (eNe (eVar 7) (eThen eNil kLst))) (sSeq (sSet 5 (eAdd (eVar 5) (eThen (eCons (eCall f__law_pick (eCons (eVar 0) (eCons (eVar 7) eNil))) eNil) kTup)))
  (sSet 4 (eCall f__law_on (eCons (eVar 4) (eCons (eIx (eVar 5) (eNeg (eC (.int 1)))) eNil))))) sPass)))
  (sRet (eVar 5))))
def f__law_turns : FnD := runFn 9 m__law_turns
theorem p__law_turns {P : Program} {w : World} {K : PySem.W.Frag} {mg : Str → Option Value} {base : Heap} (at_ : At0 K mg "_law_turns" s__law_turns ["_law_pen_here", "_law_floor_here", "_law_pair_here", "_law_many"]) (h__law_all_turns : Has P w K mg base "_law_all_turns" 0 f__law_all_turns 1) (h__law_is_let : Has P w K mg base "_law_is_let" 3 f__law_is_let 3) (h__law_pick : Has P w K mg base "_law_pick" 2 f__law_pick 2) (h__law_on : Has P w K mg base "_law_on" 2 f__law_on 2) (z_range : mg "range" = none) : Has P w K mg base "_law_turns" 4 f__law_turns 4 := by
  have nd := sc__law_turns.nd
  refine has_of (b := m__law_turns) (N := N__law_turns) (k := 3) at_ sc__law_turns rfl fun f cdv A outer s H E hr => ?_
  exact (ss_cons (s_parN rfl (a_cons (e_tup (a_cons (x_ix (x_ix (e_var (pv 2)) k_int) k_int) (a_cons (x_ix (x_ix (e_var (pv 2)) k_int) k_int) a_nil))) (a_cons (e_tup a_nil) a_nil)) (ns_cons (pg_name (i := 4) nd rfl (.inr rfl)) (ns_cons (pg_name (i := 5) nd rfl (.inl rfl)) ns_nil)))
    (ss_cons (s_for PassesOwn.never rfl (i_rg1 (by rfl) z_range (a_cons (e_var (pv 3)) a_nil)) (g_name (i := 6) nd rfl (.inl rfl)) (ss_cons (x_setLc (i := 7) [("_law_one", 8)] rfl nd rfl rfl rfl (sw_true rfl rfl rfl (by decide +kernel)) (i_seq (e_fn0 h__law_all_turns (hr.mono (by decide)))) (blkOk_by (N := N__law_turns) (sc := defScope s__law_turns) (by decide +kernel)) (only_gN (by decide)) (fun _ _ _ _ _ => (v_name (i := 8) (by decide) nd rfl (.inl rfl))) (fun _ _ _ _ _ => (ts_one (b_truth (e_fn h__law_is_let (hr.mono (by decide)) (lenA_cons (lenA_cons (lenA_cons lenA_nil))) (a_cons (e_var (pv 1)) (a_cons (e_var (pv 4)) (a_cons (e_var (pv 8)) a_nil))))))) (fun _ _ _ _ _ => (e_var (pv 8))))
    (ss_one (s_if (y_cmp (q_ne hr) (e_var (pv 7)) (e_lst a_nil)) (ss_cons (s_set (i := 5) nd rfl (.inl rfl) (x_add (e_var (pv 5)) (e_tup (a_cons (e_fn h__law_pick (hr.mono (by decide)) (lenA_cons (lenA_cons lenA_nil)) (a_cons (e_var (pv 0)) (a_cons (e_var (pv 7)) a_nil))) a_nil))))
    (ss_one (s_set (i := 4) nd rfl (.inr rfl) (e_fn h__law_on (hr.mono (by decide)) (lenA_cons (lenA_cons lenA_nil)) (a_cons (e_var (pv 4)) (a_cons (x_ix (e_var (pv 5)) (x_neg k_int)) a_nil)))))) ss_nil))))
    (ss_one (s_ret (e_var (pv 5))))))
abbrev s__law_named_otherwise : Stmt := topS 63
abbrev N__law_named_otherwise : List Str := ["_law_turns_here", "_law_cube", "_law_letter"]
theorem sc__law_named_otherwise : FnScope N__law_named_otherwise ["_law_turns_here"] (defScope s__law_named_otherwise) := ⟨rfl, rfl, rfl, by decide +kernel, rfl, by decide +kernel, by decide +kernel⟩
def m__law_named_otherwise : SS := (sRet (eThen (eCons (eLc (iSeq (eVar 0)) (gT 2 (gCn (gN 1) (gCn (gN 2) gNl))) bYes (eThen (eCons (eSub (eC (.int 1)) (eVar 1)) (eCons (eVar 2) eNil)) kTup) [1, 2]) eNil) kTupN))
def f__law_named_otherwise : FnD := runFn 3 m__law_named_otherwise
theorem p__law_named_otherwise {P : Program} {w : World} {K : PySem.W.Frag} {mg : Str → Option Value} {base : Heap} (at_ : At0 K mg "_law_named_otherwise" s__law_named_otherwise ["_law_turns_here"]) (z_tuple : mg "tuple" = none) : Has P w K mg base "_law_named_otherwise" 1 f__law_named_otherwise 1 := by
  have nd := sc__law_named_otherwise.nd
  refine has_of (b := m__law_named_otherwise) (N := N__law_named_otherwise) (k := 0) at_ sc__law_named_otherwise rfl fun f cdv A outer s H E hr => ?_
  exact (ss_one (s_ret (x_bty (w_tuple rfl hr) z_tuple (a_cons (x_lc [("_law_cube", 1), ("_law_letter", 2)] rfl nd rfl (i_seq (e_var (pv 0))) (blkOk_by (N := N__law_named_otherwise) (sc := defScope s__law_named_otherwise) (by decide +kernel)) (only_gT (only_gCn (only_gN (by decide)) (only_gCn (only_gN (by decide)) only_gNl))) (fun _ _ _ _ _ => (v_tup rfl (vs_cons (v_name (i := 1) (by decide) nd rfl (.inl rfl)) (vs_cons (v_name (i := 2) (by decide) nd rfl (.inl rfl)) vs_nil)))) (fun _ _ _ _ _ => ts_yes) (fun _ _ _ _ _ => (e_tup (a_cons (x_sub k_int (e_var (pv 1))) (a_cons (e_var (pv 2)) a_nil))))) a_nil))))
abbrev s__law_firsts : Stmt := topS 64
abbrev N__law_firsts : List Str := ["_law_floor_here", "_law_pair_here", "_law_turns_here", "_law_about", "_law_one", "_law_cube"]
theorem sc__law_firsts : FnScope N__law_firsts ["_law_floor_here", "_law_pair_here", "_law_turns_here"] (defScope s__law_firsts) := ⟨rfl, rfl, rfl, by decide +kernel, rfl, by decide +kernel, by decide +kernel⟩
noncomputable def m__law_firsts : SS := (sSeq (sSet 3 (eCall f__law_named_otherwise (eCons (eCall f_least_turns (eCons (eVar 0) (eCons (eRevT (eVar 1)) (eCons (eCall f__law_named_otherwise (eCons (eVar 2) eNil)) eNil)))) eNil)))
  (sRet (eLc (iSeq (eThen (eCons (eThen (eCons (eCall f_least_turns (eCons (eVar 0) (eCons (eVar 1) (eCons (eVar 2) eNil)))) (eCons (eC (.int 0)) eNil)) kTup) (eCons (eThen (eCons (eVar 3) (eCons (eC (.int 1)) eNil)) kTup) eNil)) kLst)) (gT 2 (gCn (gN 4) (gCn (gN 5) gNl))) (bT (eEq (eIx (eIx (eVar 4) (eC (.int 0))) (eC (.int 0))) (eVar 5))) (eVar 4) [4, 5])))
noncomputable def f__law_firsts : FnD := runFn 6 m__law_firsts
theorem p__law_firsts {P : Program} {w : World} {K : PySem.W.Frag} {mg : Str → Option Value} {base : Heap} (at_ : At0 K mg "_law_firsts" s__law_firsts ["_law_floor_here", "_law_pair_here", "_law_turns_here"]) (h__law_named_otherwise : Has P w K mg base "_law_named_otherwise" 1 f__law_named_otherwise 1) (h_least_turns : Has P w K mg base "least_turns" 3 f_least_turns 9) : Has P w K mg base "_law_firsts" 3 f__law_firsts 10 := by
  have nd := sc__law_firsts.nd
  refine has_of (b := m__law_firsts) (N := N__law_firsts) (k := 9) at_ sc__law_firsts rfl fun f cdv A outer s H E hr => ?_
  exact (ss_cons (s_set (i := 3) nd rfl (.inl rfl) (e_fn h__law_named_otherwise (hr.mono (by decide)) (lenA_cons lenA_nil) (a_cons (e_fn h_least_turns (hr.mono (by decide)) (lenA_cons (lenA_cons (lenA_cons lenA_nil))) (a_cons (e_var (pv 0)) (a_cons (e_revT (e_var (pv 1))) (a_cons (e_fn h__law_named_otherwise (hr.mono (by decide)) (lenA_cons lenA_nil) (a_cons (e_var (pv 2)) a_nil)) a_nil)))) a_nil)))
    (ss_one (s_ret (x_lc [("_law_one", 4), ("_law_cube", 5)] rfl nd rfl (i_seq (e_lst (a_cons (e_tup (a_cons (e_fn h_least_turns (hr.mono (by decide)) (lenA_cons (lenA_cons (lenA_cons lenA_nil))) (a_cons (e_var (pv 0)) (a_cons (e_var (pv 1)) (a_cons (e_var (pv 2)) a_nil)))) (a_cons k_int a_nil))) (a_cons (e_tup (a_cons (e_var (pv 3)) (a_cons k_int a_nil))) a_nil)))) (blkOk_by (N := N__law_firsts) (sc := defScope s__law_firsts) (by decide +kernel)) (only_gT (only_gCn (only_gN (by decide)) (only_gCn (only_gN (by decide)) only_gNl))) (fun _ _ _ _ _ => (v_tup rfl (vs_cons (v_name (i := 4) (by decide) nd rfl (.inl rfl)) (vs_cons (v_name (i := 5) (by decide) nd rfl (.inl rfl)) vs_nil)))) (fun _ _ _ _ _ => (ts_one (y_cmp (q_eq hr) (x_ix (x_ix (e_var (pv 4)) k_int) k_int) (e_var (pv 5))))) (fun _ _ _ _ _ => (e_var (pv 4)))))))
abbrev s__law_sum_right : Stmt := topS 65
abbrev N__law_sum_right : List Str := ["_law_floor_here", "_law_pair_here", "_law_turns_here", "_law_lap", "_law_firsts_here", "_law_many", "_law_one"]
theorem sc__law_sum_right : FnScope N__law_sum_right ["_law_floor_here", "_law_pair_here", "_law_turns_here"] (defScope s__law_sum_right) := ⟨rfl, rfl, rfl, by decide +kernel, rfl, by decide +kernel, by decide +kernel⟩
noncomputable def m__law_sum_right : SS := (sSeq (sFor (iRg1 (eCons (eC (.int 24)) eNil)) (gN 3) (sSeq (sIf (bT (eEq (eVar 2) (eThen eNil kTup))) (sRet (eEq (eCall f_how_many (eCons (eVar 0) (eCons (eVar 1) (eCons (eVar 2) eNil)))) (eC (.int 1)))) sPass)
  (sSeq (sPar 4 5 (eCons (eCall f__law_firsts (eCons (eVar 0) (eCons (eVar 1) (eCons (eVar 2) eNil)))) (eCons (eC (.int 0)) eNil)))
  (sSeq (sIf (bT (eEq (eVar 4) (eThen eNil kLst))) (sRet (eC (.bool false))) sPass)
  (sSeq (sFor (iSeq (eVar 4)) (gN 6) (sSet 5 (eAdd (eVar 5) (eCall f_how_many (eCons (eVar 0) (eCons (eCall f_pair_behind (eCons (eVar 0) (eCons (eVar 1) (eCons (eSl (eVar 6) oNo (oSome (eC (.int 1)))) eNil)))) (eCons (eSl (eVar 6) (oSome (eC (.int 1))) oNo) eNil)))))))
  (sSeq (sIf (bT (eNe (eCall f_how_many (eCons (eVar 0) (eCons (eVar 1) (eCons (eVar 2) eNil)))) (eVar 5))) (sRet (eC (.bool false))) sPass)
  (sPar 1 2 (eCons (eCall f_pair_behind (eCons (eVar 0) (eCons (eVar 1) (eCons (eSl (eIx (eVar 4) (eNeg (eC (.int 1)))) oNo (oSome (eC (.int 1)))) eNil)))) (eCons (eSl (eIx (eVar 4) (eNeg (eC (.int 1)))) (oSome (eC (.int 1))) oNo) eNil)))))))))
  (sRet (eB (bOr (bT (eEq (eVar 2) (eThen eNil kTup))) (bT (eEq (eCall f_how_many (eCons (eVar 0) (eCons (eVar 1) (eCons (eVar 2) eNil)))) (eC (.int 1))))))))
noncomputable def f__law_sum_right : FnD := runFn 7 m__law_sum_right
theorem p__law_sum_right {P : Program} {w : World} {K : PySem.W.Frag} {mg : Str → Option Value} {base : Heap} (at_ : At0 K mg "_law_sum_right" s__law_sum_right ["_law_floor_here", "_law_pair_here", "_law_turns_here"]) (h_how_many : Has P w K mg base "how_many" 3 f_how_many 9) (h__law_firsts : Has P w K mg base "_law_firsts" 3 f__law_firsts 10) (h_pair_behind : Has P w K mg base "pair_behind" 3 f_pair_behind 9) (z_range : mg "range" = none) : Has P w K mg base "_law_sum_right" 3 f__law_sum_right 11 := by
  have nd := sc__law_sum_right.nd
  refine has_of (b := m__law_sum_right) (N := N__law_sum_right) (k := 10) at_ sc__law_sum_right rfl fun f cdv A outer s H E hr => ?_
  exact (ss_cons (s_for PassesOwn.never rfl (i_rg1 (by rfl) z_range (a_cons k_int a_nil)) (g_name (i := 3) nd rfl (.inl rfl)) (ss_cons (s_if (y_cmp (q_eq hr) (e_var (pv 2)) (e_tup a_nil)) (ss_one (s_ret (x_cmp (q_eq hr) (e_fn h_how_many (hr.mono (by decide)) (lenA_cons (lenA_cons (lenA_cons lenA_nil))) (a_cons (e_var (pv 0)) (a_cons (e_var (pv 1)) (a_cons (e_var (pv 2)) a_nil)))) k_int))) ss_nil)
    (ss_cons (s_par (i := 4) (j := 5) rfl nd rfl rfl (by decide) rfl rfl (a_cons (e_fn h__law_firsts (hr.mono (by decide)) (lenA_cons (lenA_cons (lenA_cons lenA_nil))) (a_cons (e_var (pv 0)) (a_cons (e_var (pv 1)) (a_cons (e_var (pv 2)) a_nil)))) (a_cons k_int a_nil)) rfl)
    (ss_cons (s_if (y_cmp (q_eq hr) (e_var (pv 4)) (e_lst a_nil)) (ss_one (s_ret k_bl)) ss_nil)
    (ss_cons (s_for PassesOwn.never rfl (i_seq (e_var (pv 4))) (g_name (i := 6) nd rfl (.inl rfl)) (ss_one (s_set (i := 5) nd rfl (.inl rfl) (x_add (e_var (pv 5)) (e_fn h_how_many (hr.mono (by decide)) (lenA_cons (lenA_cons (lenA_cons lenA_nil))) (a_cons (e_var (pv 0)) (a_cons (e_fn h_pair_behind (hr.mono (by decide)) (lenA_cons (lenA_cons (lenA_cons lenA_nil))) (a_cons (e_var (pv 0)) (a_cons (e_var (pv 1)) (a_cons (e_sl (e_var (pv 6)) o_no (o_some k_int)) a_nil)))) (a_cons (e_sl (e_var (pv 6)) (o_some k_int) o_no) a_nil))))))))
    (ss_cons (s_if (y_cmp (q_ne hr) (e_fn h_how_many (hr.mono (by decide)) (lenA_cons (lenA_cons (lenA_cons lenA_nil))) (a_cons (e_var (pv 0)) (a_cons (e_var (pv 1)) (a_cons (e_var (pv 2)) a_nil)))) (e_var (pv 5))) (ss_one (s_ret k_bl)) ss_nil)
    (ss_one (s_par (i := 1) (j := 2) rfl nd rfl rfl (by decide) rfl rfl (a_cons (e_fn h_pair_behind (hr.mono (by decide)) (lenA_cons (lenA_cons (lenA_cons lenA_nil))) (a_cons (e_var (pv 0)) (a_cons (e_var (pv 1)) (a_cons (e_sl (x_ix (e_var (pv 4)) (x_neg k_int)) o_no (o_some k_int)) a_nil)))) (a_cons (e_sl (x_ix (e_var (pv 4)) (x_neg k_int)) (o_some k_int) o_no) a_nil)) rfl))))))))
    (ss_one (s_ret (e_or (e_bool (x_cmp (q_eq hr) (e_var (pv 2)) (e_tup a_nil))) (e_and1 (x_cmp (q_eq hr) (e_fn h_how_many (hr.mono (by decide)) (lenA_cons (lenA_cons (lenA_cons lenA_nil))) (a_cons (e_var (pv 0)) (a_cons (e_var (pv 1)) (a_cons (e_var (pv 2)) a_nil)))) k_int))))))
abbrev s__law_apart_right : Stmt := topS 66
abbrev N__law_apart_right : List Str := ["_law_pen_here", "_law_floor_here", "_law_pair_here", "_law_turns_here", "_law_mine", "_law_its", "_law_due", "_law_number", "_law_column", "_law_turn"]
theorem sc__law_apart_right : FnScope N__law_apart_right ["_law_pen_here"] (defScope s__law_apart_right) := ⟨rfl, rfl, rfl, by decide +kernel, rfl, by decide +kernel, by decide +kernel⟩
noncomputable def m__law_apart_right : SS := (sSeq (sSet 1 (eThen (eCons (eThen (eCons (eAdd (eLc (iRg1 (eCons (eC (.int 4)) eNil)) (gN 8) bYes (eThen (eCons (eVar 8) (eCons (eC (.int 0)) eNil)) kTup) [8]) (eLc (iRg1 (eCons (eC (.int 4)) eNil)) (gN 8) bYes (eThen (eCons (eVar 8) (eCons (eC (.int 2)) eNil)) kTup) [8])) eNil) kSorted) eNil) kTupN))
  (sSeq (sSet 2 (eThen (eCons (eThen (eCons (eThen (eCons (eCall f__law_draw (eCons (eVar 0) (eCons (eC (.int 4)) eNil))) (eCons (eC (.int 0)) eNil)) kTup) (eCons (eCall f__law_lying (eCons (eVar 0) eNil)) eNil)) kTup) (eCons (eThen (eCons (eThen (eCons (eCall f__law_draw (eCons (eVar 0) (eCons (eC (.int 4)) eNil))) (eCons (eC (.int 2)) eNil)) kTup) (eCons (eCall f__law_lying (eCons (eVar 0) eNil)) eNil)) kTup) eNil)) kTup))
  (sSeq (sSet 3 (eCall f__law_turns (eCons (eVar 0) (eCons (eVar 1) (eCons (eVar 2) (eCons (eCall f__law_draw (eCons (eVar 0) (eCons (eC (.int 25)) eNil))) eNil))))))
  (sSeq (sPar 4 5 (eCons (eLc (iSeq (eVar 3)) (gN 9) (bT (eEq (eIx (eVar 9) (eC (.int 0))) (eC (.int 0)))) (eVar 9) [9]) (eCons (eLc (iSeq (eVar 3)) (gN 9) (bT (eEq (eIx (eVar 9) (eC (.int 0))) (eC (.int 1)))) (eVar 9) [9]) eNil)))
  (sSeq (sSet 6 (eC (.int 1)))
  (sSeq (sFor (iRg1 (eCons (eThen (eCons (eVar 4) eNil) (kE oLen)) eNil)) (gN 7) (sSet 6 (eFdiv (eMul (eVar 6) (eSub (eThen (eCons (eVar 3) eNil) (kE oLen)) (eVar 7))) (eAdd (eVar 7) (eC (.int 1))))))
  (sRet (eB (bAnd (bT (eEq (eCall f_how_many (eCons (eVar 1) (eCons (eVar 2) (eCons (eVar 3) eNil)))) (eVar 6))) (bT (eEq (eCall f_least_turns (eCons (eVar 1) (eCons (eVar 2) (eCons (eVar 3) eNil)))) (eThen (eCons (eAdd (eVar 4) (eVar 5)) eNil) kTupN))))))))))))
noncomputable def f__law_apart_right : FnD := runFn 10 m__law_apart_right
theorem p__law_apart_right {P : Program} {w : World} {K : PySem.W.Frag} {mg : Str → Option Value} {base : Heap} (at_ : At0 K mg "_law_apart_right" s__law_apart_right ["_law_pen_here"]) (h__law_lying : Has P w K mg base "_law_lying" 1 f__law_lying 2) (h__law_draw : Has P w K mg base "_law_draw" 2 f__law_draw 1) (h__law_turns : Has P w K mg base "_law_turns" 4 f__law_turns 4) (h_least_turns : Has P w K mg base "least_turns" 3 f_least_turns 9) (h_how_many : Has P w K mg base "how_many" 3 f_how_many 9) (z_tuple : mg "tuple" = none) (z_sorted : mg "sorted" = none) (z_range : mg "range" = none) (z_len : mg "len" = none) : Has P w K mg base "_law_apart_right" 1 f__law_apart_right 10 := by
  have nd := sc__law_apart_right.nd
  refine has_of (b := m__law_apart_right) (N := N__law_apart_right) (k := 9) at_ sc__law_apart_right rfl fun f cdv A outer s H E hr => ?_
  exact (ss_cons (s_set (i := 1) nd rfl (.inl rfl) (x_bty (w_tuple rfl hr) z_tuple (a_cons (x_blt (w_sorted rfl hr) z_sorted (a_cons (x_add (x_lc [("_law_column", 8)] rfl nd rfl (i_rg1 (by rfl) z_range (a_cons k_int a_nil)) (blkOk_by (N := N__law_apart_right) (sc := defScope s__law_apart_right) (by decide +kernel)) (only_gN (by decide)) (fun _ _ _ _ _ => (v_name (i := 8) (by decide) nd rfl (.inl rfl))) (fun _ _ _ _ _ => ts_yes) (fun _ _ _ _ _ => (e_tup (a_cons (e_var (pv 8)) (a_cons k_int a_nil))))) (x_lc [("_law_column", 8)] rfl nd rfl (i_rg1 (by rfl) z_range (a_cons k_int a_nil)) (blkOk_by (N := N__law_apart_right) (sc := defScope s__law_apart_right) (by decide +kernel)) (only_gN (by decide)) (fun _ _ _ _ _ => (v_name (i := 8) (by decide) nd rfl (.inl rfl))) (fun _ _ _ _ _ => ts_yes) (fun _ _ _ _ _ => (e_tup (a_cons (e_var (pv 8)) (a_cons k_int a_nil)))))) a_nil)) a_nil)))
    (ss_cons (s_set (i := 2) nd rfl (.inl rfl) (e_tup (a_cons (e_tup (a_cons (e_tup (a_cons (e_fn h__law_draw (hr.mono (by decide)) (lenA_cons (lenA_cons lenA_nil)) (a_cons (e_var (pv 0)) (a_cons k_int a_nil))) (a_cons k_int a_nil))) (a_cons (e_fn h__law_lying (hr.mono (by decide)) (lenA_cons lenA_nil) (a_cons (e_var (pv 0)) a_nil)) a_nil))) (a_cons (e_tup (a_cons (e_tup (a_cons (e_fn h__law_draw (hr.mono (by decide)) (lenA_cons (lenA_cons lenA_nil)) (a_cons (e_var (pv 0)) (a_cons k_int a_nil))) (a_cons k_int a_nil))) (a_cons (e_fn h__law_lying (hr.mono (by decide)) (lenA_cons lenA_nil) (a_cons (e_var (pv 0)) a_nil)) a_nil))) a_nil))))
    (ss_cons (s_set (i := 3) nd rfl (.inl rfl) (e_fn h__law_turns (hr.mono (by decide)) (lenA_cons (lenA_cons (lenA_cons (lenA_cons lenA_nil)))) (a_cons (e_var (pv 0)) (a_cons (e_var (pv 1)) (a_cons (e_var (pv 2)) (a_cons (e_fn h__law_draw (hr.mono (by decide)) (lenA_cons (lenA_cons lenA_nil)) (a_cons (e_var (pv 0)) (a_cons k_int a_nil))) a_nil))))))
    (ss_cons (s_par (i := 4) (j := 5) rfl nd rfl rfl (by decide) rfl rfl (a_cons (x_lc [("_law_turn", 9)] rfl nd rfl (i_seq (e_var (pv 3))) (blkOk_by (N := N__law_apart_right) (sc := defScope s__law_apart_right) (by decide +kernel)) (only_gN (by decide)) (fun _ _ _ _ _ => (v_name (i := 9) (by decide) nd rfl (.inl rfl))) (fun _ _ _ _ _ => (ts_one (y_cmp (q_eq hr) (x_ix (e_var (pv 9)) k_int) k_int))) (fun _ _ _ _ _ => (e_var (pv 9)))) (a_cons (x_lc [("_law_turn", 9)] rfl nd rfl (i_seq (e_var (pv 3))) (blkOk_by (N := N__law_apart_right) (sc := defScope s__law_apart_right) (by decide +kernel)) (only_gN (by decide)) (fun _ _ _ _ _ => (v_name (i := 9) (by decide) nd rfl (.inl rfl))) (fun _ _ _ _ _ => (ts_one (y_cmp (q_eq hr) (x_ix (e_var (pv 9)) k_int) k_int))) (fun _ _ _ _ _ => (e_var (pv 9)))) a_nil)) rfl)
    (ss_cons (s_set (i := 6) nd rfl (.inl rfl) k_int)
    (ss_cons (s_for PassesOwn.never rfl (i_rg1 (by rfl) z_range (a_cons (x_blt (w_len rfl hr) z_len (a_cons (e_var (pv 4)) a_nil)) a_nil)) (g_name (i := 7) nd rfl (.inl rfl)) (ss_one (s_set (i := 6) nd rfl (.inl rfl) (x_fdiv (x_mul (e_var (pv 6)) (x_sub (x_blt (w_len rfl hr) z_len (a_cons (e_var (pv 3)) a_nil)) (e_var (pv 7)))) (x_add (e_var (pv 7)) k_int)))))
    (ss_one (s_ret (e_and (e_bool (x_cmp (q_eq hr) (e_fn h_how_many (hr.mono (by decide)) (lenA_cons (lenA_cons (lenA_cons lenA_nil))) (a_cons (e_var (pv 1)) (a_cons (e_var (pv 2)) (a_cons (e_var (pv 3)) a_nil)))) (e_var (pv 6)))) (e_and1 (x_cmp (q_eq hr) (e_fn h_least_turns (hr.mono (by decide)) (lenA_cons (lenA_cons (lenA_cons lenA_nil))) (a_cons (e_var (pv 1)) (a_cons (e_var (pv 2)) (a_cons (e_var (pv 3)) a_nil)))) (x_bty (w_tuple rfl hr) z_tuple (a_cons (x_add (e_var (pv 4)) (e_var (pv 5))) a_nil)))))))))))))
abbrev s_law : Stmt := topS 67
abbrev N_law : List Str := ["_law_script", "_law_k", "_law_pen_here", "_law_turn", "_law_floor_here", "_law_pair_here", "_law_turns_here"]
theorem sc_law : FnScope N_law ["_law_script"] (defScope s_law) := ⟨rfl, rfl, rfl, by decide +kernel, rfl, by decide +kernel, by decide +kernel⟩
noncomputable def m_law : SS := (sSeq (sFor (iRg1 (eCons (eThen (eCons (eC (.int 1)) (eCons (eThen (eCons (eThen (eCons (eVar 0) eNil) (kE oLen)) (eCons (eC (.int 3)) eNil)) (kE oMin)) eNil)) (kE oMax)) eNil)) (gN 1) (sSeq (sSet 2 (eCall f__law_pen (eCons (eCall f__law_cell (eCons (eVar 0) (eCons (eVar 1) eNil))) eNil)))
  (sFor (iRg1 (eCons (eC (.int 3)) eNil)) (gN 3) (sSeq (sSet 4 (eCall f__law_floor (eCons (eVar 2) (eCons (eC (.int 2)) (eCons (eC (.int 9)) eNil)))))
  (sSeq (sSet 5 (eCall f__law_pair (eCons (eVar 2) (eCons (eVar 4) eNil))))
  (sSeq (sSet 6 (eCall f__law_turns (eCons (eVar 2) (eCons (eVar 4) (eCons (eVar 5) (eCons (eIx (eThen (eCons (eC (.int 24)) (eCons (eCall f__law_draw (eCons (eVar 2) (eCons (eC (.int 25)) eNil))) (eCons (eC (.int 8)) eNil))) kLst) (eVar 3)) eNil))))))
  (sIf (bOr (bNot (bT (eCall f__law_sum_right (eCons (eVar 4) (eCons (eVar 5) (eCons (eVar 6) eNil)))))) (bNot (bT (eCall f__law_apart_right (eCons (eVar 2) eNil))))) (sRet (eC (.bool false))) sPass)))))))
  (sRet (eC (.bool true))))
noncomputable def f_law : FnD := runFn 7 m_law
theorem q_law {P : Program} {w : World} {K : PySem.W.Frag} {mg : Str → Option Value} {base : Heap} {f : Addr} {fd : FuncData} (Fn : Fun K "law" "law" s_law f fd) (h__law_pen : Has P w K mg base "_law_pen" 1 f__law_pen 1) (h__law_cell : Has P w K mg base "_law_cell" 2 f__law_cell 1) (h__law_floor : Has P w K mg base "_law_floor" 3 f__law_floor 3) (h__law_pair : Has P w K mg base "_law_pair" 2 f__law_pair 3) (h__law_turns : Has P w K mg base "_law_turns" 4 f__law_turns 4) (h__law_draw : Has P w K mg base "_law_draw" 2 f__law_draw 1) (h__law_apart_right : Has P w K mg base "_law_apart_right" 1 f__law_apart_right 10) (h__law_sum_right : Has P w K mg base "_law_sum_right" 3 f__law_sum_right 11) (z_range : mg "range" = none) (z_max : mg "max" = none) (z_min : mg "min" = none) (z_len : mg "len" = none) : FnOk P w K mg base CX0 12 f fd ["_law_script"] (spF K f_law 1) := by
  have nd := sc_law.nd
  refine fn_ok (b := m_law) (N := N_law) (k := 11) Fn sc_law rfl fun cdv A outer s H E hr => ?_
  exact (ss_cons (s_for PassesOwn.never rfl (i_rg1 (by rfl) z_range (a_cons (x_blt (w_max rfl hr) z_max (a_cons k_int (a_cons (x_blt (w_min rfl hr) z_min (a_cons (x_blt (w_len rfl hr) z_len (a_cons (e_var (pv 0)) a_nil)) (a_cons k_int a_nil))) a_nil))) a_nil)) (g_name (i := 1) nd rfl (.inl rfl)) (ss_cons (s_set (i := 2) nd rfl (.inl rfl) (e_fn h__law_pen (hr.mono (by decide)) (lenA_cons lenA_nil) (a_cons (e_fn h__law_cell (hr.mono (by decide)) (lenA_cons (lenA_cons lenA_nil)) (a_cons (e_var (pv 0)) (a_cons (e_var (pv 1)) a_nil))) a_nil)))
    (ss_one (s_for PassesOwn.never rfl (i_rg1 (by rfl) z_range (a_cons k_int a_nil)) (g_name (i := 3) nd rfl (.inl rfl)) (ss_cons (s_set (i := 4) nd rfl (.inl rfl) (e_fn h__law_floor (hr.mono (by decide)) (lenA_cons (lenA_cons (lenA_cons lenA_nil))) (a_cons (e_var (pv 2)) (a_cons k_int (a_cons k_int a_nil)))))
    (ss_cons (s_set (i := 5) nd rfl (.inl rfl) (e_fn h__law_pair (hr.mono (by decide)) (lenA_cons (lenA_cons lenA_nil)) (a_cons (e_var (pv 2)) (a_cons (e_var (pv 4)) a_nil))))
    (ss_cons (s_set (i := 6) nd rfl (.inl rfl) (e_fn h__law_turns (hr.mono (by decide)) (lenA_cons (lenA_cons (lenA_cons (lenA_cons lenA_nil)))) (a_cons (e_var (pv 2)) (a_cons (e_var (pv 4)) (a_cons (e_var (pv 5)) (a_cons (x_ix (e_lst (a_cons k_int (a_cons (e_fn h__law_draw (hr.mono (by decide)) (lenA_cons (lenA_cons lenA_nil)) (a_cons (e_var (pv 2)) (a_cons k_int a_nil))) (a_cons k_int a_nil)))) (e_var (pv 3))) a_nil))))))
    (ss_one (s_if (PW.pt (b_or (b_not (b_truth (e_fn h__law_sum_right (hr.mono (by decide)) (lenA_cons (lenA_cons (lenA_cons lenA_nil))) (a_cons (e_var (pv 4)) (a_cons (e_var (pv 5)) (a_cons (e_var (pv 6)) a_nil)))))) (b_or1 (b_not (b_truth (e_fn h__law_apart_right (hr.mono (by decide)) (lenA_cons lenA_nil) (a_cons (e_var (pv 2)) a_nil))))))) (ss_one (s_ret k_bl)) ss_nil)))))))))
    (ss_one (s_ret k_bl)))
end
end L66

end
section
set_option linter.all false
set_option autoImplicit false
set_option Elab.async false
namespace MM
open PySem L2 T3
theorem pl_int (n : Nat) (i : Int) : pl n (.int i) = true := by cases n <;> rfl
theorem pl_cell (c : Cell) : pl 1 (clD c) = true := rfl
theorem pl_tup {α : Type} {n : Nat} {f : α → PyData} {xs : List α} (h : ∀ x ∈ xs, pl n (f x) = true) : pl (n + 1) (.tuple (xs.map f)) = true := by
  simpa [pl] using h
theorem pl_lst {α : Type} {n : Nat} {f : α → PyData} {xs : List α} (h : ∀ x ∈ xs, pl n (f x) = true) : pl (n + 1) (.list (xs.map f)) = true := by
  simpa [pl] using h
end MM

end
section
set_option linter.all false
set_option autoImplicit false
set_option Elab.async false
namespace MM
open PySem L2 T3
theorem pl_in1 {x : PyData} {xs : List PyData} {n m : Nat} (h : pl n x = true) (h' : ∀ y ∈ xs, pl m y = true) (hn : n ≤ 50) (hm : m ≤ 50) (neg : Bool) {c : PyData} (hc : c = .tuple xs ∨ c = .list xs) (hx : x ∈ xs) : oIn neg [x, c] = some (.bool (!neg)) := by
  haveI := Classical.propDecidable (x ∈ xs)
  rw [pl_in h h' hn hm neg c hc]
  cases neg <;> simp [hx]
theorem pl_in0 {x : PyData} {xs : List PyData} {n m : Nat} (h : pl n x = true) (h' : ∀ y ∈ xs, pl m y = true) (hn : n ≤ 50) (hm : m ≤ 50) (neg : Bool) {c : PyData} (hc : c = .tuple xs ∨ c = .list xs) (hx : x ∉ xs) : oIn neg [x, c] = some (.bool neg) := by
  haveI := Classical.propDecidable (x ∈ xs)
  rw [pl_in h h' hn hm neg c hc]
  cases neg <;> simp [hx]
theorem clD_inj {a b : Cell} (h : clD a = clD b) : a = b := by
  obtain ⟨a1, a2⟩ := a
  obtain ⟨b1, b2⟩ := b
  simp [clD] at h
  rw [h.1, h.2]
theorem mem_clD {c : Cell} {F : List Cell} : clD c ∈ F.map clD ↔ c ∈ F := by
  constructor
  · intro h
    obtain ⟨d, hd, e⟩ := List.mem_map.mp h
    rw [← clD_inj e]
    exact hd
  · exact fun h => List.mem_map.mpr ⟨c, h, rfl⟩
theorem pl_cells (F : List Cell) : ∀ y ∈ F.map clD, pl 1 y = true := by
  intro y hy
  obtain ⟨c, _, rfl⟩ := List.mem_map.mp hy
  rfl
theorem ix20 (a b : PyData) : oIx [.tuple [a, b], .int 0] = some a := rfl
theorem ix21 (a b : PyData) : oIx [.tuple [a, b], .int 1] = some b := rfl
theorem wS_gen {f : SS} {env : Sl} {P : Fl → Sl → Prop} (h : ∀ E, E = env → wS f E P) : wS f env P := h env rfl
theorem al_start {k n : Nat} {as : List S} (h : as.length = k) (l : k ≤ n) : Al k n (startE n as) := by
  subst h
  exact Al.start as l
end MM

end
section
set_option linter.all false
set_option autoImplicit false
set_option Elab.async false
set_option maxRecDepth 10000
namespace TC
theorem n_sum (L : List Bool) : List.count false L + List.count true L = L.length := by
  induction L with
  | nil => rfl
  | cons c L ih => cases c <;> simp at * <;> omega
def up (b : Bool) : Nat → List Bool → List Nat
  | _, [] => []
  | k, c :: L => if c = b then k :: up b k L else up b (k + 1) L
def lastM (r : Nat → Bool) : Nat → Nat
  | 0 => 0
  | k + 1 => if r k = true then k + 1 else lastM r k
def wts (R : Nat → Nat → Bool) (b : Bool) : Nat → Nat → List Bool → List Nat
  | _, _, [] => []
  | i, k, c :: L => if c = b then lastM (R i) k :: wts R b (i + 1) k L else wts R b i (k + 1) L
theorem lastM_le (r : Nat → Bool) : ∀ k, lastM r k ≤ k
  | 0 => Nat.le_refl _
  | k + 1 => by
    unfold lastM
    split
    · exact Nat.le_refl _
    · exact Nat.le_succ_of_le (lastM_le r k)
theorem lastM_lt {r : Nat → Bool} {j : Nat} (h : r j = true) : ∀ {k}, j < k → j < lastM r k
  | 0, z => absurd z (Nat.not_lt_zero _)
  | k + 1, z => by
    unfold lastM
    split
    · exact z
    · rename_i n
      have : j ≠ k := fun e => n (e ▸ h)
      exact lastM_lt h (by omega)
theorem lastM_mem (r : Nat → Bool) : ∀ k, lastM r k = 0 ∨ ∃ j, lastM r k = j + 1 ∧ r j = true ∧ j < k
  | 0 => .inl rfl
  | k + 1 => by
    unfold lastM
    split
    · rename_i h
      exact .inr ⟨k, rfl, h, Nat.lt_succ_self _⟩
    · rcases lastM_mem r k with h | ⟨j, h1, h2, h3⟩
      · exact .inl h
      · exact .inr ⟨j, h1, h2, Nat.lt_succ_of_lt h3⟩
theorem lastM_mono {r : Nat → Bool} {k k' : Nat} (h : ∀ j, r j = true → j < k → j < k') : lastM r k ≤ lastM r k' := by
  rcases lastM_mem r k with z | ⟨j, h1, h2, h3⟩
  · omega
  · have := lastM_lt h2 (h j h2 h3)
    omega
theorem lastM_eq {r : Nat → Bool} {k k' : Nat} (h : ∀ j, r j = true → (j < k ↔ j < k')) : lastM r k = lastM r k' :=
  Nat.le_antisymm (lastM_mono fun j q => (h j q).mp) (lastM_mono fun j q => (h j q).mpr)
theorem up_len (b : Bool) : ∀ (L : List Bool) (k : Nat), (up b k L).length = L.count b
  | [], k => rfl
  | c :: L, k => by
    unfold up
    split
    · rename_i h
      subst h
      simp [up_len c L]
    · rename_i h
      rw [up_len b L]
      simp [h]
theorem wts_len (R : Nat → Nat → Bool) (b : Bool) : ∀ (L : List Bool) (i k : Nat), (wts R b i k L).length = L.count b
  | [], i, k => rfl
  | c :: L, i, k => by
    unfold wts
    split
    · rename_i h
      subst h
      simp [wts_len R c L]
    · rename_i h
      rw [wts_len R b L]
      simp [h]
theorem wts_at (R : Nat → Nat → Bool) (b : Bool) : ∀ (L : List Bool) (i k m : Nat), (wts R b i k L)[m]? = ((up b k L)[m]?).map (lastM (R (i + m)))
  | [], i, k, m => by simp [wts, up]
  | c :: L, i, k, m => by
    unfold wts up
    split
    · cases m with
      | zero => simp
      | succ m =>
        have := wts_at R b L (i + 1) k m
        simp only [List.getElem?_cons_succ, this]
        rw [show i + (m + 1) = i + 1 + m by omega]
    · exact wts_at R b L i (k + 1) m
theorem up_ge (b : Bool) : ∀ (L : List Bool) (k m a : Nat), (up b k L)[m]? = some a → k ≤ a ∧ a ≤ k + (L.length - L.count b)
  | [], k, m, a, h => by simp [up] at h
  | c :: L, k, m, a, h => by
    have hc := List.count_le_length (a := b) (l := L)
    unfold up at h
    split at h
    · rename_i e
      subst e
      cases m with
      | zero => simp at h; simp; omega
      | succ m =>
        have := up_ge c L k m a (by simpa using h)
        simp; omega
    · rename_i e
      have := up_ge b L (k + 1) m a h
      rw [List.count_cons_of_ne (by simpa using e)]
      simp
      omega
theorem dual : ∀ (L : List Bool) (i j m n a b : Nat), (up false j L)[m]? = some a → (up true i L)[n]? = some b → (j + n < a ↔ ¬ i + m < b)
  | [], i, j, m, n, a, b, h, _ => by simp [up] at h
  | false :: L, i, j, m, n, a, b, h, h' => by
    simp only [up, if_true] at h
    have e : up true i (false :: L) = up true (i + 1) L := by simp [up]
    rw [e] at h'
    cases m with
    | zero =>
      have := (up_ge true L (i + 1) n b h').1
      simp at h
      omega
    | succ m =>
      have := dual L (i + 1) j m n a b (by simpa using h) h'
      omega
  | true :: L, i, j, m, n, a, b, h, h' => by
    simp only [up, if_true] at h'
    have e : up false j (true :: L) = up false (j + 1) L := by simp [up]
    rw [e] at h
    cases n with
    | zero =>
      have := (up_ge false L (j + 1) m a h).1
      simp at h'
      omega
    | succ n =>
      have := dual L i (j + 1) m n a b h (by simpa using h')
      omega
def go1 (w : List Nat) (i k : Nat) : Bool := match w[i]? with
  | some x => decide (x ≤ k)
  | none => false
theorem go1_iff {w : List Nat} {i k : Nat} : go1 w i k = true ↔ ∃ x, w[i]? = some x ∧ x ≤ k := by
  unfold go1
  split
  · rename_i x h
    simp [h]
  · rename_i h
    simp [h]
def okL (v w : List Nat) : Nat → Nat → List Bool → Prop
  | _, _, [] => True
  | i, j, false :: L => go1 v i j = true ∧ okL v w (i + 1) j L
  | i, j, true :: L => go1 w j i = true ∧ okL v w i (j + 1) L
theorem okL_up {v w : List Nat} : ∀ {L : List Bool} {i j : Nat}, okL v w i j L → (∀ m a x, (up false j L)[m]? = some a → v[i + m]? = some x → x ≤ a) ∧ ∀ m a x, (up true i L)[m]? = some a → w[j + m]? = some x → x ≤ a
  | [], i, j, _ => by simp [up]
  | false :: L, i, j, h => by
    obtain ⟨g, h⟩ := h
    obtain ⟨x0, g1, g2⟩ := go1_iff.mp g
    obtain ⟨ih1, ih2⟩ := okL_up h
    refine ⟨fun m a x e q => ?_, fun m a x e q => ?_⟩
    · simp only [up, if_true] at e
      cases m with
      | zero =>
        simp at e q
        rw [q] at g1
        cases g1
        omega
      | succ m => exact ih1 m a x (by simpa using e) (by rw [← q]; congr 1; omega)
    · have e' : up true i (false :: L) = up true (i + 1) L := by simp [up]
      rw [e'] at e
      exact ih2 m a x e q
  | true :: L, i, j, h => by
    obtain ⟨g, h⟩ := h
    obtain ⟨x0, g1, g2⟩ := go1_iff.mp g
    obtain ⟨ih1, ih2⟩ := okL_up h
    refine ⟨fun m a x e q => ?_, fun m a x e q => ?_⟩
    · have e' : up false j (true :: L) = up false (j + 1) L := by simp [up]
      rw [e'] at e
      exact ih1 m a x e q
    · simp only [up, if_true] at e
      cases m with
      | zero =>
        simp at e q
        rw [q] at g1
        cases g1
        omega
      | succ m => exact ih2 m a x (by simpa using e) (by rw [← q]; congr 1; omega)
abbrev w0 (R : Nat → Nat → Bool) (L : List Bool) : List Nat := wts R false 0 0 L
abbrev w1 (R : Nat → Nat → Bool) (L : List Bool) : List Nat := wts (fun j i => R i j) true 0 0 L
theorem same_meet {R : Nat → Nat → Bool} {L M : List Bool} (hf : List.count false M = List.count false L) (ht : List.count true M = List.count true L) (ok : okL (w0 R L) (w1 R L) 0 0 M) {m n a a' : Nat} (r : R m n = true) (ha : (up false 0 L)[m]? = some a) (ha' : (up false 0 M)[m]? = some a') : n < a ↔ n < a' := by
  have sl := n_sum L
  have sm := n_sum M
  obtain ⟨o1, o2⟩ := okL_up ok
  have va : (w0 R L)[m]? = some (lastM (R m) a) := by rw [wts_at, ha]; simp
  have b1 := up_ge false L 0 m a ha
  have b2 := up_ge false M 0 m a' ha'
  by_cases hn : n < List.count true L
  · obtain ⟨b, hb⟩ : ∃ b, (up true 0 L)[n]? = some b := ⟨_, List.getElem?_eq_getElem (by rw [up_len]; exact hn)⟩
    obtain ⟨b', hb'⟩ : ∃ b, (up true 0 M)[n]? = some b := ⟨_, List.getElem?_eq_getElem (by rw [up_len]; omega)⟩
    have vb : (w1 R L)[n]? = some (lastM (fun i => R i n) b) := by rw [wts_at, hb]; simp
    have d1 := dual L 0 0 m n a b ha hb
    have d2 := dual M 0 0 m n a' b' ha' hb'
    have e1 := o1 m a' _ ha' (by rw [Nat.zero_add]; exact va)
    have e2 := o2 n b' _ hb' (by rw [Nat.zero_add]; exact vb)
    constructor
    · intro z
      have := lastM_lt (r := R m) r z
      omega
    · intro z
      apply Classical.byContradiction
      intro nz
      have mb : m < b := by
        apply Classical.byContradiction
        intro q
        exact nz (by simpa using d1.mpr (by simpa using q))
      have := lastM_lt (r := fun i => R i n) r mb
      have := d2.mp (by simpa using z)
      omega
  · have : a ≤ List.count true L := by omega
    have : a' ≤ List.count true M := by omega
    omega
theorem same_w0 {R : Nat → Nat → Bool} {L M : List Bool} (hf : List.count false M = List.count false L) (ht : List.count true M = List.count true L) (ok : okL (w0 R L) (w1 R L) 0 0 M) : w0 R M = w0 R L := by
  apply List.ext_getElem?
  intro m
  rw [wts_at, wts_at]
  cases h : (up false 0 L)[m]? with
  | none =>
    have : (up false 0 M)[m]? = none := by
      rw [List.getElem?_eq_none_iff, up_len] at *
      omega
    rw [this]
  | some a =>
    obtain ⟨a', h'⟩ : ∃ b, (up false 0 M)[m]? = some b := ⟨_, List.getElem?_eq_getElem (by
      have := (List.getElem?_eq_some_iff.mp h).1
      rw [up_len] at *
      omega)⟩
    rw [h']
    simp only [Option.map_some, Option.some.injEq, Nat.zero_add]
    exact (lastM_eq fun j r => same_meet hf ht ok r h h').symm
theorem same_meet1 {R : Nat → Nat → Bool} {L M : List Bool} (hf : List.count false M = List.count false L) (ht : List.count true M = List.count true L) (ok : okL (w0 R L) (w1 R L) 0 0 M) {m n b b' : Nat} (r : R m n = true) (hb : (up true 0 L)[n]? = some b) (hb' : (up true 0 M)[n]? = some b') : m < b ↔ m < b' := by
  have sl := n_sum L
  have sm := n_sum M
  have b1 := up_ge true L 0 n b hb
  have b2 := up_ge true M 0 n b' hb'
  by_cases hm : m < List.count false L
  · obtain ⟨a, ha⟩ : ∃ b, (up false 0 L)[m]? = some b := ⟨_, List.getElem?_eq_getElem (by rw [up_len]; exact hm)⟩
    obtain ⟨a', ha'⟩ : ∃ b, (up false 0 M)[m]? = some b := ⟨_, List.getElem?_eq_getElem (by rw [up_len]; omega)⟩
    have d1 := dual L 0 0 m n a b ha hb
    have d2 := dual M 0 0 m n a' b' ha' hb'
    have := same_meet hf ht ok r ha ha'
    omega
  · have : b ≤ List.count false L := by omega
    have : b' ≤ List.count false M := by omega
    omega
theorem same_w1 {R : Nat → Nat → Bool} {L M : List Bool} (hf : List.count false M = List.count false L) (ht : List.count true M = List.count true L) (ok : okL (w0 R L) (w1 R L) 0 0 M) : w1 R M = w1 R L := by
  apply List.ext_getElem?
  intro n
  rw [wts_at, wts_at]
  cases h : (up true 0 L)[n]? with
  | none =>
    have : (up true 0 M)[n]? = none := by
      rw [List.getElem?_eq_none_iff, up_len] at *
      omega
    rw [this]
  | some a =>
    obtain ⟨a', h'⟩ : ∃ b, (up true 0 M)[n]? = some b := ⟨_, List.getElem?_eq_getElem (by
      have := (List.getElem?_eq_some_iff.mp h).1
      rw [up_len] at *
      omega)⟩
    rw [h']
    simp only [Option.map_some, Option.some.injEq, Nat.zero_add]
    exact (lastM_eq fun j r => same_meet1 hf ht ok r h h').symm
theorem okL_self0 (v w : List Nat) (R R' : Nat → Nat → Bool) : ∀ (L : List Bool) (i j : Nat), (∀ m, (wts R false i j L)[m]? = v[i + m]?) → (∀ m, (wts R' true j i L)[m]? = w[j + m]?) → okL v w i j L
  | [], i, j, _, _ => trivial
  | false :: L, i, j, h, h' => by
    refine ⟨?_, ?_⟩
    · have := h 0
      simp only [wts, if_true, List.getElem?_cons_zero, Nat.add_zero] at this
      exact go1_iff.mpr ⟨_, this.symm, lastM_le _ _⟩
    · refine okL_self0 v w R R' L (i + 1) j (fun m => ?_) (fun m => ?_)
      · have := h (m + 1)
        simp only [wts, if_true, List.getElem?_cons_succ] at this
        rw [this]; congr 1; omega
      · have := h' m
        simpa [wts] using this
  | true :: L, i, j, h, h' => by
    refine ⟨?_, ?_⟩
    · have := h' 0
      simp only [wts, if_true, List.getElem?_cons_zero, Nat.add_zero] at this
      exact go1_iff.mpr ⟨_, this.symm, lastM_le _ _⟩
    · refine okL_self0 v w R R' L i (j + 1) (fun m => ?_) (fun m => ?_)
      · have := h m
        simpa [wts] using this
      · have := h' (m + 1)
        simp only [wts, if_true, List.getElem?_cons_succ] at this
        rw [this]; congr 1; omega
theorem okL_self (R : Nat → Nat → Bool) (L : List Bool) : okL (w0 R L) (w1 R L) 0 0 L := okL_self0 _ _ R (fun j i => R i j) L 0 0 (fun m => by simp) (fun m => by simp)
theorem prog0 (v w : List Nat) (R R' : Nat → Nat → Bool) : ∀ (L : List Bool) (i0 j0 i j : Nat), (∀ m, (wts R false i0 j0 L)[m]? = v[i0 + m]?) → (∀ m, (wts R' true j0 i0 L)[m]? = w[j0 + m]?) → i0 ≤ i → j0 ≤ j → i ≤ i0 + List.count false L → j ≤ j0 + List.count true L → i + j < i0 + j0 + L.length → go1 v i j = true ∨ go1 w j i = true
  | [], i0, j0, i, j, _, _, a, b, c, d, e => by simp at c d e; omega
  | false :: L, i0, j0, i, j, h, h', a, b, c, d, e => by
    by_cases z : i = i0
    · subst z
      have := h 0
      simp only [wts, if_true, List.getElem?_cons_zero, Nat.add_zero] at this
      exact .inl (go1_iff.mpr ⟨_, this.symm, Nat.le_trans (lastM_le _ _) b⟩)
    · refine prog0 v w R R' L (i0 + 1) j0 i j (fun m => ?_) (fun m => ?_) (by omega) b ?_ ?_ ?_
      · have := h (m + 1)
        simp only [wts, if_true, List.getElem?_cons_succ] at this
        rw [this]; congr 1; omega
      · have := h' m
        simpa [wts] using this
      · simp at c ⊢; omega
      · simpa using d
      · simp at e; omega
  | true :: L, i0, j0, i, j, h, h', a, b, c, d, e => by
    by_cases z : j = j0
    · subst z
      have := h' 0
      simp only [wts, if_true, List.getElem?_cons_zero, Nat.add_zero] at this
      exact .inr (go1_iff.mpr ⟨_, this.symm, Nat.le_trans (lastM_le _ _) a⟩)
    · refine prog0 v w R R' L i0 (j0 + 1) i j (fun m => ?_) (fun m => ?_) a (by omega) ?_ ?_ ?_
      · have := h m
        simpa [wts] using this
      · have := h' (m + 1)
        simp only [wts, if_true, List.getElem?_cons_succ] at this
        rw [this]; congr 1; omega
      · simpa using c
      · simp at d ⊢; omega
      · simp at e; omega
theorem prog (R : Nat → Nat → Bool) (L : List Bool) {i j : Nat} (hi : i ≤ List.count false L) (hj : j ≤ List.count true L) (h : i + j < L.length) : go1 (w0 R L) i j = true ∨ go1 (w1 R L) j i = true :=
  prog0 _ _ R (fun j i => R i j) L 0 0 i j (fun m => by simp) (fun m => by simp) (Nat.zero_le _) (Nat.zero_le _) (by omega) (by omega) (by omega)
def lst (v w : List Nat) : Nat → Nat → Nat → List Bool
  | 0, _, _ => []
  | f + 1, i, j => if go1 v i j = true then false :: lst v w f (i + 1) j else true :: lst v w f i (j + 1)
theorem go1_lt {w : List Nat} {i k : Nat} (h : go1 w i k = true) : i < w.length := by
  obtain ⟨x, h, _⟩ := go1_iff.mp h
  exact (List.getElem?_eq_some_iff.mp h).1
theorem lst_ok (R : Nat → Nat → Bool) (L : List Bool) : ∀ (f i j : Nat), i ≤ List.count false L → j ≤ List.count true L → i + j + f = L.length → okL (w0 R L) (w1 R L) i j (lst (w0 R L) (w1 R L) f i j) ∧ i + List.count false (lst (w0 R L) (w1 R L) f i j) = List.count false L ∧ j + List.count true (lst (w0 R L) (w1 R L) f i j) = List.count true L
  | 0, i, j, hi, hj, h => by
    have := n_sum L
    refine ⟨trivial, ?_, ?_⟩ <;> simp [lst] <;> omega
  | f + 1, i, j, hi, hj, h => by
    unfold lst
    split
    · rename_i g
      have lt := go1_lt g
      rw [wts_len] at lt
      obtain ⟨a, b, c⟩ := lst_ok R L f (i + 1) j (by omega) hj (by omega)
      refine ⟨⟨g, a⟩, ?_, ?_⟩
      · simp at b ⊢; omega
      · simpa using c
    · rename_i g
      have g' := (prog R L hi hj (by omega)).resolve_left g
      have lt := go1_lt g'
      rw [wts_len] at lt
      obtain ⟨a, b, c⟩ := lst_ok R L f i (j + 1) hi (by omega) (by omega)
      refine ⟨⟨g', a⟩, ?_, ?_⟩
      · simpa using b
      · simp at c ⊢; omega
abbrev leastL (R : Nat → Nat → Bool) (L : List Bool) : List Bool := lst (w0 R L) (w1 R L) L.length 0 0
theorem least_ok (R : Nat → Nat → Bool) (L : List Bool) : okL (w0 R L) (w1 R L) 0 0 (leastL R L) ∧ List.count false (leastL R L) = List.count false L ∧ List.count true (leastL R L) = List.count true L := by
  obtain ⟨a, b, c⟩ := lst_ok R L L.length 0 0 (Nat.zero_le _) (Nat.zero_le _) (by omega)
  exact ⟨a, by simpa using b, by simpa using c⟩
def dp (v w : List Nat) : Nat → Nat → Nat
  | 0, 0 => 1
  | i + 1, 0 => if go1 v i 0 = true then dp v w i 0 else 0
  | 0, j + 1 => if go1 w j 0 = true then dp v w 0 j else 0
  | i + 1, j + 1 => (if go1 v i (j + 1) = true then dp v w i (j + 1) else 0) + (if go1 w j (i + 1) = true then dp v w (i + 1) j else 0)
termination_by i j => i + j
theorem dp_pos {v w : List Nat} : ∀ (M : List Bool) (i j : Nat), okL v w i j M → 0 < dp v w i j → 0 < dp v w (i + List.count false M) (j + List.count true M)
  | [], i, j, _, h => by simpa using h
  | false :: M, i, j, h, q => by
    have := dp_pos M (i + 1) j h.2 (by
      cases j with
      | zero => rw [dp, if_pos h.1]; exact q
      | succ j => rw [dp, if_pos h.1]; omega)
    simp at this ⊢
    rw [show i + (M.count false + 1) = i + 1 + M.count false by omega]
    exact this
  | true :: M, i, j, h, q => by
    have := dp_pos M i (j + 1) h.2 (by
      cases i with
      | zero => rw [dp, if_pos h.1]; exact q
      | succ i => rw [dp, if_pos h.1]; omega)
    simp at this ⊢
    rw [show j + (M.count true + 1) = j + 1 + M.count true by omega]
    exact this
end TC

end
section
set_option linter.all false
set_option autoImplicit false
set_option Elab.async false
set_option maxRecDepth 10000
namespace TC
theorem vis_of : ∀ (L : List Bool) (i0 j0 x y : Nat), i0 ≤ x → j0 ≤ y → x ≤ i0 + List.count false L → y ≤ j0 + List.count true L → (∀ b, (up true i0 L)[y - j0]? = some b → x ≤ b) → (∀ a, (up false j0 L)[x - i0]? = some a → y ≤ a) → ∃ L1 L2, L = L1 ++ L2 ∧ i0 + List.count false L1 = x ∧ j0 + List.count true L1 = y
  | [], i0, j0, x, y, a, b, c, d, _, _ => ⟨[], [], rfl, by simp at c ⊢; omega, by simp at d ⊢; omega⟩
  | false :: L, i0, j0, x, y, a, b, c, d, h1, h2 => by
    by_cases e : x = i0
    · subst e
      have := h2 j0 (by simp [up])
      exact ⟨[], _, rfl, by simp, by simp; omega⟩
    · obtain ⟨L1, L2, e1, e2, e3⟩ := vis_of L (i0 + 1) j0 x y (by omega) b (by simp at c; omega) (by simpa using d) (fun v hv => h1 v (by simpa [up] using hv)) (fun v hv => h2 v (by
        simp only [up, if_true]
        rw [show x - i0 = (x - (i0 + 1)) + 1 by omega, List.getElem?_cons_succ]
        exact hv))
      exact ⟨false :: L1, L2, by rw [e1]; rfl, by simp; omega, by simpa using e3⟩
  | true :: L, i0, j0, x, y, a, b, c, d, h1, h2 => by
    by_cases e : y = j0
    · subst e
      have := h1 i0 (by simp [up])
      exact ⟨[], _, rfl, by simp; omega, by simp⟩
    · obtain ⟨L1, L2, e1, e2, e3⟩ := vis_of L i0 (j0 + 1) x y a (by omega) (by simpa using c) (by simp at d; omega) (fun v hv => h1 v (by
        simp only [up, if_true]
        rw [show y - j0 = (y - (j0 + 1)) + 1 by omega, List.getElem?_cons_succ]
        exact hv)) (fun v hv => h2 v (by simpa [up] using hv))
      exact ⟨true :: L1, L2, by rw [e1]; rfl, by simpa using e2, by simp; omega⟩
theorem vis_to : ∀ (L1 L2 : List Bool) (i0 j0 : Nat), (∀ b, (up true i0 (L1 ++ L2))[List.count true L1]? = some b → i0 + List.count false L1 ≤ b) ∧ (∀ a, (up false j0 (L1 ++ L2))[List.count false L1]? = some a → j0 + List.count true L1 ≤ a)
  | [], L2, i0, j0 => ⟨fun b h => by simpa using (up_ge true L2 i0 0 b (by simpa using h)).1, fun a h => by simpa using (up_ge false L2 j0 0 a (by simpa using h)).1⟩
  | false :: L1, L2, i0, j0 => by
    obtain ⟨h1, _⟩ := vis_to L1 L2 (i0 + 1) j0
    obtain ⟨_, h2⟩ := vis_to L1 L2 (i0 + 1) j0
    refine ⟨fun b h => ?_, fun a h => ?_⟩
    · have := h1 b (by simpa [up] using h)
      simp; omega
    · have := h2 a (by simpa [up] using h)
      simpa using this
  | true :: L1, L2, i0, j0 => by
    obtain ⟨h1, h2⟩ := vis_to L1 L2 i0 (j0 + 1)
    refine ⟨fun b h => ?_, fun a h => ?_⟩
    · have := h1 b (by simpa [up] using h)
      simpa using this
    · have := h2 a (by simpa [up] using h)
      simp; omega
theorem visit {R : Nat → Nat → Bool} {L M1 M2 : List Bool} (hf : List.count false (M1 ++ M2) = List.count false L) (ht : List.count true (M1 ++ M2) = List.count true L) (ok : okL (w0 R L) (w1 R L) 0 0 (M1 ++ M2))
    (h1 : ∀ x, List.count false M1 = x + 1 → List.count true M1 < List.count true L → R x (List.count true M1) = true) (h2 : ∀ y, List.count true M1 = y + 1 → List.count false M1 < List.count false L → R (List.count false M1) y = true) : ∃ L1 L2, L = L1 ++ L2 ∧ List.count false L1 = List.count false M1 ∧ List.count true L1 = List.count true M1 := by
  obtain ⟨v1, v2⟩ := vis_to M1 M2 0 0
  have cf : List.count false M1 ≤ List.count false L := by rw [← hf, List.count_append]; omega
  have ct : List.count true M1 ≤ List.count true L := by rw [← ht, List.count_append]; omega
  obtain ⟨L1, L2, e1, e2, e3⟩ := vis_of L 0 0 (List.count false M1) (List.count true M1) (Nat.zero_le _) (Nat.zero_le _) (by omega) (by omega) (fun b hb => by
    rw [Nat.sub_zero] at hb
    have lt := (List.getElem?_eq_some_iff.mp hb).1
    rw [up_len] at lt
    cases hx : List.count false M1 with
    | zero => exact Nat.zero_le _
    | succ x =>
      obtain ⟨b', hb'⟩ : ∃ b', (up true 0 (M1 ++ M2))[List.count true M1]? = some b' := ⟨_, List.getElem?_eq_getElem (by rw [up_len]; omega)⟩
      have := v1 b' hb'
      have := (same_meet1 hf ht ok (h1 x hx lt) hb hb').mpr (by omega)
      omega) (fun a ha => by
    rw [Nat.sub_zero] at ha
    have lt := (List.getElem?_eq_some_iff.mp ha).1
    rw [up_len] at lt
    cases hy : List.count true M1 with
    | zero => exact Nat.zero_le _
    | succ y =>
      obtain ⟨a', ha'⟩ : ∃ a', (up false 0 (M1 ++ M2))[List.count false M1]? = some a' := ⟨_, List.getElem?_eq_getElem (by rw [up_len]; omega)⟩
      have := v2 a' ha'
      have := (same_meet hf ht ok (h2 y hy lt) ha ha').mpr (by omega)
      omega)
  exact ⟨L1, L2, e1, by omega, by omega⟩
theorem pre_F : ∀ (L : List Bool) (x : Nat), x ≤ List.count false L → ∃ L1 L2, L = L1 ++ L2 ∧ List.count false L1 = x
  | [], x, h => ⟨[], [], rfl, by simp at h ⊢; omega⟩
  | c :: L, x, h => by
    by_cases e : x = 0
    · exact ⟨[], _, rfl, by simp [e]⟩
    · cases c with
      | false =>
        obtain ⟨L1, L2, e1, e2⟩ := pre_F L (x - 1) (by simp at h; omega)
        exact ⟨false :: L1, L2, by rw [e1]; rfl, by simp; omega⟩
      | true =>
        obtain ⟨L1, L2, e1, e2⟩ := pre_F L x (by simpa using h)
        exact ⟨true :: L1, L2, by rw [e1]; rfl, by simpa using e2⟩
theorem pre_T : ∀ (L : List Bool) (x : Nat), x ≤ List.count true L → ∃ L1 L2, L = L1 ++ L2 ∧ List.count true L1 = x
  | [], x, h => ⟨[], [], rfl, by simp at h ⊢; omega⟩
  | c :: L, x, h => by
    by_cases e : x = 0
    · exact ⟨[], _, rfl, by simp [e]⟩
    · cases c with
      | true =>
        obtain ⟨L1, L2, e1, e2⟩ := pre_T L (x - 1) (by simp at h; omega)
        exact ⟨true :: L1, L2, by rw [e1]; rfl, by simp; omega⟩
      | false =>
        obtain ⟨L1, L2, e1, e2⟩ := pre_T L x (by simpa using h)
        exact ⟨false :: L1, L2, by rw [e1]; rfl, by simpa using e2⟩
theorem wts_not (R : Nat → Nat → Bool) (b : Bool) : ∀ (L : List Bool) (i k : Nat), wts R b i k (L.map (!·)) = wts R (!b) i k L
  | [], i, k => rfl
  | c :: L, i, k => by
    simp only [List.map_cons, wts]
    cases b <;> cases c <;> simp [wts_not _ _ L]
theorem okL_not (v w : List Nat) : ∀ (L : List Bool) (i j : Nat), okL v w i j (L.map (!·)) ↔ okL w v j i L
  | [], i, j => Iff.rfl
  | false :: L, i, j => by
    show (go1 w j i = true ∧ okL v w i (j + 1) (L.map (!·))) ↔ _
    rw [okL_not v w L i (j + 1)]
    exact Iff.rfl
  | true :: L, i, j => by
    show (go1 v i j = true ∧ okL v w (i + 1) j (L.map (!·))) ↔ _
    rw [okL_not v w L (i + 1) j]
    exact Iff.rfl
end TC

end
section
set_option linter.all false
set_option autoImplicit false
set_option Elab.async false
set_option maxRecDepth 10000
set_option maxHeartbeats 4000000
namespace L66
open PySem L2 T3 MM
theorem is_whole_int (i m : Int) : f_is_whole [.pd (.int i), .pd (.int m)] = some (.pd (.bool (decide (0 ≤ i) && decide (i ≤ m))), [.pd (.int i), .pd (.int m)]) := by
  unfold f_is_whole
  rw [run_of (e := [some (.pd (.int i)), some (.pd (.int m))]) rfl]
  simp [m_is_whole, oIsi, isi5, eCh, Cm.f]
  by_cases h : 0 ≤ i <;> simp [h]
def inB (c : Cell) : Bool := (decide (0 ≤ c.1) && decide (c.1 ≤ 3)) && (decide (0 ≤ c.2) && decide (c.2 ≤ 3))
theorem is_cell_sp (c : Cell) : f_is_cell [.pd (clD c)] = some (.pd (.bool (inB c)), [.pd (clD c)]) := by
  unfold f_is_cell
  rw [run_of (e := [some (.pd (clD c)), none, none]) rfl]
  simp [m_is_cell, clD, oIsi, isi5, oLen, eNe, oNe, sh_int, eqv_int, is_whole_int, v_LAST_LINE, inB]
  by_cases h1 : 0 ≤ c.1 <;> by_cases h2 : c.1 ≤ 3 <;> simp [h1, h2]
def ltC (c d : Cell) : Bool := HT.lexLt [c.1, c.2] [d.1, d.2]
def chain : List Cell → Bool
  | c :: d :: r => ltC c d && chain (d :: r)
  | _ => true
theorem zip_cells : ∀ cs : List Cell, zipD (cs.map clD) (cs.tail.map clD) = (cs.zip cs.tail).map fun p => .tuple [clD p.1, clD p.2] := by
  intro cs
  have : ∀ (as bs : List Cell), zipD (as.map clD) (bs.map clD) = (as.zip bs).map fun p => .tuple [clD p.1, clD p.2] := by
    intro as
    induction as with
    | nil => intro bs; simp [zipD]
    | cons a as ih =>
      intro bs
      cases bs with
      | nil => simp [zipD]
      | cons b bs =>
        have := ih bs
        simp only [zipD] at this ⊢
        simp [this]
  exact this cs cs.tail
theorem chain_all : ∀ cs : List Cell, ((cs.zip cs.tail).map fun p => ltC p.1 p.2).all id = chain cs
  | [] => rfl
  | [_] => rfl
  | c :: d :: r => by
    have := chain_all (d :: r)
    simp only [List.tail_cons] at this ⊢
    simp [chain, this]
theorem cut1_d (xs : List PyData) : cutD xs (some 1) none = xs.tail := by
  unfold cutD
  rw [show HT.sIx xs.length 0 (some 1) = min 1 xs.length from HT.sIx_nat xs.length 0 1, HT.sIx_none]
  cases xs with
  | nil => rfl
  | cons x r => simp
theorem is_rising_sp (cs : List Cell) (h9 : cs.length ≤ 1000) : f_is_rising [.nt (cs.map clD)] = some (.pd (.bool (chain cs)), [.nt (cs.map clD)]) := by
  unfold f_is_rising
  rw [run_of (e := [some (.nt (cs.map clD)), none, none]) rfl]
  have e : lcL (gT 2 (gCn (gN 1) (gCn (gN 2) gNl))) bYes (eLt (eVar 1) (eVar 2)) [1, 2] ((cs.zip cs.tail).map fun p => .tuple [clD p.1, clD p.2]) [some (.nt (cs.map clD)), none, none] [] = some ((cs.zip cs.tail).map (fun p => .bool (ltC p.1 p.2)), [some (.nt (cs.map clD)), none, none]) :=
    lcL_all (cs.zip cs.tail) fun p _ => ⟨[some (.nt (cs.map clD)), some (.pd (clD p.1)), some (.pd (clD p.2))], .pd (.bool (ltC p.1 p.2)), [some (.nt (cs.map clD)), some (.pd (clD p.1)), some (.pd (clD p.2))], by simp [wipeE], by simp [eLt, kLt, kLt0, oI, oLtT, clD, ints?, ltC], rfl, by simp [unwipe]⟩
  have ht : (cs.map clD).tail = cs.tail.map clD := by simp
  have hl : cs.length ≤ 1000001 := by omega
  have hc := chain_all cs
  simp [m_is_rising, eLc, iZt, eSl, oSome, oNo, kSl, cut1_d, tupOf, ht, zip_cells, e, oAll, bools_of, hl, -List.map_tail, -List.all_map, hc]
def okFl (cs : List Cell) : Prop := 1 ≤ cs.length ∧ cs.length ≤ 9 ∧ (∀ c ∈ cs, inB c = true) ∧ chain cs = true
theorem is_floor_sp (cs : List Cell) (h : okFl cs) : f_is_floor [.nt (cs.map clD)] = some (.pd (.bool true), [.nt (cs.map clD)]) := by
  unfold f_is_floor
  rw [run_of (e := [some (.nt (cs.map clD)), none]) rfl]
  have e : lcL (gN 1) bYes (eCall f_is_cell (eCons (eVar 1) eNil)) [1] (cs.map clD) [some (.nt (cs.map clD)), none] [] = some (cs.map (fun c => .bool (inB c)), [some (.nt (cs.map clD)), none]) :=
    lcL_all cs fun c _ => ⟨[some (.nt (cs.map clD)), some (.pd (clD c))], .pd (.bool (inB c)), [some (.nt (cs.map clD)), some (.pd (clD c))], by simp [wipeE], by simp [is_cell_sp], rfl, by simp [unwipe]⟩
  obtain ⟨h1, h2, h3, h4⟩ := h
  have ha : (cs.map inB).all id = true := by simpa using h3
  have l1 : (1 : Int) ≤ cs.length := by omega
  have l2 : (cs.length : Int) ≤ 9 := by omega
  have l3 : cs.length ≤ 1000000 := by omega
  simp [m_is_floor, oIsi, isi5, eCh, Cm.f, oLen, v_MOST_CELLS, eLc, iSeq, e, oAll, bools_of, is_rising_sp cs (by omega), l1, l2, l3, h4, ha, -List.all_map, -List.length_map]
  simp [l1, l2, l3, e, oAll, bools_of, is_rising_sp cs (by omega), ha, h4, List.length_map, -List.all_map]
theorem need_floor_sp (cs : List Cell) (h : okFl cs) : f_need_floor [.nt (cs.map clD)] = some (.pd .none, [.nt (cs.map clD)]) := by
  unfold f_need_floor
  rw [run_of (e := [some (.nt (cs.map clD))]) rfl]
  simp [m_need_floor, is_floor_sp cs h]
theorem ly_all : ∀ l ∈ lyings, 0 ≤ l.1 ∧ l.1 ≤ 5 ∧ 0 ≤ l.2.1 ∧ l.2.1 ≤ 5 ∧ 0 ≤ l.2.2 ∧ l.2.2 ≤ 5 := by decide
theorem is_lying_sp (l : Ly) (hl : l ∈ lyings) : f_is_lying [.pd (lyD l)] = some (.pd (.bool true), [.pd (lyD l)]) := by
  have e : lcL (gN 1) bYes (eCall f_is_whole (eCons (eVar 1) (eCons (eC v_OPPOSITE_SUM) eNil))) [1] ([l.1, l.2.1, l.2.2].map .int) [some (.pd (lyD l)), none] [] = some ([l.1, l.2.1, l.2.2].map (fun i => .bool (decide (0 ≤ i) && decide (i ≤ 5))), [some (.pd (lyD l)), none]) :=
    lcL_all [l.1, l.2.1, l.2.2] fun i _ => ⟨[some (.pd (lyD l)), some (.pd (.int i))], .pd (.bool (decide (0 ≤ i) && decide (i ≤ 5))), [some (.pd (lyD l)), some (.pd (.int i))], by simp [wipeE], by simp [is_whole_int, v_OPPOSITE_SUM], rfl, by simp [unwipe]⟩
  obtain ⟨b1, b2, b3, b4, b5, b6⟩ := ly_all l hl
  have hv : v_LYINGS = .tuple (lyings.map lyD) := by rfl
  have hs : SeqAt.shaped (.tuple (lyings.map lyD)) = true := sh_tup lyD (fun c => by simp [lyD, PyData.canLay0, PyData.canLayAll0]) (fun c => by simp [lyD, PyData.depth, PyData.depthAll]) lyings
  have hi : ((lyings.map lyD).any fun z => PyData.eqv z (lyD l)) = true := by
    rw [List.any_eq_true]
    exact ⟨lyD l, List.mem_map.mpr ⟨l, hl, rfl⟩, by rw [eqv_ly]; simp⟩
  unfold f_is_lying
  rw [run_of (e := [some (.pd (lyD l)), none]) rfl]
  have es : iSeq (eVar 0) [some (.pd (lyD l)), none] = some ([l.1, l.2.1, l.2.2].map .int, none, [some (.pd (lyD l)), none]) := by simp [iSeq, lyD]
  have eo : oIsi .tuple [lyD l] = some (.bool true) := rfl
  simp only [m_is_lying, z_seq, z_if, z_bNot, z_bT, z_then, z_one, z_cons, z_var, z_nil, List.getElem?_cons_zero, z_kE, z_ctns1, z_ctns0, z_ctn1, eo, Bool.not_true, Bool.false_eq_true, if_false, z_pass, z_ret, z_eB, z_bAnd, eLc, es, e, List.length_map, z_unl, z_ctn3, oAll]
  simp [bools?, b1, b2, b3, b4, b5, b6, eIn, oIn, hv, sh_ly, hs, hi, -List.any_map, -List.any_eq_true]
theorem is_letter_sp (d : Dir) : f_is_letter [.pd (.str (chS d))] = some (.pd (.bool true), [.pd (.str (chS d))]) := by
  unfold f_is_letter
  rw [run_of (e := [some (.pd (.str (chS d)))]) rfl]
  have hv : v_LETTERS = .tuple ([Dir.n, .e, .s, .w].map fun d => .str (chS d)) := by
    simp only [v_LETTERS, List.map_cons, List.map_nil, chS_n, chS_e, chS_s, chS_w]
  have hs : SeqAt.shaped (.tuple ([Dir.n, .e, .s, .w].map fun d => .str (chS d))) = true := sh_tup _ (fun d => by have := SeqAt.canLay_of_shaped (sh_ch d); exact this) (fun d => by simp [PyData.depth]) _
  have hi : (([Dir.n, .e, .s, .w].map fun d => PyData.str (chS d)).any fun z => PyData.eqv z (.str (chS d))) = true := by
    rw [List.any_eq_true]
    exact ⟨.str (chS d), List.mem_map.mpr ⟨d, by cases d <;> simp, rfl⟩, by rw [eqv_ch]; simp⟩
  simp only [m_is_letter, hv]
  simp only [z_ret, z_eB, z_bAnd, z_bT, z_then, z_one, z_cons, z_var, z_nil, List.getElem?_cons_zero, z_kE, z_ctns1, z_ctns0, z_ctn1, oIsi, isi5, if_true, eIn, z_two, z_c, oIn, sh_ch, hs, hi, and_self, z_out1, z_fin1, z_fin0]
  rfl
theorem steps_look (d : Dir) : v_STEPS.lookup (chS d) = some (.tuple [.int (stepC (0, 0) d).1, .int (stepC (0, 0) d).2]) := by
  cases d <;> rfl
theorem rolled_cell_sp (c : Cell) (d : Dir) : f_rolled_cell [.pd (clD c), .pd (.str (chS d))] = some (.pd (clD (stepC c d)), [.pd (clD c), .pd (.str (chS d))]) := by
  unfold f_rolled_cell
  rw [run_of (e := [some (.pd (clD c)), some (.pd (.str (chS d))), none, none, none, none]) rfl]
  simp [m_rolled_cell, clD, eKd, steps_look, eAdd, kAdd, oI]
  cases d <;> simp [stepC] <;> omega
theorem rolled_lying_sp (l : Ly) (d : Dir) : f_rolled_lying [.pd (lyD l), .pd (.str (chS d))] = some (.pd (lyD (roll l d)), [.pd (lyD l), .pd (.str (chS d))]) := by
  unfold f_rolled_lying
  rw [run_of (e := [some (.pd (lyD l)), some (.pd (.str (chS d))), none, none, none]) rfl]
  cases d <;> simp [m_rolled_lying, lyD, eEq, oEq, ← chS_n, ← chS_s, ← chS_e, sh_ch, eqv_ch, eSub, kSub, oI, v_OPPOSITE_SUM, roll]
theorem rolled_stand_sp (c : Cell) (l : Ly) (d : Dir) : f_rolled_stand [.pd (stD c l), .pd (.str (chS d))] = some (.pd (stD (stepC c d) (roll l d)), [.pd (stD c l), .pd (.str (chS d))]) := by
  unfold f_rolled_stand
  rw [run_of (e := [some (.pd (stD c l)), some (.pd (.str (chS d))), none, none]) rfl]
  simp [m_rolled_stand, stD, rolled_cell_sp, rolled_lying_sp]
def letR (cs : List Cell) : Cell → List Dir → Prop
  | _, [] => True
  | c, d :: ds => stepC c d ∈ cs ∧ letR cs (stepC c d) ds
theorem atI_at {α : Type} {xs : List α} {i : Int} {x : α} (h0 : 0 ≤ i) (h : xs[i.toNat]? = some x) : atI xs i = some x := by
  obtain ⟨hl, e⟩ := List.getElem?_eq_some_iff.mp h
  unfold atI ixN
  have : i < xs.length := by omega
  simp [h0, this, e]
def isT (s : S) (xs : List PyData) : Prop := s = .pd (.tuple xs) ∨ s = .nt xs
structure Sit (cs : List Cell) (c : Cell) (l : Ly) (ds : List Dir) : Prop where
  fl : okFl cs
  mem : c ∈ cs
  ly : l ∈ lyings
  lt : letR cs c ds
  ln : ds.length ≤ 1000
def nD (xs : List Nat) : List PyData := xs.map fun k => .int ((k : Nat) : Int)
theorem nD_at {xs : List Nat} {i y : Nat} (h : xs[i]? = some y) : atI (nD xs) (i : Int) = some (.int (y : Int)) := by
  apply atI_at (by omega)
  simp [nD, h]
theorem cmul_r (i j : Int) (h : 0 ≤ j ∧ j < 2147483648) : CMul i j := .inr (by
  have h1 : (2147483648 : Int) < 2 ^ 64 := by decide
  have h2 : (-2 ^ 64 : Int) < 0 := by decide
  omega)
theorem cmul_l (i j : Int) (h : 0 ≤ i ∧ i < 2147483648) : CMul i j := .inl (by
  have h1 : (2147483648 : Int) < 2 ^ 64 := by decide
  have h2 : (-2 ^ 64 : Int) < 0 := by decide
  omega)
def dirAt (r : Int) : Dir := if r = 0 then .e else if r = 1 then .n else if r = 2 then .s else .w
theorem ensw_eq : ("ensw" : Str) = ⟨#[101, 110, 115, 119]⟩ := by decide
theorem ensw_ix (r : Int) (h0 : 0 ≤ r) (h1 : r < 4) : oIx [.str "ensw", .int r] = some (.str (chS (dirAt r))) := by
  have : r = 0 ∨ r = 1 ∨ r = 2 ∨ r = 3 := by omega
  rw [ensw_eq]
  rcases this with rfl | rfl | rfl | rfl <;> rfl
def good (cs : List Cell) : Prop := 0 < cs.length ∧ cs.Nodup ∧ ∀ c ∈ cs, inB c = true
theorem inB_b {c : Cell} (h : inB c = true) : 0 ≤ c.1 ∧ c.1 ≤ 3 ∧ 0 ≤ c.2 ∧ c.2 ≤ 3 := by
  unfold inB at h
  simp at h
  omega
theorem pairs_of : ∀ cs : List Cell, (∀ c ∈ cs, inB c = true) → pairs? (cs.map clD) = some cs
  | [], _ => rfl
  | c :: cs, h => by
    have b := inB_b (h c (by simp))
    have e : pair? (clD c) = some c := by
      show (if 0 ≤ c.1 ∧ c.1 < 64 ∧ 0 ≤ c.2 ∧ c.2 < 64 then some (c.1, c.2) else none) = _
      rw [if_pos (by omega)]
    rw [List.map_cons, pairs?, e, pairs_of cs (fun d hd => h d (by simp [hd]))]
theorem ltC_of {c d : Cell} (hc : inB c = true) (hd : inB d = true) (h : prLe c d = true) (hne : c ≠ d) : ltC c d = true := by
  have b1 := inB_b hc
  have b2 := inB_b hd
  unfold prLe at h
  have h' : c.1 * 64 + c.2 ≤ d.1 * 64 + d.2 := by simpa using h
  have hne' : ¬ (c.1 = d.1 ∧ c.2 = d.2) := fun ⟨x, y⟩ => hne (Prod.ext x y)
  unfold ltC
  simp only [HT.lexLt]
  by_cases e : c.1 = d.1
  · simp [e]; omega
  · simp [e]; omega
theorem chain_of : ∀ cs : List Cell, (∀ c ∈ cs, inB c = true) → cs.Pairwise (fun a b => prLe a b = true) → cs.Nodup → chain cs = true
  | [], _, _, _ => rfl
  | [c], _, _, _ => rfl
  | c :: d :: r, h, hp, hn => by
    have ih := chain_of (d :: r) (fun x hx => h x (by simp [hx])) (List.pairwise_cons.mp hp).2 (List.nodup_cons.mp hn).2
    have l := ltC_of (h c (by simp)) (h d (by simp)) ((List.pairwise_cons.mp hp).1 d (by simp)) (fun e => (List.nodup_cons.mp hn).1 (by simp [e]))
    simp [chain, ih, l]
def all4 : List Dir := [.e, .n, .s, .w]
theorem ensw_row : ("ensw" : Str) = rowS all4 := by decide
def chD (d : Dir) : PyData := .str (chS d)
def ops (cs : List Cell) (c : Cell) : List Dir := all4.filter fun d => decide (stepC c d ∈ cs)
theorem int_at {xs : List Int} {i : Nat} (h : i < xs.length) : atI (xs.map PyData.int) (i : Int) = some (.int (xs.getD i 0)) := by
  apply atI_at (by omega)
  simp [h]
def fre : Option S → Bool
  | none => true
  | some (.pd _) => true
  | some (.nt _) => true
  | some (.mu .own _) => true
  | _ => false
def freO : Option (Option S) → Bool
  | some s => fre s
  | none => false
theorem z_free2 (env : Sl) (i : Nat) : free env i = freO env[i]? := by
  rw [z_free]
  cases env[i]? with
  | none => rfl
  | some s =>
    cases s with
    | none => rfl
    | some s =>
      cases s with
      | pd x => rfl
      | nt x => rfl
      | mu m c => cases m <;> rfl
theorem freO_some (s : Option S) : freO (some s) = fre s := rfl
def off (cs : List Cell) : Cell → List Dir → Option Nat
  | _, [] => none
  | c, d :: ds => if stepC c d ∈ cs then (off cs (stepC c d) ds).map (· + 1) else some 0
def opp : Dir → Dir
  | .e => .w
  | .n => .s
  | .s => .n
  | .w => .e
def bk (ds : List Dir) : List Dir := ds.reverse.map opp
theorem ltC_iff (a b : Cell) : ltC a b = true ↔ a.1 < b.1 ∨ (a.1 = b.1 ∧ a.2 < b.2) := by
  unfold ltC
  simp only [HT.lexLt]
  by_cases e : a.1 = b.1
  · by_cases e2 : a.2 = b.2
    · simp [e, e2]
    · simp [e, e2]
  · simp [e]
theorem chain_nd {cs : List Cell} (h : chain cs = true) : cs.Nodup := by
  have tr : ∀ a b c : Cell, ltC a b = true → ltC b c = true → ltC a c = true := by
    intro a b c h1 h2
    rw [ltC_iff] at *
    omega
  have ir : ∀ a : Cell, ltC a a ≠ true := by
    intro a h
    rw [ltC_iff] at h
    omega
  have go : ∀ (cs : List Cell), chain cs = true → cs.Pairwise (fun a b => ltC a b = true) := by
    intro cs
    induction cs with
    | nil => intro _; exact .nil
    | cons a cs ih =>
      intro h
      cases cs with
      | nil => exact List.pairwise_singleton _ _
      | cons b cs =>
        simp only [chain, Bool.and_eq_true] at h
        have hp := ih h.2
        refine List.pairwise_cons.mpr ⟨fun c hc => ?_, hp⟩
        rcases List.mem_cons.mp hc with rfl | hc
        · exact h.1
        · exact tr a b c h.1 ((List.pairwise_cons.mp hp).1 c hc)
  exact List.Pairwise.imp (fun {a b} h e => by subst e; exact ir a h) (go cs h)
abbrev exD (n : Nat) (m : Nat → Nat) : List PyData := nD ((List.range n).map m)
def stirB (b : Int) (t : Nat) : Int := (b + 17 * ((t + 1 : Nat) : Int)) * (69621 + 2 * ((t + 1 : Nat) : Int)) % 2147483647
def stirS (s : Int) (t : Nat) : Int := (s * s + 40503 * ((t + 1 : Nat) : Int) + 5) % 2147483629
theorem draw2_sp (p : Pk) (n : Int) (h0 : 0 < n) (h1 : n < 1000000000000000) (ht : p.t ≤ 1000000000000) : ∃ (r : Int) (q : Pk), 0 ≤ r ∧ r < n ∧ q.t ≤ p.t + 1 ∧ f__law_draw [.mu .bor (penK p), .pd (.int n)] = some (.pd (.int r), [.mu .bor (penK q), .pd (.int n)]) := by
  obtain ⟨a, b, t⟩ := p
  have x0 : ∀ x y z : PyData, atI [x, y, z] 0 = some x := fun _ _ _ => rfl
  have x1 : ∀ x y z : PyData, atI [x, y, z] 1 = some y := fun _ _ _ => rfl
  have x2 : ∀ x y z : PyData, atI [x, y, z] 2 = some z := fun _ _ _ => rfl
  have i0 : ixN 3 0 = some 0 := rfl
  have i1 : ixN 3 1 = some 1 := rfl
  have i2 : ixN 3 2 = some 2 := rfl
  by_cases ha : 0 < a
  · refine ⟨a % n, ⟨a / n, b, t⟩, Int.emod_nonneg _ (by omega), Int.emod_lt_of_pos _ h0, by simp, ?_⟩
    have cd : CDivW a n := cdv _ _ h0 h1
    unfold f__law_draw
    rw [run_of (e := [some (.mu .bor (penK ⟨a, b, t⟩)), some (.pd (.int n)), none, none]) rfl]
    simp [m__law_draw, penK, oIx, x0, kGt, oI, ha, kMod, h0, kFdiv, cd, putL, i0]
  · have tt : (t : Int) + 1 = ((t + 1 : Nat) : Int) := by omega
    have ht' : t ≤ 1000000000000 := ht
    have e64 : (2 : Int) ^ 64 = 18446744073709551616 := by decide
    have c1 := cmul_l 17 ((t + 1 : Nat) : Int) (by omega)
    have c2 := cmul_l 2 ((t + 1 : Nat) : Int) (by omega)
    have c3 : CMul (b + 17 * ((t + 1 : Nat) : Int)) (69621 + 2 * ((t + 1 : Nat) : Int)) := .inr (by rw [e64]; omega)
    have s1 : 0 ≤ stirB b t ∧ stirB b t < 2147483647 := ⟨Int.emod_nonneg _ (by decide), Int.emod_lt_of_pos _ (by decide)⟩
    have c4 := cmul_l (stirB b t) (stirB b t) (by omega)
    have c5 := cmul_l 40503 ((t + 1 : Nat) : Int) (by omega)
    have c6 : ∀ i, CMul i 48271 := fun i => cmul_r i 48271 (by omega)
    have cd2 : ∀ i, CDivW i 32 := fun i => cdv _ _ (by decide) (by decide)
    have e1 : (b + 17 * ((t + 1 : Nat) : Int)) * (69621 + 2 * ((t + 1 : Nat) : Int)) % 2147483647 = stirB b t := rfl
    have e2 : (stirB b t * stirB b t + 40503 * ((t + 1 : Nat) : Int) + 5) % 2147483629 = stirS (stirB b t) t := rfl
    refine ⟨stirS (stirB b t) t * 48271 % 2147483647 / 32 % n, ⟨a, b, t + 1⟩, Int.emod_nonneg _ (by omega), Int.emod_lt_of_pos _ h0, by simp, ?_⟩
    unfold f__law_draw
    rw [run_of (e := [some (.mu .bor (penK ⟨a, b, t⟩)), some (.pd (.int n)), none, none]) rfl]
    simp [m__law_draw, penK, oIx, x0, x1, x2, kGt, oI, ha, kMod, kMul, kAdd, h0, kFdiv, cd2, putL, i2, tt, c1, c2, c3, c4, c5, c6, e1, e2, -Int.natCast_add]
theorem pen2_sp (i : Int) : ∃ p : Pk, p.t = 0 ∧ f__law_pen [.pd (.int i)] = some (.tmp (penK p), [.pd (.int i)]) := by
  have cp : CPow 10 18 := ⟨by decide, by decide, by decide⟩
  refine ⟨⟨if i - 10 ^ 18 > 0 then i - 10 ^ 18 else 0, i % 1000000007, 0⟩, rfl, ?_⟩
  unfold f__law_pen
  rw [run_of (e := [some (.pd (.int i))]) rfl]
  simp [m__law_pen, kPow, oI, cp, kSub, oMax, kMod, penK]
theorem at_mem {xs : List PyData} {r : Int} (h0 : 0 ≤ r) (h1 : r < xs.length) : ∃ x ∈ xs, atI xs r = some x := by
  obtain ⟨k, rfl⟩ : ∃ k : Nat, r = k := ⟨r.toNat, by omega⟩
  have hk : k < xs.length := by omega
  exact ⟨xs[k], List.getElem_mem _, atI_at (by omega) (by simp [hk])⟩
theorem pick2_l (p : Pk) (xs : List PyData) (h0 : 0 < xs.length) (h1 : xs.length < 1073741824) (ht : p.t ≤ 1000000000000) : ∃ x ∈ xs, ∃ q : Pk, q.t ≤ p.t + 1 ∧ f__law_pick [.mu .bor (penK p), .mu .bor (.ls xs)] = some (.pd x, [.mu .bor (penK q), .mu .bor (.ls xs)]) := by
  obtain ⟨r, q, b0, b1, hq, d⟩ := draw2_sp p (xs.length : Int) (by omega) (by omega) ht
  obtain ⟨x, hx, e⟩ := at_mem b0 b1
  refine ⟨x, hx, q, hq, ?_⟩
  unfold f__law_pick
  rw [run_of (e := [some (.mu .bor (penK p)), some (.mu .bor (.ls xs))]) rfl]
  simp [m__law_pick, oLen, d, oIx, e]
def byDir (a b c d : PyData) : Dir → PyData
  | .n => a
  | .s => b
  | .e => c
  | .w => d
section
variable {cs : List Cell} (cl : ∀ c ∈ cs, ∀ d, inB (stepC c d) = true → stepC c d ∈ cs)
include cl
theorem goE : ∀ (k : Nat) (x y : Int), (x, y) ∈ cs → 0 ≤ x → x + k ≤ 3 → 0 ≤ y → y ≤ 3 → (x + k, y) ∈ cs
  | 0, x, y, h, _, _, _, _ => by simpa using h
  | k + 1, x, y, h, h0, h1, h2, h3 => by
    have := goE k (x + 1) y (cl (x, y) h .e (by show inB (x + 1, y) = true; unfold inB; simp only [Bool.and_eq_true, decide_eq_true_eq]; omega)) (by omega) (by omega) h2 h3
    rw [show x + ((k + 1 : Nat) : Int) = x + 1 + k by omega]
    exact this
theorem goW : ∀ (k : Nat) (x y : Int), (x, y) ∈ cs → 0 ≤ x - k → x ≤ 3 → 0 ≤ y → y ≤ 3 → (x - k, y) ∈ cs
  | 0, x, y, h, _, _, _, _ => by simpa using h
  | k + 1, x, y, h, h0, h1, h2, h3 => by
    have := goW k (x - 1) y (cl (x, y) h .w (by show inB (x - 1, y) = true; unfold inB; simp only [Bool.and_eq_true, decide_eq_true_eq]; omega)) (by omega) (by omega) h2 h3
    rw [show x - ((k + 1 : Nat) : Int) = x - 1 - k by omega]
    exact this
theorem goN : ∀ (k : Nat) (x y : Int), (x, y) ∈ cs → 0 ≤ y → y + k ≤ 3 → 0 ≤ x → x ≤ 3 → (x, y + k) ∈ cs
  | 0, x, y, h, _, _, _, _ => by simpa using h
  | k + 1, x, y, h, h0, h1, h2, h3 => by
    have := goN k x (y + 1) (cl (x, y) h .n (by show inB (x, y + 1) = true; unfold inB; simp only [Bool.and_eq_true, decide_eq_true_eq]; omega)) (by omega) (by omega) h2 h3
    rw [show y + ((k + 1 : Nat) : Int) = y + 1 + k by omega]
    exact this
theorem goS : ∀ (k : Nat) (x y : Int), (x, y) ∈ cs → 0 ≤ y - k → y ≤ 3 → 0 ≤ x → x ≤ 3 → (x, y - k) ∈ cs
  | 0, x, y, h, _, _, _, _ => by simpa using h
  | k + 1, x, y, h, h0, h1, h2, h3 => by
    have := goS k x (y - 1) (cl (x, y) h .s (by show inB (x, y - 1) = true; unfold inB; simp only [Bool.and_eq_true, decide_eq_true_eq]; omega)) (by omega) (by omega) h2 h3
    rw [show y - ((k + 1 : Nat) : Int) = y - 1 - k by omega]
    exact this
theorem goAny {c g : Cell} (h : c ∈ cs) (hc : inB c = true) (hg : inB g = true) : g ∈ cs := by
  obtain ⟨x, y⟩ := c
  obtain ⟨a, b⟩ := g
  simp [inB] at hc hg
  have h1 : (a, y) ∈ cs := by
    rcases Int.le_total x a with z | z
    · have := goE cl (a - x).toNat x y h (by omega) (by omega) (by omega) (by omega)
      rw [show x + ((a - x).toNat : Int) = a by omega] at this
      exact this
    · have := goW cl (x - a).toNat x y h (by omega) (by omega) (by omega) (by omega)
      rw [show x - ((x - a).toNat : Int) = a by omega] at this
      exact this
  rcases Int.le_total y b with z | z
  · have := goN cl (b - y).toNat a y h1 (by omega) (by omega) (by omega) (by omega)
    rw [show y + ((b - y).toNat : Int) = b by omega] at this
    exact this
  · have := goS cl (y - b).toNat a y h1 (by omega) (by omega) (by omega) (by omega)
    rw [show y - ((y - b).toNat : Int) = b by omega] at this
    exact this
end
def grid : List Cell := [(0, 0), (0, 1), (0, 2), (0, 3), (1, 0), (1, 1), (1, 2), (1, 3), (2, 0), (2, 1), (2, 2), (2, 3), (3, 0), (3, 1), (3, 2), (3, 3)]
theorem grid_in : ∀ c ∈ grid, inB c = true := by decide
theorem some_near {cs : List Cell} (hg : good cs) (hl : cs.length < 16) : ∃ c ∈ cs, ∃ d, inB (stepC c d) = true ∧ stepC c d ∉ cs := by
  refine Classical.byContradiction fun no => ?_
  have cl : ∀ c ∈ cs, ∀ d, inB (stepC c d) = true → stepC c d ∈ cs := fun c hc d hi => Classical.byContradiction fun z => no ⟨c, hc, d, hi, z⟩
  obtain ⟨c, hc⟩ := List.exists_mem_of_length_pos hg.1
  have sub : ∀ g ∈ grid, g ∈ cs := fun g h => goAny cl hc (hg.2.2 c hc) (grid_in g h)
  have nd : grid.Nodup := by decide
  have := nd.length_le_of_subset sub
  simp [grid] at this
  omega
theorem cell_sp (ns : List Int) (k : Nat) : ∃ i, f__law_cell [.pd (.list (ns.map .int)), .pd (.int (k : Nat))] = some (.pd (.int i), [.pd (.list (ns.map .int)), .pd (.int (k : Nat))]) := by
  unfold f__law_cell
  rw [run_of (e := [some (.pd (.list (ns.map .int))), some (.pd (.int (k : Nat)))]) rfl]
  by_cases h : k < ns.length
  · refine ⟨ns[k], ?_⟩
    have hx : oIx [.list (ns.map .int), .int (k : Nat)] = some (.int ns[k]) := by
      have := int_at (xs := ns) (i := k) h
      simp [oIx, this, h]
    simp [m__law_cell, oLen, kLt, kLt0, oI, h, hx]
  · refine ⟨0, ?_⟩
    simp [m__law_cell, oLen, kLt, kLt0, oI, h]
theorem keysE (a b c d : PyData) : keysK [(.str "e", a), (.str "n", b), (.str "s", c), (.str "w", d)] = some [(.inr "e", a), (.inr "n", b), (.inr "s", c), (.inr "w", d)] := rfl
theorem allE (a b c d : PyData) : allK [(.inr "e", a), (.inr "n", b), (.inr "s", c), (.inr "w", d)] = [(.inr "e", a), (.inr "n", b), (.inr "s", c), (.inr "w", d)] := by rfl
theorem besd_sp (c : Cell) (d : Dir) : f__law_beside [.pd (clD c), .pd (.str (chS d))] = some (.pd (clD (stepC c d)), [.pd (clD c), .pd (.str (chS d))]) := by
  have cl : clD c = .tuple [.int c.1, .int c.2] := rfl
  unfold f__law_beside
  rw [run_of (e := [some (.pd (clD c)), some (.pd (.str (chS d))), none, none]) rfl]
  have g : cGet (.dk [(.inr "e", .tuple [.int 1, .int 0]), (.inr "n", .tuple [.int 0, .int 1]), (.inr "s", .tuple [.int 0, .int (-1)]), (.inr "w", .tuple [.int (-1), .int 0])]) (.str (chS d)) = some (some (.tuple [.int (stepC (0, 0) d).1, .int (stepC (0, 0) d).2])) := by cases d <;> rfl
  have ng : kNeg [.pd (.int 1)] = fun env => some (.pd (.int (-1)), env) := rfl
  simp [m__law_beside, cl, kAdd, oI, keysE, allE, ng, g, ix20, ix21]
  cases d <;> simp [stepC, clD] <;> omega
theorem rolled2_sp (l : Ly) (d : Dir) : f__law_rolled [.pd (lyD l), .pd (.str (chS d))] = some (.pd (lyD (roll l d)), [.pd (lyD l), .pd (.str (chS d))]) := by
  unfold f__law_rolled
  rw [run_of (e := [some (.pd (lyD l)), some (.pd (.str (chS d))), none, none, none]) rfl]
  have g : oInS false [.str (chS d), .str "ns"] = some (.bool (match d with | .n => true | .s => true | _ => false)) := by cases d <;> rfl
  cases d <;> simp [m__law_rolled, lyD, g, oEq, ← chS_n, ← chS_s, ← chS_e, sh_ch, eqv_ch, kSub, oI, roll]
abbrev T2 := Bool × Dir
def cubeI (b : Bool) : Int := if b = true then 1 else 0
def tnD (t : T2) : PyData := .tuple [.int (cubeI t.1), .str (chS t.2)]
abbrev Pr := (Cell × Ly) × (Cell × Ly)
def prD (p : Pr) : PyData := .tuple [stD p.1.1 p.1.2, stD p.2.1 p.2.2]
def stp (p : Pr) (t : T2) : Pr := if t.1 = true then (p.1, (stepC p.2.1 t.2, roll p.2.2 t.2)) else ((stepC p.1.1 t.2, roll p.1.2 t.2), p.2)
def okP (F : List Cell) (p : Pr) : Prop := p.1.1 ∈ F ∧ p.2.1 ∈ F ∧ p.1.1 ≠ p.2.1
instance (F : List Cell) (p : Pr) : Decidable (okP F p) := by unfold okP; infer_instance
def lyP (p : Pr) : Prop := p.1.2 ∈ lyings ∧ p.2.2 ∈ lyings
theorem lyP_stp {p : Pr} (h : lyP p) (t : T2) : lyP (stp p t) := by
  unfold stp
  split
  · exact ⟨h.1, roll_mem _ h.2 _⟩
  · exact ⟨roll_mem _ h.1 _, h.2⟩
def letT (F : List Cell) : Pr → List T2 → Prop
  | _, [] => True
  | p, t :: ts => okP F (stp p t) ∧ letT F (stp p t) ts
def endP (p : Pr) (ts : List T2) : Pr := ts.foldl stp p
def offT (F : List Cell) : Pr → List T2 → Option Nat
  | _, [] => none
  | p, t :: ts => if okP F (stp p t) then (offT F (stp p t) ts).map (· + 1) else some 0
theorem offT_none {F : List Cell} : ∀ {ts : List T2} {p : Pr}, offT F p ts = none ↔ letT F p ts
  | [], p => by simp [offT, letT]
  | t :: ts, p => by
    simp only [offT, letT]
    split
    · rename_i h
      simp [h, offT_none (ts := ts)]
    · rename_i h
      simp [h]
def clsD (p : Pr) : PyData := .tuple [clD p.1.1, clD p.2.1]
theorem eq_cube (b : Bool) : oEq [.int (cubeI b), .int 0] = some (.bool (!b)) := by
  cases b <;> simp [cubeI, oEq, sh_int, eqv_int]
theorem ix_cube (a b : PyData) (t : Bool) : oIx [.tuple [a, b], .int (cubeI t)] = some (if t = true then b else a) := by cases t <;> rfl
theorem on_sp (p : Pr) (t : T2) : f__law_on [.pd (clsD p), .pd (tnD t)] = some (.pd (clsD (stp p t)), [.pd (clsD p), .pd (tnD t)]) := by
  obtain ⟨⟨c0, l0⟩, ⟨c1, l1⟩⟩ := p
  obtain ⟨b, d⟩ := t
  have b0 := besd_sp c0 d
  have b1 := besd_sp c1 d
  unfold f__law_on
  rw [run_of (e := [some (.pd (clsD ((c0, l0), (c1, l1)))), some (.pd (tnD (b, d))), none]) rfl]
  cases b <;> simp [m__law_on, clsD, tnD, ix20, ix21, ix_cube, eq_cube, b0, b1, stp]
theorem in_cells (c : Cell) (F : List Cell) (neg : Bool) : oIn neg [clD c, .tuple (F.map clD)] = some (.bool (if neg = true then !decide (c ∈ F) else decide (c ∈ F))) := by
  by_cases h : c ∈ F
  · rw [pl_in1 (pl_cell c) (pl_cells F) (by decide) (by decide) neg (.inl rfl) (mem_clD.mpr h)]
    cases neg <;> simp [h]
  · rw [pl_in0 (pl_cell c) (pl_cells F) (by decide) (by decide) neg (.inl rfl) (fun z => h (mem_clD.mp z))]
    cases neg <;> simp [h]
theorem in_cellsL (c : Cell) (F : List Cell) (neg : Bool) : oIn neg [clD c, .list (F.map clD)] = some (.bool (if neg = true then !decide (c ∈ F) else decide (c ∈ F))) := by
  by_cases h : c ∈ F
  · rw [pl_in1 (pl_cell c) (pl_cells F) (by decide) (by decide) neg (.inr rfl) (mem_clD.mpr h)]
    cases neg <;> simp [h]
  · rw [pl_in0 (pl_cell c) (pl_cells F) (by decide) (by decide) neg (.inr rfl) (fun z => h (mem_clD.mp z))]
    cases neg <;> simp [h]
theorem ne_cell (a b : Cell) : oNe [clD a, clD b] = some (.bool (decide (a ≠ b))) := by
  by_cases h : a = b
  · rw [pl_ne (pl_cell a) (pl_cell b) (by decide) (by decide) (by rw [h])]; simp [h]
  · rw [pl_ne' (pl_cell a) (pl_cell b) (by decide) (by decide) (fun z => h (MM.clD_inj z))]; simp [h]
theorem is_let_sp (F : List Cell) (p : Pr) (t : T2) : f__law_is_let [.nt (F.map clD), .pd (clsD p), .pd (tnD t)] = some (.pd (.bool (decide (okP F (stp p t)))), [.nt (F.map clD), .pd (clsD p), .pd (tnD t)]) := by
  have o := on_sp p t
  unfold f__law_is_let
  rw [run_of (e := [some (.nt (F.map clD)), some (.pd (clsD p)), some (.pd (tnD t)), none, none]) rfl]
  have cl : clsD (stp p t) = .tuple [clD (stp p t).1.1, clD (stp p t).2.1] := rfl
  rw [cl] at o
  unfold okP
  by_cases h1 : (stp p t).1.1 ∈ F <;> by_cases h2 : (stp p t).2.1 ∈ F <;> simp [m__law_is_let, o, in_cells, ne_cell, h1, h2]
def allT : List T2 := (all4.map fun d => (false, d)) ++ all4.map fun d => (true, d)
theorem all_turns_sp : f__law_all_turns [] = some (.tmp (.ls (allT.map tnD)), []) := by
  have sg : signs "ensw" = all4.map chD := by rw [ensw_row, signs_row]; rfl
  unfold f__law_all_turns
  rw [run_of (e := [none]) rfl]
  have lc : ∀ i : Int, eLc (iSeq (eC (.str "ensw"))) (gN 0) bYes (eThen (eCons (eC (.int i)) (eCons (eVar 0) eNil)) kTup) [0] [none] = some (.tmp (.ls (all4.map fun d => .tuple [.int i, chD d])), [none]) := fun i => by
    have := lc_all (it := iSeq (eC (.str "ensw"))) (g := gN 0) (f := eThen (eCons (eC (.int i)) (eCons (eVar 0) eNil)) kTup) (vs := [0]) (env := [none]) (e := [none]) (lk := none) (q := chD) (y := fun d => .tuple [.int i, chD d]) all4 (by simp [sg]) (by decide) (fun d _ => by simp [lcOk, wipeE, unwipe])
    rw [z_unl] at this
    exact this
  simp [m__law_all_turns, lc, kAdd, oI, oCatS, oCatT, kCatL, lsOf, -z_lc]
  simp [allT, all4, tnD, cubeI, chD]
def colC (cs : List Cell) (a : Nat) : List Cell := ((List.range 4).map fun b => (((a : Nat) : Int), ((b : Nat) : Int))).filter fun c => decide (c ∉ cs)
def othC (cs : List Cell) : List Cell := (List.range 4).flatMap (colC cs)
theorem mem_oth {cs : List Cell} {c : Cell} : c ∈ othC cs ↔ inB c = true ∧ c ∉ cs := by
  unfold othC colC
  simp only [List.mem_flatMap, List.mem_filter, List.mem_map, List.mem_range, decide_eq_true_eq]
  constructor
  · rintro ⟨a, ha, ⟨b, hb, rfl⟩, h⟩
    refine ⟨?_, h⟩
    unfold inB
    simp only [Bool.and_eq_true, decide_eq_true_eq]
    omega
  · rintro ⟨hi, h⟩
    have b := inB_b hi
    refine ⟨c.1.toNat, by omega, ⟨c.2.toNat, by omega, ?_⟩, h⟩
    exact Prod.ext (by simp only; omega) (by simp only; omega)
theorem oth_len (cs : List Cell) : (othC cs).length ≤ 16 := by
  have : ∀ a, (colC cs a).length ≤ 4 := fun a => Nat.le_trans (List.length_filter_le _ _) (by simp)
  unfold othC
  have h0 := this 0; have h1 := this 1; have h2 := this 2; have h3 := this 3
  simp [List.range, List.range.loop]
  omega
theorem col_len (cs : List Cell) (a : Nat) : (colC cs a).length ≤ 4 := Nat.le_trans (List.length_filter_le _ _) (by simp)
def OthI (cs : List Cell) (rest : List PyData) (e : Sl) : Prop := ∃ (as : List Nat) (acc : List Cell), rest = (as.map fun a => .int ((a : Nat) : Int)) ∧ acc ++ as.flatMap (colC cs) = othC cs ∧ acc.length + 4 * as.length ≤ 16 ∧ Al 1 4 e ∧ e[0]? = some (some (.mu .bor (.ls (cs.map clD)))) ∧ e[1]? = some (some (.mu .own (.ls (acc.map clD))))
theorem others_sp (cs : List Cell) : f__law_others [.mu .bor (.ls (cs.map clD))] = some (.tmp (.ls ((othC cs).map clD)), [.mu .bor (.ls (cs.map clD))]) := by
  have key : wF f__law_others [.mu .bor (.ls (cs.map clD))] (fun r as => r = .tmp (.ls ((othC cs).map clD)) ∧ as = [.mu .bor (.ls (cs.map clD))]) := by
    refine wF_run (e := startE 4 [.mu .bor (.ls (cs.map clD))]) rfl ?_
    have A := Al.start (n := 4) [.mu .bor (.ls (cs.map clD))] (by simp)
    have h0 : (startE 4 [.mu .bor (.ls (cs.map clD))])[0]? = some (some (.mu .bor (.ls (cs.map clD)))) := rfl
    generalize startE 4 [.mu .bor (.ls (cs.map clD))] = e at *
    have fr := A.fre
    have ln := A.len
    simp only [List.length_cons, List.length_nil, Nat.zero_add] at fr
    refine wS_seq ?_
    simp [wS, fr, -z_free]
    rw [go]
    refine wS_seq ?_
    refine wS_for (xs := upD 4) (lk := none) (e := e.set 1 (some (.mu .own (.ls [])))) (rg1_up (by simp) (by decide)) (OthI cs) ⟨List.range 4, [], rfl, rfl, by decide, A.set rfl, by simpa using h0, by simp [ln]⟩ ?_ ?_
    · rintro x rest e ⟨as, acc, er, ea, al, A, h0, h1⟩
      cases as with
      | nil => simp at er
      | cons a as =>
        obtain ⟨rfl, rfl⟩ : x = .int ((a : Nat) : Int) ∧ rest = as.map fun a => .int ((a : Nat) : Int) := by simpa using er
        have fr := A.fre
        have ln := A.len
        simp only [List.length_cons] at al
        have cl := col_len cs a
        simp only [gW, z_gN, z_setR, fr 2 (by decide) (by decide), if_true]
        rw [go]
        have A2 := A.set (i := 2) (s := some (.pd (.int ((a : Nat) : Int)))) rfl
        have g0 : (e.set 2 (some (.pd (.int ((a : Nat) : Int)))))[0]? = some (some (.mu .bor (.ls (cs.map clD)))) := by simpa using h0
        have g1 : (e.set 2 (some (.pd (.int ((a : Nat) : Int)))))[1]? = some (some (.mu .own (.ls (acc.map clD)))) := by simpa using h1
        have g2 : (e.set 2 (some (.pd (.int ((a : Nat) : Int)))))[2]? = some (some (.pd (.int ((a : Nat) : Int)))) := by simp [ln]
        generalize e.set 2 (some (.pd (.int ((a : Nat) : Int)))) = e2 at *
        have f2 := A2.fre
        have l2 := A2.len
        have lc := lcF (it := iRg1 (eCons (eC (.int 4)) eNil)) (g := gN 3) (t := bT (eNin (eThen (eCons (eVar 2) (eCons (eVar 3) eNil)) kTup) (eVar 0))) (f := eThen (eCons (eVar 2) (eCons (eVar 3) eNil)) kTup) (vs := [3]) (lk := none) (env := e2) (e := e2) (q := fun b : Nat => .int ((b : Nat) : Int)) (as := List.range 4) (fun b => decide ((((a : Nat) : Int), ((b : Nat) : Int)) ∉ cs)) (fun b => clD (((a : Nat) : Int), ((b : Nat) : Int))) (rg1_up (n := 4) (by simp) (by decide)) (by decide) (fun b hb => by
          have := in_cellsL (((a : Nat) : Int), ((b : Nat) : Int)) cs true
          have cl : clD (((a : Nat) : Int), ((b : Nat) : Int)) = .tuple [.int ((a : Nat) : Int), .int ((b : Nat) : Int)] := rfl
          rw [cl] at this
          by_cases z : (((a : Nat) : Int), ((b : Nat) : Int)) ∈ cs <;> simp [lcI, wipe_at, wipe_free, wipeE_len, l2, g0, g2, this, z, cl, Kp.set, -z_free, -getElem?_pos])
        have eq : (((List.range 4).filter fun b => decide ((((a : Nat) : Int), ((b : Nat) : Int)) ∉ cs)).map fun b => clD (((a : Nat) : Int), ((b : Nat) : Int))) = (colC cs a).map clD := by
          unfold colC
          rw [List.filter_map, List.map_map]
          rfl
        rw [eq, z_unl] at lc
        have ll : acc.length + (colC cs a).length ≤ 1000000 := by omega
        refine wS_of (fl := .nx) (e := e2.set 1 (some (.mu .own (.ls ((acc ++ colC cs a).map clD))))) (by simp [g1, lc, kAdd, oI, oCatS, oCatT, kCatL, lsOf, ll, f2, -z_lc, -z_free, -getElem?_pos]) ?_
        exact ⟨as, acc ++ colC cs a, rfl, by rw [← ea]; simp, by simp; omega, A2.set rfl, by simpa using g0, by simp [l2]⟩
    · rintro e ⟨as, acc, er, ea, al, A, h0, h1⟩
      have ha : as = [] := by cases as with
        | nil => rfl
        | cons a as => simp at er
      subst ha
      have ln := A.len
      have ea : acc = othC cs := by simpa using ea
      subst ea
      rw [z_unl, nxt_nx, go]
      refine wS_of (fl := .rt (.var 1)) (e := e) (by simp [h1]) ?_
      exact ⟨_, _, by simp [h1], fin_mu rfl (by decide) (by simp [ln]) h0, rfl, rfl⟩
  obtain ⟨r, as, e, rfl, rfl⟩ := key
  exact e
def nearC (cs : List Cell) : List Cell := (othC cs).filter fun c => decide (∃ d ∈ all4, stepC c d ∈ cs)
def opD : Dir → Dir
  | .n => .s
  | .s => .n
  | .e => .w
  | .w => .e
theorem step_op (c : Cell) (d : Dir) : stepC (stepC c d) (opD d) = c := by
  obtain ⟨a, b⟩ := c
  cases d <;> simp [stepC, opD] <;> omega
theorem near_pos {cs : List Cell} (hg : good cs) (hl : cs.length < 16) : 0 < (nearC cs).length := by
  obtain ⟨c, hc, d, hi, hn⟩ := some_near hg hl
  refine List.length_pos_of_mem (a := stepC c d) ?_
  refine List.mem_filter.mpr ⟨mem_oth.mpr ⟨hi, hn⟩, ?_⟩
  rw [decide_eq_true_eq]
  exact ⟨opD d, by cases d <;> simp [all4, opD], by rw [step_op]; exact hc⟩
theorem oth_pos {cs : List Cell} (hg : good cs) (hl : cs.length < 16) : 0 < (othC cs).length := Nat.lt_of_lt_of_le (near_pos hg hl) (List.length_filter_le _ _)
theorem near_lc (cs : List Cell) (hl : cs.length ≤ 100) (e : Sl) (l8 : e.length = 8) (h3 : e[3]? = some (some (.mu .own (.ls (cs.map clD))))) :
    eLc (iSeq (eCall f__law_others (eCons (eVar 3) eNil))) (gN 6) (bT (eNe (eLc (iSeq (eC (.str "ensw"))) (gN 7) (bT (eIn (eCall f__law_beside (eCons (eVar 6) (eCons (eVar 7) eNil))) (eVar 3))) (eC (.int 1)) [7]) (eThen eNil kLst))) (eVar 6) [6] e = some (.tmp (.ls ((nearC cs).map clD)), e) := by
  have ot := others_sp cs
  have ol := oth_len cs
  have sg : signs "ensw" = all4.map chD := by rw [ensw_row, signs_row]; rfl
  have e3 : e.set 3 (some (.mu .own (.ls (cs.map clD)))) = e := by
    refine List.ext_getElem? fun i => ?_
    rw [List.getElem?_set]
    split
    · rename_i z; subst z; rw [if_pos (by rw [l8]; decide), h3]
    · rfl
  have := lcF (it := iSeq (eCall f__law_others (eCons (eVar 3) eNil))) (g := gN 6) (t := bT (eNe (eLc (iSeq (eC (.str "ensw"))) (gN 7) (bT (eIn (eCall f__law_beside (eCons (eVar 6) (eCons (eVar 7) eNil))) (eVar 3))) (eC (.int 1)) [7]) (eThen eNil kLst))) (f := eVar 6) (vs := [6]) (lk := none) (env := e) (e := e) (q := clD) (as := othC cs) (fun c => decide (∃ d ∈ all4, stepC c d ∈ cs)) clD (by simp [h3, ot, e3]) (by omega) (fun c hc => by
    have inner : ∀ e' : Sl, e'.length = 8 → e'[3]? = some (some (.mu .own (.ls (cs.map clD)))) → e'[6]? = some (some (.pd (clD c))) → eLc (iSeq (eC (.str "ensw"))) (gN 7) (bT (eIn (eCall f__law_beside (eCons (eVar 6) (eCons (eVar 7) eNil))) (eVar 3))) (eC (.int 1)) [7] e' = some (.tmp (.ls ((all4.filter fun d => decide (stepC c d ∈ cs)).map fun _ => .int 1)), e') := by
      intro e' l' g3 g6
      have := lcF (it := iSeq (eC (.str "ensw"))) (g := gN 7) (t := bT (eIn (eCall f__law_beside (eCons (eVar 6) (eCons (eVar 7) eNil))) (eVar 3))) (f := eC (.int 1)) (vs := [7]) (lk := none) (env := e') (e := e') (q := chD) (as := all4) (fun d => decide (stepC c d ∈ cs)) (fun _ => .int 1) (by simp [sg]) (by decide) (fun d _ => by
        have b := besd_sp c d
        have i := in_cellsL (stepC c d) cs false
        by_cases z : stepC c d ∈ cs <;> simp [lcI, wipe_at, wipe_free, wipeE_len, l', g3, g6, chD, b, i, z, Kp.set, -z_free, -getElem?_pos])
      rw [z_unl] at this
      exact this
    have i1 := inner ((wipeE e [6]).set 6 (some (.pd (clD c)))) (by simp [wipeE_len, l8]) (by simp [wipe_at, h3, -getElem?_pos]) (by simp [wipeE_len, l8])
    have ne : oNe [.list ((all4.filter fun d => decide (stepC c d ∈ cs)).map fun _ => .int 1), .list []] = some (.bool (decide (∃ d ∈ all4, stepC c d ∈ cs))) := by
      have p1 : pl 1 (.list ((all4.filter fun d => decide (stepC c d ∈ cs)).map fun _ => .int 1)) = true := pl_lst fun _ _ => rfl
      by_cases z : ∃ d ∈ all4, stepC c d ∈ cs
      · rw [pl_ne' p1 (by rfl : pl 1 (.list []) = true) (by decide) (by decide) (by
          obtain ⟨d, hd, hs⟩ := z
          intro q
          have : (all4.filter fun d => decide (stepC c d ∈ cs)) = [] := by simpa using q
          have m : d ∈ all4.filter fun d => decide (stepC c d ∈ cs) := List.mem_filter.mpr ⟨hd, by simpa using hs⟩
          rw [this] at m
          exact absurd m (by simp))]
        simp only [z, decide_true]
      · rw [pl_ne p1 (by rfl : pl 1 (.list []) = true) (by decide) (by decide) (by
          have : (all4.filter fun d => decide (stepC c d ∈ cs)) = [] := by
            rw [List.filter_eq_nil_iff]
            intro d hd q
            exact z ⟨d, hd, by simpa using q⟩
          rw [this]
          rfl)]
        simp only [z, decide_false]
    by_cases z : ∃ d ∈ all4, stepC c d ∈ cs
    · simp only [z, decide_true] at ne ⊢
      simp [lcI, wipe_free, wipeE_len, l8, i1, ne, Kp.set, -z_free, -getElem?_pos, -z_lc]
    · simp only [z, decide_false] at ne ⊢
      simp [lcI, wipe_free, wipeE_len, l8, i1, ne, Kp.set, -z_free, -getElem?_pos, -z_lc])
  rw [z_unl] at this
  exact this
def FlI (p0 : Pk) (m : Nat) (a b : Int) (rest : List PyData) (e : Sl) : Prop := ∃ (p : Pk) (cs : List Cell), p.t + 2 * rest.length ≤ p0.t + 3 + 2 * m ∧ good cs ∧ cs.length + rest.length = 1 + m ∧ Al 3 8 e ∧ e[0]? = some (some (.mu .bor (penK p))) ∧ e[3]? = some (some (.mu .own (.ls (cs.map clD))))
theorem good_new {cs : List Cell} {c : Cell} (h : good cs) (hc : c ∈ othC cs) : good (cs ++ [c]) := by
  obtain ⟨hi, hn⟩ := mem_oth.mp hc
  refine ⟨by simp, ?_, ?_⟩
  · rw [List.nodup_append]
    exact ⟨h.2.1, by simp, fun a ha b hb => by
      rw [List.mem_singleton] at hb
      subst hb
      exact fun z => hn (z ▸ ha)⟩
  · intro x hx
    rcases List.mem_append.mp hx with hx | hx
    · exact h.2.2 x hx
    · rw [List.mem_singleton.mp hx]; exact hi
theorem sort_ok {cs : List Cell} (hg : good cs) (h1 : 1 ≤ cs.length) (h9 : cs.length ≤ 9) : okFl (cs.mergeSort prLe) ∧ (cs.mergeSort prLe).length = cs.length := by
  have tr : ∀ a b c : Cell, prLe a b = true → prLe b c = true → prLe a c = true := by
    intro a b c h1 h2; simp [prLe] at *; omega
  have to : ∀ a b : Cell, (prLe a b || prLe b a) = true := by
    intro a b; simp [prLe]; omega
  have pm := List.mergeSort_perm cs prLe
  have pw := List.pairwise_mergeSort tr to cs
  have ln : (cs.mergeSort prLe).length = cs.length := List.length_mergeSort _
  exact ⟨⟨by omega, by omega, fun c hc => hg.2.2 c (pm.mem_iff.mp hc), chain_of _ (fun c hc => hg.2.2 c (pm.mem_iff.mp hc)) pw (pm.nodup_iff.mpr hg.2.1)⟩, ln⟩
theorem floor_sp2 (p : Pk) (a b : Nat) (ha : 1 ≤ a) (hab : a ≤ b) (hb : b ≤ 9) (ht : p.t ≤ 100000000) : ∃ (q : Pk) (cs : List Cell), q.t ≤ p.t + 30 ∧ okFl cs ∧ a ≤ cs.length ∧ cs.length ≤ b ∧ f__law_floor [.mu .bor (penK p), .pd (.int (a : Nat)), .pd (.int (b : Nat))] = some (.nt (cs.map clD), [.mu .bor (penK q), .pd (.int (a : Nat)), .pd (.int (b : Nat))]) := by
  have key : ∀ Q : R → List S → Prop, (∀ (q : Pk) (cs : List Cell), q.t ≤ p.t + 30 → okFl cs → a ≤ cs.length → cs.length ≤ b → Q (.nt (cs.map clD)) [.mu .bor (penK q), .pd (.int (a : Nat)), .pd (.int (b : Nat))]) → wF f__law_floor [.mu .bor (penK p), .pd (.int (a : Nat)), .pd (.int (b : Nat))] Q := by
    intro Q hQ
    refine wF_run (e := startE 8 [.mu .bor (penK p), .pd (.int (a : Nat)), .pd (.int (b : Nat))]) rfl ?_
    have A : Al 3 8 (startE 8 [.mu .bor (penK p), .pd (.int (a : Nat)), .pd (.int (b : Nat))]) := al_start rfl (by decide)
    have h0 : (startE 8 [.mu .bor (penK p), .pd (.int (a : Nat)), .pd (.int (b : Nat))])[0]? = some (some (.mu .bor (penK p))) := rfl
    have h1 : (startE 8 [.mu .bor (penK p), .pd (.int (a : Nat)), .pd (.int (b : Nat))])[1]? = some (some (.pd (.int (a : Nat)))) := rfl
    have h2 : (startE 8 [.mu .bor (penK p), .pd (.int (a : Nat)), .pd (.int (b : Nat))])[2]? = some (some (.pd (.int (b : Nat)))) := rfl
    generalize startE 8 [.mu .bor (penK p), .pd (.int (a : Nat)), .pd (.int (b : Nat))] = e at *
    have fr := A.fre
    have ln := A.len
    obtain ⟨x, p1, x0, x1, hp1, d1⟩ := draw2_sp p 4 (by decide) (by decide) (by omega)
    obtain ⟨y, p2, y0, y1, hp2, d2⟩ := draw2_sp p1 4 (by decide) (by decide) (by omega)
    refine wS_seq ?_
    simp [wS, free_ne_set, fr, ln, h0, d1, d2, -z_free, -getElem?_pos]
    rw [go]
    refine wS_seq ?_
    refine wS_gen fun E hE => ?_
    have AE : Al 3 8 E := by rw [hE]; repeat (first | exact A | refine Al.set ?_ rfl | refine Al.low ?_ (by decide))
    have g0 : E[0]? = some (some (.mu .bor (penK p2))) := by rw [hE]; simp [ln]
    have g1 : E[1]? = some (some (.pd (.int (a : Nat)))) := by rw [hE]; simpa using h1
    have g2 : E[2]? = some (some (.pd (.int (b : Nat)))) := by rw [hE]; simpa using h2
    have g3 : E[3]? = some (some (.mu .own (.ls ([(x, y)].map clD)))) := by rw [hE]; simp [ln, clD]
    clear hE
    have lE := AE.len
    obtain ⟨z, p3, z0, z1, hp3, d3⟩ := draw2_sp p2 ((b : Int) - a + 1) (by omega) (by omega) (by omega)
    obtain ⟨k, rfl⟩ : ∃ k : Nat, z = k := ⟨z.toNat, by omega⟩
    have m1 : (a : Int) - 1 + (k : Int) = ((a - 1 + k : Nat) : Int) := by omega
    refine wS_for (xs := upD (a - 1 + k)) (lk := none) (e := E.set 0 (some (.mu .bor (penK p3)))) (rg1_up (by simp [g0, g1, g2, lE, kAdd, kSub, oI, d3, m1, -getElem?_pos, -Int.natCast_add]) (by omega)) (FlI p (a - 1 + k) a b) ⟨p3, [(x, y)], by rw [upD_len]; omega, ⟨by simp, by simp, fun c hc => by
      simp at hc
      subst hc
      unfold inB
      simp
      omega⟩, by rw [upD_len]; simp, AE.low (by decide), by simp [lE], by simpa using g3⟩ ?_ ?_
    · rintro w rest e ⟨p, cs, hp, hg, hl, A, h0, h3⟩
      rw [List.length_cons] at hp hl
      have fr := A.fre
      have ln := A.len
      simp only [gW, z_gN, z_setR, fr 4 (by decide) (by decide), if_true]
      rw [go]
      refine wS_seq ?_
      have nl := near_lc cs (by omega) (e.set 4 (some (.pd w))) (by simp [ln]) (by simpa using h3)
      simp [wS, free_ne_set, fr, ln, nl, -z_free, -getElem?_pos, -z_lc]
      rw [go]
      refine wS_gen fun E hE => ?_
      have AE : Al 3 8 E := by rw [hE]; repeat (first | exact A | refine Al.set ?_ rfl | refine Al.low ?_ (by decide))
      have g0 : E[0]? = some (some (.mu .bor (penK p))) := by rw [hE]; simpa using h0
      have g3 : E[3]? = some (some (.mu .own (.ls (cs.map clD)))) := by rw [hE]; simpa using h3
      have g5 : E[5]? = some (some (.mu .own (.ls ((nearC cs).map clD)))) := by rw [hE]; simp [ln]
      clear hE
      have lE := AE.len
      have fE := AE.fre
      obtain ⟨z, q1, z0, z1, hq1, d1⟩ := draw2_sp p 7 (by decide) (by decide) (by omega)
      have np := near_pos hg (by omega)
      have op := oth_pos hg (by omega)
      have ol := oth_len cs
      have nl2 : (nearC cs).length ≤ 16 := Nat.le_trans (List.length_filter_le _ _) ol
      have ot := others_sp cs
      have lim : cs.length ≤ 1000000 := by omega
      by_cases zz : z > 0
      · obtain ⟨v, hv, q2, hq2, pk⟩ := pick2_l q1 ((nearC cs).map clD) (by simpa using np) (by simp; omega) (by omega)
        obtain ⟨c, hc, rfl⟩ := List.mem_map.mp hv
        have hc' : c ∈ othC cs := (List.mem_filter.mp hc).1
        simp [wS, isL, g0, g3, g5, lE, kGt, oI, d1, zz, pk, kAppend, lim, -z_free, -getElem?_pos]
        exact ⟨q2, cs ++ [c], by omega, good_new hg hc', by simp; omega, by repeat (first | exact AE | refine Al.set ?_ rfl | refine Al.low ?_ (by decide)), by simp [lE], by simp [lE]⟩
      · obtain ⟨v, hv, q2, hq2, pk⟩ := pick2_l q1 ((othC cs).map clD) (by simpa using op) (by simp; omega) (by omega)
        obtain ⟨c, hc, rfl⟩ := List.mem_map.mp hv
        simp [wS, isL, g0, g3, g5, lE, kGt, oI, d1, zz, ot, pk, kAppend, lim, -z_free, -getElem?_pos]
        exact ⟨q2, cs ++ [c], by omega, good_new hg hc, by simp; omega, by repeat (first | exact AE | refine Al.set ?_ rfl | refine Al.low ?_ (by decide)), by simp [lE], by simp [lE]⟩
    · rintro e ⟨p', cs, hp, hg, hl, A, h0, h3⟩
      have ln := A.len
      simp only [List.length_nil, Nat.mul_zero, Nat.add_zero] at hp hl
      obtain ⟨ok, sl⟩ := sort_ok hg (by omega) (by omega)
      have hn : ints? (cs.map clD) = none := by
        cases cs with
        | nil => exact absurd hg.1 (by simp)
        | cons c r => rfl
      have hpr := pairs_of cs hg.2.2
      have hlt : cs.length < 64 := by omega
      rw [z_unl, nxt_nx, go]
      refine wS_of (fl := .rt (.nt ((cs.mergeSort prLe).map clD))) (e := e) (by simp [h3, kSorted, hn, hpr, hlt, kTupN]) ?_
      exact ⟨_, _, rfl, fin_mu rfl (by decide) (by simp [ln]) h0, hQ p' _ (by omega) ok (by omega) (by omega)⟩
  obtain ⟨r, as, e, q, cs, h1, h2, h3, h4, rfl, rfl⟩ := key (fun r as => ∃ (q : Pk) (cs : List Cell), q.t ≤ p.t + 30 ∧ okFl cs ∧ a ≤ cs.length ∧ cs.length ≤ b ∧ r = .nt (cs.map clD) ∧ as = [.mu .bor (penK q), .pd (.int (a : Nat)), .pd (.int (b : Nat))]) (fun q cs h1 h2 h3 h4 => ⟨q, cs, h1, h2, h3, h4, rfl, rfl⟩)
  exact ⟨q, cs, h1, h2, h3, h4, e⟩
def LyI (p0 : Pk) (m : Nat) (rest : List PyData) (e : Sl) : Prop := ∃ (p : Pk) (l : Ly), p.t + rest.length ≤ p0.t + 1 + m ∧ l ∈ lyings ∧ Al 1 3 e ∧ e[0]? = some (some (.mu .bor (penK p))) ∧ e[1]? = some (some (.pd (lyD l)))
theorem lying_sp2 (p : Pk) (ht : p.t ≤ 1000000000) : ∃ (q : Pk) (l : Ly), q.t ≤ p.t + 8 ∧ l ∈ lyings ∧ f__law_lying [.mu .bor (penK p)] = some (.pd (lyD l), [.mu .bor (penK q)]) := by
  have key : ∀ Q : R → List S → Prop, (∀ (q : Pk) (l : Ly), q.t ≤ p.t + 8 → l ∈ lyings → Q (.pd (lyD l)) [.mu .bor (penK q)]) → wF f__law_lying [.mu .bor (penK p)] Q := by
    intro Q hQ
    refine wF_run (e := startE 3 [.mu .bor (penK p)]) rfl ?_
    have A : Al 1 3 (startE 3 [.mu .bor (penK p)]) := al_start rfl (by decide)
    have h0 : (startE 3 [.mu .bor (penK p)])[0]? = some (some (.mu .bor (penK p))) := rfl
    generalize startE 3 [.mu .bor (penK p)] = e at *
    have fr := A.fre
    have ln := A.len
    obtain ⟨z, p1, z0, z1, hp1, d1⟩ := draw2_sp p 7 (by decide) (by decide) (by omega)
    obtain ⟨k, rfl⟩ : ∃ k : Nat, z = k := ⟨z.toNat, by omega⟩
    refine wS_seq ?_
    simp [wS, free_ne_set, fr, ln, -z_free, -getElem?_pos]
    rw [go]
    refine wS_seq ?_
    refine wS_for (xs := upD k) (lk := none) (e := (e.set 1 (some (.pd (lyD (0, 1, 2))))).set 0 (some (.mu .bor (penK p1)))) (rg1_up (by simp [h0, ln, d1, lyD, -getElem?_pos]) (by omega)) (LyI p k) ⟨p1, (0, 1, 2), by rw [upD_len]; omega, by decide, (A.set rfl).low (by decide), by simp [ln], by simp [ln]⟩ ?_ ?_
    · rintro w rest e ⟨q, l, hq, hl, A, h0, h1⟩
      rw [List.length_cons] at hq
      have fr := A.fre
      have ln := A.len
      obtain ⟨r, q2, r0, r1, hq2, d2⟩ := draw2_sp q 4 (by decide) (by decide) (by omega)
      have ix := ensw_ix r r0 r1
      have ro := rolled2_sp l (dirAt r)
      simp only [gW, z_gN, z_setR, fr 2 (by decide) (by decide), if_true]
      rw [go]
      simp [wS, free_ne_set, fr, ln, h0, h1, d2, ix, ro, -z_free, -getElem?_pos]
      exact ⟨q2, roll l (dirAt r), by omega, roll_mem l hl _, by repeat (first | exact A | refine Al.set ?_ rfl | refine Al.low ?_ (by decide)), by simp [ln], by simp [ln]⟩
    · rintro e ⟨q, l, hq, hl, A, h0, h1⟩
      have ln := A.len
      rw [z_unl, nxt_nx, go]
      refine wS_of (fl := .rt (.pd (lyD l))) (e := e) (by simp [h1]) ?_
      exact ⟨_, _, rfl, fin_mu rfl (by decide) (by simp [ln]) h0, hQ q l (by simp at hq; omega) hl⟩
  obtain ⟨r, as, e, q, l, h1, h2, rfl, rfl⟩ := key (fun r as => ∃ (q : Pk) (l : Ly), q.t ≤ p.t + 8 ∧ l ∈ lyings ∧ r = .pd (lyD l) ∧ as = [.mu .bor (penK q)]) (fun q l h1 h2 => ⟨q, l, h1, h2, rfl, rfl⟩)
  exact ⟨q, l, h1, h2, e⟩
theorem pair_sp (p : Pk) (F : List Cell) (hF : okFl F) (h2 : 2 ≤ F.length) (ht : p.t ≤ 100000000) : ∃ (q : Pk) (r : Pr), q.t ≤ p.t + 20 ∧ okP F r ∧ lyP r ∧ f__law_pair [.mu .bor (penK p), .nt (F.map clD)] = some (.pd (prD r), [.mu .bor (penK q), .nt (F.map clD)]) := by
  have h9 := hF.2.1
  obtain ⟨x, p1, x0, x1, hp1, d1⟩ := draw2_sp p (F.length : Int) (by omega) (by omega) (by omega)
  obtain ⟨y, p2, y0, y1, hp2, d2⟩ := draw2_sp p1 ((F.length : Int) - 1) (by omega) (by omega) (by omega)
  obtain ⟨p3, l0, hp3, hl0, e3⟩ := lying_sp2 p2 (by omega)
  obtain ⟨p4, l1, hp4, hl1, e4⟩ := lying_sp2 p3 (by omega)
  obtain ⟨i, rfl⟩ : ∃ i : Nat, x = i := ⟨x.toNat, by omega⟩
  obtain ⟨j, rfl⟩ : ∃ j : Nat, y = j := ⟨y.toNat, by omega⟩
  have hi : i < F.length := by omega
  have hk : (i + 1 + j) % F.length < F.length := Nat.mod_lt _ (by omega)
  have ne : i ≠ (i + 1 + j) % F.length := by
    intro e
    have hm := Nat.mod_def (i + 1 + j) F.length
    by_cases q : i + 1 + j < F.length
    · rw [Nat.mod_eq_of_lt q] at e; omega
    · have : (i + 1 + j) % F.length = i + 1 + j - F.length := by
        rw [Nat.mod_eq_sub_mod (by omega), Nat.mod_eq_of_lt (by omega)]
      omega
  have cdiff : F[i] ≠ F[(i + 1 + j) % F.length] := fun e => ne ((List.getElem_inj (chain_nd hF.2.2.2)).mp e)
  have ix : ∀ (k : Nat) (hk : k < F.length), oIx [.tuple (F.map clD), .int (k : Nat)] = some (clD F[k]) := fun k hk => by
    have : atI (F.map clD) ((k : Nat) : Int) = some (clD F[k]) := by
      refine atI_at (by omega) ?_
      simp [hk]
    simpa [oIx] using this
  have i1 := ix i hi
  have i2 := ix _ hk
  have md : ((i : Int) + 1 + j) % (F.length : Int) = (((i + 1 + j) % F.length : Nat) : Int) := by rw [Int.natCast_emod]; congr 1
  refine ⟨p4, ((F[i], l0), (F[(i + 1 + j) % F.length], l1)), by omega, ⟨List.getElem_mem _, List.getElem_mem _, cdiff⟩, ⟨hl0, hl1⟩, ?_⟩
  unfold f__law_pair
  rw [run_of (e := [some (.mu .bor (penK p)), some (.nt (F.map clD)), none, none]) rfl]
  have pos : 0 < F.length := by omega
  simp [m__law_pair, oLen, d1, kAdd, kSub, kMod, oI, d2, md, pos, i1, i2, e3, e4, prD, stD, -Int.natCast_emod]
def tsI (F : List Cell) (r : Pr) (p0 : Pk) (m : Nat) (rest : List PyData) (e : Sl) : Prop := ∃ (p : Pk) (ts : List T2), p.t + rest.length ≤ p0.t + m ∧ letT F r ts ∧ ts.length + rest.length ≤ m ∧ Al 4 9 e ∧ e[0]? = some (some (.mu .bor (penK p))) ∧ e[1]? = some (some (.nt (F.map clD))) ∧ e[4]? = some (some (.pd (clsD (endP r ts)))) ∧ e[5]? = some (some (.pd (.tuple (ts.map tnD))))
theorem letT_app {F : List Cell} : ∀ {ts : List T2} {r : Pr} {t : T2}, letT F r ts → okP F (stp (endP r ts) t) → letT F r (ts ++ [t])
  | [], r, t, _, h => ⟨h, trivial⟩
  | a :: ts, r, t, h, q => ⟨h.1, letT_app (ts := ts) h.2 q⟩
theorem endP_app (r : Pr) (ts : List T2) (t : T2) : endP r (ts ++ [t]) = stp (endP r ts) t := by simp [endP]
theorem pl_ch (n : Nat) (d : Dir) : pl n (.str (chS d)) = true := by
  have : PyData.canLay0 (.str (chS d)) = true := SeqAt.canLay_of_shaped (sh_ch d)
  simp only [PyData.canLay0] at this
  cases n <;> exact this
theorem pl_tn (t : T2) : pl 1 (tnD t) = true := by
  show (([.int (cubeI t.1), .str (chS t.2)] : List PyData).all (pl 0)) = true
  simp [pl_ch, pl_int]
theorem last_at (xs : List PyData) (x : PyData) : oIx [.tuple (xs ++ [x]), .int (-1)] = some x := by
  exact atI_last xs x
theorem last_atL (xs : List PyData) (x : PyData) : oIx [.list (xs ++ [x]), .int (-1)] = some x := last_at xs x
theorem tn_len (ts : List T2) : (ts.map tnD).length = ts.length := List.length_map _
theorem all_turns_lc (F : List Cell) (r : Pr) (e : Sl) (l9 : e.length = 9) (h1 : e[1]? = some (some (.nt (F.map clD)))) (h4 : e[4]? = some (some (.pd (clsD r)))) :
    eLc (iSeq (eCall f__law_all_turns eNil)) (gN 8) (bT (eCall f__law_is_let (eCons (eVar 1) (eCons (eVar 4) (eCons (eVar 8) eNil))))) (eVar 8) [8] e = some (.tmp (.ls ((allT.filter fun t => decide (okP F (stp r t))).map tnD)), e) := by
  have := lcF (it := iSeq (eCall f__law_all_turns eNil)) (g := gN 8) (t := bT (eCall f__law_is_let (eCons (eVar 1) (eCons (eVar 4) (eCons (eVar 8) eNil))))) (f := eVar 8) (vs := [8]) (lk := none) (env := e) (e := e) (q := tnD) (as := allT) (fun t => decide (okP F (stp r t))) tnD (by simp [all_turns_sp]) (by decide) (fun t _ => by
    have il := is_let_sp F r t
    by_cases z : okP F (stp r t) <;> simp [lcI, wipe_at, wipe_free, wipeE_len, l9, h1, h4, il, z, Kp.set, -z_free, -getElem?_pos])
  rw [z_unl] at this
  exact this
theorem turns_sp (p : Pk) (F : List Cell) (r : Pr) (m : Nat) (hm : m ≤ 100) (ht : p.t ≤ 100000000) : ∃ (q : Pk) (ts : List T2), q.t ≤ p.t + m ∧ letT F r ts ∧ ts.length ≤ m ∧ f__law_turns [.mu .bor (penK p), .nt (F.map clD), .pd (prD r), .pd (.int (m : Nat))] = some (.pd (.tuple (ts.map tnD)), [.mu .bor (penK q), .nt (F.map clD), .pd (prD r), .pd (.int (m : Nat))]) := by
  have key : ∀ Q : R → List S → Prop, (∀ (q : Pk) (ts : List T2), q.t ≤ p.t + m → letT F r ts → ts.length ≤ m → Q (.pd (.tuple (ts.map tnD))) [.mu .bor (penK q), .nt (F.map clD), .pd (prD r), .pd (.int (m : Nat))]) → wF f__law_turns [.mu .bor (penK p), .nt (F.map clD), .pd (prD r), .pd (.int (m : Nat))] Q := by
    intro Q hQ
    refine wF_run (e := startE 9 [.mu .bor (penK p), .nt (F.map clD), .pd (prD r), .pd (.int (m : Nat))]) rfl ?_
    have A : Al 4 9 (startE 9 [.mu .bor (penK p), .nt (F.map clD), .pd (prD r), .pd (.int (m : Nat))]) := al_start rfl (by decide)
    have h0 : (startE 9 [.mu .bor (penK p), .nt (F.map clD), .pd (prD r), .pd (.int (m : Nat))])[0]? = some (some (.mu .bor (penK p))) := rfl
    have h1 : (startE 9 [.mu .bor (penK p), .nt (F.map clD), .pd (prD r), .pd (.int (m : Nat))])[1]? = some (some (.nt (F.map clD))) := rfl
    have h2 : (startE 9 [.mu .bor (penK p), .nt (F.map clD), .pd (prD r), .pd (.int (m : Nat))])[2]? = some (some (.pd (prD r))) := rfl
    have h3 : (startE 9 [.mu .bor (penK p), .nt (F.map clD), .pd (prD r), .pd (.int (m : Nat))])[3]? = some (some (.pd (.int (m : Nat)))) := rfl
    generalize startE 9 [.mu .bor (penK p), .nt (F.map clD), .pd (prD r), .pd (.int (m : Nat))] = e at *
    have fr := A.fre
    have ln := A.len
    refine wS_seq ?_
    simp [wS, sParN, free_ne_set, fr, ln, h2, prD, stD, ix20, ix21, -z_free, -getElem?_pos]
    rw [go]
    refine wS_seq ?_
    refine wS_gen fun E hE => ?_
    have AE : Al 4 9 E := by rw [hE]; repeat (first | exact A | refine Al.set ?_ rfl | refine Al.low ?_ (by decide))
    have g0 : E[0]? = some (some (.mu .bor (penK p))) := by rw [hE]; simpa using h0
    have g1 : E[1]? = some (some (.nt (F.map clD))) := by rw [hE]; simpa using h1
    have g3 : E[3]? = some (some (.pd (.int (m : Nat)))) := by rw [hE]; simpa using h3
    have g4 : E[4]? = some (some (.pd (clsD (endP r [])))) := by rw [hE]; simp [ln, clsD, endP]
    have g5 : E[5]? = some (some (.pd (.tuple (([] : List T2).map tnD)))) := by rw [hE]; simp [ln]
    clear hE
    refine wS_for (xs := upD m) (lk := none) (e := E) (rg1_up (by simp [g3]) (by omega)) (tsI F r p m) ⟨p, [], by rw [upD_len]; omega, trivial, by rw [upD_len]; simp, AE, g0, g1, g4, g5⟩ ?_ ?_
    · rintro w rest e ⟨q, ts, hq, hl, hn, A, h0, h1, h4, h5⟩
      rw [List.length_cons] at hq hn
      have fr := A.fre
      have ln := A.len
      simp only [gW, z_gN, z_setR, fr 6 (by decide) (by decide), if_true]
      rw [go]
      refine wS_seq ?_
      have lc := all_turns_lc F (endP r ts) (e.set 6 (some (.pd w))) (by simp [ln]) (by simpa using h1) (by simpa using h4)
      simp [wS, free_ne_set, fr, ln, lc, -z_free, -getElem?_pos, -z_lc]
      rw [go]
      refine wS_gen fun E hE => ?_
      have AE : Al 4 9 E := by rw [hE]; repeat (first | exact A | refine Al.set ?_ rfl | refine Al.low ?_ (by decide))
      have g0 : E[0]? = some (some (.mu .bor (penK q))) := by rw [hE]; simpa using h0
      have g1 : E[1]? = some (some (.nt (F.map clD))) := by rw [hE]; simpa using h1
      have g4 : E[4]? = some (some (.pd (clsD (endP r ts)))) := by rw [hE]; simpa using h4
      have g5 : E[5]? = some (some (.pd (.tuple (ts.map tnD)))) := by rw [hE]; simpa using h5
      have g7 : E[7]? = some (some (.mu .own (.ls ((allT.filter fun t => decide (okP F (stp (endP r ts) t))).map tnD)))) := by rw [hE]; simp [ln]
      clear hE
      have lE := AE.len
      have fE := AE.fre
      have al : (allT.filter fun t => decide (okP F (stp (endP r ts) t))).length ≤ 8 := Nat.le_trans (List.length_filter_le _ _) (by decide)
      generalize hS : (allT.filter fun t => decide (okP F (stp (endP r ts) t))) = S0 at *
      have p1 : pl 2 (.list (S0.map tnD)) = true := pl_lst fun t _ => pl_tn t
      by_cases z : S0 = []
      · have ne := pl_ne p1 (by rfl : pl 1 (.list []) = true) (by decide) (by decide) (by rw [z]; rfl)
        simp [wS, g7, ne, -getElem?_pos]
        exact ⟨q, ts, by omega, hl, by omega, AE, g0, g1, g4, g5⟩
      · have ne := pl_ne' p1 (by rfl : pl 1 (.list []) = true) (by decide) (by decide) (by simpa using z)
        obtain ⟨v, hv, q2, hq2, pk⟩ := pick2_l q (S0.map tnD) (by rw [tn_len]; exact List.length_pos_iff.mpr z) (by rw [tn_len]; omega) (by omega)
        obtain ⟨t, ht', rfl⟩ := List.mem_map.mp hv
        rw [← hS] at ht'
        have ok : okP F (stp (endP r ts) t) := by simpa using (List.mem_filter.mp ht').2
        have on := on_sp (endP r ts) t
        have ng : kNeg [.pd (.int 1)] = fun env => some (.pd (.int (-1)), env) := rfl
        have ca : oCatT [.tuple (ts.map tnD), .tuple [tnD t]] = some ((ts ++ [t]).map tnD) := by
          have l1 : (ts.map tnD).length + 1 ≤ 1000000 := by rw [tn_len]; omega
          simp [oCatT]
          omega
        have la : oIx [.tuple ((ts ++ [t]).map tnD), .int (-1)] = some (tnD t) := by
          rw [List.map_append, List.map_cons, List.map_nil]
          exact last_at _ _
        refine wS_gen fun E hE => ?_
        subst hE
        simp [wS, g0, g4, g5, g7, ne, pk, kAdd, oI, oCatS, ca, ng, la, on, free_ne_set, fE, lE, -z_free, -getElem?_pos, -List.map_append]
        exact ⟨q2, ts ++ [t], by omega, letT_app hl ok, by simp; omega, by repeat (first | exact AE | refine Al.set ?_ rfl | refine Al.low ?_ (by decide)), by simp [lE], by simpa using g1, by simp [lE, endP_app], by simp [lE]⟩
    · rintro e ⟨q, ts, hq, hl, hn, A, h0, h1, h4, h5⟩
      have ln := A.len
      rw [z_unl, nxt_nx, go]
      refine wS_of (fl := .rt (.pd (.tuple (ts.map tnD)))) (e := e) (by simp [h5]) ?_
      exact ⟨_, _, rfl, fin_mu rfl (by decide) (by simp [ln]) h0, hQ q ts (by simpa using hq) hl (by simpa using hn)⟩
  obtain ⟨r, as, e, q, ts, h1, h2, h3, rfl, rfl⟩ := key (fun r' as => ∃ (q : Pk) (ts : List T2), q.t ≤ p.t + m ∧ letT F r ts ∧ ts.length ≤ m ∧ r' = .pd (.tuple (ts.map tnD)) ∧ as = [.mu .bor (penK q), .nt (F.map clD), .pd (prD r), .pd (.int (m : Nat))]) (fun q ts h1 h2 h3 => ⟨q, ts, h1, h2, h3, rfl, rfl⟩)
  exact ⟨q, ts, h1, h2, h3, e⟩
theorem is_cell_of2 {F : List Cell} (hF : okFl F) (c : Cell) : f_is_cell_of [.nt (F.map clD), .pd (clD c)] = some (.pd (.bool (decide (c ∈ F))), [.nt (F.map clD), .pd (clD c)]) := by
  unfold f_is_cell_of
  rw [run_of (e := [some (.nt (F.map clD)), some (.pd (clD c))]) rfl]
  by_cases h : c ∈ F
  · simp [m_is_cell_of, is_cell_sp, hF.2.2.1 c h, in_cells, h]
  · by_cases hb : inB c = true
    · simp [m_is_cell_of, is_cell_sp, hb, in_cells, h]
    · simp [m_is_cell_of, is_cell_sp, hb, h]
theorem is_stand2 {F : List Cell} (hF : okFl F) (c : Cell) (l : Ly) (hl : l ∈ lyings) : f_is_stand [.nt (F.map clD), .pd (stD c l)] = some (.pd (.bool (decide (c ∈ F))), [.nt (F.map clD), .pd (stD c l)]) := by
  unfold f_is_stand
  rw [run_of (e := [some (.nt (F.map clD)), some (.pd (stD c l)), none, none]) rfl]
  by_cases h : c ∈ F <;> simp [m_is_stand, stD, oIsi, isi5, oLen, eNe, oNe, sh_int, eqv_int, is_cell_of2 hF, h, is_lying_sp l hl]
theorem is_pair_sp {F : List Cell} (hF : okFl F) (p : Pr) (hl : lyP p) : f_is_pair [.nt (F.map clD), .pd (prD p)] = some (.pd (.bool (decide (okP F p))), [.nt (F.map clD), .pd (prD p)]) := by
  have pe : prD p = .tuple [stD p.1.1 p.1.2, stD p.2.1 p.2.2] := rfl
  have s1 := is_stand2 hF p.1.1 p.1.2 hl.1
  have s2 := is_stand2 hF p.2.1 p.2.2 hl.2
  unfold f_is_pair
  rw [run_of (e := [some (.nt (F.map clD)), some (.pd (prD p)), none]) rfl]
  rw [pe]
  have lc := lc_all (it := iSeq (eVar 1)) (g := gN 2) (f := eCall f_is_stand (eCons (eVar 0) (eCons (eVar 2) eNil))) (vs := [2]) (env := [some (.nt (F.map clD)), some (.pd (.tuple [stD p.1.1 p.1.2, stD p.2.1 p.2.2])), none]) (e := [some (.nt (F.map clD)), some (.pd (.tuple [stD p.1.1 p.1.2, stD p.2.1 p.2.2])), none]) (lk := none) (q := fun s : Cell × Ly => stD s.1 s.2) (y := fun s => .bool (decide (s.1 ∈ F))) [p.1, p.2] (by simp) (by simp) (fun s hs => by
    have : f_is_stand [.nt (F.map clD), .pd (stD s.1 s.2)] = some (.pd (.bool (decide (s.1 ∈ F))), [.nt (F.map clD), .pd (stD s.1 s.2)]) := by
      simp at hs
      rcases hs with rfl | rfl
      · exact s1
      · exact s2
    simp [lcOk, wipeE, unwipe, this])
  rw [z_unl] at lc
  have x0 : oIx [stD p.1.1 p.1.2, .int 0] = some (clD p.1.1) := rfl
  have x1 : oIx [stD p.2.1 p.2.2, .int 0] = some (clD p.2.1) := rfl
  unfold okP
  by_cases h1 : p.1.1 ∈ F <;> by_cases h2 : p.2.1 ∈ F <;> simp [m_is_pair, oIsi, isi5, oLen, oNe, sh_int, eqv_int, lc, oAll, bools?, h1, h2, ix20, ix21, x0, x1, -z_lc]
  simp [sh_cell, eqv_cell]
theorem need_pair_sp {F : List Cell} (hF : okFl F) (p : Pr) (hl : lyP p) (ok : okP F p) : f_need_pair [.nt (F.map clD), .pd (prD p)] = some (.pd .none, [.nt (F.map clD), .pd (prD p)]) := by
  unfold f_need_pair
  rw [run_of (e := [some (.nt (F.map clD)), some (.pd (prD p))]) rfl]
  simp [m_need_pair, is_pair_sp hF p hl, ok]
theorem is_turn_sp (t : T2) : f_is_turn [.pd (tnD t)] = some (.pd (.bool true), [.pd (tnD t)]) := by
  unfold f_is_turn
  rw [run_of (e := [some (.pd (tnD t)), none, none]) rfl]
  have w := is_whole_int (cubeI t.1) 1
  have h : 0 ≤ cubeI t.1 ∧ cubeI t.1 ≤ 1 := by unfold cubeI; split <;> omega
  simp [m_is_turn, tnD, oIsi, isi5, oLen, oNe, sh_int, eqv_int, v_LAST_CUBE, w, h, is_letter_sp]
theorem is_turns_sp (ts : List T2) (h : ts.length ≤ 24) (s : S) (hs : isT s (ts.map tnD)) : f_is_turns [s] = some (.pd (.bool true), [s]) := by
  have bs := bools_of (fun _ : T2 => true) ts
  have hb : (ts.map (fun _ : T2 => true)).all id = true := by simp
  have l24 : ¬ (24 : Int) < ts.length := by omega
  unfold f_is_turns
  rw [run_of (e := [some s, none]) rfl]
  have lc := lc_all (it := iSeq (eVar 0)) (g := gN 1) (f := eCall f_is_turn (eCons (eVar 1) eNil)) (vs := [1]) (env := [some s, none]) (e := [some s, none]) (lk := none) (q := tnD) (y := fun _ => .bool true) ts (by rcases hs with rfl | rfl <;> simp) (by omega) (fun t _ => by rcases hs with rfl | rfl <;> simp [lcOk, wipeE, unwipe, is_turn_sp])
  rw [z_unl] at lc
  rcases hs with rfl | rfl <;> simp [m_is_turns, oIsi, isi5, oLen, kGt, oI, v_MOST_TURNS, l24, lc, oAll, bs, hb, -z_lc, -List.all_map, -List.map_const']
theorem need_turns_sp (ts : List T2) (h : ts.length ≤ 24) (s : S) (hs : isT s (ts.map tnD)) : f_need_turns [s] = some (.pd .none, [s]) := by
  have := is_turns_sp ts h s hs
  unfold f_need_turns
  rw [run_of (e := [some s]) rfl]
  rcases hs with rfl | rfl <;> simp [m_need_turns, this]
theorem rolled_pair_sp (p : Pr) (t : T2) : f_rolled_pair [.pd (prD p), .pd (tnD t)] = some (.nt [stD (stp p t).1.1 (stp p t).1.2, stD (stp p t).2.1 (stp p t).2.2], [.pd (prD p), .pd (tnD t)]) := by
  obtain ⟨⟨c0, l0⟩, ⟨c1, l1⟩⟩ := p
  obtain ⟨b, d⟩ := t
  have r0 := rolled_stand_sp c0 l0 d
  have r1 := rolled_stand_sp c1 l1 d
  unfold f_rolled_pair
  rw [run_of (e := [some (.pd (prD ((c0, l0), (c1, l1)))), some (.pd (tnD (b, d))), none, none, none]) rfl]
  cases b
  · have x : oIx [.tuple [stD c0 l0, stD c1 l1], .int 0] = some (stD c0 l0) := rfl
    simp [m_rolled_pair, prD, tnD, cubeI, oList, x, r0, gS, putL, ixN, kTupN, stp]
  · have x : oIx [.tuple [stD c0 l0, stD c1 l1], .int 1] = some (stD c1 l1) := rfl
    simp [m_rolled_pair, prD, tnD, cubeI, oList, x, r1, gS, putL, ixN, kTupN, stp]
def scan (p : Pr) : List T2 → List Pr
  | [] => []
  | t :: ts => stp p t :: scan (stp p t) ts
theorem scan_len : ∀ (ts : List T2) (p : Pr), (scan p ts).length = ts.length
  | [], _ => rfl
  | t :: ts, p => by simp [scan, scan_len ts]
theorem scan_app : ∀ (ts : List T2) (p : Pr) (t : T2), scan p (ts ++ [t]) = scan p ts ++ [stp (endP p ts) t]
  | [], _, _ => rfl
  | a :: ts, p, t => by
    show stp p a :: scan (stp p a) (ts ++ [t]) = stp p a :: scan (stp p a) ts ++ [stp (endP (stp p a) ts) t]
    rw [scan_app ts]
    rfl
theorem scan_last : ∀ (ts : List T2) (p : Pr), ∃ r, p :: scan p ts = r ++ [endP p ts]
  | [], _ => ⟨[], rfl⟩
  | t :: ts, p => by
    obtain ⟨r, e⟩ := scan_last ts (stp p t)
    exact ⟨p :: r, by
      show p :: (stp p t :: scan (stp p t) ts) = p :: r ++ [endP (stp p t) ts]
      rw [e]; rfl⟩
theorem scan_ly : ∀ (ts : List T2) (p : Pr), lyP p → ∀ q ∈ scan p ts, lyP q
  | [], _, _, q, hq => by simp [scan] at hq
  | t :: ts, p, h, q, hq => by
    rcases List.mem_cons.mp hq with rfl | hq
    · exact lyP_stp h t
    · exact scan_ly ts _ (lyP_stp h t) q hq
def PoI (p : Pr) (s1 : S) (us : List T2) (rest : List PyData) (e : Sl) : Prop := ∃ (ts vs : List T2), rest = vs.map tnD ∧ ts ++ vs = us ∧ Al 2 4 e ∧ e[0]? = some (some (.pd (prD p))) ∧ e[2]? = some (some (.mu .own (.ls ((p :: scan p ts).map prD))))
theorem pairs_on_sp (p : Pr) (us : List T2) (h : us.length ≤ 100) (s : S) (hs : isT s (us.map tnD)) : f_pairs_on [.pd (prD p), s] = some (.tmp (.ls ((p :: scan p us).map prD)), [.pd (prD p), s]) := by
  have nm : nmu s = true := by rcases hs with rfl | rfl <;> rfl
  have key : ∀ Q : R → List S → Prop, Q (.tmp (.ls ((p :: scan p us).map prD))) [.pd (prD p), s] → wF f_pairs_on [.pd (prD p), s] Q := by
    intro Q hQ
    refine wF_run (e := startE 4 [.pd (prD p), s]) rfl ?_
    have A : Al 2 4 (startE 4 [.pd (prD p), s]) := al_start rfl (by decide)
    have h0 : (startE 4 [.pd (prD p), s])[0]? = some (some (.pd (prD p))) := rfl
    have h1 : (startE 4 [.pd (prD p), s])[1]? = some (some s) := rfl
    generalize startE 4 [.pd (prD p), s] = e at *
    have fr := A.fre
    have ln := A.len
    refine wS_seq ?_
    simp [wS, free_ne_set, fr, ln, h0, -z_free, -getElem?_pos]
    rw [go]
    refine wS_seq ?_
    refine wS_for (xs := us.map tnD) (lk := none) (e := e.set 2 (some (.mu .own (.ls [prD p])))) (by rcases hs with rfl | rfl <;> simp [h1]) (PoI p s us) ⟨[], us, rfl, rfl, A.set rfl, by simpa using h0, by simp [ln, scan]⟩ ?_ ?_
    · rintro x rest e ⟨ts, vs, er, eu, A, h0, h2⟩
      cases vs with
      | nil => simp at er
      | cons t vs =>
        obtain ⟨rfl, rfl⟩ : x = tnD t ∧ rest = vs.map tnD := by simpa using er
        have fr := A.fre
        have ln := A.len
        obtain ⟨r, er⟩ := scan_last ts p
        have rp := rolled_pair_sp (endP p ts) t
        have la : oIx [.list ((p :: scan p ts).map prD), .int (-1)] = some (prD (endP p ts)) := by
          rw [er, List.map_append, List.map_cons, List.map_nil]
          exact last_atL _ _
        have ng : kNeg [.pd (.int 1)] = fun env => some (.pd (.int (-1)), env) := rfl
        have ll : (scan p ts).length + 1 ≤ 1000000 := by
          rw [scan_len]
          have := congrArg List.length eu
          simp at this
          omega
        have nx : ((p :: scan p ts).map prD) ++ [.tuple [stD (stp (endP p ts) t).1.1 (stp (endP p ts) t).1.2, stD (stp (endP p ts) t).2.1 (stp (endP p ts) t).2.2]] = (p :: scan p (ts ++ [t])).map prD := by
          rw [scan_app, ← List.cons_append, List.map_append]
          rfl
        simp only [gW, z_gN, z_setR, fr 3 (by decide) (by decide), if_true]
        rw [go]
        refine wS_gen fun E hE => ?_
        have g2 : E[2]? = some (some (.mu .own (.ls ((p :: scan p ts).map prD)))) := by rw [hE]; simpa using h2
        have g3 : E[3]? = some (some (.pd (tnD t))) := by rw [hE]; simp [ln]
        have g0 : E[0]? = some (some (.pd (prD p))) := by rw [hE]; simpa using h0
        have AE : Al 2 4 E := by rw [hE]; exact A.set rfl
        clear hE
        have lE := AE.len
        generalize hL : (p :: scan p ts).map prD = L at *
        have lL : L.length ≤ 1000000 := by rw [← hL, List.length_map]; simpa using ll
        refine wS_of (fl := .nx) (e := E.set 2 (some (.mu .own (.ls ((p :: scan p (ts ++ [t])).map prD))))) (by simp [isL, g2, g3, ng, la, rp, kAppend, lL, nx, -getElem?_pos, -List.map_cons]) ?_
        exact ⟨ts ++ [t], vs, rfl, by rw [← eu]; simp, AE.set rfl, by simpa using g0, by simp [lE]⟩
    · rintro e ⟨ts, vs, er, eu, A, h0, h2⟩
      have hv : vs = [] := by cases vs with
        | nil => rfl
        | cons t vs => simp at er
      subst hv
      rw [List.append_nil] at eu
      subst eu
      have ln := A.len
      rw [z_unl, nxt_nx, go]
      refine wS_of (fl := .rt (.var 2)) (e := e) (by simp [h2]) ?_
      exact ⟨_, _, by simp [h2], fin_pd (by simp [nmu]; exact nm) (by simp [ln]), hQ⟩
  obtain ⟨r, as, e, rfl, rfl⟩ := key (fun r as => r = _ ∧ as = _) ⟨rfl, rfl⟩
  exact e
def offD2 : Option Nat → PyData
  | none => .none
  | some k => .int (k : Nat)
theorem enum_map {α : Type} (f : α → PyData) (xs : List α) : enumD (xs.map f) 0 = (xs.zipIdx).map fun q => .tuple [.int ((q.2 : Nat) : Int), f q.1] := by
  refine List.ext_getElem (by simp [enumD]) fun i h1 h2 => ?_
  have hi : i < xs.length := by simpa [enumD] using h1
  simp [enumD, hi]
def bad1 (F : List Cell) : Nat → List Pr → Option Nat
  | _, [] => none
  | k, p :: ps => if okP F p then bad1 F (k + 1) ps else some k
theorem bad1_off (F : List Cell) : ∀ (ts : List T2) (p : Pr) (k : Nat), bad1 F k (scan p ts) = (offT F p ts).map (· + k)
  | [], _, _ => rfl
  | t :: ts, p, k => by
    simp only [scan, bad1, offT]
    split
    · rw [bad1_off F ts, Option.map_map]
      congr 1
      funext x
      simp only [Function.comp_apply]
      omega
    · simp
def PsI (F : List Cell) (ps : List Pr) (c : Ct) (rest : List PyData) (e : Sl) : Prop := ∃ (k : Nat) (qs : List Pr), rest = ((qs.zipIdx k).map fun q => .tuple [.int ((q.2 : Nat) : Int), prD q.1]) ∧ (∀ q ∈ qs, lyP q) ∧ bad1 F k qs = bad1 F 0 ps ∧ e.length = 6 ∧ (∀ i, 4 ≤ i → i < 6 → free e i = true) ∧ e[0]? = some (some (.nt (F.map clD))) ∧ e[3]? = some (some (.mu .fro c))
theorem place_stop_sp {F : List Cell} (hF : okFl F) (p : Pr) (hl : lyP p) (us : List T2) (h : us.length ≤ 100) (s : S) (hs : isT s (us.map tnD)) : f_place_stop [.nt (F.map clD), .pd (prD p), s] = some (.pd (offD2 (offT F p us)), [.nt (F.map clD), .pd (prD p), s]) := by
  have nm : nmu s = true := by rcases hs with rfl | rfl <;> rfl
  have po := pairs_on_sp p us h s hs
  have sl := scan_ly us p hl
  have of := bad1_off F us p 0
  have of' : bad1 F 0 (scan p us) = offT F p us := by rw [of]; cases offT F p us <;> rfl
  have key : ∀ Q : R → List S → Prop, Q (.pd (offD2 (offT F p us))) [.nt (F.map clD), .pd (prD p), s] → wF f_place_stop [.nt (F.map clD), .pd (prD p), s] Q := by
    intro Q hQ
    refine wF_run (e := startE 6 [.nt (F.map clD), .pd (prD p), s]) rfl ?_
    have A : Al 3 6 (startE 6 [.nt (F.map clD), .pd (prD p), s]) := al_start rfl (by decide)
    have h0 : (startE 6 [.nt (F.map clD), .pd (prD p), s])[0]? = some (some (.nt (F.map clD))) := rfl
    have h1 : (startE 6 [.nt (F.map clD), .pd (prD p), s])[1]? = some (some (.pd (prD p))) := rfl
    have h2 : (startE 6 [.nt (F.map clD), .pd (prD p), s])[2]? = some (some s) := rfl
    generalize startE 6 [.nt (F.map clD), .pd (prD p), s] = e at *
    have fr := A.fre
    have ln := A.len
    have ct : cutD ((p :: scan p us).map prD) (some 1) none = (scan p us).map prD := cut1_d _
    refine wS_seq ?_
    refine wS_of (fl := .nx) (e := e.set 3 (some (.mu .own (.ls ((scan p us).map prD))))) (by rcases hs with rfl | rfl <;> simp [h1, h2, po, oSome, kSl, ct, fr, ln, -z_free, -getElem?_pos, -List.map_cons]) ?_
    rw [nxt_nx, go]
    refine wS_seq ?_
    refine wS_for (xs := enumD ((scan p us).map prD) 0) (lk := some (3, .own)) (e := (e.set 3 (some (.mu .own (.ls ((scan p us).map prD))))).set 3 (some (.mu .fro (.ls ((scan p us).map prD))))) (by simp [ln]) (PsI F (scan p us) (.ls ((scan p us).map prD))) ⟨0, scan p us, enum_map _ _, sl, rfl, by simp [ln], fun i h1 h2 => ?_, by simpa using h0, by simp [ln]⟩ ?_ ?_
    · rw [free_ne_set (by omega), free_ne_set (by omega)]; exact fr i (by omega) h2
    · rintro x rest e ⟨k, qs, er, hq, eb, ln, fr, h0, h3⟩
      cases qs with
      | nil => simp at er
      | cons q qs =>
        obtain ⟨rfl, rfl⟩ : x = .tuple [.int ((k : Nat) : Int), prD q] ∧ rest = (qs.zipIdx (k + 1)).map fun q => .tuple [.int ((q.2 : Nat) : Int), prD q.1] := by simpa using er
        have ip := is_pair_sp hF q (hq q (by simp))
        have f4 := fr 4 (by decide) (by decide)
        have f5 : free (e.set 4 (some (.pd (.int ((k : Nat) : Int))))) 5 = true := by rw [free_ne_set (by decide)]; exact fr 5 (by decide) (by decide)
        simp only [gW, z_gT, List.length_cons, List.length_nil, Nat.zero_add, Nat.reduceAdd, if_true, z_gCn, z_gN, z_setR, f4, f5, z_gNl]
        rw [go]
        by_cases z : okP F q
        · simp [wS, h0, ln, ip, z, -getElem?_pos]
          refine ⟨k + 1, qs, rfl, fun q' h' => hq q' (by simp [h']), ?_, by simp [ln], fun i h1 h2 => ?_, by simpa using h0, by simpa using h3⟩
          · rw [← eb]; simp [bad1, z]
          · have : i = 4 ∨ i = 5 := by omega
            rcases this with rfl | rfl
            · rw [free_ne_set (by decide), free_eq_set (by rw [ln]; decide)]; rfl
            · rw [free_eq_set (by simp [ln])]; rfl
        · have ob : offT F p us = some k := by rw [← of', ← eb]; simp [bad1, z]
          rw [ob] at hQ
          simp [wS, h0, ln, ip, z, -getElem?_pos]
          refine ⟨_, ?_, hQ⟩
          rw [h3]
          exact fin_pd (by simp [nmu]; exact nm) (by simp [ln])
    · rintro e ⟨k, qs, er, hq, eb, ln, fr, h0, h3⟩
      have hv : qs = [] := by cases qs with
        | nil => rfl
        | cons t vs => simp at er
      subst hv
      have ob : offT F p us = none := by rw [← of', ← eb]; rfl
      rw [ob] at hQ
      rw [unl_at h3, nxt_nx, go]
      refine wS_of (fl := .rt (.pd .none)) (e := e.set 3 (some (.mu .own (.ls ((scan p us).map prD))))) (by simp) ?_
      exact ⟨_, _, rfl, fin_pd (by simp [nmu]; exact nm) (by simp [ln]), hQ⟩
  obtain ⟨r, as, e, rfl, rfl⟩ := key (fun r as => r = _ ∧ as = _) ⟨rfl, rfl⟩
  exact e
theorem need_let_turns_sp {F : List Cell} (hF : okFl F) (p : Pr) (hl : lyP p) (us : List T2) (h : us.length ≤ 100) (lt : letT F p us) (s : S) (hs : isT s (us.map tnD)) : f_need_let_turns [.nt (F.map clD), .pd (prD p), s] = some (.pd .none, [.nt (F.map clD), .pd (prD p), s]) := by
  have ps := place_stop_sp hF p hl us h s hs
  rw [offT_none.mpr lt] at ps
  unfold f_need_let_turns
  rw [run_of (e := [some (.nt (F.map clD)), some (.pd (prD p)), some s]) rfl]
  rcases hs with rfl | rfl <;> simp [m_need_let_turns, ps, offD2, oIsN, isN]
structure Sit2 (F : List Cell) (p : Pr) (ts : List T2) : Prop where
  fl : okFl F
  ok : okP F p
  ly : lyP p
  ln : ts.length ≤ 24
theorem need_taken_sp {F : List Cell} {p : Pr} {us : List T2} (t : Sit2 F p us) (lt : letT F p us) (s : S) (hs : isT s (us.map tnD)) : f_need_taken [.nt (F.map clD), .pd (prD p), s] = some (.pd .none, [.nt (F.map clD), .pd (prD p), s]) := by
  have e1 := need_floor_sp F t.fl
  have e2 := need_pair_sp t.fl p t.ly t.ok
  have e3 := need_turns_sp us t.ln s hs
  have e4 := need_let_turns_sp t.fl p t.ly us (by have := t.ln; omega) lt s hs
  unfold f_need_taken
  rw [run_of (e := [some (.nt (F.map clD)), some (.pd (prD p)), some s]) rfl]
  rcases hs with rfl | rfl <;> simp [m_need_taken, e1, e2, e3, e4]
theorem pair_behind_sp {F : List Cell} {p : Pr} {us : List T2} (t : Sit2 F p us) (lt : letT F p us) (s : S) (hs : isT s (us.map tnD)) : f_pair_behind [.nt (F.map clD), .pd (prD p), s] = some (.pd (prD (endP p us)), [.nt (F.map clD), .pd (prD p), s]) := by
  have e1 := need_taken_sp t lt s hs
  have e2 := pairs_on_sp p us (by have := t.ln; omega) s hs
  obtain ⟨r, er⟩ := scan_last us p
  have la : oIx [.list ((p :: scan p us).map prD), .int (-1)] = some (prD (endP p us)) := by
    rw [er, List.map_append, List.map_cons, List.map_nil]
    exact last_atL _ _
  have ng : kNeg [.pd (.int 1)] = fun env => some (.pd (.int (-1)), env) := rfl
  unfold f_pair_behind
  rw [run_of (e := [some (.nt (F.map clD)), some (.pd (prD p)), some s]) rfl]
  generalize (p :: scan p us).map prD = L at *
  rcases hs with rfl | rfl <;> simp [m_pair_behind, e1, e2, ng, la]
def side (p : Pr) (b : Bool) : Cell × Ly := if b = true then p.2 else p.1
theorem side_ok {F : List Cell} {p : Pr} (h : okP F p) (b : Bool) : (side p b).1 ∈ F := by
  unfold side; split
  · exact h.2.1
  · exact h.1
theorem letT_split {F : List Cell} : ∀ (as bs : List T2) (p : Pr), letT F p (as ++ bs) ↔ letT F p as ∧ letT F (endP p as) bs
  | [], bs, p => by simp [letT, endP]
  | a :: as, bs, p => by
    show (okP F (stp p a) ∧ letT F (stp p a) (as ++ bs)) ↔ (okP F (stp p a) ∧ letT F (stp p a) as) ∧ letT F (endP (stp p a) as) bs
    rw [letT_split as bs, and_assoc]
theorem endP_ok {F : List Cell} : ∀ (ts : List T2) (p : Pr), okP F p → letT F p ts → okP F (endP p ts)
  | [], _, h, _ => h
  | t :: ts, p, _, h => endP_ok ts _ h.1 h.2
abbrev W2 := Bool × Cell × Cell
def wzD (x : W2) : PyData := .tuple [.int (cubeI x.1), clD x.2.1, clD x.2.2]
def tk (p : Pr) (t : T2) : W2 := (t.1, (side p t.1).1, (side (stp p t) t.1).1)
def cof : Pr → List T2 → List W2
  | _, [] => []
  | p, t :: ts => tk p t :: cof (stp p t) ts
theorem cof_len : ∀ (ts : List T2) (p : Pr), (cof p ts).length = ts.length
  | [], _ => rfl
  | t :: ts, p => by simp [cof, cof_len ts]
theorem cof_app : ∀ (as bs : List T2) (p : Pr), cof p (as ++ bs) = cof p as ++ cof (endP p as) bs
  | [], bs, p => rfl
  | a :: as, bs, p => by simp [cof, cof_app as bs, endP]
def meetW (a b : W2) : Bool := decide (a.2.1 = b.2.1 ∨ a.2.1 = b.2.2 ∨ a.2.2 = b.2.1 ∨ a.2.2 = b.2.2)
theorem ix_pr (p : Pr) (b : Bool) : oIx [prD p, .int (cubeI b)] = some (stD (side p b).1 (side p b).2) := by cases b <;> rfl
theorem ix_st0 (c : Cell) (l : Ly) : oIx [stD c l, .int 0] = some (clD c) := rfl
theorem ix_tn0 (t : T2) : oIx [tnD t, .int 0] = some (.int (cubeI t.1)) := rfl
def CoI (p : Pr) (s : S) (us : List T2) (rest : List PyData) (e : Sl) : Prop := ∃ (ts vs : List T2), rest = zipD3 ((endP p ts :: scan (endP p ts) vs).map prD) ((scan (endP p ts) vs).map prD) (vs.map tnD) ∧ ts ++ vs = us ∧ Al 3 8 e ∧ e[0]? = some (some (.pd (prD p))) ∧ e[2]? = some (some (.mu .fro (.ls ((p :: scan p us).map prD)))) ∧ e[3]? = some (some (.mu .own (.ls ((cof p ts).map wzD))))
theorem cells_of_sp (p : Pr) (us : List T2) (h : us.length ≤ 100) (s : S) (hs : isT s (us.map tnD)) : f_cells_of [.pd (prD p), s] = some (.tmp (.ls ((cof p us).map wzD)), [.pd (prD p), s]) := by
  have nm : nmu s = true := by rcases hs with rfl | rfl <;> rfl
  have po := pairs_on_sp p us h s hs
  have key : ∀ Q : R → List S → Prop, Q (.tmp (.ls ((cof p us).map wzD))) [.pd (prD p), s] → wF f_cells_of [.pd (prD p), s] Q := by
    intro Q hQ
    refine wF_run (e := startE 8 [.pd (prD p), s]) rfl ?_
    have A : Al 2 8 (startE 8 [.pd (prD p), s]) := al_start rfl (by decide)
    have h0 : (startE 8 [.pd (prD p), s])[0]? = some (some (.pd (prD p))) := rfl
    have h1 : (startE 8 [.pd (prD p), s])[1]? = some (some s) := rfl
    generalize startE 8 [.pd (prD p), s] = e at *
    have fr := A.fre
    have ln := A.len
    have h0' : e[0] = some (.pd (prD p)) := by
      rw [List.getElem?_eq_getElem (by omega)] at h0; exact Option.some.inj h0
    have ct : cutD ((p :: scan p us).map prD) (some 1) none = (scan p us).map prD := cut1_d _
    refine wS_seq ?_
    generalize hL : (p :: scan p us).map prD = L at *
    refine wS_of (fl := .nx) (e := e.set 2 (some (.mu .own (.ls L)))) (by rcases hs with rfl | rfl <;> simp [free_ne_set, fr, ln, h0, h1, po, -z_free, -getElem?_pos]) ?_
    rw [nxt_nx, go]
    refine wS_seq ?_
    refine wS_of (fl := .nx) (e := (e.set 2 (some (.mu .own (.ls L)))).set 3 (some (.mu .own (.ls [])))) (by simp [free_ne_set, fr, ln, -z_free, -getElem?_pos]) ?_
    rw [nxt_nx, go]
    refine wS_seq ?_
    refine wS_gen fun E hE => ?_
    have AE : Al 3 8 E := by rw [hE]; refine Al.set ?_ rfl; refine Al.set ?_ rfl; exact ⟨A.len, fun i h => A.fre i (by omega)⟩
    have g0 : E[0]? = some (some (.pd (prD p))) := by rw [hE]; simpa using h0
    have g1 : E[1]? = some (some s) := by rw [hE]; simpa using h1
    have g2 : E[2]? = some (some (.mu .own (.ls L))) := by rw [hE]; simp [ln]
    have g3 : E[3]? = some (some (.mu .own (.ls []))) := by rw [hE]; simp [ln]
    clear hE
    have lE := AE.len
    have hi : iZt3 (eCons (eVar 2) (eCons (eSl (eVar 2) (oSome (eC (.int 1))) oNo) (eCons (eVar 1) eNil))) E = some (zipD3 L ((scan p us).map prD) (us.map tnD), some (2, .own), E.set 2 (some (.mu .fro (.ls L)))) := by
      rcases hs with rfl | rfl <;> simp [g1, g2, oSome, kSl, ct, tupOf, -getElem?_pos]
    refine wS_for (xs := zipD3 L ((scan p us).map prD) (us.map tnD)) (lk := some (2, .own)) (e := E.set 2 (some (.mu .fro (.ls L)))) hi (CoI p s us) ⟨[], us, by simp [endP, hL], rfl, AE.low (by decide), by simpa using g0, by rw [hL]; simp [lE], by simpa [cof] using g3⟩ ?_ ?_
    · rintro x rest e ⟨ts, vs, er, eu, A, h0, h2, h3⟩
      rw [hL] at h2
      cases vs with
      | nil => simp [scan, zipD3] at er
      | cons t vs =>
        obtain ⟨rfl, er2⟩ : x = .tuple [prD (endP p ts), prD (stp (endP p ts) t), tnD t] ∧ rest = zipD3 ((stp (endP p ts) t :: scan (stp (endP p ts) t) vs).map prD) ((scan (stp (endP p ts) t) vs).map prD) (vs.map tnD) := by
          simpa [scan, zipD3] using er
        have fr := A.fre
        have ln := A.len
        have ll : (cof p ts).length ≤ 1000000 := by
          rw [cof_len]
          have := congrArg List.length eu
          simp at this
          omega
        have nx : ((cof p ts).map wzD) ++ [.tuple [.int (cubeI t.1), clD (side (endP p ts) t.1).1, clD (side (stp (endP p ts) t) t.1).1]] = (cof p (ts ++ [t])).map wzD := by
          rw [cof_app, List.map_append]
          rfl
        have i1 := ix_pr (endP p ts) t.1
        have i2 := ix_pr (stp (endP p ts) t) t.1
        have i3 := ix_tn0 t
        have i4 := ix_st0 (side (endP p ts) t.1).1 (side (endP p ts) t.1).2
        have i5 := ix_st0 (side (stp (endP p ts) t) t.1).1 (side (stp (endP p ts) t) t.1).2
        simp only [gW, free_ne_set, fr 4 (by decide) (by decide), fr 5 (by decide) (by decide), fr 6 (by decide) (by decide), z_gT, z_gCn, z_gN, z_gNl, z_setR, if_true, itemsD]
        simp [free_ne_set, fr, ln, -z_free, -getElem?_pos]
        rw [go]
        refine wS_gen fun E hE => ?_
        have AE : Al 3 8 E := by rw [hE]; repeat (first | exact A | refine Al.set ?_ rfl | refine Al.low ?_ (by decide))
        have g0 : E[0]? = some (some (.pd (prD p))) := by rw [hE]; simpa using h0
        have g2 : E[2]? = some (some (.mu .fro (.ls L))) := by rw [hE]; simpa using h2
        have g3 : E[3]? = some (some (.mu .own (.ls ((cof p ts).map wzD)))) := by rw [hE]; simpa using h3
        have g4 : E[4]? = some (some (.pd (prD (endP p ts)))) := by rw [hE]; simp [ln]
        have g5 : E[5]? = some (some (.pd (prD (stp (endP p ts) t)))) := by rw [hE]; simp [ln]
        have g6 : E[6]? = some (some (.pd (tnD t))) := by rw [hE]; simp [ln]
        clear hE
        have lE := AE.len
        have fE := AE.fre
        generalize hM : (cof p ts).map wzD = M at *
        have lM : M.length ≤ 1000000 := by rw [← hM, List.length_map]; simpa using ll
        refine wS_seq ?_
        refine wS_of (fl := .nx) (e := E.set 7 (some (.pd (.int (cubeI t.1))))) (by simp [g6, i3, free_ne_set, fE, lE, -z_free, -getElem?_pos]) ?_
        rw [nxt_nx, go]
        refine wS_of (fl := .nx) (e := (E.set 7 (some (.pd (.int (cubeI t.1))))).set 3 (some (.mu .own (.ls ((cof p (ts ++ [t])).map wzD))))) (by simp [isL, g3, g4, g5, g6, lE, i1, i2, i4, i5, kAppend, lM, nx, T3.kTup, -getElem?_pos]) ?_
        refine ⟨ts ++ [t], vs, ?_, by rw [← eu]; simp, ?_, by simpa using g0, by rw [hL]; simpa using g2, by simp [lE]⟩
        · rw [er2, endP_app]
        · repeat (first | exact AE | refine Al.set ?_ rfl | refine Al.low ?_ (by decide))
    · rintro e ⟨ts, vs, er, eu, A, h0, h2, h3⟩
      have hv : vs = [] := by cases vs with
        | nil => rfl
        | cons t vs => simp [scan, zipD3] at er
      subst hv
      rw [List.append_nil] at eu
      subst eu
      have ln := A.len
      rw [nxt_nx, go]
      refine wS_of (fl := .rt (.var 3)) (e := unlock (some (2, .own)) e) (by simp [unlock, h2, h3, -getElem?_pos]) ?_
      exact ⟨_, _, by simp [unlock, h2, h3, -getElem?_pos], fin_pd (by simp [nmu]; exact nm) (by simp [unlock, ln, h2, -getElem?_pos]), hQ⟩
  obtain ⟨r, as, e, rfl, rfl⟩ := key (fun r as => r = _ ∧ as = _) ⟨rfl, rfl⟩
  exact e
theorem do_meet_sp (a b : W2) : f_do_meet [.pd (wzD a), .pd (wzD b)] = some (.pd (.bool (meetW a b)), [.pd (wzD a), .pd (wzD b)]) := by
  unfold f_do_meet
  rw [run_of (e := [some (.pd (wzD a)), some (.pd (wzD b))]) rfl]
  have e1 : cutD [.int (cubeI b.1), clD b.2.1, clD b.2.2] (some 1) none = [b.2.1, b.2.2].map clD := rfl
  have x1 : oIx [wzD a, .int 1] = some (clD a.2.1) := rfl
  have x2 : oIx [wzD a, .int 2] = some (clD a.2.2) := rfl
  have hb : wzD b = .tuple [.int (cubeI b.1), clD b.2.1, clD b.2.2] := rfl
  have i1 := in_cells a.2.1 [b.2.1, b.2.2] false
  have i2 := in_cells a.2.2 [b.2.1, b.2.2] false
  by_cases h1 : a.2.1 = b.2.1 ∨ a.2.1 = b.2.2
  · have h1' : a.2.1 ∈ [b.2.1, b.2.2] := by simpa using h1
    have : meetW a b = true := by unfold meetW; simp; rcases h1 with h | h <;> simp [h]
    simp [m_do_meet, x1, x2, hb, oSome, kSl, e1, i1, i2, h1', this, -List.map_cons, finals]
  · have h1' : a.2.1 ∉ [b.2.1, b.2.2] := by simpa using h1
    have : meetW a b = decide (a.2.2 ∈ [b.2.1, b.2.2]) := by
      unfold meetW
      simp at h1
      simp [h1.1, h1.2]
    simp [m_do_meet, x1, x2, hb, oSome, kSl, e1, i1, i2, h1', this, -List.map_cons, finals]
theorem meet_comm (a b : W2) : meetW a b = meetW b a := by
  unfold meetW
  exact decide_eq_decide.mpr ⟨fun h => by rcases h with h | h | h | h <;> simp [h], fun h => by rcases h with h | h | h | h <;> simp [h]⟩
def own (b : Bool) (xs : List W2) : List W2 := xs.filter fun x => decide (x.1 = b)
theorem own_app (b : Bool) (xs ys : List W2) : own b (xs ++ ys) = own b xs ++ own b ys := by simp [own]
def RW (xs : List W2) (i j : Nat) : Bool := match (own false xs)[i]?, (own true xs)[j]? with
  | some a, some b => meetW a b
  | _, _ => false
def meet1 (x : W2) (g : List W2) (j : Nat) : Bool := match g[j]? with
  | some y => meetW x y
  | none => false
theorem enum_map1 {α : Type} (f : α → PyData) (xs : List α) : enumD (xs.map f) 1 = (xs.zipIdx).map fun q => .tuple [.int ((q.2 + 1 : Nat) : Int), f q.1] := by
  refine List.ext_getElem (by simp [enumD]) fun i h1 h2 => ?_
  have hi : i < xs.length := by simpa [enumD] using h1
  simp [enumD, hi]
  omega
theorem maxD_app {d m : Int} (xs : List Int) (h : ∀ x ∈ xs, x ≤ m) : maxD d (xs ++ [m]) = m := by
  have fold : ∀ (ys : List Int) (a : Int), a ≤ m → (∀ x ∈ ys, x ≤ m) → (ys ++ [m]).foldl max a = m := by
    intro ys
    induction ys with
    | nil => intro a ha _; simp; omega
    | cons y ys ih =>
      intro a ha hy
      simp only [List.cons_append, List.foldl_cons]
      refine ih _ ?_ fun x hx => hy x (by simp [hx])
      have := hy y (by simp)
      omega
  cases xs with
  | nil => rfl
  | cons x xs => exact fold xs x (h x (by simp)) fun y hy => h y (by simp [hy])
theorem lastM_ext {r r' : Nat → Bool} : ∀ {k : Nat}, (∀ j, j < k → r j = r' j) → TC.lastM r k = TC.lastM r' k
  | 0, _ => rfl
  | k + 1, h => by
    unfold TC.lastM
    rw [h k (Nat.lt_succ_self k), lastM_ext fun j hj => h j (Nat.lt_succ_of_lt hj)]
theorem snoc_ind {α : Type} {P : List α → Prop} (h0 : P []) (h1 : ∀ xs x, P xs → P (xs ++ [x])) : ∀ xs, P xs := by
  intro xs
  have : ∀ ys : List α, P ys.reverse := by
    intro ys
    induction ys with
    | nil => exact h0
    | cons y ys ih => rw [List.reverse_cons]; exact h1 _ _ ih
  have := this xs.reverse
  rwa [List.reverse_reverse] at this
theorem maxD_last (x : W2) : ∀ g : List W2, maxD 0 (((g.zipIdx.filter fun q => meetW x q.1)).map fun q => ((q.2 + 1 : Nat) : Int)) = ((TC.lastM (meet1 x g) g.length : Nat) : Int) := by
  refine snoc_ind rfl fun g y ih => ?_
  rw [List.zipIdx_append, List.filter_append, List.map_append]
  simp only [List.length_append, List.length_cons, List.length_nil, Nat.zero_add]
  have at_ : meet1 x (g ++ [y]) g.length = meetW x y := by simp [meet1]
  have ex : TC.lastM (meet1 x (g ++ [y])) g.length = TC.lastM (meet1 x g) g.length := lastM_ext fun j hj => by
    unfold meet1
    rw [List.getElem?_append_left hj]
  unfold TC.lastM
  rw [at_, ex]
  by_cases m : meetW x y = true
  · rw [if_pos m]
    have : (List.zipIdx [y] g.length).filter (fun q => meetW x q.1) = [(y, g.length)] := by simp [m]
    rw [this, List.map_cons, List.map_nil]
    exact maxD_app _ fun z hz => by
      simp only [List.mem_map, List.mem_filter] at hz
      obtain ⟨q, ⟨hq, _⟩, rfl⟩ := hz
      have := (List.mem_zipIdx hq).2.1
      simp at this
      omega
  · rw [if_neg m]
    have : (List.zipIdx [y] g.length).filter (fun q => meetW x q.1) = [] := by simp [m]
    rw [this]
    simpa using ih
def stW (A B : List Nat) (g h : List W2) : W4 := ⟨A.map fun n => ((n : Nat) : Int), B.map fun n => ((n : Nat) : Int), g.map wzD, h.map wzD⟩
def fmW : EE := eLc (iEnS (eIx (eVar 3) (eSub (eC (.int 1)) (eVar 5)))) (gT 2 (gCn (gN 7) (gCn (gN 8) gNl))) (bT (eCall f_do_meet (eCons (eVar 4) (eCons (eVar 8) eNil)))) (eVar 7) [7, 8]
theorem fm_sp (x : W2) (g h o : List W2) (ho : o = if x.1 = true then g else h) (hl : o.length ≤ 1000) (A B : List Nat) :
    ∃ e, fmW (envW 9 (stW A B g h) (wzD x) (cubeI x.1)) = some (.tmp (.ls (((o.zipIdx.filter fun q => meetW x q.1).map fun q => ((q.2 + 1 : Nat) : Int)).map PyData.int)), e) := by
  have ix : oIx [PyData.tuple [.list (g.map wzD), .list (h.map wzD)], .int (1 - cubeI x.1)] = some (.list (o.map wzD)) := by
    subst ho
    cases x.1 <;> rfl
  have env : envW 9 (stW A B g h) (wzD x) (cubeI x.1) = [none, none, none, some (.pd (.tuple [.list (g.map wzD), .list (h.map wzD)])), some (.pd (wzD x)), some (.pd (.int (cubeI x.1))), none, none, none] := rfl
  generalize hE : ([none, none, none, some (.pd (.tuple [.list (g.map wzD), .list (h.map wzD)])), some (.pd (wzD x)), some (.pd (.int (cubeI x.1))), none, none, none] : Sl) = E at env
  have lc := lc_if (it := iEnS (eIx (eVar 3) (eSub (eC (.int 1)) (eVar 5)))) (g := gT 2 (gCn (gN 7) (gCn (gN 8) gNl))) (t := bT (eCall f_do_meet (eCons (eVar 4) (eCons (eVar 8) eNil)))) (f := eVar 7) (vs := [7, 8]) (lk := none) (env := E) (e := E) (q := fun q : W2 × Nat => .tuple [.int ((q.2 + 1 : Nat) : Int), wzD q.1]) (p := fun q => meetW x q.1) (y := fun q => .int ((q.2 + 1 : Nat) : Int)) o.zipIdx (by
      rw [← enum_map1, ← hE]
      simp [iEnS, kSub, oI, ix, -List.map_cons]) (by simpa using (by omega : o.length ≤ 1000000)) (fun q hq => by
      have dm := do_meet_sp x q.1
      rw [← hE]
      by_cases m : meetW x q.1 = true
      · simp [lcIf, wipeE, unwipe, dm, m, -Int.natCast_add]
      · simp [lcIf, wipeE, unwipe, dm, m, -Int.natCast_add])
  rw [env]
  refine ⟨unlock none E, ?_⟩
  unfold fmW
  rw [lc, List.map_map]
  rfl
theorem own_at {b : Bool} {as : List W2} {x : W2} {bs : List W2} (h : x.1 = b) : (own b (as ++ x :: bs))[(own b as).length]? = some x := by
  rw [own_app]
  have : own b (x :: bs) = x :: own b bs := by simp [own, h]
  rw [this]
  simp
theorem own_lo {b : Bool} {as bs : List W2} {j : Nat} (h : j < (own b as).length) : (own b (as ++ bs))[j]? = (own b as)[j]? := by
  rw [own_app, List.getElem?_append_left h]
theorem foldW_sp (xs : List W2) (hl : xs.length ≤ 1000) : ∀ (bs as : List W2), as ++ bs = xs → ∀ A B : List Nat, foldW fmW 9 (bs.map wzD) (stW A B (own false as) (own true as)) =
    some (stW (A ++ TC.wts (RW xs) false (own false as).length (own true as).length (bs.map (·.1))) (B ++ TC.wts (fun j i => RW xs i j) true (own true as).length (own false as).length (bs.map (·.1))) (own false xs) (own true xs))
  | [], as, e, A, B => by
    rw [List.append_nil] at e
    subst e
    simp [foldW, TC.wts]
  | b :: bs, as, e, A, B => by
    have la : as.length ≤ 1000 := by
      have := congrArg List.length e
      simp at this
      omega
    have lo : ∀ c, (own c as).length ≤ 1000 := fun c => Nat.le_trans (List.length_filter_le _ _) la
    obtain ⟨c, c1, c2⟩ := b
    cases c with
    | false =>
      obtain ⟨e', hf⟩ := fm_sp (false, c1, c2) (own false as) (own true as) (own true as) rfl (lo true) A B
      have hs : stepW fmW 9 (stW A B (own false as) (own true as)) (wzD (false, c1, c2)) = some (stW (A ++ [TC.lastM (meet1 (false, c1, c2) (own true as)) (own true as).length]) B (own false (as ++ [(false, c1, c2)])) (own true (as ++ [(false, c1, c2)]))) := by
        have ce : cubeI (false, c1, c2).1 = 0 := rfl
        rw [ce] at hf
        have u : stepW fmW 9 (stW A B (own false as) (own true as)) (wzD (false, c1, c2)) = (match fmW (envW 9 (stW A B (own false as) (own true as)) (wzD (false, c1, c2)) 0) with
          | some (.tmp (.ls ms), _) => match ints? ms with
            | some ks => some (addW (stW A B (own false as) (own true as)) 0 (maxD 0 ks) (wzD (false, c1, c2)))
            | none => none
          | _ => none) := rfl
        rw [u, hf]
        simp only [MM.ints_of, maxD_last]
        simp [addW, stW, own]
      have mt : TC.lastM (meet1 (false, c1, c2) (own true as)) (own true as).length = TC.lastM (RW xs (own false as).length) (own true as).length := lastM_ext fun j hj => by
        unfold RW meet1
        rw [← e, own_at (b := false) (x := (false, c1, c2)) rfl, own_lo hj, List.getElem?_eq_getElem hj]
      simp only [List.map_cons, foldW, hs]
      rw [foldW_sp xs hl bs (as ++ [(false, c1, c2)]) (by rw [← e]; simp)]
      have l0 : (own false (as ++ [(false, c1, c2)])).length = (own false as).length + 1 := by simp [own]
      have l1 : (own true (as ++ [(false, c1, c2)])).length = (own true as).length := by simp [own]
      rw [l0, l1, mt]
      simp [TC.wts]
    | true =>
      obtain ⟨e', hf⟩ := fm_sp (true, c1, c2) (own false as) (own true as) (own false as) rfl (lo false) A B
      have hs : stepW fmW 9 (stW A B (own false as) (own true as)) (wzD (true, c1, c2)) = some (stW A (B ++ [TC.lastM (meet1 (true, c1, c2) (own false as)) (own false as).length]) (own false (as ++ [(true, c1, c2)])) (own true (as ++ [(true, c1, c2)]))) := by
        have ce : cubeI (true, c1, c2).1 = 1 := rfl
        rw [ce] at hf
        have u : stepW fmW 9 (stW A B (own false as) (own true as)) (wzD (true, c1, c2)) = (match fmW (envW 9 (stW A B (own false as) (own true as)) (wzD (true, c1, c2)) 1) with
          | some (.tmp (.ls ms), _) => match ints? ms with
            | some ks => some (addW (stW A B (own false as) (own true as)) 1 (maxD 0 ks) (wzD (true, c1, c2)))
            | none => none
          | _ => none) := rfl
        rw [u, hf]
        simp only [MM.ints_of, maxD_last]
        simp [addW, stW, own]
      have mt : TC.lastM (meet1 (true, c1, c2) (own false as)) (own false as).length = TC.lastM (fun i => RW xs i (own true as).length) (own false as).length := lastM_ext fun j hj => by
        show _ = RW xs j (own true as).length
        unfold RW meet1
        rw [← e, own_at (b := true) (x := (true, c1, c2)) rfl, own_lo hj]
        rw [List.getElem?_eq_getElem hj]
        exact meet_comm _ _
      simp only [List.map_cons, foldW, hs]
      rw [foldW_sp xs hl bs (as ++ [(true, c1, c2)]) (by rw [← e]; simp)]
      have l0 : (own true (as ++ [(true, c1, c2)])).length = (own true as).length + 1 := by simp [own]
      have l1 : (own false (as ++ [(true, c1, c2)])).length = (own false as).length := by simp [own]
      rw [l0, l1, mt]
      simp [TC.wts]
def wtD (v w : List Nat) : PyData := .tuple [.list (nD v), .list (nD w)]
def wa (p : Pr) (us : List T2) : List Nat := TC.w0 (RW (cof p us)) (us.map (·.1))
def wb (p : Pr) (us : List T2) : List Nat := TC.w1 (RW (cof p us)) (us.map (·.1))
theorem cof_fst : ∀ (us : List T2) (p : Pr), (cof p us).map (·.1) = us.map (·.1)
  | [], _ => rfl
  | t :: us, p => by simp [cof, cof_fst us, tk]
theorem waits_sp (p : Pr) (us : List T2) (h : us.length ≤ 100) (s : S) (hs : isT s (us.map tnD)) : f_waits [.pd (prD p), s] = some (.pd (wtD (wa p us) (wb p us)), [.pd (prD p), s]) := by
  have co := cells_of_sp p us h s hs
  have nm : nmu s = true := by rcases hs with rfl | rfl <;> rfl
  have fo := foldW_sp (cof p us) (by rw [cof_len]; omega) (cof p us) [] rfl [] []
  rw [cof_fst] at fo
  have ll : ((cof p us).map wzD).length ≤ 10000 := by rw [List.length_map, cof_len]; omega
  have e0 : eCall f_cells_of (eCons (eVar 0) (eCons (eVar 1) eNil)) [some (.pd (prD p)), some s, none, none, none, none, none, none, none] = some (.tmp (.ls ((cof p us).map wzD)), [some (.pd (prD p)), some s, none, none, none, none, none, none, none]) := by
    rcases hs with rfl | rfl <;> simp [co]
  have w : m_waits [some (.pd (prD p)), some s, none, none, none, none, none, none, none] = some (.rt (.pd (wtD (wa p us) (wb p us))), List.replicate 9 none) := by
    show sWaits (eCall f_cells_of (eCons (eVar 0) (eCons (eVar 1) eNil))) fmW _ = _
    unfold sWaits
    have n1 : noMu [some (.pd (prD p)), some s, none, none, none, none, none, none, none] = true := by rcases hs with rfl | rfl <;> rfl
    rw [if_pos ⟨n1, rfl, rfl, by simp⟩, e0]
    simp only [ll, if_true]
    have fo' : foldW fmW ([some (.pd (prD p)), some s, none, none, none, none, none, none, none] : Sl).length ((cof p us).map wzD) W0 = _ := fo
    rw [fo']
    simp only [Option.some.injEq, Prod.mk.injEq]
    refine ⟨?_, rfl⟩
    simp [outW, stW, wtD, wa, wb, nD, own, Function.comp_def]
  unfold f_waits
  rw [run_of (e := [some (.pd (prD p)), some s, none, none, none, none, none, none, none]) rfl, w]
  simp only []
  rcases hs with rfl | rfl <;> rfl
theorem lt_nn (a b : Nat) : kLt [.pd (.int ((a : Nat) : Int)), .pd (.int ((b : Nat) : Int))] = fun env => some (.pd (.bool (decide (a < b))), env) := by funext env; simp [kLt, kLt0, oI]
theorem le_nn (a b : Nat) : kLe [.pd (.int ((a : Nat) : Int)), .pd (.int ((b : Nat) : Int))] = fun env => some (.pd (.bool (decide (a ≤ b))), env) := by funext env; simp [kLe, oI]
theorem may_go_sp (v w : List Nat) (i j : Nat) (d : S) (hd : d = .pd (.tuple [.int (i : Nat), .int (j : Nat)]) ∨ d = .mu .bor (.ls [.int (i : Nat), .int (j : Nat)])) (b : Bool) :
    f_may_go [.pd (wtD v w), d, .pd (.int (cubeI b))] = some (.pd (.bool (if b = true then TC.go1 w j i else TC.go1 v i j)), [.pd (wtD v w), d, .pd (.int (cubeI b))]) := by
  have t0 : oIx [wtD v w, .int 0] = some (.list (nD v)) := rfl
  have t1 : oIx [wtD v w, .int 1] = some (.list (nD w)) := rfl
  have d00 : oIx [.tuple [.int (i : Nat), .int (j : Nat)], .int 0] = some (.int (i : Nat)) := rfl
  have d01 : oIx [.tuple [.int (i : Nat), .int (j : Nat)], .int 1] = some (.int (j : Nat)) := rfl
  have d10 : oIx [.list [.int (i : Nat), .int (j : Nat)], .int 0] = some (.int (i : Nat)) := rfl
  have d11 : oIx [.list [.int (i : Nat), .int (j : Nat)], .int 1] = some (.int (j : Nat)) := rfl
  have lv : (nD v).length = v.length := List.length_map _
  have lw : (nD w).length = w.length := List.length_map _
  have xv : oIx [.list (nD v), .int (i : Nat)] = atI (nD v) ((i : Nat) : Int) := rfl
  have xw : oIx [.list (nD w), .int (j : Nat)] = atI (nD w) ((j : Nat) : Int) := rfl
  unfold f_may_go
  rw [run_of (e := [some (.pd (wtD v w)), some d, some (.pd (.int (cubeI b))), none]) rfl]
  cases b with
  | false =>
    cases h : v[i]? with
    | none =>
      have hl : ¬ (i < v.length) := by have := List.getElem?_eq_none_iff.mp h; omega
      have g : TC.go1 v i j = false := by simp [TC.go1, h]
      rcases hd with rfl | rfl <;> simp [m_may_go, cubeI, t0, d00, d10, oLen, lv, hl, g, lt_nn, le_nn, finals]
    | some x =>
      have hl : i < v.length := by have := (List.getElem?_eq_some_iff.mp h).1; omega
      have g : TC.go1 v i j = decide (x ≤ j) := by simp [TC.go1, h]
      have xv := xv.trans (nD_at h)
      rcases hd with rfl | rfl <;> simp [m_may_go, cubeI, t0, d00, d10, d01, d11, oLen, lv, hl, g, lt_nn, le_nn, xv, kSub, oI, finals]
  | true =>
    cases h : w[j]? with
    | none =>
      have hl : ¬ (j < w.length) := by have := List.getElem?_eq_none_iff.mp h; omega
      have g : TC.go1 w j i = false := by simp [TC.go1, h]
      rcases hd with rfl | rfl <;> simp [m_may_go, cubeI, t1, d01, d11, oLen, lw, hl, g, lt_nn, le_nn, finals]
    | some x =>
      have hl : j < w.length := by have := (List.getElem?_eq_some_iff.mp h).1; omega
      have g : TC.go1 w j i = decide (x ≤ i) := by simp [TC.go1, h]
      have xw := xw.trans (nD_at h)
      rcases hd with rfl | rfl <;> simp [m_may_go, cubeI, t1, d00, d10, d01, d11, oLen, lw, hl, g, lt_nn, le_nn, xw, kSub, oI, finals]
def ownT (b : Bool) (us : List T2) : List T2 := us.filter fun t => decide (t.1 = b)
theorem turns_of_sp (us : List T2) (h : us.length ≤ 100) (s : S) (hs : isT s (us.map tnD)) (b : Bool) : f_turns_of [s, .pd (.int (cubeI b))] = some (.tmp (.ls ((ownT b us).map tnD)), [s, .pd (.int (cubeI b))]) := by
  unfold f_turns_of
  rw [run_of (e := [some s, some (.pd (.int (cubeI b))), none]) rfl]
  have eqc : ∀ c : Bool, oEq [.int (cubeI c), .int (cubeI b)] = some (.bool (decide (c = b))) := fun c => by cases c <;> cases b <;> rfl
  have lc := lc_if (it := iSeq (eVar 0)) (g := gN 2) (t := bT (eEq (eIx (eVar 2) (eC (.int 0))) (eVar 1))) (f := eVar 2) (vs := [2]) (lk := none) (env := [some s, some (.pd (.int (cubeI b))), none]) (e := [some s, some (.pd (.int (cubeI b))), none]) (q := tnD) (p := fun t => decide (t.1 = b)) (y := tnD) us (by rcases hs with rfl | rfl <;> simp) (by omega) (fun t ht => by
    have x0 := ix_tn0 t
    have e0 := eqc t.1
    by_cases m : t.1 = b
    · rw [m] at x0 e0
      simp [lcIf, wipeE, unwipe, x0, e0, m]
    · simp [lcIf, wipeE, unwipe, x0, e0, m])
  rcases hs with rfl | rfl <;> simp [m_turns_of, lc, unlock, finals, ownT, -z_lc]
def mer (o0 o1 : List T2) : Nat → Nat → List Bool → List T2
  | _, _, [] => []
  | i, j, false :: M => (o0[i]?).toList ++ mer o0 o1 (i + 1) j M
  | i, j, true :: M => (o1[j]?).toList ++ mer o0 o1 i (j + 1) M
theorem mer_app (o0 o1 : List T2) : ∀ (M N : List Bool) (i j : Nat), mer o0 o1 i j (M ++ N) = mer o0 o1 i j M ++ mer o0 o1 (i + M.count false) (j + M.count true) N
  | [], N, i, j => by simp [mer]
  | false :: M, N, i, j => by
    simp [mer, mer_app o0 o1 M N (i + 1) j, Nat.add_assoc, Nat.add_comm 1]
  | true :: M, N, i, j => by
    simp [mer, mer_app o0 o1 M N i (j + 1), Nat.add_assoc, Nat.add_comm 1]
theorem mer_len (o0 o1 : List T2) : ∀ (M : List Bool) (i j : Nat), i + M.count false ≤ o0.length → j + M.count true ≤ o1.length → (mer o0 o1 i j M).length = M.length
  | [], i, j, _, _ => rfl
  | false :: M, i, j, h, h' => by
    simp at h h'
    have hi : i < o0.length := by omega
    simp [mer, List.getElem?_eq_getElem hi, mer_len o0 o1 M (i + 1) j (by omega) h']
  | true :: M, i, j, h, h' => by
    simp at h h'
    have hj : j < o1.length := by omega
    simp [mer, List.getElem?_eq_getElem hj, mer_len o0 o1 M i (j + 1) h (by omega)]
def ordT (us : List T2) : List Bool := us.map (·.1)
def leastB (p : Pr) (us : List T2) : List Bool := TC.leastL (RW (cof p us)) (ordT us)
def leastT (p : Pr) (us : List T2) : List T2 := mer (ownT false us) (ownT true us) 0 0 (leastB p us)
theorem own_cnt (b : Bool) : ∀ us : List T2, (ownT b us).length = (ordT us).count b
  | [] => rfl
  | t :: us => by
    have := own_cnt b us
    unfold ownT ordT at *
    by_cases m : t.1 = b <;> simp [m, this]
def FrzT (s : Option S) : Prop := s = none ∨ ∃ x, s = some (.pd x)
theorem frzT {s : Option S} (h : FrzT s) : fre s = true := by rcases h with rfl | ⟨x, rfl⟩ <;> rfl
def LoE (p : Pr) (s : S) (us : List T2) (x3 : S) (i j : Nat) (ts : List T2) (s6 : Option S) : Sl := [some (.pd (prD p)), some s, some (.pd (wtD (wa p us) (wb p us))), some x3, some (.mu .own (.ls [.int (i : Nat), .int (j : Nat)])), some (.mu .own (.ls (ts.map tnD))), s6]
def LoI (p : Pr) (s : S) (us : List T2) (x3 : S) (n : Nat) (e : Sl) : Prop := ∃ (M : List Bool) (s6 : Option S), M ++ TC.lst (wa p us) (wb p us) n (M.count false) (M.count true) = leastB p us ∧ M.length + n = us.length ∧ M.count false ≤ (ordT us).count false ∧ M.count true ≤ (ordT us).count true ∧ FrzT s6 ∧ e = LoE p s us x3 (M.count false) (M.count true) (mer (ownT false us) (ownT true us) 0 0 M) s6
theorem leastB_ok (p : Pr) (us : List T2) : TC.okL (wa p us) (wb p us) 0 0 (leastB p us) ∧ (leastB p us).count false = (ordT us).count false ∧ (leastB p us).count true = (ordT us).count true := TC.least_ok _ _
theorem ls_at (L : List T2) (i : Nat) {t : T2} (h : L[i]? = some t) : oIx [.list (L.map tnD), .int ((i : Nat) : Int)] = some (tnD t) := by
  have hi : i < L.length := (List.getElem?_eq_some_iff.mp h).1
  have : atI (L.map tnD) ((i : Nat) : Int) = some (tnD t) := by
    refine atI_at (by simp) ?_
    simp [h]
  simpa [oIx] using this
def ownS (us : List T2) : S := .pd (.tuple [.list ((ownT false us).map tnD), .list ((ownT true us).map tnD)])
theorem least_order_sp (p : Pr) (us : List T2) (h : us.length ≤ 100) (s : S) (hs : isT s (us.map tnD)) : f_least_order [.pd (prD p), s] = some (.nt ((leastT p us).map tnD), [.pd (prD p), s]) := by
  have nm : nmu s = true := by rcases hs with rfl | rfl <;> rfl
  have wt := waits_sp p us h s hs
  have t0 := turns_of_sp us h s hs false
  have t1 := turns_of_sp us h s hs true
  have lo : (ordT us).length = us.length := by simp [ordT]
  have key : ∀ Q : R → List S → Prop, Q (.nt ((leastT p us).map tnD)) [.pd (prD p), s] → wF f_least_order [.pd (prD p), s] Q := by
    intro Q hQ
    refine wF_run (e := [some (.pd (prD p)), some s, none, none, none, none, none]) rfl ?_
    refine wS_seq ?_
    refine wS_of (fl := .nx) (e := [some (.pd (prD p)), some s, some (.pd (wtD (wa p us) (wb p us))), none, none, none, none]) (by rcases hs with rfl | rfl <;> simp [wt, fre, z_free2, freO_some, -z_free]) ?_
    rw [nxt_nx, go]
    refine wS_seq ?_
    refine wS_of (fl := .nx) (e := [some (.pd (prD p)), some s, some (.pd (wtD (wa p us) (wb p us))), some (ownS us), none, none, none]) (by
      have c0 : cubeI false = 0 := rfl
      have c1 : cubeI true = 1 := rfl
      rw [c0] at t0
      rw [c1] at t1
      rcases hs with rfl | rfl <;> simp [ownS, t0, t1, T3.kTup, ctD, fre, z_free2, freO_some, -z_free]) ?_
    rw [nxt_nx, go]
    refine wS_seq ?_
    refine wS_of (fl := .nx) (e := [some (.pd (prD p)), some s, some (.pd (wtD (wa p us) (wb p us))), some (ownS us), some (.mu .own (.ls [.int 0, .int 0])), none, none]) (by simp [fre, z_free2, freO_some, -z_free]) ?_
    rw [nxt_nx, go]
    refine wS_seq ?_
    refine wS_of (fl := .nx) (e := LoE p s us (ownS us) 0 0 [] none) (by simp [LoE, fre, z_free2, freO_some, -z_free]) ?_
    rw [nxt_nx, go]
    refine wS_seq ?_
    refine wS_while (LoI p s us (ownS us)) us.length ⟨[], none, by simp [leastB, TC.leastL, lo]; rfl, by simp, by simp, by simp, .inl rfl, rfl⟩ ?_
    rintro n e ⟨M, s6, eM, hn, hf, ht, f6, rfl⟩
    have ml := mer_len (ownT false us) (ownT true us) M 0 0 (by rw [own_cnt]; omega) (by rw [own_cnt]; omega)
    have ns := TC.n_sum M
    have no := TC.n_sum (ordT us)
    have lt := lt_nn M.length us.length
    have tst : bT (eLt (eThen (eCons (eVar 5) eNil) (kE oLen)) (eThen (eCons (eVar 1) eNil) (kE oLen))) (LoE p s us (ownS us) (M.count false) (M.count true) (mer (ownT false us) (ownT true us) 0 0 M) s6) = some (decide (M.length < us.length), LoE p s us (ownS us) (M.count false) (M.count true) (mer (ownT false us) (ownT true us) 0 0 M) s6) := by
      rcases hs with rfl | rfl <;> simp [LoE, oLen, ml, lt]
    unfold bW
    rw [tst]
    by_cases hl : M.length < us.length
    · obtain ⟨m, rfl⟩ : ∃ m, n = m + 1 := ⟨n - 1, by omega⟩
      simp only [hl, decide_true, if_true]
      have mg := may_go_sp (wa p us) (wb p us) (M.count false) (M.count true) _ (.inr rfl) false
      simp only [Bool.false_eq_true, if_false] at mg
      have c0 : cubeI false = 0 := rfl
      rw [c0] at mg
      -- the cube that goes
      have step : ∀ (b : Bool) (t : T2), (if TC.go1 (wa p us) (M.count false) (M.count true) = true then false else true) = b → (ownT b us)[M.count b]? = some t → M ++ [b] ++ TC.lst (wa p us) (wb p us) m ((M ++ [b]).count false) ((M ++ [b]).count true) = leastB p us → (M ++ [b]).count false ≤ (ordT us).count false → (M ++ [b]).count true ≤ (ordT us).count true → mer (ownT false us) (ownT true us) 0 0 (M ++ [b]) = mer (ownT false us) (ownT true us) 0 0 M ++ [t] →
          wS (sSeq (sSet 6 (eIf (bT (eCall f_may_go (eCons (eVar 2) (eCons (eVar 4) (eCons (eC (.int 0)) eNil))))) (eC (.int 0)) (eC (.int 1))))
            (sSeq (sExpr (eBM isL (eVar 5) (eCons (eIx (eIx (eVar 3) (eVar 6)) (eIx (eVar 4) (eVar 6))) eNil) kAppend))
            (sAugS (eVar 4) (eVar 6) 1))) (LoE p s us (ownS us) (M.count false) (M.count true) (mer (ownT false us) (ownT true us) 0 0 M) s6) (lpP (fun e => ∃ k, k < m + 1 ∧ LoI p s us (ownS us) k e) (nxt (Go (sRet (eThen (eCons (eVar 5) eNil) kTupN)) (retP [.pd (prD p), s] Q)) (retP [.pd (prD p), s] Q))) := by
        intro b t eb ht1 e1 e2 e3 e4
        refine wS_seq ?_
        refine wS_of (fl := .nx) (e := LoE p s us (ownS us) (M.count false) (M.count true) (mer (ownT false us) (ownT true us) 0 0 M) (some (.pd (.int (cubeI b))))) (by
          by_cases g : TC.go1 (wa p us) (M.count false) (M.count true) = true
          · rw [if_pos g] at eb
            subst eb
            simp [LoE, mg, g, cubeI, z_free2, freO_some, frzT f6, -z_free]
          · rw [if_neg g] at eb
            subst eb
            simp [LoE, mg, g, cubeI, z_free2, freO_some, frzT f6, -z_free]) ?_
        rw [nxt_nx, go]
        refine wS_seq ?_
        have i1 : oIx [.tuple [.list ((ownT false us).map tnD), .list ((ownT true us).map tnD)], .int (cubeI b)] = some (.list ((ownT b us).map tnD)) := by cases b <;> rfl
        have i2 : oIx [.list [.int ((M.count false : Nat) : Int), .int ((M.count true : Nat) : Int)], .int (cubeI b)] = some (.int ((M.count b : Nat) : Int)) := by cases b <;> rfl
        have i3 := ls_at (ownT b us) (M.count b) ht1
        have ll : (mer (ownT false us) (ownT true us) 0 0 M).length ≤ 1000000 := by rw [ml]; omega
        have nx : (mer (ownT false us) (ownT true us) 0 0 M).map tnD ++ [tnD t] = (mer (ownT false us) (ownT true us) 0 0 (M ++ [b])).map tnD := by rw [e4]; simp
        refine wS_of (fl := .nx) (e := LoE p s us (ownS us) (M.count false) (M.count true) (mer (ownT false us) (ownT true us) 0 0 (M ++ [b])) (some (.pd (.int (cubeI b))))) (by
          simp [LoE, ownS, isL, i1, i2, i3, kAppend, ll, nx]) ?_
        rw [nxt_nx, go]
        refine wS_of (fl := .nx) (e := LoE p s us (ownS us) ((M ++ [b]).count false) ((M ++ [b]).count true) (mer (ownT false us) (ownT true us) 0 0 (M ++ [b])) (some (.pd (.int (cubeI b))))) (by
          cases b <;> simp [LoE, sAugS, cubeI, putL, ixN]) ?_
        exact ⟨m, by omega, M ++ [b], _, e1, by simp; omega, e2, e3, .inr ⟨_, rfl⟩, rfl⟩
      have lst1 : TC.lst (wa p us) (wb p us) (m + 1) (M.count false) (M.count true) = if TC.go1 (wa p us) (M.count false) (M.count true) = true then false :: TC.lst (wa p us) (wb p us) m (M.count false + 1) (M.count true) else true :: TC.lst (wa p us) (wb p us) m (M.count false) (M.count true + 1) := rfl
      rw [lst1] at eM
      by_cases g : TC.go1 (wa p us) (M.count false) (M.count true) = true
      · rw [if_pos g] at eM
        have lt1 := TC.go1_lt g
        have wl : (wa p us).length = (ordT us).count false := TC.wts_len _ _ _ _ _
        have lo1 : M.count false < (ownT false us).length := by rw [own_cnt]; omega
        refine step false _ (by rw [if_pos g]) (List.getElem?_eq_getElem lo1) (by rw [← eM]; simp) (by simp; omega) (by simpa using ht) ?_
        rw [mer_app]
        simp [mer, List.getElem?_eq_getElem lo1]
      · rw [if_neg g] at eM
        have g2 : TC.go1 (wb p us) (M.count true) (M.count false) = true := (TC.prog (RW (cof p us)) (ordT us) hf ht (by omega)).resolve_left g
        have lt1 := TC.go1_lt g2
        have wl : (wb p us).length = (ordT us).count true := TC.wts_len _ _ _ _ _
        have lo1 : M.count true < (ownT true us).length := by rw [own_cnt]; omega
        refine step true _ (by rw [if_neg g]) (List.getElem?_eq_getElem lo1) (by rw [← eM]; simp) (by simpa using hf) (by simp; omega) ?_
        rw [mer_app]
        simp [mer, List.getElem?_eq_getElem lo1]
    · have hm : n = 0 := by omega
      subst hm
      simp only [hl, decide_false, Bool.false_eq_true, if_false, nxt_nx]
      rw [go]
      have eM2 : M = leastB p us := by rw [← eM]; simp [TC.lst]
      subst eM2
      refine wS_of (fl := .rt (.nt ((leastT p us).map tnD))) (e := LoE p s us (ownS us) ((leastB p us).count false) ((leastB p us).count true) (leastT p us) s6) (by simp [LoE, leastT, kTupN, ctn]) ?_
      exact ⟨_, _, rfl, fin_pd (by simp [nmu]; exact nm) (by simp [LoE]), hQ⟩
  obtain ⟨r, as, e, rfl, rfl⟩ := key (fun r as => r = _ ∧ as = _) ⟨rfl, rfl⟩
  exact e
theorem least_turns_sp {F : List Cell} {p : Pr} {us : List T2} (t : Sit2 F p us) (lt : letT F p us) (s : S) (hs : isT s (us.map tnD)) : f_least_turns [.nt (F.map clD), .pd (prD p), s] = some (.nt ((leastT p us).map tnD), [.nt (F.map clD), .pd (prD p), s]) := by
  have nt := need_taken_sp t lt s hs
  have lo := least_order_sp p us (by have := t.ln; omega) s hs
  unfold f_least_turns
  rw [run_of (e := [some (.nt (F.map clD)), some (.pd (prD p)), some s]) rfl]
  rcases hs with rfl | rfl <;> simp [m_least_turns, nt, lo]
abbrev Tb := List ((Nat × Nat) × Nat)
def kc (k : Nat × Nat) : NestedKey := ck (((k.1 : Nat) : Int), ((k.2 : Nat) : Int))
theorem kc_inj {a b : Nat × Nat} (h : kc a = kc b) : a = b := by
  have := ck_inj h
  obtain ⟨a1, a2⟩ := a
  obtain ⟨b1, b2⟩ := b
  simp at this
  have e1 : a1 = b1 := by omega
  have e2 : a2 = b2 := by omega
  rw [e1, e2]
def kvT (ws : Tb) : List (NestedKey × PyData) := ws.map fun q => (kc q.1, .int ((q.2 : Nat) : Int))
def lkT (ws : Tb) (k : Nat × Nat) : Option Nat := (ws.find? fun q => decide (q.1 = k)).map (·.2)
def ptT (ws : Tb) (k : Nat × Nat) (x : Nat) : Tb := if (lkT ws k).isSome = true then ws.map (fun q => if q.1 = k then (q.1, x) else q) else ws ++ [(k, x)]
theorem kv_val (ws : Tb) (k : Nat × Nat) : valN (kvT ws) (kc k) = (lkT ws k).map fun n => .int ((n : Nat) : Int) := by
  induction ws with
  | nil => rfl
  | cons q ws ih =>
    unfold valN kvT lkT at *
    by_cases e : q.1 = k
    · simp [e]
    · have e' : ¬ kc q.1 = kc k := fun z => e (kc_inj z)
      simp only [List.map_cons, List.find?_cons, e, e', decide_false]
      exact ih
theorem kv_put (ws : Tb) (k : Nat × Nat) (x : Nat) : putN (kvT ws) (kc k) (.int ((x : Nat) : Int)) = kvT (ptT ws k x) := by
  unfold putN ptT
  rw [kv_val]
  cases h : lkT ws k with
  | none => simp [kvT]
  | some y =>
    simp only [Option.map_some, Option.isSome_some, if_true]
    unfold kvT
    rw [List.map_map, List.map_map]
    refine List.map_congr_left fun q _ => ?_
    by_cases e : q.1 = k
    · simp [e]
    · have e' : ¬ kc q.1 = kc k := fun z => e (kc_inj z)
      simp [e, e']
theorem lk_map {k k' : Nat × Nat} {x : Nat} : ∀ ws : Tb, (lkT ws k).isSome = true → lkT (ws.map fun q => if q.1 = k then (q.1, x) else q) k' = if k' = k then some x else lkT ws k'
  | [], h => by simp [lkT] at h
  | q :: ws, h => by
    obtain ⟨qk, qx⟩ := q
    by_cases e : qk = k
    · subst e
      by_cases e2 : k' = qk
      · subst e2
        simp [lkT]
      · have e3 : ¬ qk = k' := fun z => e2 z.symm
        have off : ∀ vs : Tb, lkT (vs.map fun q => if q.1 = qk then (q.1, x) else q) k' = lkT vs k' := by
          intro vs
          induction vs with
          | nil => rfl
          | cons v vs ih =>
            obtain ⟨vk, vx⟩ := v
            unfold lkT at *
            by_cases e4 : vk = k'
            · subst e4
              simp [e2]
            · by_cases e5 : vk = qk
              · subst e5
                simp only [List.map_cons, if_true, List.find?_cons, e4, decide_false]
                exact ih
              · simp only [List.map_cons, e5, if_false, List.find?_cons, e4, decide_false]
                exact ih
        rw [if_neg e2]
        exact off _
    · have h2 : (lkT ws k).isSome = true := by
        unfold lkT at h ⊢
        simpa [e] using h
      have ih := lk_map (k' := k') (x := x) ws h2
      unfold lkT at ih ⊢
      by_cases e2 : qk = k'
      · have e3 : ¬ k' = k := fun z => e (e2.trans z)
        simp [e, e2, e3]
      · simp only [List.map_cons, e, if_false, List.find?_cons, e2, decide_false]
        exact ih
theorem lk_put (ws : Tb) (k k' : Nat × Nat) (x : Nat) : lkT (ptT ws k x) k' = if k' = k then some x else lkT ws k' := by
  unfold ptT
  cases h : lkT ws k with
  | some y =>
    simp only [Option.isSome_some, if_true]
    exact lk_map ws (by rw [h]; rfl)
  | none =>
    simp only [Option.isSome_none, Bool.false_eq_true, if_false]
    unfold lkT at h ⊢
    rw [List.find?_append]
    by_cases e : k' = k
    · subst e
      have : ws.find? (fun q => decide (q.1 = k')) = none := by simpa using h
      simp [this]
    · have e2 : ¬ k = k' := fun z => e z.symm
      rw [if_neg e]
      simp [e2]
theorem pt_len (ws : Tb) (k : Nat × Nat) (x : Nat) : (ptT ws k x).length ≤ ws.length + 1 := by
  unfold ptT
  split <;> simp
def vlT (ws : Tb) (k : Nat × Nat) : Nat := (lkT ws k).getD 0
theorem vl_put (ws : Tb) (k k' : Nat × Nat) (x : Nat) : vlT (ptT ws k x) k' = if k' = k then x else vlT ws k' := by
  unfold vlT
  rw [lk_put]
  split <;> simp
def preT (m i j x y : Nat) : Bool := decide (y ≤ m ∧ (x < i ∨ x = i ∧ y < j))
def fromA (v : List Nat) (w : List Nat) (m i j : Nat) (a b : Nat) : Nat := match a with
  | 0 => 0
  | a + 1 => if preT m i j a b = true ∧ TC.go1 v a b = true then TC.dp v w a b else 0
def fromB (v : List Nat) (w : List Nat) (m i j : Nat) (a b : Nat) : Nat := match b with
  | 0 => 0
  | b + 1 => if preT m i j a b = true ∧ TC.go1 w b a = true then TC.dp v w a b else 0
def one0 (a b : Nat) : Nat := if a = 0 ∧ b = 0 then 1 else 0
def HmI (v w : List Nat) (m i j : Nat) (ws : Tb) : Prop := ∀ a b, vlT ws (a, b) = one0 a b + fromA v w m i j a b + fromB v w m i j a b
theorem hm_start (v w : List Nat) (m : Nat) : HmI v w m 0 0 [((0, 0), 1)] := fun a b => by
  have p : ∀ x y, preT m 0 0 x y = false := fun x y => by simp [preT]
  have fa : fromA v w m 0 0 a b = 0 := by unfold fromA; split <;> simp [p]
  have fb : fromB v w m 0 0 a b = 0 := by unfold fromB; split <;> simp [p]
  rw [fa, fb]
  unfold vlT lkT one0
  by_cases h : a = 0 ∧ b = 0
  · simp [h.1, h.2]
  · have : ¬ (0, 0) = (a, b) := fun z => h (by simp at z; omega)
    simp [this, h]
theorem hm_at {v w : List Nat} {m i j : Nat} {ws : Tb} (h : HmI v w m i j ws) (hj : j ≤ m) : vlT ws (i, j) = TC.dp v w i j := by
  rw [h]
  have pa : ∀ x, x < i → preT m i j x j = true := fun x hx => by simp [preT]; omega
  have pb : ∀ y, y < j → preT m i j i y = true := fun y hy => by simp [preT]; omega
  cases i with
  | zero => cases j with
    | zero => simp [one0, fromA, fromB, TC.dp]
    | succ j => simp [one0, fromA, fromB, TC.dp, pb j (Nat.lt_succ_self j)]
  | succ i => cases j with
    | zero => simp [one0, fromA, fromB, TC.dp, pa i (Nat.lt_succ_self i)]
    | succ j => simp [one0, fromA, fromB, TC.dp, pa i (Nat.lt_succ_self i), pb j (Nat.lt_succ_self j)]
def nextA (v : List Nat) (i j : Nat) (ws : Tb) (x : Nat) : Tb := if TC.go1 v i j = true then ptT ws (i + 1, j) (vlT ws (i + 1, j) + x) else ws
def nextB (w : List Nat) (i j : Nat) (ws : Tb) (x : Nat) : Tb := if TC.go1 w j i = true then ptT ws (i, j + 1) (vlT ws (i, j + 1) + x) else ws
theorem pre_next {m i j x y : Nat} (hj : j ≤ m) : preT m i (j + 1) x y = (preT m i j x y || decide (x = i ∧ y = j)) := by
  unfold preT
  rw [Bool.eq_iff_iff]
  simp only [Bool.or_eq_true, decide_eq_true_eq]
  omega
theorem hm_next {v w : List Nat} {m i j : Nat} {ws : Tb} (h : HmI v w m i j ws) (hj : j ≤ m) : HmI v w m i (j + 1) (nextB w i j (nextA v i j ws (TC.dp v w i j)) (TC.dp v w i j)) := by
  have notp : preT m i j i j = false := by simp [preT]
  have va : ∀ a b, vlT (nextA v i j ws (TC.dp v w i j)) (a, b) = vlT ws (a, b) + if a = i + 1 ∧ b = j ∧ TC.go1 v i j = true then TC.dp v w i j else 0 := fun a b => by
    unfold nextA
    by_cases g : TC.go1 v i j = true
    · rw [if_pos g, vl_put]
      by_cases e : a = i + 1 ∧ b = j
      · simp [e.1, e.2, g]
      · have : ¬ (a, b) = (i + 1, j) := fun z => e (by simpa using z)
        rw [if_neg this, if_neg fun z => e ⟨z.1, z.2.1⟩]
        rfl
    · rw [if_neg g, if_neg fun z => g z.2.2]
      rfl
  have vb : ∀ (ws' : Tb) a b, vlT (nextB w i j ws' (TC.dp v w i j)) (a, b) = vlT ws' (a, b) + if a = i ∧ b = j + 1 ∧ TC.go1 w j i = true then TC.dp v w i j else 0 := fun ws' a b => by
    unfold nextB
    by_cases g : TC.go1 w j i = true
    · rw [if_pos g, vl_put]
      by_cases e : a = i ∧ b = j + 1
      · simp [e.1, e.2, g]
      · have : ¬ (a, b) = (i, j + 1) := fun z => e (by simpa using z)
        rw [if_neg this, if_neg fun z => e ⟨z.1, z.2.1⟩]
        rfl
    · rw [if_neg g, if_neg fun z => g z.2.2]
      rfl
  have fa : ∀ a b, fromA v w m i (j + 1) a b = fromA v w m i j a b + if a = i + 1 ∧ b = j ∧ TC.go1 v i j = true then TC.dp v w i j else 0 := fun a b => by
    cases a with
    | zero => simp [fromA]
    | succ a =>
      simp only [fromA, pre_next hj, Bool.or_eq_true, decide_eq_true_eq]
      by_cases e : a = i ∧ b = j
      · obtain ⟨rfl, rfl⟩ := e
        simp [notp]
      · have e2 : ¬ (a + 1 = i + 1 ∧ b = j ∧ TC.go1 v i j = true) := fun z => e ⟨by omega, z.2.1⟩
        rw [if_neg e2]
        simp [e]
  have fb : ∀ a b, fromB v w m i (j + 1) a b = fromB v w m i j a b + if a = i ∧ b = j + 1 ∧ TC.go1 w j i = true then TC.dp v w i j else 0 := fun a b => by
    cases b with
    | zero => simp [fromB]
    | succ b =>
      simp only [fromB, pre_next hj, Bool.or_eq_true, decide_eq_true_eq]
      by_cases e : a = i ∧ b = j
      · obtain ⟨rfl, rfl⟩ := e
        simp [notp]
      · have e2 : ¬ (a = i ∧ b + 1 = j + 1 ∧ TC.go1 w j i = true) := fun z => e ⟨z.1, by omega⟩
        rw [if_neg e2]
        simp [e]
  intro a b
  rw [vb, va, h, fa, fb]
  omega
theorem hm_row {v w : List Nat} {m i : Nat} {ws : Tb} (h : HmI v w m i (m + 1) ws) : HmI v w m (i + 1) 0 ws := fun a b => by
  have p : ∀ x y, preT m (i + 1) 0 x y = preT m i (m + 1) x y := fun x y => by
    unfold preT
    rw [Bool.eq_iff_iff]
    simp only [decide_eq_true_eq]
    omega
  rw [h]
  unfold fromA fromB
  simp only [p]
def HmE (F : List Cell) (p : Pr) (s : S) (v w : List Nat) (ws : Tb) (s5 s6 s7 : Option S) : Sl := [some (.nt (F.map clD)), some (.pd (prD p)), some s, some (.pd (wtD v w)), some (.mu .own (.dn (kvT ws))), s5, s6, s7]
def upF (n k : Nat) : List PyData := (List.range' n k).map fun i => .int ((i : Nat) : Int)
theorem upF_up (n : Nat) : upF 0 n = upD n := by
  unfold upF upD
  rw [List.range_eq_range']
def HmO (F : List Cell) (p : Pr) (s : S) (v w : List Nat) (rest : List PyData) (e : Sl) : Prop := ∃ (i k : Nat) (ws : Tb) (s5 s6 s7 : Option S), rest = upF i k ∧ i + k = v.length + 1 ∧ HmI v w w.length i 0 ws ∧ ws.length ≤ 1 + 2 * (i * 101) ∧ FrzT s5 ∧ FrzT s6 ∧ FrzT s7 ∧ e = HmE F p s v w ws s5 s6 s7
def HmN (F : List Cell) (p : Pr) (s : S) (v w : List Nat) (i : Nat) (rest : List PyData) (e : Sl) : Prop := ∃ (j k : Nat) (ws : Tb) (s6 s7 : Option S), rest = upF j k ∧ j + k = w.length + 1 ∧ HmI v w w.length i j ws ∧ ws.length ≤ 1 + 2 * (i * 101 + j) ∧ FrzT s6 ∧ FrzT s7 ∧ e = HmE F p s v w ws (some (.pd (.int (i : Nat)))) s6 s7
theorem tk_kc (a b : Nat) : tk? (.tuple [.int ((a : Nat) : Int), .int ((b : Nat) : Int)]) = some (kc (a, b)) := tk_cell (((a : Nat) : Int), ((b : Nat) : Int))
theorem getD_vl (ws : Tb) (k : Nat × Nat) : ((lkT ws k).map fun n => PyData.int ((n : Nat) : Int)).getD (.int 0) = .int ((vlT ws k : Nat) : Int) := by
  unfold vlT
  cases lkT ws k <;> rfl
theorem how_many_sp {F : List Cell} {p : Pr} {us : List T2} (t : Sit2 F p us) (lt : letT F p us) (s : S) (hs : isT s (us.map tnD)) : f_how_many [.nt (F.map clD), .pd (prD p), s] = some (.pd (.int ((TC.dp (wa p us) (wb p us) ((ordT us).count false) ((ordT us).count true) : Nat) : Int)), [.nt (F.map clD), .pd (prD p), s]) := by
  have nm : nmu s = true := by rcases hs with rfl | rfl <;> rfl
  have nt := need_taken_sp t lt s hs
  have ul := t.ln
  have wt := waits_sp p us (by omega) s hs
  have wl : (wa p us).length = (ordT us).count false := TC.wts_len _ _ _ _ _
  have wl2 : (wb p us).length = (ordT us).count true := TC.wts_len _ _ _ _ _
  have no := TC.n_sum (ordT us)
  have lo : (ordT us).length = us.length := by simp [ordT]
  have pos : 0 < TC.dp (wa p us) (wb p us) ((ordT us).count false) ((ordT us).count true) := by
    have := TC.dp_pos (ordT us) 0 0 (TC.okL_self (RW (cof p us)) (ordT us)) (by simp [TC.dp])
    rw [Nat.zero_add, Nat.zero_add] at this
    exact this
  rw [← wl, ← wl2] at pos ⊢
  have v24 : (wa p us).length ≤ 100 := by omega
  have w24 : (wb p us).length ≤ 100 := by omega
  generalize wa p us = v at *
  generalize wb p us = w at *
  have key : ∀ Q : R → List S → Prop, Q (.pd (.int ((TC.dp v w v.length w.length : Nat) : Int))) [.nt (F.map clD), .pd (prD p), s] → wF f_how_many [.nt (F.map clD), .pd (prD p), s] Q := by
    intro Q hQ
    refine wF_run (e := [some (.nt (F.map clD)), some (.pd (prD p)), some s, none, none, none, none, none]) rfl ?_
    refine wS_seq ?_
    refine wS_of (fl := .nx) (e := [some (.nt (F.map clD)), some (.pd (prD p)), some s, none, none, none, none, none]) (by rcases hs with rfl | rfl <;> simp [nt]) ?_
    rw [nxt_nx, go]
    refine wS_seq ?_
    refine wS_of (fl := .nx) (e := [some (.nt (F.map clD)), some (.pd (prD p)), some s, some (.pd (wtD v w)), none, none, none, none]) (by rcases hs with rfl | rfl <;> simp [wt, fre, z_free2, freO_some, -z_free]) ?_
    rw [nxt_nx, go]
    refine wS_seq ?_
    have t00 := tk_kc 0 0
    refine wS_of (fl := .nx) (e := HmE F p s v w [((0, 0), 1)] none none none) (by
      simp at t00
      simp [HmE, eDisp, keysK, keysN, T3.kTup, key?, t00, allN, putN, valN, kvT, ePairs, kc, fre, z_free2, freO_some, -z_free]) ?_
    rw [nxt_nx, go]
    refine wS_seq ?_
    have x0 : oIx [wtD v w, .int 0] = some (.list (nD v)) := rfl
    have x1 : oIx [wtD v w, .int 1] = some (.list (nD w)) := rfl
    have lv : (nD v).length = v.length := List.length_map _
    have lw : (nD w).length = w.length := List.length_map _
    have n1 : ∀ n : Nat, ((n : Nat) : Int) + 1 = ((n + 1 : Nat) : Int) := fun n => rfl
    refine wS_for (xs := upD (v.length + 1)) (lk := none) (e := HmE F p s v w [((0, 0), 1)] none none none) (rg1_up (by simp [HmE, x0, oLen, lv, kAdd, oI]) (by omega)) (HmO F p s v w) ⟨0, v.length + 1, _, none, none, none, (upF_up _).symm, by omega, hm_start v w w.length, by simp, .inl rfl, .inl rfl, .inl rfl, rfl⟩ ?_ ?_
    · rintro x rest e ⟨i, k, ws, s5, s6, s7, er, ek, hm, hl, f5, f6, f7, rfl⟩
      cases k with
      | zero => simp [upF] at er
      | succ k =>
        obtain ⟨rfl, er2⟩ : x = .int ((i : Nat) : Int) ∧ rest = upF (i + 1) k := by
          unfold upF at er ⊢
          simpa [List.range'_succ] using er
        simp only [gW, HmE, z_gN, z_setR, z_free2, List.getElem?_cons_succ, List.getElem?_cons_zero, freO_some, frzT f5, if_true, List.set_cons_succ, List.set_cons_zero]
        rw [go]
        refine wS_for (xs := upD (w.length + 1)) (lk := none) (e := HmE F p s v w ws (some (.pd (.int (i : Nat)))) s6 s7) (rg1_up (by simp [HmE, x1, oLen, lw, kAdd, oI]) (by omega)) (HmN F p s v w i) ⟨0, w.length + 1, ws, s6, s7, (upF_up _).symm, by omega, hm, by omega, f6, f7, rfl⟩ ?_ ?_
        · rintro x rest' e ⟨j, m, ws, s6, s7, er, em, hm, hl, f6, f7, rfl⟩
          cases m with
          | zero => simp [upF] at er
          | succ m =>
            obtain ⟨rfl, er3⟩ : x = .int ((j : Nat) : Int) ∧ rest' = upF (j + 1) m := by
              unfold upF at er ⊢
              simpa [List.range'_succ] using er
            simp only [gW, HmE, z_gN, z_setR, z_free2, List.getElem?_cons_succ, List.getElem?_cons_zero, freO_some, frzT f6, if_true, List.set_cons_succ, List.set_cons_zero]
            rw [go]
            have hj : j ≤ w.length := by omega
            have hi : i ≤ v.length := by omega
            have at_ := hm_at hm hj
            have nx := hm_next hm hj
            have tij := tk_kc i j
            have tij1 := tk_kc (i + 1) j
            have tij2 := tk_kc i (j + 1)
            have g0 := may_go_sp v w i j _ (.inl rfl) false
            have g1 := may_go_sp v w i j _ (.inl rfl) true
            simp only [Bool.false_eq_true, if_false, if_true] at g0 g1
            have c0 : cubeI false = 0 := rfl
            have c1 : cubeI true = 1 := rfl
            rw [c0] at g0
            rw [c1] at g1
            have v0 := kv_val ws (i, j)
            have v1 := kv_val ws (i + 1, j)
            have l0 : ws.length ≤ 1000000 := by omega
            have gd0 := getD_vl ws (i, j)
            rw [at_] at gd0
            have gd1 := getD_vl ws (i + 1, j)
            generalize hd : TC.dp v w i j = d at *
            refine wS_seq ?_
            refine wS_of (fl := .nx) (e := HmE F p s v w ws (some (.pd (.int (i : Nat)))) (some (.pd (.int (j : Nat)))) (some (.pd (.int ((d : Nat) : Int))))) (by
              simp [HmE, T3.kTup, isDc, cGet, tij, v0, gd0, pdOf, z_free2, freO_some, frzT f7, -z_free]) ?_
            rw [nxt_nx, go]
            refine wS_seq ?_
            have kl : (kvT ws).length ≤ 1000000 := by unfold kvT; rw [List.length_map]; exact l0
            refine wS_of (fl := .nx) (e := HmE F p s v w (nextA v i j ws d) (some (.pd (.int (i : Nat)))) (some (.pd (.int (j : Nat)))) (some (.pd (.int ((d : Nat) : Int))))) (by
              have pu := kv_put ws (i + 1, j) (vlT ws (i + 1, j) + d)
              unfold nextA
              by_cases g : TC.go1 v i j = true
              · rw [if_pos g]
                simp [HmE, T3.kTup, g0, g, kAdd, oI, isDc, cGet, tij1, v1, gd1, pdOf, dPut, cPut, kl, n1, pu, -Int.natCast_add, ← Int.natCast_add]
              · rw [if_neg g]
                simp [HmE, T3.kTup, g0, g, pdOf]) ?_
            rw [nxt_nx, go]
            have l1 : (nextA v i j ws d).length ≤ ws.length + 1 := by
              unfold nextA
              split
              · exact pt_len _ _ _
              · omega
            generalize nextA v i j ws d = ws1 at *
            have v2 := kv_val ws1 (i, j + 1)
            have gd2 := getD_vl ws1 (i, j + 1)
            have kl1 : (kvT ws1).length ≤ 1000000 := by unfold kvT; rw [List.length_map]; omega
            refine wS_of (fl := .nx) (e := HmE F p s v w (nextB w i j ws1 d) (some (.pd (.int (i : Nat)))) (some (.pd (.int (j : Nat)))) (some (.pd (.int ((d : Nat) : Int))))) (by
              have pu := kv_put ws1 (i, j + 1) (vlT ws1 (i, j + 1) + d)
              unfold nextB
              by_cases g : TC.go1 w j i = true
              · rw [if_pos g]
                simp [HmE, T3.kTup, g1, g, kAdd, oI, isDc, cGet, tij2, v2, gd2, pdOf, dPut, cPut, kl1, n1, pu, -Int.natCast_add, ← Int.natCast_add]
              · rw [if_neg g]
                simp [HmE, T3.kTup, g1, g, pdOf]) ?_
            have l2 : (nextB w i j ws1 d).length ≤ ws1.length + 1 := by
              unfold nextB
              split
              · exact pt_len _ _ _
              · omega
            exact ⟨j + 1, m, _, _, _, er3, by omega, nx, by omega, .inr ⟨_, rfl⟩, .inr ⟨_, rfl⟩, rfl⟩
        · rintro e ⟨j, m, ws, s6, s7, er, em, hm, hl, f6, f7, rfl⟩
          have m0 : m = 0 := by
            cases m with
            | zero => rfl
            | succ m => simp [upF, List.range'_succ] at er
          subst m0
          have ej : j = w.length + 1 := by omega
          subst ej
          rw [z_unl]
          exact ⟨i + 1, k, ws, _, s6, s7, er2, by omega, hm_row hm, by omega, .inr ⟨_, rfl⟩, f6, f7, rfl⟩
    · rintro e ⟨i, k, ws, s5, s6, s7, er, ek, hm, hl, f5, f6, f7, rfl⟩
      rw [z_unl, nxt_nx, go]
      have k0 : k = 0 := by
        cases k with
        | zero => rfl
        | succ k => simp [upF, List.range'_succ] at er
      subst k0
      have ei : i = v.length + 1 := by omega
      subst ei
      have fin : vlT ws (v.length, w.length) = TC.dp v w v.length w.length := by
        have h := hm v.length w.length
        rw [h]
        have p1 : ∀ x y, y ≤ w.length → x ≤ v.length → preT w.length (v.length + 1) 0 x y = true := fun x y a b => by simp [preT]; omega
        generalize v.length = n at *
        generalize w.length = m at *
        cases n with
        | zero => cases m with
          | zero => simp [one0, fromA, fromB, TC.dp]
          | succ m => simp [one0, fromA, fromB, TC.dp, p1 0 m (by omega) (by omega)]
        | succ n => cases m with
          | zero => simp [one0, fromA, fromB, TC.dp, p1 n 0 (by omega) (by omega)]
          | succ m => simp [one0, fromA, fromB, TC.dp, p1 n (m + 1) (by omega) (by omega), p1 (n + 1) m (by omega) (by omega)]
      have lk : lkT ws (v.length, w.length) = some (TC.dp v w v.length w.length) := by
        unfold vlT at fin
        cases h : lkT ws (v.length, w.length) with
        | none => rw [h] at fin; simp at fin; omega
        | some x => rw [h] at fin; simpa using fin
      have vv := kv_val ws (v.length, w.length)
      rw [lk] at vv
      have tt := tk_kc v.length w.length
      refine wS_of (fl := .rt (.pd (.int ((TC.dp v w v.length w.length : Nat) : Int)))) (e := HmE F p s v w ws s5 s6 s7) (by simp [HmE, x0, x1, oLen, lv, lw, T3.kTup, cGet, tt, vv, pdOf]) ?_
      exact ⟨_, _, rfl, fin_pd (by simp [nmu]; exact nm) (by simp [HmE]), hQ⟩
  obtain ⟨r, as, e, rfl, rfl⟩ := key (fun r as => r = _ ∧ as = _) ⟨rfl, rfl⟩
  exact e
def al (F : List Cell) (c : Cell) : List Cell := F.filter fun x => !decide (x = c)
def runS (s : Cell × Ly) (ts : List T2) : Cell × Ly := ts.foldl (fun s t => (stepC s.1 t.2, roll s.2 t.2)) s
def runC (c : Cell) (ts : List T2) : Cell := ts.foldl (fun c t => stepC c t.2) c
theorem runS_c : ∀ (ts : List T2) (s : Cell × Ly), (runS s ts).1 = runC s.1 ts
  | [], s => rfl
  | t :: ts, s => runS_c ts (stepC s.1 t.2, roll s.2 t.2)
theorem side_stp (p : Pr) (t : T2) (b : Bool) : side (stp p t) b = if t.1 = b then (stepC (side p b).1 t.2, roll (side p b).2 t.2) else side p b := by
  obtain ⟨c, d⟩ := t
  cases b <;> cases c <;> rfl
theorem side_end (b : Bool) : ∀ (us : List T2) (p : Pr), side (endP p us) b = runS (side p b) (ownT b us)
  | [], p => rfl
  | t :: us, p => by
    have ih := side_end b us (stp p t)
    show side (endP (stp p t) us) b = _
    rw [ih, side_stp]
    by_cases m : t.1 = b
    · simp [ownT, m, runS]
    · simp [ownT, m]
def cofO (b : Bool) : Cell → List T2 → List W2
  | _, [] => []
  | c, t :: ts => (b, c, stepC c t.2) :: cofO b (stepC c t.2) ts
theorem own_cof (b : Bool) : ∀ (us : List T2) (p : Pr), own b (cof p us) = cofO b (side p b).1 (ownT b us)
  | [], p => rfl
  | t :: us, p => by
    have ih := own_cof b us (stp p t)
    obtain ⟨c, d⟩ := t
    by_cases m : c = b
    · subst m
      have s1 := side_stp p (c, d) c
      simp only [if_true] at s1
      rw [s1] at ih
      have e1 : own c (cof p ((c, d) :: us)) = tk p (c, d) :: own c (cof (stp p (c, d)) us) := by simp [own, cof, tk]
      have e2 : ownT c ((c, d) :: us) = (c, d) :: ownT c us := by simp [ownT]
      rw [e1, e2, ih]
      unfold tk
      simp only [s1]
      rfl
    · have s1 := side_stp p (c, d) b
      simp only [m, if_false] at s1
      rw [s1] at ih
      have e1 : own b (cof p ((c, d) :: us)) = own b (cof (stp p (c, d)) us) := by simp [own, cof, tk, m]
      have e2 : ownT b ((c, d) :: us) = ownT b us := by simp [ownT, m]
      rw [e1, e2, ih]
theorem cofO_at (b : Bool) : ∀ (ts : List T2) (c : Cell) (i : Nat), i < ts.length → (cofO b c ts)[i]? = some (b, runC c (ts.take i), runC c (ts.take (i + 1)))
  | [], c, i, h => by simp at h
  | t :: ts, c, 0, h => by simp [cofO, runC]
  | t :: ts, c, i + 1, h => by
    have := cofO_at b ts (stepC c t.2) i (by simpa using h)
    simpa [cofO, runC] using this
theorem RW_at (p : Pr) (us : List T2) (i j : Nat) (hi : i < (ownT false us).length) (hj : j < (ownT true us).length) : RW (cof p us) i j = meetW (false, runC (side p false).1 ((ownT false us).take i), runC (side p false).1 ((ownT false us).take (i + 1))) (true, runC (side p true).1 ((ownT true us).take j), runC (side p true).1 ((ownT true us).take (j + 1))) := by
  unfold RW
  rw [own_cof, own_cof, cofO_at _ _ _ _ hi, cofO_at _ _ _ _ hj]
theorem RW_own {p : Pr} {us vs : List T2} (h : ∀ b, ownT b us = ownT b vs) : RW (cof p us) = RW (cof p vs) := by
  funext i j
  unfold RW
  rw [own_cof, own_cof, own_cof, own_cof, h false, h true]
theorem ownT_all (b : Bool) (us : List T2) : ∀ t ∈ ownT b us, t.1 = b := fun t ht => by simpa using (List.mem_filter.mp ht).2
theorem ord_mer {o0 o1 : List T2} (h0 : ∀ t ∈ o0, t.1 = false) (h1 : ∀ t ∈ o1, t.1 = true) : ∀ (M : List Bool) (i j : Nat), i + M.count false ≤ o0.length → j + M.count true ≤ o1.length → ordT (mer o0 o1 i j M) = M
  | [], i, j, _, _ => rfl
  | false :: M, i, j, h, h' => by
    simp at h h'
    have hi : i < o0.length := by omega
    have := ord_mer h0 h1 M (i + 1) j (by omega) h'
    unfold ordT at *
    simp [mer, List.getElem?_eq_getElem hi, this, h0 _ (List.getElem_mem hi)]
  | true :: M, i, j, h, h' => by
    simp at h h'
    have hj : j < o1.length := by omega
    have := ord_mer h0 h1 M i (j + 1) h (by omega)
    unfold ordT at *
    simp [mer, List.getElem?_eq_getElem hj, this, h1 _ (List.getElem_mem hj)]
theorem ownT_eq {b : Bool} {t : T2} {ts : List T2} (h : t.1 = b) : ownT b (t :: ts) = t :: ownT b ts := by simp [ownT, h]
theorem ownT_ne {b : Bool} {t : T2} {ts : List T2} (h : t.1 ≠ b) : ownT b (t :: ts) = ownT b ts := by simp [ownT, h]
theorem own_mer {o0 o1 : List T2} (h0 : ∀ t ∈ o0, t.1 = false) (h1 : ∀ t ∈ o1, t.1 = true) : ∀ (M : List Bool) (i j : Nat), i + M.count false = o0.length → j + M.count true = o1.length → ownT false (mer o0 o1 i j M) = o0.drop i ∧ ownT true (mer o0 o1 i j M) = o1.drop j
  | [], i, j, h, h' => by
    simp at h h'
    simp [mer, ownT, h, h']
  | false :: M, i, j, h, h' => by
    simp at h h'
    have hi : i < o0.length := by omega
    obtain ⟨a, b⟩ := own_mer h0 h1 M (i + 1) j (by omega) h'
    have e0 := h0 _ (List.getElem_mem hi)
    have e : mer o0 o1 i j (false :: M) = o0[i] :: mer o0 o1 (i + 1) j M := by simp [mer, List.getElem?_eq_getElem hi]
    rw [e, ownT_eq e0, ownT_ne (by rw [e0]; decide), a, b]
    exact ⟨(List.drop_eq_getElem_cons hi).symm, rfl⟩
  | true :: M, i, j, h, h' => by
    simp at h h'
    have hj : j < o1.length := by omega
    obtain ⟨a, b⟩ := own_mer h0 h1 M i (j + 1) h (by omega)
    have e0 := h1 _ (List.getElem_mem hj)
    have e : mer o0 o1 i j (true :: M) = o1[j] :: mer o0 o1 i (j + 1) M := by simp [mer, List.getElem?_eq_getElem hj]
    rw [e, ownT_eq e0, ownT_ne (by rw [e0]; decide), a, b]
    exact ⟨rfl, (List.drop_eq_getElem_cons hj).symm⟩
theorem letT_of {F : List Cell} : ∀ {ts : List T2} {p : Pr}, (∀ t1 t2, ts = t1 ++ t2 → okP F (endP p t1)) → letT F p ts
  | [], p, _ => trivial
  | t :: ts, p, h => ⟨h [t] ts rfl, letT_of fun t1 t2 e => h (t :: t1) t2 (by rw [e]; rfl)⟩
theorem let_ok {F : List Cell} {p : Pr} {t1 t2 : List T2} (ok : okP F p) (h : letT F p (t1 ++ t2)) : okP F (endP p t1) := endP_ok t1 p ok ((letT_split t1 t2 p).mp h).1
theorem ord_app (t1 t2 : List T2) : ordT (t1 ++ t2) = ordT t1 ++ ordT t2 := by simp [ordT]
theorem ownT_app (b : Bool) (t1 t2 : List T2) : ownT b (t1 ++ t2) = ownT b t1 ++ ownT b t2 := by simp [ownT]
theorem own_pre (b : Bool) (t1 t2 : List T2) : ownT b t1 = (ownT b (t1 ++ t2)).take ((ordT t1).count b) := by
  rw [ownT_app, ← own_cnt, List.take_left']
  rfl
def inO (us : List T2) (M : List Bool) : List T2 := mer (ownT false us) (ownT true us) 0 0 M
structure OrdOf (p : Pr) (us : List T2) (M : List Bool) : Prop where
  ok : TC.okL (wa p us) (wb p us) 0 0 M
  nf : M.count false = (ordT us).count false
  nt : M.count true = (ordT us).count true
theorem OrdOf.ord {p : Pr} {us : List T2} {M : List Bool} (h : OrdOf p us M) : ordT (inO us M) = M :=
  ord_mer (ownT_all false us) (ownT_all true us) M 0 0 (by rw [own_cnt, h.nf]; omega) (by rw [own_cnt, h.nt]; omega)
theorem OrdOf.own {p : Pr} {us : List T2} {M : List Bool} (h : OrdOf p us M) (b : Bool) : ownT b (inO us M) = ownT b us := by
  obtain ⟨a, c⟩ := own_mer (ownT_all false us) (ownT_all true us) M 0 0 (by rw [own_cnt, h.nf]; omega) (by rw [own_cnt, h.nt]; omega)
  cases b
  · exact a.trans List.drop_zero
  · exact c.trans List.drop_zero
theorem OrdOf.rw {p : Pr} {us : List T2} {M : List Bool} (h : OrdOf p us M) : RW (cof p (inO us M)) = RW (cof p us) := RW_own h.own
theorem OrdOf.ewa {p : Pr} {us : List T2} {M : List Bool} (h : OrdOf p us M) : wa p (inO us M) = wa p us := by
  show TC.w0 (RW (cof p (inO us M))) (ordT (inO us M)) = _
  rw [h.rw, h.ord]
  exact TC.same_w0 h.nf h.nt h.ok
theorem OrdOf.ewb {p : Pr} {us : List T2} {M : List Bool} (h : OrdOf p us M) : wb p (inO us M) = wb p us := by
  show TC.w1 (RW (cof p (inO us M))) (ordT (inO us M)) = _
  rw [h.rw, h.ord]
  exact TC.same_w1 h.nf h.nt h.ok
theorem OrdOf.len {p : Pr} {us : List T2} {M : List Bool} (h : OrdOf p us M) : (inO us M).length = us.length := by
  have a := congrArg List.length h.ord
  have b := TC.n_sum M
  have c := TC.n_sum (ordT us)
  rw [h.nf, h.nt] at b
  have : (ordT us).length = us.length := by simp [ordT]
  have : (ordT (inO us M)).length = (inO us M).length := by simp [ordT]
  omega
theorem OrdOf.lets {F : List Cell} {p : Pr} {us : List T2} {M : List Bool} (h : OrdOf p us M) (ok : okP F p) (lt : letT F p us) : letT F p (inO us M) := by
  refine letT_of fun t1 t2 e => ?_
  have eM : M = ordT t1 ++ ordT t2 := by rw [← ord_app, ← e, h.ord]
  have own1 : ∀ b, ownT b t1 = (ownT b us).take ((ordT t1).count b) := fun b => by rw [← h.own b, e]; exact own_pre b t1 t2
  have pre : ∀ L1 L2, ordT us = L1 ++ L2 → ∃ u1 u2, us = u1 ++ u2 ∧ ordT u1 = L1 := fun L1 L2 e => ⟨us.take L1.length, us.drop L1.length, (List.take_append_drop _ _).symm, by
    have : ordT (us.take L1.length) = (ordT us).take L1.length := by simp [ordT, List.map_take]
    rw [this, e]
    simp⟩
  have st : ∀ u1 u2, us = u1 ++ u2 → okP F (endP p u1) := fun u1 u2 e => let_ok (t2 := u2) ok (by rw [← e]; exact lt)
  have sd : ∀ u1 u2 b, us = u1 ++ u2 → (ordT u1).count b = (ordT t1).count b → side (endP p u1) b = side (endP p t1) b := fun u1 u2 b e hc => by
    rw [side_end, side_end, own1 b, ← hc]
    conv => lhs; rw [own_pre b u1 u2, ← e]
  have cf : (ordT t1).count false ≤ (ordT us).count false := by rw [← h.nf, eM, List.count_append]; omega
  have ct : (ordT t1).count true ≤ (ordT us).count true := by rw [← h.nt, eM, List.count_append]; omega
  have mF : (side (endP p t1) false).1 ∈ F := by
    obtain ⟨L1, L2, e1, e2⟩ := TC.pre_F (ordT us) _ cf
    obtain ⟨u1, u2, e3, e4⟩ := pre L1 L2 e1
    rw [← sd u1 u2 false e3 (by rw [e4, e2])]
    exact side_ok (st u1 u2 e3) false
  have mT : (side (endP p t1) true).1 ∈ F := by
    obtain ⟨L1, L2, e1, e2⟩ := TC.pre_T (ordT us) _ ct
    obtain ⟨u1, u2, e3, e4⟩ := pre L1 L2 e1
    rw [← sd u1 u2 true e3 (by rw [e4, e2])]
    exact side_ok (st u1 u2 e3) true
  refine ⟨mF, mT, fun clash => ?_⟩
  have clash : (side (endP p t1) false).1 = (side (endP p t1) true).1 := clash
  have c1 := clash
  rw [side_end, side_end, own1, own1, runS_c, runS_c] at c1
  obtain ⟨L1, L2, e1, e2, e3⟩ := TC.visit (R := RW (cof p us)) (L := ordT us) (M1 := ordT t1) (M2 := ordT t2) (by rw [← eM]; exact h.nf) (by rw [← eM]; exact h.nt) (by rw [← eM]; exact h.ok) (fun x hx hl => by
    have lx : x < (ownT false us).length := by rw [own_cnt]; omega
    have ly : (ordT t1).count true < (ownT true us).length := by rw [own_cnt]; exact hl
    rw [RW_at p us x _ lx ly]
    rw [hx] at c1
    unfold meetW
    simp [c1]) (fun y hy hl => by
    have ly : y < (ownT true us).length := by rw [own_cnt]; omega
    have lx : (ordT t1).count false < (ownT false us).length := by rw [own_cnt]; exact hl
    rw [RW_at p us _ y lx ly]
    rw [hy] at c1
    unfold meetW
    simp [c1])
  obtain ⟨u1, u2, e4, e5⟩ := pre L1 L2 e1
  have o := st u1 u2 e4
  apply o.2.2
  show (side (endP p u1) false).1 = (side (endP p u1) true).1
  rw [sd u1 u2 false e4 (by rw [e5, e2]), sd u1 u2 true e4 (by rw [e5, e3])]
  exact clash
theorem least_ord (p : Pr) (us : List T2) : OrdOf p us (leastB p us) := by
  obtain ⟨a, b, c⟩ := leastB_ok p us
  exact ⟨a, b, c⟩
theorem leastT_in (p : Pr) (us : List T2) : leastT p us = inO us (leastB p us) := rfl
theorem pl_tns (us : List T2) : pl 2 (.tuple (us.map tnD)) = true := pl_tup fun t _ => pl_tn t
def ne (ts : List T2) : List T2 := ts.map fun t => (!t.1, t.2)
def sw (p : Pr) : Pr := (p.2, p.1)
theorem ne_len (ts : List T2) : (ne ts).length = ts.length := by simp [ne]
theorem sw_stp (p : Pr) (t : T2) : stp (sw p) (!t.1, t.2) = sw (stp p t) := by
  obtain ⟨b, d⟩ := t
  cases b <;> rfl
theorem sw_side (p : Pr) (b : Bool) : side (sw p) b = side p (!b) := by cases b <;> rfl
theorem sw_ok {F : List Cell} {p : Pr} : okP F (sw p) ↔ okP F p := ⟨fun ⟨a, b, c⟩ => ⟨b, a, fun z => c z.symm⟩, fun ⟨a, b, c⟩ => ⟨b, a, fun z => c z.symm⟩⟩
theorem sw_ly {p : Pr} (h : lyP p) : lyP (sw p) := ⟨h.2, h.1⟩
theorem sw_let {F : List Cell} : ∀ {ts : List T2} {p : Pr}, letT F (sw p) (ne ts) ↔ letT F p ts
  | [], p => Iff.rfl
  | t :: ts, p => by
    show okP F (stp (sw p) (!t.1, t.2)) ∧ letT F (stp (sw p) (!t.1, t.2)) (ne ts) ↔ _
    rw [sw_stp, sw_ok, sw_let]
    exact Iff.rfl
def flp (x : W2) : W2 := (!x.1, x.2)
theorem sw_cof : ∀ (ts : List T2) (p : Pr), cof (sw p) (ne ts) = (cof p ts).map flp
  | [], p => rfl
  | t :: ts, p => by
    show tk (sw p) (!t.1, t.2) :: cof (stp (sw p) (!t.1, t.2)) (ne ts) = _
    rw [sw_stp, sw_cof ts]
    have : tk (sw p) (!t.1, t.2) = flp (tk p t) := by
      unfold tk flp
      simp only [sw_stp, sw_side, Bool.not_not]
    rw [this]
    rfl
theorem own_flp (b : Bool) (xs : List W2) : own b (xs.map flp) = (own (!b) xs).map flp := by
  induction xs with
  | nil => rfl
  | cons x xs ih =>
    unfold own at *
    obtain ⟨c, d⟩ := x
    cases b <;> cases c <;> simp [flp] at ih ⊢ <;> exact ih
theorem meet_flp (a b : W2) : meetW (flp a) (flp b) = meetW a b := rfl
theorem RW_sw (p : Pr) (ts : List T2) : RW (cof (sw p) (ne ts)) = fun i j => RW (cof p ts) j i := by
  funext i j
  rw [sw_cof]
  unfold RW
  rw [own_flp, own_flp, List.getElem?_map, List.getElem?_map]
  simp only [Bool.not_false, Bool.not_true]
  cases (own true (cof p ts))[i]? <;> cases (own false (cof p ts))[j]? <;> simp [meet_flp, meet_comm]
theorem ord_ne (ts : List T2) : ordT (ne ts) = (ordT ts).map (!·) := by simp [ordT, ne, Function.comp_def]
theorem wa_sw (p : Pr) (ts : List T2) : wa (sw p) (ne ts) = wb p ts := by
  show TC.wts (RW (cof (sw p) (ne ts))) false 0 0 (ordT (ne ts)) = TC.wts (fun j i => RW (cof p ts) i j) true 0 0 (ordT ts)
  rw [ord_ne, RW_sw, TC.wts_not]
  rfl
theorem wb_sw (p : Pr) (ts : List T2) : wb (sw p) (ne ts) = wa p ts := by
  show TC.wts (fun j i => RW (cof (sw p) (ne ts)) i j) true 0 0 (ordT (ne ts)) = TC.wts (RW (cof p ts)) false 0 0 (ordT ts)
  rw [ord_ne, RW_sw, TC.wts_not]
  rfl
theorem ownT_ne_ (b : Bool) (ts : List T2) : ownT b (ne ts) = ne (ownT (!b) ts) := by
  induction ts with
  | nil => rfl
  | cons t ts ih =>
    unfold ownT ne at *
    obtain ⟨c, d⟩ := t
    cases b <;> cases c <;> simp at ih ⊢ <;> exact ih
theorem cnt_not (b : Bool) (L : List Bool) : (L.map (!·)).count b = L.count (!b) := by
  induction L with
  | nil => rfl
  | cons c L ih => cases b <;> cases c <;> simp at ih ⊢ <;> exact ih
theorem mer_ne (a b : List T2) : ∀ (M : List Bool) (i j : Nat), ne (mer (ne a) (ne b) i j M) = mer b a j i (M.map (!·))
  | [], i, j => rfl
  | false :: M, i, j => by
    have ih := mer_ne a b M (i + 1) j
    unfold ne at *
    simp only [mer, List.map_append, List.map_cons, Bool.not_false]
    rw [ih, List.getElem?_map]
    cases a[i]? <;> simp
  | true :: M, i, j => by
    have ih := mer_ne a b M i (j + 1)
    unfold ne at *
    simp only [mer, List.map_append, List.map_cons, Bool.not_true]
    rw [ih, List.getElem?_map]
    cases b[j]? <;> simp
theorem named_sp (ts : List T2) (h : ts.length ≤ 100) (s : S) (hs : isT s (ts.map tnD)) : f__law_named_otherwise [s] = some (.nt ((ne ts).map tnD), [s]) := by
  unfold f__law_named_otherwise
  rw [run_of (e := [some s, none, none]) rfl]
  have lc := lc_all (it := iSeq (eVar 0)) (g := gT 2 (gCn (gN 1) (gCn (gN 2) gNl))) (f := eThen (eCons (eSub (eC (.int 1)) (eVar 1)) (eCons (eVar 2) eNil)) T3.kTup) (vs := [1, 2]) (lk := none) (env := [some s, none, none]) (e := [some s, none, none]) (q := tnD) (y := fun t => tnD (!t.1, t.2)) ts (by rcases hs with rfl | rfl <;> simp) (by omega) (fun t ht => by
    obtain ⟨b, d⟩ := t
    have : (1 : Int) - cubeI b = cubeI (!b) := by cases b <;> rfl
    simp [lcOk, wipeE, unwipe, tnD, itemsD, kSub, oI, T3.kTup, this])
  rw [z_unl] at lc
  have e : ts.map (fun t => tnD (!t.1, t.2)) = (ne ts).map tnD := by simp [ne, Function.comp_def]
  rw [e] at lc
  rcases hs with rfl | rfl <;> simp [m__law_named_otherwise, lc, kTupN, ctn, -z_lc]
def sx (k : Nat) : Nat := if 11 < k then k else (k + 6) % 12
end L66

end
section
set_option linter.all false
set_option autoImplicit false
set_option Elab.async false
set_option maxRecDepth 10000
namespace TC
theorem lastM_dn (r : Nat → Bool) : ∀ k, lastM r (k + 1) - 1 = lastM (fun i => r (i + 1)) k
  | 0 => by simp only [lastM]; split <;> rfl
  | k + 1 => by
    have ih := lastM_dn r k
    rw [lastM]
    rw [show lastM (fun i => r (i + 1)) (k + 1) = if r (k + 1) = true then k + 1 else lastM (fun i => r (i + 1)) k from rfl]
    split
    · rfl
    · exact ih
theorem wts_sh {R R' : Nat → Nat → Bool} (b : Bool) (h : ∀ i j, R' i j = R (i + 1) j) : ∀ (L : List Bool) (i k : Nat), wts R' b i k L = wts R b (i + 1) k L
  | [], i, k => rfl
  | c :: L, i, k => by
    have e : R' i = R (i + 1) := funext fun j => h i j
    simp only [wts, wts_sh b h L, e]
theorem wts_dn {R R' : Nat → Nat → Bool} (b : Bool) (h : ∀ i j, R' i j = R i (j + 1)) : ∀ (L : List Bool) (i k : Nat), wts R' b i k L = (wts R b i (k + 1) L).map (· - 1)
  | [], i, k => rfl
  | c :: L, i, k => by
    have e : R' i = fun j => R i (j + 1) := funext fun j => h i j
    simp only [wts, wts_dn b h L, e]
    split
    · rw [List.map_cons, lastM_dn]
    · rfl
theorem go1_cons (a : Nat) (v : List Nat) (i k : Nat) : go1 (a :: v) (i + 1) k = go1 v i k := by simp [go1]
theorem go1_dn (w : List Nat) (j i : Nat) : go1 (w.map (· - 1)) j i = go1 w j (i + 1) := by
  unfold go1
  rw [List.getElem?_map]
  cases w[j]? with
  | none => rfl
  | some x => simp
def dpS (v w : List Nat) (a b : Nat) : Nat → Nat → Nat
  | 0, 0 => 1
  | i + 1, 0 => if go1 v (a + i) b = true then dpS v w a b i 0 else 0
  | 0, j + 1 => if go1 w (b + j) a = true then dpS v w a b 0 j else 0
  | i + 1, j + 1 => (if go1 v (a + i) (b + j + 1) = true then dpS v w a b i (j + 1) else 0) + (if go1 w (b + j) (a + i + 1) = true then dpS v w a b (i + 1) j else 0)
termination_by i j => i + j
theorem dp_S {v w v' w' : List Nat} {a b : Nat} (hv : ∀ i k, go1 v' i k = go1 v (a + i) (b + k)) (hw : ∀ j k, go1 w' j k = go1 w (b + j) (a + k)) : ∀ i j, dp v' w' i j = dpS v w a b i j
  | 0, 0 => by simp [dp, dpS]
  | i + 1, 0 => by rw [dp, dpS, dp_S hv hw i 0, hv, Nat.add_zero]
  | 0, j + 1 => by rw [dp, dpS, dp_S hv hw 0 j, hw, Nat.add_zero]
  | i + 1, j + 1 => by rw [dp, dpS, dp_S hv hw i (j + 1), dp_S hv hw (i + 1) j, hv, hw]; simp [Nat.add_assoc]
termination_by i j => i + j
theorem if_if (c d : Prop) [Decidable c] [Decidable d] (x : Nat) : (if c then (if d then x else 0) else 0) = if d then (if c then x else 0) else 0 := by
  by_cases c <;> by_cases d <;> simp [*]
theorem if_add (c : Prop) [Decidable c] (x y : Nat) : (if c then x + y else 0) = (if c then x else 0) + (if c then y else 0) := by
  by_cases c <;> simp [*]
theorem q10 (v w : List Nat) (a b i : Nat) : dpS v w a b (i + 1) 0 = if go1 v (a + i) b = true then dpS v w a b i 0 else 0 := by rw [dpS]
theorem q01 (v w : List Nat) (a b j : Nat) : dpS v w a b 0 (j + 1) = if go1 w (b + j) a = true then dpS v w a b 0 j else 0 := by rw [dpS]
theorem q11 (v w : List Nat) (a b i j : Nat) : dpS v w a b (i + 1) (j + 1) = (if go1 v (a + i) (b + j + 1) = true then dpS v w a b i (j + 1) else 0) + (if go1 w (b + j) (a + i + 1) = true then dpS v w a b (i + 1) j else 0) := by rw [dpS]
theorem dpS_10 (v w : List Nat) (a b : Nat) : ∀ i, dpS v w a b (i + 1) 0 = if go1 v a b = true then dpS v w (a + 1) b i 0 else 0
  | 0 => by simp [dpS]
  | i + 1 => by rw [q10, dpS_10 v w a b i, if_if, q10, show a + (i + 1) = a + 1 + i by omega]
theorem dpS_01 (v w : List Nat) (a b : Nat) : ∀ j, dpS v w a b 0 (j + 1) = if go1 w b a = true then dpS v w a (b + 1) 0 j else 0
  | 0 => by simp [dpS]
  | j + 1 => by rw [q01, dpS_01 v w a b j, if_if, q01, show b + (j + 1) = b + 1 + j by omega]
theorem dpS_11 (v w : List Nat) (a b : Nat) : ∀ i j, dpS v w a b (i + 1) (j + 1) = (if go1 v a b = true then dpS v w (a + 1) b i (j + 1) else 0) + (if go1 w b a = true then dpS v w a (b + 1) (i + 1) j else 0)
  | 0, 0 => by
    rw [q11, dpS_01 v w a b 0, dpS_10 v w a b 0, q01, q10]
    simp only [Nat.add_zero, show dpS v w (a + 1) b 0 0 = 1 from by rw [dpS], show dpS v w a (b + 1) 0 0 = 1 from by rw [dpS]]
    by_cases c1 : go1 v a b = true <;> by_cases c2 : go1 w b a = true <;> by_cases c3 : go1 v a (b + 1) = true <;> by_cases c4 : go1 w b (a + 1) = true <;> simp [c1, c2, c3, c4]
  | 0, j + 1 => by
    rw [q11, dpS_01 v w a b (j + 1), dpS_11 v w a b 0 j, q01 v w (a + 1) b (j + 1), q11 v w a (b + 1) 0 j, show b + (j + 1) + 1 = b + 1 + j + 1 by omega, show b + (j + 1) = b + 1 + j by omega]
    simp only [Nat.add_zero, if_add]
    by_cases c1 : go1 v a b = true <;> by_cases c2 : go1 w b a = true <;> by_cases c3 : go1 v a (b + 1 + j + 1) = true <;> by_cases c4 : go1 w (b + 1 + j) (a + 1) = true <;> simp [c1, c2, c3, c4] <;> omega
  | i + 1, 0 => by
    rw [q11, dpS_11 v w a b i 0, dpS_10 v w a b (i + 1), q11 v w (a + 1) b i 0, q10 v w a (b + 1) (i + 1), show a + (i + 1) + 1 = a + 1 + i + 1 by omega, show a + (i + 1) = a + 1 + i by omega]
    simp only [Nat.add_zero, if_add]
    by_cases c1 : go1 v a b = true <;> by_cases c2 : go1 w b a = true <;> by_cases c3 : go1 v (a + 1 + i) (b + 1) = true <;> by_cases c4 : go1 w b (a + 1 + i + 1) = true <;> simp [c1, c2, c3, c4] <;> omega
  | i + 1, j + 1 => by
    rw [q11, dpS_11 v w a b i (j + 1), dpS_11 v w a b (i + 1) j, q11 v w (a + 1) b i (j + 1), q11 v w a (b + 1) (i + 1) j, show a + (i + 1) + 1 = a + 1 + i + 1 by omega, show a + (i + 1) = a + 1 + i by omega, show b + (j + 1) + 1 = b + 1 + j + 1 by omega, show b + (j + 1) = b + 1 + j by omega]
    simp only [if_add]
    by_cases c1 : go1 v a b = true <;> by_cases c2 : go1 w b a = true <;> by_cases c3 : go1 v (a + 1 + i) (b + 1 + j + 1) = true <;> by_cases c4 : go1 w (b + 1 + j) (a + 1 + i + 1) = true <;> simp [c1, c2, c3, c4] <;> omega
termination_by i j => i + j
theorem dp_front (v w : List Nat) {n m : Nat} (h : n + m ≠ 0) (hn : go1 v 0 0 = true → 0 < n) (hm : go1 w 0 0 = true → 0 < m) : dp v w n m = (if go1 v 0 0 = true then dpS v w 1 0 (n - 1) m else 0) + (if go1 w 0 0 = true then dpS v w 0 1 n (m - 1) else 0) := by
  rw [dp_S (v := v) (w := w) (a := 0) (b := 0) (fun i k => by rw [Nat.zero_add, Nat.zero_add]) (fun i k => by rw [Nat.zero_add, Nat.zero_add])]
  cases n with
  | zero => cases m with
    | zero => omega
    | succ m =>
      rw [dpS_01, if_neg (c := go1 v 0 0 = true) (fun z => by have := hn z; omega)]
      simp
  | succ n => cases m with
    | zero =>
      rw [dpS_10, if_neg (c := go1 w 0 0 = true) (fun z => by have := hm z; omega)]
      simp
    | succ m => rw [dpS_11]; simp
theorem lastM_no {r : Nat → Bool} (h : ∀ j, r j = false) : ∀ k, lastM r k = 0
  | 0 => rfl
  | k + 1 => by simp [lastM, h, lastM_no h k]
theorem wts_no {R : Nat → Nat → Bool} (b : Bool) (h : ∀ i j, R i j = false) : ∀ (L : List Bool) (i k : Nat), wts R b i k L = List.replicate (L.count b) 0
  | [], i, k => rfl
  | c :: L, i, k => by
    simp only [wts, wts_no b h L, lastM_no (h i)]
    by_cases e : c = b
    · subst e; simp [List.replicate_succ]
    · rw [if_neg e, List.count_cons_of_ne (by simpa using e)]
theorem go1_no (n i k : Nat) : go1 (List.replicate n 0) i k = decide (i < n) := by
  unfold go1
  rw [List.getElem?_replicate]
  by_cases h : i < n <;> simp [h]
def pas : Nat → Nat → Nat
  | 0, _ => 1
  | _ + 1, 0 => 1
  | i + 1, j + 1 => pas i (j + 1) + pas (i + 1) j
termination_by i j => i + j
theorem pas_0 (j : Nat) : pas 0 j = 1 := by rw [pas]
theorem pas_i0 (i : Nat) : pas i 0 = 1 := by cases i <;> rw [pas]
theorem dp_pas (n m : Nat) : ∀ i j, i ≤ n → j ≤ m → dp (List.replicate n 0) (List.replicate m 0) i j = pas i j
  | 0, 0, _, _ => by rw [dp, pas]
  | i + 1, 0, h, h' => by rw [dp, dp_pas n m i 0 (by omega) h', go1_no, pas_i0, pas_i0]; simp; omega
  | 0, j + 1, h, h' => by rw [dp, dp_pas n m 0 j h (by omega), go1_no, pas_0, pas_0]; simp; omega
  | i + 1, j + 1, h, h' => by
    rw [dp, dp_pas n m i (j + 1) (by omega) h', dp_pas n m (i + 1) j h (by omega), go1_no, go1_no, pas]
    simp [show i < n by omega, show j < m by omega]
termination_by i j => i + j
theorem pas_1 : ∀ j, pas 1 j = j + 1
  | 0 => by rw [pas]
  | j + 1 => by rw [pas, pas_0, pas_1 j]; omega
theorem pas_i1 : ∀ i, pas i 1 = i + 1
  | 0 => by rw [pas]
  | i + 1 => by rw [pas, pas_i0, pas_i1 i]
theorem pas_step : ∀ i j, (i + 1) * pas (i + 1) j = (j + 1) * pas i (j + 1)
  | 0, j => by rw [Nat.zero_add, pas_1, pas_0]; omega
  | i + 1, 0 => by rw [pas_i0, Nat.zero_add, pas_i1]; omega
  | i + 1, j + 1 => by
    have a := pas_step (i + 1) j
    have b := pas_step i (j + 1)
    rw [show pas (i + 1 + 1) (j + 1) = pas (i + 1) (j + 1) + pas (i + 1 + 1) j from by rw [pas], show pas (i + 1) (j + 1 + 1) = pas i (j + 1 + 1) + pas (i + 1) (j + 1) from by rw [pas]]
    rw [Nat.mul_add, Nat.mul_add, a, ← b]
    generalize pas (i + 1) (j + 1) = x
    rw [← Nat.add_mul, ← Nat.add_mul]
    congr 1
    omega
termination_by i j => i + j
theorem lst_no (n m : Nat) : ∀ (f i j : Nat), i ≤ n → f = n - i + (m - j) → j ≤ m → lst (List.replicate n 0) (List.replicate m 0) f i j = List.replicate (n - i) false ++ List.replicate (m - j) true
  | 0, i, j, _, h, _ => by
    rw [show n - i = 0 by omega, show m - j = 0 by omega]
    rfl
  | f + 1, i, j, hi, h, hj => by
    unfold lst
    rw [go1_no]
    by_cases e : i < n
    · rw [if_pos (by simpa using e), lst_no n m f (i + 1) j (by omega) (by omega) hj, show n - i = n - (i + 1) + 1 by omega, List.replicate_succ]
      rfl
    · rw [if_neg (by simpa using e), lst_no n m f i (j + 1) hi (by omega) (by omega), show n - i = 0 by omega, show m - j = m - (j + 1) + 1 by omega, List.replicate_succ]
      simp
end TC

end
section
set_option linter.all false
set_option autoImplicit false
set_option Elab.async false
set_option maxRecDepth 100000
set_option maxHeartbeats 4000000
namespace L66
open PySem L2 T3 MM
def cntT (p : Pr) (us : List T2) : Nat := TC.dp (wa p us) (wb p us) ((ordT us).count false) ((ordT us).count true)
theorem RW_c0 {x : W2} (h : x.1 = false) (xs : List W2) (i j : Nat) : RW xs i j = RW (x :: xs) (i + 1) j := by
  have a : own false (x :: xs) = x :: own false xs := by simp [own, h]
  have b : own true (x :: xs) = own true xs := by simp [own, h]
  unfold RW
  rw [a, b, List.getElem?_cons_succ]
theorem RW_c1 {x : W2} (h : x.1 = true) (xs : List W2) (i j : Nat) : RW xs i j = RW (x :: xs) i (j + 1) := by
  have a : own true (x :: xs) = x :: own true xs := by simp [own, h]
  have b : own false (x :: xs) = own false xs := by simp [own, h]
  unfold RW
  rw [a, b, List.getElem?_cons_succ]
theorem tail0 (p : Pr) {t : T2} (T : List T2) (h : t.1 = false) : cntT (stp p t) T = TC.dpS (wa p (t :: T)) (wb p (t :: T)) 1 0 ((ordT T).count false) ((ordT T).count true) := by
  have hk : (tk p t).1 = false := h
  have rw0 : ∀ i j, RW (cof (stp p t) T) i j = RW (cof p (t :: T)) (i + 1) j := RW_c0 hk _
  have ea : wa p (t :: T) = TC.lastM (RW (cof p (t :: T)) 0) 0 :: TC.wts (RW (cof p (t :: T))) false 1 0 (ordT T) := by
    show TC.wts (RW (cof p (t :: T))) false 0 0 (t.1 :: ordT T) = _
    rw [h]
    rfl
  have eb : wb p (t :: T) = TC.wts (fun j i => RW (cof p (t :: T)) i j) true 0 1 (ordT T) := by
    show TC.wts (fun j i => RW (cof p (t :: T)) i j) true 0 0 (t.1 :: ordT T) = _
    rw [h]
    rfl
  have ea' : wa (stp p t) T = TC.wts (RW (cof p (t :: T))) false 1 0 (ordT T) := TC.wts_sh false rw0 (ordT T) 0 0
  have eb' : wb (stp p t) T = (TC.wts (fun j i => RW (cof p (t :: T)) i j) true 0 1 (ordT T)).map (· - 1) := TC.wts_dn true (fun j i => rw0 i j) (ordT T) 0 0
  refine TC.dp_S (fun i k => ?_) (fun j k => ?_) _ _
  · rw [ea', ea, Nat.add_comm 1 i, TC.go1_cons, Nat.zero_add]
  · rw [eb', ← eb, TC.go1_dn, Nat.zero_add, Nat.add_comm 1 k]
theorem tail1 (p : Pr) {t : T2} (T : List T2) (h : t.1 = true) : cntT (stp p t) T = TC.dpS (wa p (t :: T)) (wb p (t :: T)) 0 1 ((ordT T).count false) ((ordT T).count true) := by
  have hk : (tk p t).1 = true := h
  have rw0 : ∀ i j, RW (cof (stp p t) T) i j = RW (cof p (t :: T)) i (j + 1) := RW_c1 hk _
  have eb : wb p (t :: T) = TC.lastM (fun i => RW (cof p (t :: T)) i 0) 0 :: TC.wts (fun j i => RW (cof p (t :: T)) i j) true 1 0 (ordT T) := by
    show TC.wts (fun j i => RW (cof p (t :: T)) i j) true 0 0 (t.1 :: ordT T) = _
    rw [h]
    rfl
  have ea : wa p (t :: T) = TC.wts (RW (cof p (t :: T))) false 0 1 (ordT T) := by
    show TC.wts (RW (cof p (t :: T))) false 0 0 (t.1 :: ordT T) = _
    rw [h]
    rfl
  have eb' : wb (stp p t) T = TC.wts (fun j i => RW (cof p (t :: T)) i j) true 1 0 (ordT T) := TC.wts_sh true (fun j i => rw0 i j) (ordT T) 0 0
  have ea' : wa (stp p t) T = (TC.wts (RW (cof p (t :: T))) false 0 1 (ordT T)).map (· - 1) := TC.wts_dn false rw0 (ordT T) 0 0
  refine TC.dp_S (fun i k => ?_) (fun j k => ?_) _ _
  · rw [ea', ← ea, TC.go1_dn, Nat.zero_add, Nat.add_comm 1 k]
  · rw [eb', eb, Nat.add_comm 1 j, TC.go1_cons, Nat.zero_add]
theorem head_ord {p : Pr} {us : List T2} {c : Bool} {M : List Bool} (h : OrdOf p us (c :: M)) : ∃ t T, inO us (c :: M) = t :: T ∧ t.1 = c ∧ ordT T = M := by
  have o := h.ord
  cases e : inO us (c :: M) with
  | nil => rw [e] at o; cases o
  | cons t T =>
    rw [e] at o
    have : t.1 :: ordT T = c :: M := o
    exact ⟨t, T, rfl, List.cons.inj this⟩
def aboutT (p : Pr) (us : List T2) : List T2 := ne (leastT (sw p) (ne us))
theorem about_ord (p : Pr) (us : List T2) : OrdOf p us ((leastB (sw p) (ne us)).map (!·)) ∧ aboutT p us = inO us ((leastB (sw p) (ne us)).map (!·)) := by
  have h := least_ord (sw p) (ne us)
  refine ⟨⟨?_, ?_, ?_⟩, ?_⟩
  · have := h.ok
    rw [wa_sw, wb_sw] at this
    exact (TC.okL_not _ _ _ 0 0).mpr this
  · rw [cnt_not]
    have := h.nt
    rw [ord_ne, cnt_not] at this
    exact this
  · rw [cnt_not]
    have := h.nf
    rw [ord_ne, cnt_not] at this
    exact this
  · show ne (mer (ownT false (ne us)) (ownT true (ne us)) 0 0 (leastB (sw p) (ne us))) = _
    rw [ownT_ne_, ownT_ne_, mer_ne]
    rfl
theorem least_head (p : Pr) {us : List T2} (h : us ≠ []) : ∃ M, leastB p us = (!TC.go1 (wa p us) 0 0) :: M := by
  obtain ⟨n, hn⟩ : ∃ n, (ordT us).length = n + 1 := by
    cases us with
    | nil => exact absurd rfl h
    | cons u us => exact ⟨us.length, by simp [ordT]⟩
  have e : leastB p us = TC.lst (wa p us) (wb p us) (n + 1) 0 0 := by
    show TC.lst (wa p us) (wb p us) (ordT us).length 0 0 = _
    rw [hn]
  rw [e]
  unfold TC.lst
  by_cases g : TC.go1 (wa p us) 0 0 = true
  · rw [if_pos g, g]; exact ⟨_, rfl⟩
  · rw [if_neg g]
    have : TC.go1 (wa p us) 0 0 = false := by simpa using g
    rw [this]
    exact ⟨_, rfl⟩
theorem about_head (p : Pr) {us : List T2} (h : us ≠ []) : ∃ M, (leastB (sw p) (ne us)).map (!·) = TC.go1 (wb p us) 0 0 :: M := by
  have h' : ne us ≠ [] := fun z => h (by cases us with | nil => rfl | cons u us => simp [ne] at z)
  obtain ⟨M, e⟩ := least_head (sw p) h'
  rw [wa_sw] at e
  exact ⟨M.map (!·), by rw [e]; simp⟩
def partT (p : Pr) : List T2 → Nat
  | [] => 0
  | t :: T => cntT (stp p t) T
theorem sum_sp {p : Pr} {us : List T2} (h : us ≠ []) : cntT p us = (if TC.go1 (wa p us) 0 0 = true then partT p (leastT p us) else 0) + (if TC.go1 (wb p us) 0 0 = true then partT p (aboutT p us) else 0) := by
  have wl : (wa p us).length = (ordT us).count false := TC.wts_len _ _ _ _ _
  have wl2 : (wb p us).length = (ordT us).count true := TC.wts_len _ _ _ _ _
  have no := TC.n_sum (ordT us)
  have lo : (ordT us).length = us.length := by simp [ordT]
  have lp : us.length ≠ 0 := fun z => h (List.length_eq_zero_iff.mp z)
  unfold cntT
  rw [TC.dp_front (wa p us) (wb p us) (by omega) (fun g => by have := TC.go1_lt g; omega) (fun g => by have := TC.go1_lt g; omega)]
  congr 1
  · by_cases g : TC.go1 (wa p us) 0 0 = true
    · rw [if_pos g, if_pos g]
      obtain ⟨M, eM⟩ := least_head p h
      have lo := least_ord p us
      rw [g] at eM
      have eT : leastT p us = inO us (leastB p us) := rfl
      rw [eM] at lo eT
      obtain ⟨t, T, e1, e2, e3⟩ := head_ord lo
      rw [eT, e1]
      show _ = cntT (stp p t) T
      rw [tail0 p T e2, ← e1, lo.ewa, lo.ewb, e3]
      have c1 := lo.nf
      have c2 := lo.nt
      simp at c1 c2
      rw [← c1, ← c2]
      rfl
    · rw [if_neg g, if_neg g]
  · by_cases g : TC.go1 (wb p us) 0 0 = true
    · rw [if_pos g, if_pos g]
      obtain ⟨M, eM⟩ := about_head p h
      obtain ⟨lo, eT⟩ := about_ord p us
      rw [g] at eM
      rw [eM] at lo eT
      obtain ⟨t, T, e1, e2, e3⟩ := head_ord lo
      rw [eT, e1]
      show _ = cntT (stp p t) T
      rw [tail1 p T e2, ← e1, lo.ewa, lo.ewb, e3]
      have c1 := lo.nf
      have c2 := lo.nt
      simp at c1 c2
      rw [← c1, ← c2]
      rfl
    · rw [if_neg g, if_neg g]
theorem some_first {p : Pr} {us : List T2} (h : us ≠ []) : TC.go1 (wa p us) 0 0 = true ∨ TC.go1 (wb p us) 0 0 = true := by
  refine TC.prog (RW (cof p us)) (ordT us) (Nat.zero_le _) (Nat.zero_le _) ?_
  have lo : (ordT us).length = us.length := by simp [ordT]
  have lp : us.length ≠ 0 := fun z => h (List.length_eq_zero_iff.mp z)
  omega
def fstL (p : Pr) (us : List T2) : List (List T2) := (if TC.go1 (wa p us) 0 0 = true then [leastT p us] else []) ++ if TC.go1 (wb p us) 0 0 = true then [aboutT p us] else []
theorem fst_ne {p : Pr} {us : List T2} (h : us ≠ []) : fstL p us ≠ [] := by
  unfold fstL
  rcases some_first (p := p) h with g | g <;> simp [g]
theorem fst_len (p : Pr) (us : List T2) : (fstL p us).length ≤ 2 := by
  unfold fstL
  split <;> split <;> simp
theorem fst_sum {p : Pr} {us : List T2} (h : us ≠ []) : cntT p us = ((fstL p us).map (partT p)).sum := by
  rw [sum_sp h]
  unfold fstL
  split <;> split <;> simp
theorem fst_all {F : List Cell} {p : Pr} {us : List T2} (ok : okP F p) (lt : letT F p us) : ∀ v ∈ fstL p us, letT F p v ∧ v.length = us.length := by
  have h1 : letT F p (leastT p us) ∧ (leastT p us).length = us.length := ⟨(least_ord p us).lets ok lt, (least_ord p us).len⟩
  have h2 : letT F p (aboutT p us) ∧ (aboutT p us).length = us.length := by
    obtain ⟨lo, e⟩ := about_ord p us
    rw [e]
    exact ⟨lo.lets ok lt, lo.len⟩
  intro v hv
  unfold fstL at hv
  rw [List.mem_append] at hv
  rcases hv with hv | hv <;> split at hv <;> simp at hv
  · rw [hv]; exact h1
  · rw [hv]; exact h2
end L66

end
section
set_option linter.all false
set_option autoImplicit false
set_option Elab.async false
set_option maxRecDepth 100000
set_option maxHeartbeats 4000000
namespace L66
open PySem L2 T3 MM
def pkT (x : List T2 × Bool) : Bool := match x.1 with
  | t :: _ => decide (t.1 = x.2)
  | [] => false
theorem least_pk (p : Pr) {us : List T2} (h : us ≠ []) : pkT (leastT p us, false) = TC.go1 (wa p us) 0 0 ∧ leastT p us ≠ [] := by
  obtain ⟨M, eM⟩ := least_head p h
  have lo := least_ord p us
  have eT : leastT p us = inO us (leastB p us) := rfl
  rw [eM] at lo eT
  obtain ⟨t, T, e1, e2, e3⟩ := head_ord lo
  rw [eT, e1]
  refine ⟨?_, by simp⟩
  unfold pkT
  simp only [e2]
  cases TC.go1 (wa p us) 0 0 <;> rfl
theorem about_pk (p : Pr) {us : List T2} (h : us ≠ []) : pkT (aboutT p us, true) = TC.go1 (wb p us) 0 0 ∧ aboutT p us ≠ [] := by
  obtain ⟨M, eM⟩ := about_head p h
  obtain ⟨lo, eT⟩ := about_ord p us
  rw [eM] at lo eT
  obtain ⟨t, T, e1, e2, e3⟩ := head_ord lo
  rw [eT, e1]
  refine ⟨?_, by simp⟩
  unfold pkT
  simp only [e2]
  cases TC.go1 (wb p us) 0 0 <;> rfl
theorem eq_cubes (c b : Bool) : oEq [.int (cubeI c), .int (cubeI b)] = some (.bool (decide (c = b))) := by cases c <;> cases b <;> rfl
theorem firsts_sp {F : List Cell} {p : Pr} {us : List T2} (si : Sit2 F p us) (lt : letT F p us) (h : us ≠ []) (s : S) (hs : isT s (us.map tnD)) : f__law_firsts [.nt (F.map clD), .pd (prD p), s] = some (.tmp (.ls ((fstL p us).map fun v => .tuple (v.map tnD))), [.nt (F.map clD), .pd (prD p), s]) := by
  have u24 := si.ln
  have sn : Sit2 F (sw p) (ne us) := ⟨si.fl, sw_ok.mpr si.ok, sw_ly si.ly, by rw [ne_len]; exact u24⟩
  have nv := named_sp us (by omega) s hs
  have l1 := least_turns_sp sn (sw_let.mpr lt) (.nt ((ne us).map tnD)) (.inr rfl)
  have ll : (leastT (sw p) (ne us)).length ≤ 100 := by rw [leastT_in, (least_ord (sw p) (ne us)).len, ne_len]; omega
  have nv2 := named_sp (leastT (sw p) (ne us)) ll (.nt ((leastT (sw p) (ne us)).map tnD)) (.inr rfl)
  have l0 := least_turns_sp si lt s hs
  have ea : ne (leastT (sw p) (ne us)) = aboutT p us := rfl
  rw [ea] at nv2
  have tp : tupOf (.pd (prD p)) = some [stD p.1.1 p.1.2, stD p.2.1 p.2.2] := rfl
  have tsw : PyData.tuple [stD p.2.1 p.2.2, stD p.1.1 p.1.2] = prD (sw p) := rfl
  obtain ⟨k0, n0⟩ := least_pk p h
  obtain ⟨k1, n1⟩ := about_pk p h
  generalize hA : aboutT p us = A at *
  generalize hL : leastT p us = L at *
  generalize hE : ([some (.nt (F.map clD)), some (.pd (prD p)), some s, some (.nt (A.map tnD)), none, none] : Sl) = E
  have lc := lc_if (it := iSeq (eThen (eCons (eThen (eCons (eCall f_least_turns (eCons (eVar 0) (eCons (eVar 1) (eCons (eVar 2) eNil)))) (eCons (eC (.int 0)) eNil)) kTup) (eCons (eThen (eCons (eVar 3) (eCons (eC (.int 1)) eNil)) kTup) eNil)) kLst)) (g := gT 2 (gCn (gN 4) (gCn (gN 5) gNl))) (t := bT (eEq (eIx (eIx (eVar 4) (eC (.int 0))) (eC (.int 0))) (eVar 5))) (f := eVar 4) (vs := [4, 5]) (lk := none) (env := E) (e := E) (q := fun x : List T2 × Bool => .tuple [.tuple (x.1.map tnD), .int (cubeI x.2)]) (p := pkT) (y := fun x => .tuple (x.1.map tnD)) [(L, false), (A, true)] (by
      rw [← hE]
      rcases hs with rfl | rfl <;> simp [l0, T3.kTup, cubeI]) (by simp) (fun x hx => by
      have hne : x.1 ≠ [] := by
        simp at hx
        rcases hx with rfl | rfl
        · exact n0
        · exact n1
      obtain ⟨xs, b⟩ := x
      cases xs with
      | nil => exact absurd rfl hne
      | cons t T =>
        have x0 := ix_tn0 t
        have x1 : oIx [.tuple ((t :: T).map tnD), .int 0] = some (tnD t) := by
          have : atI ((t :: T).map tnD) ((0 : Nat) : Int) = some (tnD t) := atI_at (by simp) rfl
          simpa [oIx] using this
        have e0 := eq_cubes t.1 b
        rw [← hE]
        by_cases m : t.1 = b
        · rw [m] at x0 e0
          simp at e0 x1
          simp [lcIf, wipeE, unwipe, x0, x1, e0, m, pkT]
        · simp at x1
          simp [lcIf, wipeE, unwipe, x0, x1, e0, m, pkT])
  rw [z_unl] at lc
  have fl : (List.filter pkT [(L, false), (A, true)]).map (fun x : List T2 × Bool => PyData.tuple (x.1.map tnD)) = (fstL p us).map fun v => .tuple (v.map tnD) := by
    unfold fstL
    rw [hA, hL]
    simp only [List.filter_cons, List.filter_nil, k0, k1]
    split <;> split <;> rfl
  rw [fl] at lc
  unfold f__law_firsts
  rw [run_of (e := [some (.nt (F.map clD)), some (.pd (prD p)), some s, none, none, none]) rfl]
  generalize (fstL p us).map (fun v => PyData.tuple (v.map tnD)) = O at *
  have first : sSet 3 (eCall f__law_named_otherwise (eCons (eCall f_least_turns (eCons (eVar 0) (eCons (eRevT (eVar 1)) (eCons (eCall f__law_named_otherwise (eCons (eVar 2) eNil)) eNil)))) eNil)) [some (.nt (F.map clD)), some (.pd (prD p)), some s, none, none, none] = some (.nx, E) := by
    rw [← hE]
    rcases hs with rfl | rfl <;> simp [nv, l1, nv2, tp, tsw, fre, z_free2, freO_some, -z_free]
  have fi : finals [.nt (F.map clD), .pd (prD p), s] E = some [.nt (F.map clD), .pd (prD p), s] := by
    rw [← hE]
    rcases hs with rfl | rfl <;> rfl
  unfold m__law_firsts
  simp only [z_seq, first, z_ret, lc]
  simp [fi]
def SuI (F : List Cell) (rest : List PyData) (e : Sl) : Prop := ∃ (p : Pr) (us : List T2) (s : S), isT s (us.map tnD) ∧ Sit2 F p us ∧ letT F p us ∧ us.length ≤ rest.length ∧ Al 3 7 e ∧ e[0]? = some (some (.nt (F.map clD))) ∧ e[1]? = some (some (.pd (prD p))) ∧ e[2]? = some (some s)
def SmI (F : List Cell) (p : Pr) (us : List T2) (s : S) (x : PyData) (ws : List (List T2)) (rest : List PyData) (e : Sl) : Prop := ∃ (as bs : List (List T2)), rest = (bs.map fun v => .tuple (v.map tnD)) ∧ as ++ bs = ws ∧ Al 5 7 e ∧ e[3]? = some (some (.pd x)) ∧ e[0]? = some (some (.nt (F.map clD))) ∧ e[1]? = some (some (.pd (prD p))) ∧ e[2]? = some (some s) ∧ e[4]? = some (some (.mu .fro (.ls (ws.map fun v => .tuple (v.map tnD))))) ∧ e[5]? = some (some (.pd (.int (((as.map (partT p)).sum : Nat) : Int))))
theorem one_sp {F : List Cell} {p : Pr} {us : List T2} (si : Sit2 F p us) {t : T2} {T : List T2} (lt : letT F p (t :: T)) (hl : T.length + 1 = us.length) :
    f_pair_behind [.nt (F.map clD), .pd (prD p), .pd (.tuple [tnD t])] = some (.pd (prD (stp p t)), [.nt (F.map clD), .pd (prD p), .pd (.tuple [tnD t])]) ∧
    f_how_many [.nt (F.map clD), .pd (prD (stp p t)), .pd (.tuple (T.map tnD))] = some (.pd (.int ((cntT (stp p t) T : Nat) : Int)), [.nt (F.map clD), .pd (prD (stp p t)), .pd (.tuple (T.map tnD))]) ∧ Sit2 F (stp p t) T ∧ letT F (stp p t) T := by
  have u24 := si.ln
  obtain ⟨ok1, lt1⟩ := lt
  have s1 : Sit2 F p [t] := ⟨si.fl, si.ok, si.ly, by simp⟩
  have s2 : Sit2 F (stp p t) T := ⟨si.fl, ok1, lyP_stp si.ly t, by omega⟩
  exact ⟨pair_behind_sp s1 ⟨ok1, trivial⟩ (.pd (.tuple [tnD t])) (.inl rfl), how_many_sp s2 lt1 (.pd (.tuple (T.map tnD))) (.inl rfl), s2, lt1⟩
theorem cut_h (t : T2) (T : List T2) : cutD ((t :: T).map tnD) none (some 1) = [tnD t] ∧ cutD ((t :: T).map tnD) (some 1) none = T.map tnD := by
  refine ⟨?_, cut1_d _⟩
  simp only [List.map_cons, cutD, HT.sIx, List.length_cons, List.length_map]
  simp
theorem cnt0 (p : Pr) : cntT p [] = 1 := by
  unfold cntT
  simp [ordT, TC.dp]
theorem sum_right_sp {F : List Cell} {p : Pr} {us : List T2} (si : Sit2 F p us) (lt : letT F p us) : f__law_sum_right [.nt (F.map clD), .pd (prD p), .pd (.tuple (us.map tnD))] = some (.pd (.bool true), [.nt (F.map clD), .pd (prD p), .pd (.tuple (us.map tnD))]) := by
  have key : ∀ Q : R → List S → Prop, Q (.pd (.bool true)) [.nt (F.map clD), .pd (prD p), .pd (.tuple (us.map tnD))] → wF f__law_sum_right [.nt (F.map clD), .pd (prD p), .pd (.tuple (us.map tnD))] Q := by
    intro Q hQ
    refine wF_run (e := startE 7 [.nt (F.map clD), .pd (prD p), .pd (.tuple (us.map tnD))]) rfl ?_
    have A : Al 3 7 (startE 7 [.nt (F.map clD), .pd (prD p), .pd (.tuple (us.map tnD))]) := al_start rfl (by decide)
    have h0 : (startE 7 [.nt (F.map clD), .pd (prD p), .pd (.tuple (us.map tnD))])[0]? = some (some (.nt (F.map clD))) := rfl
    have h1 : (startE 7 [.nt (F.map clD), .pd (prD p), .pd (.tuple (us.map tnD))])[1]? = some (some (.pd (prD p))) := rfl
    have h2 : (startE 7 [.nt (F.map clD), .pd (prD p), .pd (.tuple (us.map tnD))])[2]? = some (some (.pd (.tuple (us.map tnD)))) := rfl
    generalize startE 7 [.nt (F.map clD), .pd (prD p), .pd (.tuple (us.map tnD))] = e at *
    refine wS_seq ?_
    refine wS_for (xs := upD 24) (lk := none) (e := e) (rg1_up (by simp) (by decide)) (SuI F) ⟨p, us, _, .inl rfl, si, lt, by rw [upD_len]; exact si.ln, A, h0, h1, h2⟩ ?_ ?_
    · clear h0 h1 h2 A
      rintro x rest e ⟨p, us, s, hs, si, lt, hl, A, h0, h1, h2⟩
      have fr := A.fre
      have ln := A.len
      simp only [gW, z_gN, z_setR, fr 3 (by decide) (by decide), if_true]
      rw [go]
      have hm := how_many_sp si lt s hs
      have plu : pl 2 (.tuple (us.map tnD)) = true := pl_tns us
      by_cases hn : us = []
      · subst hn
        have c0 := cnt0 p
        unfold cntT at c0
        rw [c0] at hm
        have eq1 : oEq [.int 1, .int 1] = some (.bool true) := rfl
        have eq0 : oEq [.tuple [], .tuple []] = some (.bool true) := rfl
        refine wS_seq ?_
        refine wS_of (fl := .rt (.pd (.bool true))) (e := e.set 3 (some (.pd x))) (by rcases hs with rfl | rfl <;> simp at hm <;> simp [h0, h1, h2, hm, T3.kTup, eq0, eq1, -getElem?_pos]) ?_
        exact ⟨_, _, rfl, fin_pd rfl (by simp [ln]), hQ⟩
      · have ne0 : oEq [.tuple (us.map tnD), .tuple []] = some (.bool false) := pl_eq' plu (m := 1) rfl (by decide) (by decide) (by cases us <;> simp at *)
        refine wS_seq ?_
        refine wS_of (fl := .nx) (e := e.set 3 (some (.pd x))) (by rcases hs with rfl | rfl <;> simp [h2, T3.kTup, ne0, -getElem?_pos]) ?_
        rw [nxt_nx, go]
        have fs := firsts_sp si lt hn s hs
        have fa := fst_all (us := us) si.ok lt
        have fl2 := fst_len p us
        have fne := fst_ne (p := p) hn
        have fsm := fst_sum (p := p) hn
        generalize hW : fstL p us = ws at *
        refine wS_seq ?_
        refine wS_of (fl := .nx) (e := ((e.set 3 (some (.pd x))).set 4 (some (.mu .own (.ls (ws.map fun v => .tuple (v.map tnD)))))).set 5 (some (.pd (.int 0)))) (by rcases hs with rfl | rfl <;> simp [h0, h1, h2, fs, free_ne_set, fr, ln, -z_free, -getElem?_pos]) ?_
        rw [nxt_nx, go]
        refine wS_gen fun E hE => ?_
        have AE : Al 3 7 E := by rw [hE]; repeat (first | exact A | refine Al.set ?_ rfl)
        have g0 : E[0]? = some (some (.nt (F.map clD))) := by rw [hE]; simpa using h0
        have g1 : E[1]? = some (some (.pd (prD p))) := by rw [hE]; simpa using h1
        have g2 : E[2]? = some (some s) := by rw [hE]; simpa using h2
        have g4 : E[4]? = some (some (.mu .own (.ls (ws.map fun v => .tuple (v.map tnD))))) := by rw [hE]; simp [ln]
        have g5 : E[5]? = some (some (.pd (.int 0))) := by rw [hE]; simp [ln]
        have g3 : E[3]? = some (some (.pd x)) := by rw [hE]; simp [ln]
        clear hE h0 h1 h2
        have lE := AE.len
        have plw : pl 3 (.list (ws.map fun v => PyData.tuple (v.map tnD))) = true := pl_lst fun v _ => pl_tns v
        have ne1 : oEq [.list (ws.map fun v => PyData.tuple (v.map tnD)), .list []] = some (.bool false) := pl_eq' plw (m := 1) rfl (by decide) (by decide) (by cases ws <;> simp at *)
        refine wS_seq ?_
        refine wS_of (fl := .nx) (e := E) (by simp [g4, ne1, -getElem?_pos]) ?_
        rw [nxt_nx, go]
        refine wS_seq ?_
        refine wS_for (xs := ws.map fun v => .tuple (v.map tnD)) (lk := some (4, .own)) (e := E.set 4 (some (.mu .fro (.ls (ws.map fun v => .tuple (v.map tnD)))))) (by simp [g4, -getElem?_pos]) (SmI F p us s x ws) ⟨[], ws, rfl, rfl, ⟨by simp [lE], fun i h1 h2 => by rw [free_ne_set (by omega)]; exact AE.fre i (by omega) h2⟩, by simpa using g3, by simpa using g0, by simpa using g1, by simpa using g2, by simp [lE], by simpa using g5⟩ ?_ ?_
        · rintro y rest2 e2 ⟨as, bs, er, ew, A2, k3, k0, k1, k2, k4, k5⟩
          cases bs with
          | nil => simp at er
          | cons v bs =>
            obtain ⟨rfl, er2⟩ : y = .tuple (v.map tnD) ∧ rest2 = bs.map fun v => .tuple (v.map tnD) := by simpa using er
            have hv := fa v (by rw [← ew]; simp)
            have l2 := A2.len
            have f2 := A2.fre
            simp only [gW, z_gN, z_setR, f2 6 (by decide) (by decide), if_true]
            rw [go]
            cases v with
            | nil =>
              have : us.length = 0 := by simpa using hv.2.symm
              exact absurd (List.length_eq_zero_iff.mp this) hn
            | cons t T =>
              obtain ⟨o1, o2, o3, o4⟩ := one_sp si hv.1 (by simpa using hv.2)
              obtain ⟨c1, c2⟩ := cut_h t T
              have sm : ((as.map (partT p)).sum : Nat) + cntT (stp p t) T = ((as ++ [t :: T]).map (partT p)).sum := by simp [partT]
              generalize hL : (t :: T).map tnD = L at *
              have l20 : ∀ q : Sl, True := fun _ => trivial
              refine wS_of (fl := .nx) (e := (e2.set 6 (some (.pd (.tuple L)))).set 5 (some (.pd (.int ((((as ++ [t :: T]).map (partT p)).sum : Nat) : Int))))) (by
                simp [k0, k1, k5, oSome, oNo, kSl, c1, c2, o1, o2, kAdd, oI, ← sm, free_ne_set, f2, l2, -z_free, -getElem?_pos, -List.sum_append, -List.map_append]) ?_
              exact ⟨as ++ [t :: T], bs, er2, by rw [← ew]; simp, by repeat (first | exact A2 | refine Al.set ?_ rfl), by simpa using k3, by simpa using k0, by simpa using k1, by simpa using k2, by simpa using k4, by simp [l2]⟩
        · rintro e2 ⟨as, bs, er, ew, A2, k3, k0, k1, k2, k4, k5⟩
          have hb : bs = [] := by
            cases bs with
            | nil => rfl
            | cons b bs => simp at er
          subst hb
          rw [List.append_nil] at ew
          subst ew
          rw [nxt_nx, go]
          have l2 := A2.len
          have f2 := A2.fre
          obtain ⟨vs, v, rfl⟩ : ∃ vs v, as = vs ++ [v] := ⟨as.dropLast, as.getLast fne, (List.dropLast_concat_getLast fne).symm⟩
          have hv := fa v (by simp)
          cases v with
          | nil =>
            have : us.length = 0 := by simpa using hv.2.symm
            exact absurd (List.length_eq_zero_iff.mp this) hn
          | cons t T =>
            obtain ⟨o1, o2, o3, o4⟩ := one_sp si hv.1 (by simpa using hv.2)
            obtain ⟨c1, c2⟩ := cut_h t T
            have la : oIx [.list ((vs ++ [t :: T]).map fun v => PyData.tuple (v.map tnD)), .int (-1)] = some (.tuple ((t :: T).map tnD)) := by
              rw [List.map_append, List.map_cons, List.map_nil]
              exact last_atL _ _
            have ng : kNeg [.pd (.int 1)] = fun env => some (.pd (.int (-1)), env) := rfl
            have nec : oNe [.int ((((vs ++ [t :: T]).map (partT p)).sum : Nat) : Int), .int ((((vs ++ [t :: T]).map (partT p)).sum : Nat) : Int)] = some (.bool false) := pl_ne (n := 1) (m := 1) rfl rfl (by decide) (by decide) rfl
            have hm : f_how_many [.nt (F.map clD), .pd (prD p), s] = some (.pd (.int ((((vs ++ [t :: T]).map (partT p)).sum : Nat) : Int)), [.nt (F.map clD), .pd (prD p), s]) := by rw [hm]; unfold cntT at fsm; rw [fsm]
            have hu : T.length + 1 = us.length := by simpa using hv.2
            generalize hN : ((vs ++ [t :: T]).map (partT p)).sum = N at *
            generalize hO : (vs ++ [t :: T]).map (fun v => PyData.tuple (v.map tnD)) = O at *
            generalize hL : (t :: T).map tnD = L at *
            refine wS_gen fun E2 hE => ?_
            have A3 : Al 3 7 E2 := ⟨by rw [hE]; simp [unlock, k4, l2, -getElem?_pos], fun i h1 h2 => by
              rw [hE]
              simp only [unlock, k4]
              have : i = 3 ∨ i = 4 ∨ 5 ≤ i := by omega
              rcases this with rfl | rfl | h
              · unfold free; rw [List.getElem?_set_ne (by decide), k3]
              · unfold free; rw [List.getElem?_set_self (by omega)]
              · rw [free_ne_set (by omega)]; exact f2 i h h2⟩
            have g0 : E2[0]? = some (some (.nt (F.map clD))) := by rw [hE]; simpa [unlock, k4, -getElem?_pos] using k0
            have g1 : E2[1]? = some (some (.pd (prD p))) := by rw [hE]; simpa [unlock, k4, -getElem?_pos] using k1
            have g2 : E2[2]? = some (some s) := by rw [hE]; simpa [unlock, k4, -getElem?_pos] using k2
            have g4 : E2[4]? = some (some (.mu .own (.ls O))) := by rw [hE]; simp [unlock, k4, l2, -getElem?_pos]
            have g5 : E2[5]? = some (some (.pd (.int (N : Nat)))) := by rw [hE]; simpa [unlock, k4, -getElem?_pos] using k5
            clear hE
            have l3 := A3.len
            have f3 := A3.fre
            refine wS_seq ?_
            refine wS_of (fl := .nx) (e := E2) (by rcases hs with rfl | rfl <;> simp [g0, g1, g2, g5, hm, nec, kNex, oNeS, -getElem?_pos]) ?_
            rw [nxt_nx, go]
            have fs2 : ∀ s' : S, nmu s' = true → True := fun _ _ => trivial
            have f1f : free E2 1 = true := by unfold free; rw [g1]
            have f2f : free E2 2 = true := by unfold free; rw [g2]; rcases hs with rfl | rfl <;> rfl
            refine wS_of (fl := .nx) (e := (E2.set 1 (some (.pd (prD (stp p t))))).set 2 (some (.pd (.tuple (T.map tnD))))) (by
              simp [g0, g1, g4, oSome, oNo, kSl, ng, la, c1, c2, o1, free_ne_set, f1f, f2f, l3, -z_free, -getElem?_pos]) ?_
            refine ⟨stp p t, T, _, .inl rfl, o3, o4, by simp at hl; omega, ?_, by simpa using g0, by simp [l3], by simp [l3]⟩
            exact ⟨by simp [l3], fun i hi hi2 => by rw [free_ne_set (by omega), free_ne_set (by omega)]; exact f3 i hi hi2⟩
    · clear h0 h1 h2 A
      rintro e ⟨p, us, s, hs, si, lt, hl, A, h0, h1, h2⟩
      rw [z_unl, nxt_nx, go]
      have hn : us = [] := List.length_eq_zero_iff.mp (by simpa using hl)
      subst hn
      have ln := A.len
      have eq0 : oEq [.tuple [], .tuple []] = some (.bool true) := rfl
      refine wS_of (fl := .rt (.pd (.bool true))) (e := e) (by rcases hs with rfl | rfl <;> simp [h2, T3.kTup, eq0, -getElem?_pos]) ?_
      exact ⟨_, _, rfl, fin_pd rfl (by simp [ln]), hQ⟩
  obtain ⟨r, as, e, rfl, rfl⟩ := key (fun r as => r = _ ∧ as = _) ⟨rfl, rfl⟩
  exact e
end L66

end
section
set_option linter.all false
set_option autoImplicit false
set_option Elab.async false
set_option maxRecDepth 100000
set_option maxHeartbeats 4000000
namespace L66
open PySem L2 T3 MM
abbrev FL : List Cell := [(0, 0), (0, 2), (1, 0), (1, 2), (2, 0), (2, 2), (3, 0), (3, 2)]
theorem okL_ : okFl FL := by unfold okFl; decide
theorem row_fl {c : Cell} (h : c ∈ FL) : c.2 = 0 ∨ c.2 = 2 := by
  simp only [FL, List.mem_cons, List.not_mem_nil, or_false] at h
  rcases h with rfl | rfl | rfl | rfl | rfl | rfl | rfl | rfl <;> simp
theorem step_row (c : Cell) (d : Dir) : (stepC c d).2 = c.2 ∨ (stepC c d).2 = c.2 + 1 ∨ (stepC c d).2 = c.2 - 1 := by
  cases d <;> simp [stepC] <;> omega
theorem rows_ok : ∀ (us : List T2) (p : Pr), p.1.1.2 = 0 → p.2.1.2 = 2 → letT FL p us → ∀ x ∈ cof p us, (x.1 = false → x.2.1.2 = 0 ∧ x.2.2.2 = 0) ∧ (x.1 = true → x.2.1.2 = 2 ∧ x.2.2.2 = 2)
  | [], p, _, _, _, x, hx => by simp [cof] at hx
  | (b, d) :: us, p, h0, h1, lt, x, hx => by
    obtain ⟨ok, lt⟩ := lt
    have n0 : (stp p (b, d)).1.1.2 = 0 ∧ (stp p (b, d)).2.1.2 = 2 := by
      obtain ⟨o1, o2, _⟩ := ok
      have r1 := row_fl o1
      have r2 := row_fl o2
      cases b with
      | false =>
        have e : (stp p (false, d)).1.1 = stepC p.1.1 d := rfl
        have e2 : (stp p (false, d)).2 = p.2 := rfl
        rw [e] at r1 ⊢
        rw [e2]
        have := step_row p.1.1 d
        exact ⟨by omega, h1⟩
      | true =>
        have e : (stp p (true, d)).2.1 = stepC p.2.1 d := rfl
        have e2 : (stp p (true, d)).1 = p.1 := rfl
        rw [e] at r2 ⊢
        rw [e2]
        have := step_row p.2.1 d
        exact ⟨h0, by omega⟩
    rcases List.mem_cons.mp hx with rfl | hx
    · refine ⟨fun e => ?_, fun e => ?_⟩
      · have e : b = false := e
        subst e
        exact ⟨h0, n0.1⟩
      · have e : b = true := e
        subst e
        exact ⟨h1, n0.2⟩
    · exact rows_ok us _ n0.1 n0.2 lt x hx
theorem own_mem {b : Bool} {xs : List W2} {i : Nat} {x : W2} (h : (own b xs)[i]? = some x) : x ∈ xs ∧ x.1 = b := by
  have := List.mem_of_getElem? h
  have := List.mem_filter.mp this
  exact ⟨this.1, by simpa using this.2⟩
theorem RW_no {p : Pr} {us : List T2} (h0 : p.1.1.2 = 0) (h1 : p.2.1.2 = 2) (lt : letT FL p us) (i j : Nat) : RW (cof p us) i j = false := by
  have ro := rows_ok us p h0 h1 lt
  cases ha : (own false (cof p us))[i]? with
  | none => simp [RW, ha]
  | some a =>
    cases hb : (own true (cof p us))[j]? with
    | none => simp [RW, ha, hb]
    | some b =>
      simp only [RW, ha, hb]
      obtain ⟨a1, a2⟩ := own_mem ha
      obtain ⟨b1, b2⟩ := own_mem hb
      obtain ⟨a3, a4⟩ := (ro a a1).1 a2
      obtain ⟨b3, b4⟩ := (ro b b1).2 b2
      unfold meetW
      refine decide_eq_false fun z => ?_
      rcases z with z | z | z | z <;> have := congrArg Prod.snd z <;> omega
theorem mer_f (o0 o1 : List T2) : ∀ (k i j : Nat), i + k = o0.length → mer o0 o1 i j (List.replicate k false) = o0.drop i
  | 0, i, j, h => by
    rw [List.drop_of_length_le (by omega)]
    rfl
  | k + 1, i, j, h => by
    have hi : i < o0.length := by omega
    rw [List.replicate_succ]
    simp only [mer]
    rw [mer_f o0 o1 k (i + 1) j (by omega), List.getElem?_eq_getElem hi, List.drop_eq_getElem_cons hi]
    rfl
theorem mer_t (o0 o1 : List T2) : ∀ (k i j : Nat), j + k = o1.length → mer o0 o1 i j (List.replicate k true) = o1.drop j
  | 0, i, j, h => by
    rw [List.drop_of_length_le (by omega)]
    rfl
  | k + 1, i, j, h => by
    have hi : j < o1.length := by omega
    rw [List.replicate_succ]
    simp only [mer]
    rw [mer_t o0 o1 k i (j + 1) (by omega), List.getElem?_eq_getElem hi, List.drop_eq_getElem_cons hi]
    rfl
theorem far_told {p : Pr} {us : List T2} (h0 : p.1.1.2 = 0) (h1 : p.2.1.2 = 2) (lt : letT FL p us) : cntT p us = TC.pas (ownT false us).length (ownT true us).length ∧ leastT p us = ownT false us ++ ownT true us := by
  have rw0 := RW_no h0 h1 lt
  have ea : wa p us = List.replicate ((ordT us).count false) 0 := TC.wts_no false rw0 _ 0 0
  have eb : wb p us = List.replicate ((ordT us).count true) 0 := TC.wts_no true (fun i j => rw0 j i) _ 0 0
  have no := TC.n_sum (ordT us)
  refine ⟨?_, ?_⟩
  · unfold cntT
    rw [ea, eb, TC.dp_pas _ _ _ _ (Nat.le_refl _) (Nat.le_refl _), own_cnt, own_cnt]
  · have el : leastB p us = List.replicate ((ordT us).count false) false ++ List.replicate ((ordT us).count true) true := by
      show TC.lst (wa p us) (wb p us) (ordT us).length 0 0 = _
      rw [ea, eb, TC.lst_no _ _ _ 0 0 (Nat.zero_le _) (by omega) (Nat.zero_le _), Nat.sub_zero, Nat.sub_zero]
    unfold leastT
    rw [el, mer_app, mer_f _ _ _ _ _ (by rw [own_cnt]; omega)]
    simp only [List.count_replicate, List.drop_zero]
    simp only [if_true, if_false, Nat.zero_add, Bool.false_eq_true, beq_self_eq_true]
    rw [mer_t _ _ _ _ _ (by rw [own_cnt]; simp)]
    simp
end L66

end
section
set_option linter.all false
set_option autoImplicit false
set_option Elab.async false
set_option maxRecDepth 100000
set_option maxHeartbeats 4000000
namespace L66
open PySem L2 T3 MM
def DuE (q : Pk) (p : Pr) (us : List T2) (d : Nat) (s7 : Option S) : Sl := [some (.mu .bor (penK q)), some (.nt (FL.map clD)), some (.pd (prD p)), some (.pd (.tuple (us.map tnD))), some (.mu .own (.ls ((ownT false us).map tnD))), some (.mu .own (.ls ((ownT true us).map tnD))), some (.pd (.int ((d : Nat) : Int))), s7, none, none]
def DuI (q : Pk) (p : Pr) (us : List T2) (rest : List PyData) (e : Sl) : Prop := ∃ (k m : Nat) (s7 : Option S), rest = upF k m ∧ k + m = (ownT false us).length ∧ FrzT s7 ∧ e = DuE q p us (TC.pas k (us.length - k)) s7
theorem own_lc (us : List T2) (hl : us.length ≤ 100) (b : Bool) (e : Sl) (l10 : e.length = 10) (h3 : e[3]? = some (some (.pd (.tuple (us.map tnD))))) :
    eLc (iSeq (eVar 3)) (gN 9) (bT (eEq (eIx (eVar 9) (eC (.int 0))) (eC (.int (cubeI b))))) (eVar 9) [9] e = some (.tmp (.ls ((ownT b us).map tnD)), e) := by
  have lc := lcF (it := iSeq (eVar 3)) (g := gN 9) (t := bT (eEq (eIx (eVar 9) (eC (.int 0))) (eC (.int (cubeI b))))) (f := eVar 9) (vs := [9]) (lk := none) (env := e) (e := e) (q := tnD) (as := us) (fun t => decide (t.1 = b)) tnD (by simp [h3, -getElem?_pos]) (by omega) (fun t ht => by
    have x0 := ix_tn0 t
    have e0 := eq_cubes t.1 b
    by_cases m : t.1 = b
    · rw [m] at x0 e0
      simp [lcI, wipe_at, wipe_free, wipeE_len, l10, x0, e0, m, Kp.set, -z_free, -getElem?_pos]
    · simp [lcI, wipe_at, wipe_free, wipeE_len, l10, x0, e0, m, Kp.set, -z_free, -getElem?_pos])
  rw [z_unl] at lc
  exact lc
theorem line_lc (b : Int) (e : Sl) (l10 : e.length = 10) : eLc (iRg1 (eCons (eC (.int 4)) eNil)) (gN 8) bYes (eThen (eCons (eVar 8) (eCons (eC (.int b)) eNil)) T3.kTup) [8] e = some (.tmp (.ls ([((0 : Int), b), (1, b), (2, b), (3, b)].map clD)), e) := by
  have lc := lcA (it := iRg1 (eCons (eC (.int 4)) eNil)) (g := gN 8) (f := eThen (eCons (eVar 8) (eCons (eC (.int b)) eNil)) T3.kTup) (vs := [8]) (lk := none) (env := e) (e := e) (q := fun k : Nat => .int ((k : Nat) : Int)) (as := List.range 4) (fun k : Nat => clD (((k : Nat) : Int), b)) (rg1_up (n := 4) (by simp) (by decide)) (by decide) (fun k hk => by
    simp [lcO, wipe_at, wipe_free, wipeE_len, l10, T3.kTup, clD, Kp.set, -z_free, -getElem?_pos])
  rw [z_unl] at lc
  exact lc
abbrev LX : List Cell := [(0, 0), (1, 0), (2, 0), (3, 0), (0, 2), (1, 2), (2, 2), (3, 2)]
theorem ms_FL : LX.mergeSort prLe = FL := by
  refine List.Perm.eq_of_pairwise (le := fun a b => prLe a b = true) (fun a b ha hb x y => ?_) (List.pairwise_mergeSort (fun a b c h1 h2 => by simp [prLe] at h1 h2 ⊢; omega) (fun a b => by simp [prLe]; omega) LX) (by decide) ((List.mergeSort_perm LX prLe).trans (by decide))
  have ha := (List.mergeSort_perm LX prLe).mem_iff.mp ha
  have b1 : ∀ z ∈ LX, 0 ≤ z.2 ∧ z.2 < 64 := by decide
  have b2 : ∀ z ∈ FL, 0 ≤ z.2 ∧ z.2 < 64 := by decide
  have := b1 a ha
  have := b2 b hb
  simp [prLe] at x y
  exact Prod.ext (by omega) (by omega)
theorem own_sum (us : List T2) : (ownT false us).length + (ownT true us).length = us.length := by
  rw [own_cnt, own_cnt, TC.n_sum]
  simp [ordT]
set_option maxRecDepth 200000 in
theorem apart_sp (p : Pk) (ht : p.t ≤ 90000000) : ∃ q : Pk, q.t ≤ p.t + 60 ∧ f__law_apart_right [.mu .bor (penK p)] = some (.pd (.bool true), [.mu .bor (penK q)]) := by
  obtain ⟨x, p1, x0, x1, hp1, d1⟩ := draw2_sp p 4 (by decide) (by decide) (by omega)
  obtain ⟨p2, l0, hp2, hl0, e2⟩ := lying_sp2 p1 (by omega)
  obtain ⟨y, p3, y0, y1, hp3, d3⟩ := draw2_sp p2 4 (by decide) (by decide) (by omega)
  obtain ⟨p4, l1, hp4, hl1, e4⟩ := lying_sp2 p3 (by omega)
  obtain ⟨z, p5, z0, z1, hp5, d5⟩ := draw2_sp p4 25 (by decide) (by decide) (by omega)
  obtain ⟨m, rfl⟩ : ∃ m : Nat, z = m := ⟨z.toNat, by omega⟩
  generalize hr : ((((x, 0), l0), ((y, 2), l1)) : Pr) = r
  have r0 : r.1.1.2 = 0 := by rw [← hr]
  have r1 : r.2.1.2 = 2 := by rw [← hr]
  have okr : okP FL r := by
    rw [← hr]
    refine ⟨?_, ?_, fun h => ?_⟩
    · have : x = 0 ∨ x = 1 ∨ x = 2 ∨ x = 3 := by omega
      show (x, (0 : Int)) ∈ FL
      rcases this with rfl | rfl | rfl | rfl <;> decide
    · have : y = 0 ∨ y = 1 ∨ y = 2 ∨ y = 3 := by omega
      show (y, (2 : Int)) ∈ FL
      rcases this with rfl | rfl | rfl | rfl <;> decide
    · have h : (x, (0 : Int)) = (y, 2) := h
      have := congrArg Prod.snd h
      simp at this
  have lyr : lyP r := by rw [← hr]; exact ⟨hl0, hl1⟩
  have rD : PyData.tuple [.tuple [.tuple [.int x, .int 0], lyD l0], .tuple [.tuple [.int y, .int 2], lyD l1]] = prD r := by rw [← hr]; rfl
  obtain ⟨p6, us, hp6, lt, hl, et⟩ := turns_sp p5 FL r m (by omega) (by omega)
  refine ⟨p6, by omega, ?_⟩
  have si : Sit2 FL r us := ⟨okL_, okr, lyr, by omega⟩
  obtain ⟨fm, fl⟩ := far_told r0 r1 lt
  have hm := how_many_sp si lt (.pd (.tuple (us.map tnD))) (.inl rfl)
  have lst := least_turns_sp si lt (.pd (.tuple (us.map tnD))) (.inl rfl)
  unfold cntT at fm
  rw [fm] at hm
  rw [fl] at lst
  have os := own_sum us
  have u24 := si.ln
  clear hr
  have key : ∀ Q : R → List S → Prop, Q (.pd (.bool true)) [.mu .bor (penK p6)] → wF f__law_apart_right [.mu .bor (penK p)] Q := by
    intro Q hQ
    refine wF_run (e := [some (.mu .bor (penK p)), none, none, none, none, none, none, none, none, none]) rfl ?_
    refine wS_seq ?_
    have a1 := line_lc 0 [some (.mu .bor (penK p)), none, none, none, none, none, none, none, none, none] rfl
    have a2 := line_lc 2 [some (.mu .bor (penK p)), none, none, none, none, none, none, none, none, none] rfl
    have ad : ∀ env : Sl, kAdd [.tmp (.ls ([((0 : Int), (0 : Int)), (1, 0), (2, 0), (3, 0)].map clD)), .tmp (.ls ([((0 : Int), (2 : Int)), (1, 2), (2, 2), (3, 2)].map clD))] env = some (.tmp (.ls ([((0 : Int), (0 : Int)), (1, 0), (2, 0), (3, 0), (0, 2), (1, 2), (2, 2), (3, 2)].map clD)), env) := fun env => rfl
    have so : ∀ env : Sl, kSorted [.tmp (.ls ([((0 : Int), (0 : Int)), (1, 0), (2, 0), (3, 0), (0, 2), (1, 2), (2, 2), (3, 2)].map clD))] env = some (.tmp (.ls (FL.map clD)), env) := fun env => by
      have hp := pairs_of [((0 : Int), (0 : Int)), (1, 0), (2, 0), (3, 0), (0, 2), (1, 2), (2, 2), (3, 2)] (by decide)
      have hn : ints? ([((0 : Int), (0 : Int)), (1, 0), (2, 0), (3, 0), (0, 2), (1, 2), (2, 2), (3, 2)].map clD) = none := rfl
      have ms : [((0 : Int), (0 : Int)), (1, 0), (2, 0), (3, 0), (0, 2), (1, 2), (2, 2), (3, 2)].mergeSort prLe = FL := ms_FL
      have hlt : ([((0 : Int), (0 : Int)), (1, 0), (2, 0), (3, 0), (0, 2), (1, 2), (2, 2), (3, 2)].map clD).length < 64 := by decide
      generalize hX : [((0 : Int), (0 : Int)), (1, 0), (2, 0), (3, 0), (0, 2), (1, 2), (2, 2), (3, 2)].map clD = X at *
      simp [kSorted, ctn, hp, hn, hlt, ms]
    have tn : ∀ env : Sl, kTupN [.tmp (.ls (FL.map clD))] env = some (.nt (FL.map clD), env) := fun env => rfl
    generalize hA : [((0 : Int), (0 : Int)), (1, 0), (2, 0), (3, 0)].map clD = LA at *
    generalize hB : [((0 : Int), (2 : Int)), (1, 2), (2, 2), (3, 2)].map clD = LB at *
    generalize hC : [((0 : Int), (0 : Int)), (1, 0), (2, 0), (3, 0), (0, 2), (1, 2), (2, 2), (3, 2)].map clD = LC at *
    generalize hF : FL.map clD = LF at *
    refine wS_of (fl := .nx) (e := [some (.mu .bor (penK p)), some (.nt LF), none, none, none, none, none, none, none, none]) (by simp [a1, a2, ad, so, tn, fre, z_free2, freO_some, -z_free, -z_lc]) ?_
    rw [nxt_nx, go]
    refine wS_seq ?_
    refine wS_of (fl := .nx) (e := [some (.mu .bor (penK p4)), some (.nt LF), some (.pd (prD r)), none, none, none, none, none, none, none]) (by simp [d1, e2, d3, e4, T3.kTup, rD, fre, z_free2, freO_some, -z_free]) ?_
    rw [nxt_nx, go]
    refine wS_seq ?_
    refine wS_of (fl := .nx) (e := [some (.mu .bor (penK p6)), some (.nt LF), some (.pd (prD r)), some (.pd (.tuple (us.map tnD))), none, none, none, none, none, none]) (by simp [d5, et, fre, z_free2, freO_some, -z_free]) ?_
    rw [nxt_nx, go]
    have o1 := own_lc us (by omega) false [some (.mu .bor (penK p6)), some (.nt LF), some (.pd (prD r)), some (.pd (.tuple (us.map tnD))), none, none, none, none, none, none] rfl rfl
    have o2 := own_lc us (by omega) true [some (.mu .bor (penK p6)), some (.nt LF), some (.pd (prD r)), some (.pd (.tuple (us.map tnD))), none, none, none, none, none, none] rfl rfl
    rw [show cubeI false = 0 from rfl] at o1
    rw [show cubeI true = 1 from rfl] at o2
    refine wS_seq ?_
    refine wS_of (fl := .nx) (e := [some (.mu .bor (penK p6)), some (.nt LF), some (.pd (prD r)), some (.pd (.tuple (us.map tnD))), some (.mu .own (.ls ((ownT false us).map tnD))), some (.mu .own (.ls ((ownT true us).map tnD))), none, none, none, none]) (by simp [o1, o2, fre, z_free2, freO_some, -z_free, -z_lc]) ?_
    rw [nxt_nx, go]
    refine wS_seq ?_
    refine wS_of (fl := .nx) (e := DuE p6 r us 1 none) (by simp [DuE, hF, fre, z_free2, freO_some, -z_free]) ?_
    rw [nxt_nx, go]
    refine wS_seq ?_
    have lo : ((ownT false us).map tnD).length = (ownT false us).length := List.length_map _
    have lu : (us.map tnD).length = us.length := List.length_map _
    refine wS_for (xs := upD (ownT false us).length) (lk := none) (e := DuE p6 r us 1 none) (rg1_up (by simp [DuE, oLen, lo]) (by omega)) (DuI p6 r us) ⟨0, (ownT false us).length, none, (upF_up _).symm, by omega, .inl rfl, by rw [TC.pas_0]⟩ ?_ ?_
    · rintro x rest e ⟨k, n, s7, er, ek, f7, rfl⟩
      cases n with
      | zero => simp [upF] at er
      | succ n =>
        obtain ⟨rfl, er2⟩ : x = .int ((k : Nat) : Int) ∧ rest = upF (k + 1) n := by
          unfold upF at er ⊢
          simpa [List.range'_succ] using er
        have st := TC.pas_step k (us.length - k - 1)
        rw [show us.length - k - 1 + 1 = us.length - k by omega] at st
        have val : ((TC.pas k (us.length - k) : Nat) : Int) * ((us.length : Int) - (k : Int)) / ((k : Int) + 1) = ((TC.pas (k + 1) (us.length - (k + 1)) : Nat) : Int) := by
          have e1 : (us.length : Int) - (k : Int) = ((us.length - k : Nat) : Int) := by omega
          have e2 : (k : Int) + 1 = ((k + 1 : Nat) : Int) := by omega
          rw [e1, e2, ← Int.natCast_mul, ← Int.natCast_ediv]
          congr 1
          rw [Nat.mul_comm, ← st, Nat.mul_div_cancel_left _ (by omega)]
          congr 1
        have cm : CMul ((TC.pas k (us.length - k) : Nat) : Int) ((us.length : Int) - (k : Int)) := cmul_r _ _ (by omega)
        have cd : CDivW (((TC.pas k (us.length - k) : Nat) : Int) * ((us.length : Int) - (k : Int))) ((k : Int) + 1) := cdv _ _ (by omega) (by omega)
        simp only [gW, DuE, z_gN, z_setR, z_free2, List.getElem?_cons_succ, List.getElem?_cons_zero, freO_some, frzT f7, if_true, List.set_cons_succ, List.set_cons_zero]
        rw [go]
        refine wS_of (fl := .nx) (e := DuE p6 r us (TC.pas (k + 1) (us.length - (k + 1))) (some (.pd (.int (k : Nat))))) (by
          simp [DuE, oLen, kMul, kSub, kAdd, kFdiv, oI, cm, cd, val, fre, z_free2, freO_some, -z_free, -Int.natCast_add]) ?_
        exact ⟨k + 1, n, _, er2, by omega, .inr ⟨_, rfl⟩, rfl⟩
    · rintro e ⟨k, n, s7, er, ek, f7, rfl⟩
      rw [z_unl, nxt_nx, go]
      have n0 : n = 0 := by
        cases n with
        | zero => rfl
        | succ n => simp [upF, List.range'_succ] at er
      subst n0
      have ek : k = (ownT false us).length := by omega
      subst ek
      rw [show us.length - (ownT false us).length = (ownT true us).length by omega]
      have eq1 : oEq [.int ((TC.pas (ownT false us).length (ownT true us).length : Nat) : Int), .int ((TC.pas (ownT false us).length (ownT true us).length : Nat) : Int)] = some (.bool true) := pl_eq (n := 1) (m := 1) rfl rfl (by decide) (by decide) rfl
      have plo := pl_tns (ownT false us ++ ownT true us)
      have eq2 := pl_eq plo plo (by decide) (by decide) rfl
      have lim : (ownT false us).length + (ownT true us).length ≤ 1000000 := by omega
      have ka : ∀ env : Sl, env[4]? = some (some (.mu .own (.ls ((ownT false us).map tnD)))) → env[5]? = some (some (.mu .own (.ls ((ownT true us).map tnD)))) → kAdd [.var 4, .var 5] env = some (.tmp (.ls ((ownT false us ++ ownT true us).map tnD)), env) := fun env h4 h5 => by
        simp [kAdd, kOr, oI, oCatS, oCatT, kCatL, lsOf, h4, h5, lim, -getElem?_pos]
      refine wS_of (fl := .rt (.pd (.bool true))) (e := DuE p6 r us (TC.pas (ownT false us).length (ownT true us).length) s7) (by
        have k2 := ka (DuE p6 r us (TC.pas (ownT false us).length (ownT true us).length) s7) rfl rfl
        generalize hO : (ownT false us ++ ownT true us).map tnD = O at *
        simp only [DuE, hF] at k2 ⊢
        simp [hm, lst, eq1, eq2, k2, kTupN, ctn]) ?_
      exact ⟨_, _, rfl, rfl, hQ⟩
  obtain ⟨r, as, e, rfl, rfl⟩ := key (fun r as => r = _ ∧ as = _) ⟨rfl, rfl⟩
  exact e
end L66

end
section
set_option linter.all false
set_option autoImplicit false
set_option Elab.async false
set_option maxRecDepth 100000
set_option maxHeartbeats 4000000
namespace L66
open PySem L2 T3 MM
theorem hmath (ns : List Int) (hn : ns.length ≤ 63) : ∃ as, f_law [.pd (.list (ns.map .int))] = some (.pd (.bool true), as) := by
  refine outerJ (n := 7) (N := 3) (M := 3) (C := 250) ns (by decide) (by decide) (by decide) (by decide) (cell_sp ns) pen2_sp ?_
  intro e p j hj A h0 h2 h3 hp
  generalize hTP : TurnP 7 250 (.list (ns.map .int)) p = TP
  have fr := A.fre
  have ln := A.len
  obtain ⟨p1, F, hp1, okF, lo, hi, ef⟩ := floor_sp2 p 2 9 (by decide) (by decide) (by decide) (by omega)
  rw [show ((2 : Nat) : Int) = 2 from rfl, show ((9 : Nat) : Int) = 9 from rfl] at ef
  have l9 := okF.2.1
  obtain ⟨p2, r, hp2, okr, lyr, er⟩ := pair_sp p1 F okF lo (by omega)
  obtain ⟨z, p3, z0, z1, hp3, dz⟩ := draw2_sp p2 25 (by decide) (by decide) (by omega)
  obtain ⟨m, hm, em⟩ : ∃ m : Nat, m ≤ 24 ∧ oIx [.list [.int 24, .int z, .int 8], .int (j : Nat)] = some (.int (m : Nat)) := by
    have : j = 0 ∨ j = 1 ∨ j = 2 := by omega
    rcases this with rfl | rfl | rfl
    · exact ⟨24, by omega, rfl⟩
    · exact ⟨z.toNat, by omega, by rw [show ((z.toNat : Nat) : Int) = z by omega]; rfl⟩
    · exact ⟨8, by omega, rfl⟩
  obtain ⟨p4, ts, hp4, lt, lts, et⟩ := turns_sp p3 F r m (by omega) (by omega)
  have si : Sit2 F r ts := ⟨okF, okr, lyr, by omega⟩
  refine wS_seq ?_
  simp [wS, free_ne_set, fr, ln, h2, ef, -z_free, -getElem?_pos]
  rw [go]
  refine wS_seq ?_
  simp [wS, free_ne_set, fr, ln, er, -z_free, -getElem?_pos]
  rw [go]
  refine wS_seq ?_
  simp [wS, free_ne_set, fr, ln, h3, dz, em, et, -z_free, -getElem?_pos]
  rw [go]
  refine wS_gen fun E hE => ?_
  have AE : Al 0 7 E := by rw [hE]; repeat (first | exact A | refine Al.set ?_ rfl)
  have g0 : E[0]? = some (some (.pd (.list (ns.map .int)))) := by rw [hE]; simpa using h0
  have g2 : E[2]? = some (some (.mu .own (penK p4))) := by rw [hE]; simp [ln]
  have g4 : E[4]? = some (some (.nt (F.map clD))) := by rw [hE]; simp [ln]
  have g5 : E[5]? = some (some (.pd (prD r))) := by rw [hE]; simp [ln]
  have g6 : E[6]? = some (some (.pd (.tuple (ts.map tnD)))) := by rw [hE]; simp [ln]
  clear hE
  have lE := AE.len
  have sr := sum_right_sp si lt
  obtain ⟨p5, hp5, ea⟩ := apart_sp p4 (by omega)
  refine wS_of (fl := .nx) (e := E.set 2 (some (.mu .own (penK p5)))) (by simp [g2, g4, g5, g6, sr, ea, lE, -getElem?_pos]) ?_
  rw [← hTP]
  exact ⟨.inl rfl, by repeat (first | exact AE | refine Al.set ?_ rfl), by simpa using g0, p5, by simp [lE], by omega⟩
end L66

end
section
set_option Elab.async false
set_option linter.all false
set_option maxRecDepth 100000
open PySem PySem.W PyProof.Rows
set_option maxHeartbeats 0 in
open_top hd66 for PySem.Challenge.rw_tumblemarks_k66_whole_how_many_add

end
section
set_option linter.all false
set_option autoImplicit false
set_option Elab.async false
set_option maxRecDepth 100000
set_option maxHeartbeats 4000000
namespace L66
open PySem L2 T3
noncomputable section
theorem fin {P : Program} {w : World} {K : PySem.W.Frag} {h : Heap} {mg : Str → Option Value} {fa : Addr} (X : K.In h) (G : h.Ns mainGlobals mg) (hfa : mg "law" = some (.ref fa))
    {f0 : Addr} {oc0 kV0 dc0 pm0 cd0 ct0 : Value} {od0 an0 : Option Addr} {sl0 : Array (Option Value)}
    (a0 : PySem.W.nsIn K mainGlobals "is_whole" = some (some (.ref f0))) (l0 : K.lookup f0 = some ⟨oc0, od0, .func (PySem.W.fnOf "is_whole" "is_whole" (defArgs s_is_whole) (defBody s_is_whole) (defScope s_is_whole) .none kV0 dc0 pm0 an0 cd0 ct0), sl0⟩) (c0 : PySem.W.codeIn K cd0 "is_whole" = true) (k0 : PySem.W.keepIn K (.ref f0) = true)
    {f1 : Addr} {oc1 kV1 dc1 pm1 cd1 ct1 : Value} {od1 an1 : Option Addr} {sl1 : Array (Option Value)}
    (a1 : PySem.W.nsIn K mainGlobals "is_cell" = some (some (.ref f1))) (l1 : K.lookup f1 = some ⟨oc1, od1, .func (PySem.W.fnOf "is_cell" "is_cell" (defArgs s_is_cell) (defBody s_is_cell) (defScope s_is_cell) .none kV1 dc1 pm1 an1 cd1 ct1), sl1⟩) (c1 : PySem.W.codeIn K cd1 "is_cell" = true) (k1 : PySem.W.keepIn K (.ref f1) = true)
    {f2 : Addr} {oc2 kV2 dc2 pm2 cd2 ct2 : Value} {od2 an2 : Option Addr} {sl2 : Array (Option Value)}
    (a2 : PySem.W.nsIn K mainGlobals "is_rising" = some (some (.ref f2))) (l2 : K.lookup f2 = some ⟨oc2, od2, .func (PySem.W.fnOf "is_rising" "is_rising" (defArgs s_is_rising) (defBody s_is_rising) (defScope s_is_rising) .none kV2 dc2 pm2 an2 cd2 ct2), sl2⟩) (c2 : PySem.W.codeIn K cd2 "is_rising" = true) (k2 : PySem.W.keepIn K (.ref f2) = true)
    {f3 : Addr} {oc3 kV3 dc3 pm3 cd3 ct3 : Value} {od3 an3 : Option Addr} {sl3 : Array (Option Value)}
    (a3 : PySem.W.nsIn K mainGlobals "is_floor" = some (some (.ref f3))) (l3 : K.lookup f3 = some ⟨oc3, od3, .func (PySem.W.fnOf "is_floor" "is_floor" (defArgs s_is_floor) (defBody s_is_floor) (defScope s_is_floor) .none kV3 dc3 pm3 an3 cd3 ct3), sl3⟩) (c3 : PySem.W.codeIn K cd3 "is_floor" = true) (k3 : PySem.W.keepIn K (.ref f3) = true)
    {f4 : Addr} {oc4 kV4 dc4 pm4 cd4 ct4 : Value} {od4 an4 : Option Addr} {sl4 : Array (Option Value)}
    (a4 : PySem.W.nsIn K mainGlobals "is_cell_of" = some (some (.ref f4))) (l4 : K.lookup f4 = some ⟨oc4, od4, .func (PySem.W.fnOf "is_cell_of" "is_cell_of" (defArgs s_is_cell_of) (defBody s_is_cell_of) (defScope s_is_cell_of) .none kV4 dc4 pm4 an4 cd4 ct4), sl4⟩) (c4 : PySem.W.codeIn K cd4 "is_cell_of" = true) (k4 : PySem.W.keepIn K (.ref f4) = true)
    {f5 : Addr} {oc5 kV5 dc5 pm5 cd5 ct5 : Value} {od5 an5 : Option Addr} {sl5 : Array (Option Value)}
    (a5 : PySem.W.nsIn K mainGlobals "is_lying" = some (some (.ref f5))) (l5 : K.lookup f5 = some ⟨oc5, od5, .func (PySem.W.fnOf "is_lying" "is_lying" (defArgs s_is_lying) (defBody s_is_lying) (defScope s_is_lying) .none kV5 dc5 pm5 an5 cd5 ct5), sl5⟩) (c5 : PySem.W.codeIn K cd5 "is_lying" = true) (k5 : PySem.W.keepIn K (.ref f5) = true)
    {f6 : Addr} {oc6 kV6 dc6 pm6 cd6 ct6 : Value} {od6 an6 : Option Addr} {sl6 : Array (Option Value)}
    (a6 : PySem.W.nsIn K mainGlobals "is_stand" = some (some (.ref f6))) (l6 : K.lookup f6 = some ⟨oc6, od6, .func (PySem.W.fnOf "is_stand" "is_stand" (defArgs s_is_stand) (defBody s_is_stand) (defScope s_is_stand) .none kV6 dc6 pm6 an6 cd6 ct6), sl6⟩) (c6 : PySem.W.codeIn K cd6 "is_stand" = true) (k6 : PySem.W.keepIn K (.ref f6) = true)
    {f7 : Addr} {oc7 kV7 dc7 pm7 cd7 ct7 : Value} {od7 an7 : Option Addr} {sl7 : Array (Option Value)}
    (a7 : PySem.W.nsIn K mainGlobals "is_letter" = some (some (.ref f7))) (l7 : K.lookup f7 = some ⟨oc7, od7, .func (PySem.W.fnOf "is_letter" "is_letter" (defArgs s_is_letter) (defBody s_is_letter) (defScope s_is_letter) .none kV7 dc7 pm7 an7 cd7 ct7), sl7⟩) (c7 : PySem.W.codeIn K cd7 "is_letter" = true) (k7 : PySem.W.keepIn K (.ref f7) = true)
    {f8 : Addr} {oc8 kV8 dc8 pm8 cd8 ct8 : Value} {od8 an8 : Option Addr} {sl8 : Array (Option Value)}
    (a8 : PySem.W.nsIn K mainGlobals "need_floor" = some (some (.ref f8))) (l8 : K.lookup f8 = some ⟨oc8, od8, .func (PySem.W.fnOf "need_floor" "need_floor" (defArgs s_need_floor) (defBody s_need_floor) (defScope s_need_floor) .none kV8 dc8 pm8 an8 cd8 ct8), sl8⟩) (c8 : PySem.W.codeIn K cd8 "need_floor" = true) (k8 : PySem.W.keepIn K (.ref f8) = true)
    {f9 : Addr} {oc9 kV9 dc9 pm9 cd9 ct9 : Value} {od9 an9 : Option Addr} {sl9 : Array (Option Value)}
    (a9 : PySem.W.nsIn K mainGlobals "rolled_cell" = some (some (.ref f9))) (l9 : K.lookup f9 = some ⟨oc9, od9, .func (PySem.W.fnOf "rolled_cell" "rolled_cell" (defArgs s_rolled_cell) (defBody s_rolled_cell) (defScope s_rolled_cell) .none kV9 dc9 pm9 an9 cd9 ct9), sl9⟩) (c9 : PySem.W.codeIn K cd9 "rolled_cell" = true) (k9 : PySem.W.keepIn K (.ref f9) = true)
    {f10 : Addr} {oc10 kV10 dc10 pm10 cd10 ct10 : Value} {od10 an10 : Option Addr} {sl10 : Array (Option Value)}
    (a10 : PySem.W.nsIn K mainGlobals "rolled_lying" = some (some (.ref f10))) (l10 : K.lookup f10 = some ⟨oc10, od10, .func (PySem.W.fnOf "rolled_lying" "rolled_lying" (defArgs s_rolled_lying) (defBody s_rolled_lying) (defScope s_rolled_lying) .none kV10 dc10 pm10 an10 cd10 ct10), sl10⟩) (c10 : PySem.W.codeIn K cd10 "rolled_lying" = true) (k10 : PySem.W.keepIn K (.ref f10) = true)
    {f11 : Addr} {oc11 kV11 dc11 pm11 cd11 ct11 : Value} {od11 an11 : Option Addr} {sl11 : Array (Option Value)}
    (a11 : PySem.W.nsIn K mainGlobals "rolled_stand" = some (some (.ref f11))) (l11 : K.lookup f11 = some ⟨oc11, od11, .func (PySem.W.fnOf "rolled_stand" "rolled_stand" (defArgs s_rolled_stand) (defBody s_rolled_stand) (defScope s_rolled_stand) .none kV11 dc11 pm11 an11 cd11 ct11), sl11⟩) (c11 : PySem.W.codeIn K cd11 "rolled_stand" = true) (k11 : PySem.W.keepIn K (.ref f11) = true)
    {f12 : Addr} {oc12 kV12 dc12 pm12 cd12 ct12 : Value} {od12 an12 : Option Addr} {sl12 : Array (Option Value)}
    (a12 : PySem.W.nsIn K mainGlobals "is_pair" = some (some (.ref f12))) (l12 : K.lookup f12 = some ⟨oc12, od12, .func (PySem.W.fnOf "is_pair" "is_pair" (defArgs s_is_pair) (defBody s_is_pair) (defScope s_is_pair) .none kV12 dc12 pm12 an12 cd12 ct12), sl12⟩) (c12 : PySem.W.codeIn K cd12 "is_pair" = true) (k12 : PySem.W.keepIn K (.ref f12) = true)
    {f13 : Addr} {oc13 kV13 dc13 pm13 cd13 ct13 : Value} {od13 an13 : Option Addr} {sl13 : Array (Option Value)}
    (a13 : PySem.W.nsIn K mainGlobals "is_turn" = some (some (.ref f13))) (l13 : K.lookup f13 = some ⟨oc13, od13, .func (PySem.W.fnOf "is_turn" "is_turn" (defArgs s_is_turn) (defBody s_is_turn) (defScope s_is_turn) .none kV13 dc13 pm13 an13 cd13 ct13), sl13⟩) (c13 : PySem.W.codeIn K cd13 "is_turn" = true) (k13 : PySem.W.keepIn K (.ref f13) = true)
    {f14 : Addr} {oc14 kV14 dc14 pm14 cd14 ct14 : Value} {od14 an14 : Option Addr} {sl14 : Array (Option Value)}
    (a14 : PySem.W.nsIn K mainGlobals "is_turns" = some (some (.ref f14))) (l14 : K.lookup f14 = some ⟨oc14, od14, .func (PySem.W.fnOf "is_turns" "is_turns" (defArgs s_is_turns) (defBody s_is_turns) (defScope s_is_turns) .none kV14 dc14 pm14 an14 cd14 ct14), sl14⟩) (c14 : PySem.W.codeIn K cd14 "is_turns" = true) (k14 : PySem.W.keepIn K (.ref f14) = true)
    {f15 : Addr} {oc15 kV15 dc15 pm15 cd15 ct15 : Value} {od15 an15 : Option Addr} {sl15 : Array (Option Value)}
    (a15 : PySem.W.nsIn K mainGlobals "need_pair" = some (some (.ref f15))) (l15 : K.lookup f15 = some ⟨oc15, od15, .func (PySem.W.fnOf "need_pair" "need_pair" (defArgs s_need_pair) (defBody s_need_pair) (defScope s_need_pair) .none kV15 dc15 pm15 an15 cd15 ct15), sl15⟩) (c15 : PySem.W.codeIn K cd15 "need_pair" = true) (k15 : PySem.W.keepIn K (.ref f15) = true)
    {f16 : Addr} {oc16 kV16 dc16 pm16 cd16 ct16 : Value} {od16 an16 : Option Addr} {sl16 : Array (Option Value)}
    (a16 : PySem.W.nsIn K mainGlobals "need_turns" = some (some (.ref f16))) (l16 : K.lookup f16 = some ⟨oc16, od16, .func (PySem.W.fnOf "need_turns" "need_turns" (defArgs s_need_turns) (defBody s_need_turns) (defScope s_need_turns) .none kV16 dc16 pm16 an16 cd16 ct16), sl16⟩) (c16 : PySem.W.codeIn K cd16 "need_turns" = true) (k16 : PySem.W.keepIn K (.ref f16) = true)
    {f17 : Addr} {oc17 kV17 dc17 pm17 cd17 ct17 : Value} {od17 an17 : Option Addr} {sl17 : Array (Option Value)}
    (a17 : PySem.W.nsIn K mainGlobals "rolled_pair" = some (some (.ref f17))) (l17 : K.lookup f17 = some ⟨oc17, od17, .func (PySem.W.fnOf "rolled_pair" "rolled_pair" (defArgs s_rolled_pair) (defBody s_rolled_pair) (defScope s_rolled_pair) .none kV17 dc17 pm17 an17 cd17 ct17), sl17⟩) (c17 : PySem.W.codeIn K cd17 "rolled_pair" = true) (k17 : PySem.W.keepIn K (.ref f17) = true)
    {f18 : Addr} {oc18 kV18 dc18 pm18 cd18 ct18 : Value} {od18 an18 : Option Addr} {sl18 : Array (Option Value)}
    (a18 : PySem.W.nsIn K mainGlobals "pairs_on" = some (some (.ref f18))) (l18 : K.lookup f18 = some ⟨oc18, od18, .func (PySem.W.fnOf "pairs_on" "pairs_on" (defArgs s_pairs_on) (defBody s_pairs_on) (defScope s_pairs_on) .none kV18 dc18 pm18 an18 cd18 ct18), sl18⟩) (c18 : PySem.W.codeIn K cd18 "pairs_on" = true) (k18 : PySem.W.keepIn K (.ref f18) = true)
    {f19 : Addr} {oc19 kV19 dc19 pm19 cd19 ct19 : Value} {od19 an19 : Option Addr} {sl19 : Array (Option Value)}
    (a19 : PySem.W.nsIn K mainGlobals "place_stop" = some (some (.ref f19))) (l19 : K.lookup f19 = some ⟨oc19, od19, .func (PySem.W.fnOf "place_stop" "place_stop" (defArgs s_place_stop) (defBody s_place_stop) (defScope s_place_stop) .none kV19 dc19 pm19 an19 cd19 ct19), sl19⟩) (c19 : PySem.W.codeIn K cd19 "place_stop" = true) (k19 : PySem.W.keepIn K (.ref f19) = true)
    {f20 : Addr} {oc20 kV20 dc20 pm20 cd20 ct20 : Value} {od20 an20 : Option Addr} {sl20 : Array (Option Value)}
    (a20 : PySem.W.nsIn K mainGlobals "need_let_turns" = some (some (.ref f20))) (l20 : K.lookup f20 = some ⟨oc20, od20, .func (PySem.W.fnOf "need_let_turns" "need_let_turns" (defArgs s_need_let_turns) (defBody s_need_let_turns) (defScope s_need_let_turns) .none kV20 dc20 pm20 an20 cd20 ct20), sl20⟩) (c20 : PySem.W.codeIn K cd20 "need_let_turns" = true) (k20 : PySem.W.keepIn K (.ref f20) = true)
    {f21 : Addr} {oc21 kV21 dc21 pm21 cd21 ct21 : Value} {od21 an21 : Option Addr} {sl21 : Array (Option Value)}
    (a21 : PySem.W.nsIn K mainGlobals "need_taken" = some (some (.ref f21))) (l21 : K.lookup f21 = some ⟨oc21, od21, .func (PySem.W.fnOf "need_taken" "need_taken" (defArgs s_need_taken) (defBody s_need_taken) (defScope s_need_taken) .none kV21 dc21 pm21 an21 cd21 ct21), sl21⟩) (c21 : PySem.W.codeIn K cd21 "need_taken" = true) (k21 : PySem.W.keepIn K (.ref f21) = true)
    {f22 : Addr} {oc22 kV22 dc22 pm22 cd22 ct22 : Value} {od22 an22 : Option Addr} {sl22 : Array (Option Value)}
    (a22 : PySem.W.nsIn K mainGlobals "pair_behind" = some (some (.ref f22))) (l22 : K.lookup f22 = some ⟨oc22, od22, .func (PySem.W.fnOf "pair_behind" "pair_behind" (defArgs s_pair_behind) (defBody s_pair_behind) (defScope s_pair_behind) .none kV22 dc22 pm22 an22 cd22 ct22), sl22⟩) (c22 : PySem.W.codeIn K cd22 "pair_behind" = true) (k22 : PySem.W.keepIn K (.ref f22) = true)
    {f23 : Addr} {oc23 kV23 dc23 pm23 cd23 ct23 : Value} {od23 an23 : Option Addr} {sl23 : Array (Option Value)}
    (a23 : PySem.W.nsIn K mainGlobals "turns_of" = some (some (.ref f23))) (l23 : K.lookup f23 = some ⟨oc23, od23, .func (PySem.W.fnOf "turns_of" "turns_of" (defArgs s_turns_of) (defBody s_turns_of) (defScope s_turns_of) .none kV23 dc23 pm23 an23 cd23 ct23), sl23⟩) (c23 : PySem.W.codeIn K cd23 "turns_of" = true) (k23 : PySem.W.keepIn K (.ref f23) = true)
    {f24 : Addr} {oc24 kV24 dc24 pm24 cd24 ct24 : Value} {od24 an24 : Option Addr} {sl24 : Array (Option Value)}
    (a24 : PySem.W.nsIn K mainGlobals "cells_of" = some (some (.ref f24))) (l24 : K.lookup f24 = some ⟨oc24, od24, .func (PySem.W.fnOf "cells_of" "cells_of" (defArgs s_cells_of) (defBody s_cells_of) (defScope s_cells_of) .none kV24 dc24 pm24 an24 cd24 ct24), sl24⟩) (c24 : PySem.W.codeIn K cd24 "cells_of" = true) (k24 : PySem.W.keepIn K (.ref f24) = true)
    {f25 : Addr} {oc25 kV25 dc25 pm25 cd25 ct25 : Value} {od25 an25 : Option Addr} {sl25 : Array (Option Value)}
    (a25 : PySem.W.nsIn K mainGlobals "do_meet" = some (some (.ref f25))) (l25 : K.lookup f25 = some ⟨oc25, od25, .func (PySem.W.fnOf "do_meet" "do_meet" (defArgs s_do_meet) (defBody s_do_meet) (defScope s_do_meet) .none kV25 dc25 pm25 an25 cd25 ct25), sl25⟩) (c25 : PySem.W.codeIn K cd25 "do_meet" = true) (k25 : PySem.W.keepIn K (.ref f25) = true)
    {f26 : Addr} {oc26 kV26 dc26 pm26 cd26 ct26 : Value} {od26 an26 : Option Addr} {sl26 : Array (Option Value)}
    (a26 : PySem.W.nsIn K mainGlobals "waits" = some (some (.ref f26))) (l26 : K.lookup f26 = some ⟨oc26, od26, .func (PySem.W.fnOf "waits" "waits" (defArgs s_waits) (defBody s_waits) (defScope s_waits) .none kV26 dc26 pm26 an26 cd26 ct26), sl26⟩) (c26 : PySem.W.codeIn K cd26 "waits" = true) (k26 : PySem.W.keepIn K (.ref f26) = true)
    {f27 : Addr} {oc27 kV27 dc27 pm27 cd27 ct27 : Value} {od27 an27 : Option Addr} {sl27 : Array (Option Value)}
    (a27 : PySem.W.nsIn K mainGlobals "may_go" = some (some (.ref f27))) (l27 : K.lookup f27 = some ⟨oc27, od27, .func (PySem.W.fnOf "may_go" "may_go" (defArgs s_may_go) (defBody s_may_go) (defScope s_may_go) .none kV27 dc27 pm27 an27 cd27 ct27), sl27⟩) (c27 : PySem.W.codeIn K cd27 "may_go" = true) (k27 : PySem.W.keepIn K (.ref f27) = true)
    {f28 : Addr} {oc28 kV28 dc28 pm28 cd28 ct28 : Value} {od28 an28 : Option Addr} {sl28 : Array (Option Value)}
    (a28 : PySem.W.nsIn K mainGlobals "least_order" = some (some (.ref f28))) (l28 : K.lookup f28 = some ⟨oc28, od28, .func (PySem.W.fnOf "least_order" "least_order" (defArgs s_least_order) (defBody s_least_order) (defScope s_least_order) .none kV28 dc28 pm28 an28 cd28 ct28), sl28⟩) (c28 : PySem.W.codeIn K cd28 "least_order" = true) (k28 : PySem.W.keepIn K (.ref f28) = true)
    {f29 : Addr} {oc29 kV29 dc29 pm29 cd29 ct29 : Value} {od29 an29 : Option Addr} {sl29 : Array (Option Value)}
    (a29 : PySem.W.nsIn K mainGlobals "least_turns" = some (some (.ref f29))) (l29 : K.lookup f29 = some ⟨oc29, od29, .func (PySem.W.fnOf "least_turns" "least_turns" (defArgs s_least_turns) (defBody s_least_turns) (defScope s_least_turns) .none kV29 dc29 pm29 an29 cd29 ct29), sl29⟩) (c29 : PySem.W.codeIn K cd29 "least_turns" = true) (k29 : PySem.W.keepIn K (.ref f29) = true)
    {f30 : Addr} {oc30 kV30 dc30 pm30 cd30 ct30 : Value} {od30 an30 : Option Addr} {sl30 : Array (Option Value)}
    (a30 : PySem.W.nsIn K mainGlobals "how_many" = some (some (.ref f30))) (l30 : K.lookup f30 = some ⟨oc30, od30, .func (PySem.W.fnOf "how_many" "how_many" (defArgs s_how_many) (defBody s_how_many) (defScope s_how_many) .none kV30 dc30 pm30 an30 cd30 ct30), sl30⟩) (c30 : PySem.W.codeIn K cd30 "how_many" = true) (k30 : PySem.W.keepIn K (.ref f30) = true)
    {f31 : Addr} {oc31 kV31 dc31 pm31 cd31 ct31 : Value} {od31 an31 : Option Addr} {sl31 : Array (Option Value)}
    (a31 : PySem.W.nsIn K mainGlobals "_law_cell" = some (some (.ref f31))) (l31 : K.lookup f31 = some ⟨oc31, od31, .func (PySem.W.fnOf "_law_cell" "_law_cell" (defArgs s__law_cell) (defBody s__law_cell) (defScope s__law_cell) .none kV31 dc31 pm31 an31 cd31 ct31), sl31⟩) (c31 : PySem.W.codeIn K cd31 "_law_cell" = true) (k31 : PySem.W.keepIn K (.ref f31) = true)
    {f32 : Addr} {oc32 kV32 dc32 pm32 cd32 ct32 : Value} {od32 an32 : Option Addr} {sl32 : Array (Option Value)}
    (a32 : PySem.W.nsIn K mainGlobals "_law_pen" = some (some (.ref f32))) (l32 : K.lookup f32 = some ⟨oc32, od32, .func (PySem.W.fnOf "_law_pen" "_law_pen" (defArgs s__law_pen) (defBody s__law_pen) (defScope s__law_pen) .none kV32 dc32 pm32 an32 cd32 ct32), sl32⟩) (c32 : PySem.W.codeIn K cd32 "_law_pen" = true) (k32 : PySem.W.keepIn K (.ref f32) = true)
    {f33 : Addr} {oc33 kV33 dc33 pm33 cd33 ct33 : Value} {od33 an33 : Option Addr} {sl33 : Array (Option Value)}
    (a33 : PySem.W.nsIn K mainGlobals "_law_draw" = some (some (.ref f33))) (l33 : K.lookup f33 = some ⟨oc33, od33, .func (PySem.W.fnOf "_law_draw" "_law_draw" (defArgs s__law_draw) (defBody s__law_draw) (defScope s__law_draw) .none kV33 dc33 pm33 an33 cd33 ct33), sl33⟩) (c33 : PySem.W.codeIn K cd33 "_law_draw" = true) (k33 : PySem.W.keepIn K (.ref f33) = true)
    {f34 : Addr} {oc34 kV34 dc34 pm34 cd34 ct34 : Value} {od34 an34 : Option Addr} {sl34 : Array (Option Value)}
    (a34 : PySem.W.nsIn K mainGlobals "_law_pick" = some (some (.ref f34))) (l34 : K.lookup f34 = some ⟨oc34, od34, .func (PySem.W.fnOf "_law_pick" "_law_pick" (defArgs s__law_pick) (defBody s__law_pick) (defScope s__law_pick) .none kV34 dc34 pm34 an34 cd34 ct34), sl34⟩) (c34 : PySem.W.codeIn K cd34 "_law_pick" = true) (k34 : PySem.W.keepIn K (.ref f34) = true)
    {f35 : Addr} {oc35 kV35 dc35 pm35 cd35 ct35 : Value} {od35 an35 : Option Addr} {sl35 : Array (Option Value)}
    (a35 : PySem.W.nsIn K mainGlobals "_law_beside" = some (some (.ref f35))) (l35 : K.lookup f35 = some ⟨oc35, od35, .func (PySem.W.fnOf "_law_beside" "_law_beside" (defArgs s__law_beside) (defBody s__law_beside) (defScope s__law_beside) .none kV35 dc35 pm35 an35 cd35 ct35), sl35⟩) (c35 : PySem.W.codeIn K cd35 "_law_beside" = true) (k35 : PySem.W.keepIn K (.ref f35) = true)
    {f36 : Addr} {oc36 kV36 dc36 pm36 cd36 ct36 : Value} {od36 an36 : Option Addr} {sl36 : Array (Option Value)}
    (a36 : PySem.W.nsIn K mainGlobals "_law_others" = some (some (.ref f36))) (l36 : K.lookup f36 = some ⟨oc36, od36, .func (PySem.W.fnOf "_law_others" "_law_others" (defArgs s__law_others) (defBody s__law_others) (defScope s__law_others) .none kV36 dc36 pm36 an36 cd36 ct36), sl36⟩) (c36 : PySem.W.codeIn K cd36 "_law_others" = true) (k36 : PySem.W.keepIn K (.ref f36) = true)
    {f37 : Addr} {oc37 kV37 dc37 pm37 cd37 ct37 : Value} {od37 an37 : Option Addr} {sl37 : Array (Option Value)}
    (a37 : PySem.W.nsIn K mainGlobals "_law_floor" = some (some (.ref f37))) (l37 : K.lookup f37 = some ⟨oc37, od37, .func (PySem.W.fnOf "_law_floor" "_law_floor" (defArgs s__law_floor) (defBody s__law_floor) (defScope s__law_floor) .none kV37 dc37 pm37 an37 cd37 ct37), sl37⟩) (c37 : PySem.W.codeIn K cd37 "_law_floor" = true) (k37 : PySem.W.keepIn K (.ref f37) = true)
    {f38 : Addr} {oc38 kV38 dc38 pm38 cd38 ct38 : Value} {od38 an38 : Option Addr} {sl38 : Array (Option Value)}
    (a38 : PySem.W.nsIn K mainGlobals "_law_rolled" = some (some (.ref f38))) (l38 : K.lookup f38 = some ⟨oc38, od38, .func (PySem.W.fnOf "_law_rolled" "_law_rolled" (defArgs s__law_rolled) (defBody s__law_rolled) (defScope s__law_rolled) .none kV38 dc38 pm38 an38 cd38 ct38), sl38⟩) (c38 : PySem.W.codeIn K cd38 "_law_rolled" = true) (k38 : PySem.W.keepIn K (.ref f38) = true)
    {f39 : Addr} {oc39 kV39 dc39 pm39 cd39 ct39 : Value} {od39 an39 : Option Addr} {sl39 : Array (Option Value)}
    (a39 : PySem.W.nsIn K mainGlobals "_law_lying" = some (some (.ref f39))) (l39 : K.lookup f39 = some ⟨oc39, od39, .func (PySem.W.fnOf "_law_lying" "_law_lying" (defArgs s__law_lying) (defBody s__law_lying) (defScope s__law_lying) .none kV39 dc39 pm39 an39 cd39 ct39), sl39⟩) (c39 : PySem.W.codeIn K cd39 "_law_lying" = true) (k39 : PySem.W.keepIn K (.ref f39) = true)
    {f40 : Addr} {oc40 kV40 dc40 pm40 cd40 ct40 : Value} {od40 an40 : Option Addr} {sl40 : Array (Option Value)}
    (a40 : PySem.W.nsIn K mainGlobals "_law_pair" = some (some (.ref f40))) (l40 : K.lookup f40 = some ⟨oc40, od40, .func (PySem.W.fnOf "_law_pair" "_law_pair" (defArgs s__law_pair) (defBody s__law_pair) (defScope s__law_pair) .none kV40 dc40 pm40 an40 cd40 ct40), sl40⟩) (c40 : PySem.W.codeIn K cd40 "_law_pair" = true) (k40 : PySem.W.keepIn K (.ref f40) = true)
    {f41 : Addr} {oc41 kV41 dc41 pm41 cd41 ct41 : Value} {od41 an41 : Option Addr} {sl41 : Array (Option Value)}
    (a41 : PySem.W.nsIn K mainGlobals "_law_on" = some (some (.ref f41))) (l41 : K.lookup f41 = some ⟨oc41, od41, .func (PySem.W.fnOf "_law_on" "_law_on" (defArgs s__law_on) (defBody s__law_on) (defScope s__law_on) .none kV41 dc41 pm41 an41 cd41 ct41), sl41⟩) (c41 : PySem.W.codeIn K cd41 "_law_on" = true) (k41 : PySem.W.keepIn K (.ref f41) = true)
    {f42 : Addr} {oc42 kV42 dc42 pm42 cd42 ct42 : Value} {od42 an42 : Option Addr} {sl42 : Array (Option Value)}
    (a42 : PySem.W.nsIn K mainGlobals "_law_is_let" = some (some (.ref f42))) (l42 : K.lookup f42 = some ⟨oc42, od42, .func (PySem.W.fnOf "_law_is_let" "_law_is_let" (defArgs s__law_is_let) (defBody s__law_is_let) (defScope s__law_is_let) .none kV42 dc42 pm42 an42 cd42 ct42), sl42⟩) (c42 : PySem.W.codeIn K cd42 "_law_is_let" = true) (k42 : PySem.W.keepIn K (.ref f42) = true)
    {f43 : Addr} {oc43 kV43 dc43 pm43 cd43 ct43 : Value} {od43 an43 : Option Addr} {sl43 : Array (Option Value)}
    (a43 : PySem.W.nsIn K mainGlobals "_law_all_turns" = some (some (.ref f43))) (l43 : K.lookup f43 = some ⟨oc43, od43, .func (PySem.W.fnOf "_law_all_turns" "_law_all_turns" (defArgs s__law_all_turns) (defBody s__law_all_turns) (defScope s__law_all_turns) .none kV43 dc43 pm43 an43 cd43 ct43), sl43⟩) (c43 : PySem.W.codeIn K cd43 "_law_all_turns" = true) (k43 : PySem.W.keepIn K (.ref f43) = true)
    {f44 : Addr} {oc44 kV44 dc44 pm44 cd44 ct44 : Value} {od44 an44 : Option Addr} {sl44 : Array (Option Value)}
    (a44 : PySem.W.nsIn K mainGlobals "_law_turns" = some (some (.ref f44))) (l44 : K.lookup f44 = some ⟨oc44, od44, .func (PySem.W.fnOf "_law_turns" "_law_turns" (defArgs s__law_turns) (defBody s__law_turns) (defScope s__law_turns) .none kV44 dc44 pm44 an44 cd44 ct44), sl44⟩) (c44 : PySem.W.codeIn K cd44 "_law_turns" = true) (k44 : PySem.W.keepIn K (.ref f44) = true)
    {f45 : Addr} {oc45 kV45 dc45 pm45 cd45 ct45 : Value} {od45 an45 : Option Addr} {sl45 : Array (Option Value)}
    (a45 : PySem.W.nsIn K mainGlobals "_law_named_otherwise" = some (some (.ref f45))) (l45 : K.lookup f45 = some ⟨oc45, od45, .func (PySem.W.fnOf "_law_named_otherwise" "_law_named_otherwise" (defArgs s__law_named_otherwise) (defBody s__law_named_otherwise) (defScope s__law_named_otherwise) .none kV45 dc45 pm45 an45 cd45 ct45), sl45⟩) (c45 : PySem.W.codeIn K cd45 "_law_named_otherwise" = true) (k45 : PySem.W.keepIn K (.ref f45) = true)
    {f46 : Addr} {oc46 kV46 dc46 pm46 cd46 ct46 : Value} {od46 an46 : Option Addr} {sl46 : Array (Option Value)}
    (a46 : PySem.W.nsIn K mainGlobals "_law_firsts" = some (some (.ref f46))) (l46 : K.lookup f46 = some ⟨oc46, od46, .func (PySem.W.fnOf "_law_firsts" "_law_firsts" (defArgs s__law_firsts) (defBody s__law_firsts) (defScope s__law_firsts) .none kV46 dc46 pm46 an46 cd46 ct46), sl46⟩) (c46 : PySem.W.codeIn K cd46 "_law_firsts" = true) (k46 : PySem.W.keepIn K (.ref f46) = true)
    {f47 : Addr} {oc47 kV47 dc47 pm47 cd47 ct47 : Value} {od47 an47 : Option Addr} {sl47 : Array (Option Value)}
    (a47 : PySem.W.nsIn K mainGlobals "_law_sum_right" = some (some (.ref f47))) (l47 : K.lookup f47 = some ⟨oc47, od47, .func (PySem.W.fnOf "_law_sum_right" "_law_sum_right" (defArgs s__law_sum_right) (defBody s__law_sum_right) (defScope s__law_sum_right) .none kV47 dc47 pm47 an47 cd47 ct47), sl47⟩) (c47 : PySem.W.codeIn K cd47 "_law_sum_right" = true) (k47 : PySem.W.keepIn K (.ref f47) = true)
    {f48 : Addr} {oc48 kV48 dc48 pm48 cd48 ct48 : Value} {od48 an48 : Option Addr} {sl48 : Array (Option Value)}
    (a48 : PySem.W.nsIn K mainGlobals "_law_apart_right" = some (some (.ref f48))) (l48 : K.lookup f48 = some ⟨oc48, od48, .func (PySem.W.fnOf "_law_apart_right" "_law_apart_right" (defArgs s__law_apart_right) (defBody s__law_apart_right) (defScope s__law_apart_right) .none kV48 dc48 pm48 an48 cd48 ct48), sl48⟩) (c48 : PySem.W.codeIn K cd48 "_law_apart_right" = true) (k48 : PySem.W.keepIn K (.ref f48) = true)
    {f49 : Addr} {oc49 kV49 dc49 pm49 cd49 ct49 : Value} {od49 an49 : Option Addr} {sl49 : Array (Option Value)}
    (a49 : PySem.W.nsIn K mainGlobals "law" = some (some (.ref f49))) (l49 : K.lookup f49 = some ⟨oc49, od49, .func (PySem.W.fnOf "law" "law" (defArgs s_law) (defBody s_law) (defScope s_law) .none kV49 dc49 pm49 an49 cd49 ct49), sl49⟩) (c49 : PySem.W.codeIn K cd49 "law" = true) (k49 : PySem.W.keepIn K (.ref f49) = true)
    (z_isinstance : PySem.W.nsIn K mainGlobals "isinstance" = some none)
    (z_bool : PySem.W.nsIn K mainGlobals "bool" = some none)
    (z_int : PySem.W.nsIn K mainGlobals "int" = some none)
    (z_len : PySem.W.nsIn K mainGlobals "len" = some none)
    (z_tuple : PySem.W.nsIn K mainGlobals "tuple" = some none)
    (z_all : PySem.W.nsIn K mainGlobals "all" = some none)
    (z_zip : PySem.W.nsIn K mainGlobals "zip" = some none)
    (z_str : PySem.W.nsIn K mainGlobals "str" = some none)
    (z_list : PySem.W.nsIn K mainGlobals "list" = some none)
    (z_enumerate : PySem.W.nsIn K mainGlobals "enumerate" = some none)
    (z_max : PySem.W.nsIn K mainGlobals "max" = some none)
    (z_range : PySem.W.nsIn K mainGlobals "range" = some none)
    (z_sorted : PySem.W.nsIn K mainGlobals "sorted" = some none)
    (z_min : PySem.W.nsIn K mainGlobals "min" = some none)
    {u_LAST_LINE : Value} (ca_LAST_LINE : PySem.W.nsIn K mainGlobals "LAST_LINE" = some (some u_LAST_LINE)) (cb_LAST_LINE : kvB K 9 u_LAST_LINE v_LAST_LINE = true)
    {u_MOST_CELLS : Value} (ca_MOST_CELLS : PySem.W.nsIn K mainGlobals "MOST_CELLS" = some (some u_MOST_CELLS)) (cb_MOST_CELLS : kvB K 9 u_MOST_CELLS v_MOST_CELLS = true)
    {u_LYINGS : Value} (ca_LYINGS : PySem.W.nsIn K mainGlobals "LYINGS" = some (some u_LYINGS)) (cb_LYINGS : kvB K 9 u_LYINGS v_LYINGS = true)
    {u_OPPOSITE_SUM : Value} (ca_OPPOSITE_SUM : PySem.W.nsIn K mainGlobals "OPPOSITE_SUM" = some (some u_OPPOSITE_SUM)) (cb_OPPOSITE_SUM : kvB K 9 u_OPPOSITE_SUM v_OPPOSITE_SUM = true)
    {u_LETTERS : Value} (ca_LETTERS : PySem.W.nsIn K mainGlobals "LETTERS" = some (some u_LETTERS)) (cb_LETTERS : kvB K 9 u_LETTERS v_LETTERS = true)
    {u_LAST_CUBE : Value} (ca_LAST_CUBE : PySem.W.nsIn K mainGlobals "LAST_CUBE" = some (some u_LAST_CUBE)) (cb_LAST_CUBE : kvB K 9 u_LAST_CUBE v_LAST_CUBE = true)
    {u_MOST_TURNS : Value} (ca_MOST_TURNS : PySem.W.nsIn K mainGlobals "MOST_TURNS" = some (some u_MOST_TURNS)) (cb_MOST_TURNS : kvB K 9 u_MOST_TURNS v_MOST_TURNS = true)
    {d_STEPS : Addr} {es_STEPS : Array DictEntry} {n_STEPS : Nat} (da_STEPS : PySem.W.nsIn K mainGlobals "STEPS" = some (some (.ref d_STEPS))) (dl_STEPS : K.lookup d_STEPS = some ⟨.type "dict", none, .dict es_STEPS n_STEPS, #[]⟩) (dk_STEPS : PySem.W.KeysLit w.params es_STEPS.toList) (db_STEPS : kdB K d_STEPS v_STEPS = true) :
    ∃ fd : FuncData, (∀ (s : Shared) (v : Value), BindsTo s fd ⟨[v], []⟩ [("_law_script", v)]) ∧ ∀ base : Heap, K.In base → base.Ns mainGlobals mg → FnOk P w K mg base CX0 12 fa fd ["_law_script"] (spF K f_law 1) := by
  have e := hfa.symm.trans (PySem.W.mg_of X G a49)
  cases e
  have Z_isinstance := PySem.W.mg_none_of X G z_isinstance
  have Z_bool := PySem.W.mg_none_of X G z_bool
  have Z_int := PySem.W.mg_none_of X G z_int
  have Z_len := PySem.W.mg_none_of X G z_len
  have Z_tuple := PySem.W.mg_none_of X G z_tuple
  have Z_all := PySem.W.mg_none_of X G z_all
  have Z_zip := PySem.W.mg_none_of X G z_zip
  have Z_str := PySem.W.mg_none_of X G z_str
  have Z_list := PySem.W.mg_none_of X G z_list
  have Z_enumerate := PySem.W.mg_none_of X G z_enumerate
  have Z_max := PySem.W.mg_none_of X G z_max
  have Z_range := PySem.W.mg_none_of X G z_range
  have Z_sorted := PySem.W.mg_none_of X G z_sorted
  have Z_min := PySem.W.mg_none_of X G z_min
  have C_LAST_LINE : KC K mg "LAST_LINE" v_LAST_LINE := kc_by X G ca_LAST_LINE cb_LAST_LINE
  have C_MOST_CELLS : KC K mg "MOST_CELLS" v_MOST_CELLS := kc_by X G ca_MOST_CELLS cb_MOST_CELLS
  have C_LYINGS : KC K mg "LYINGS" v_LYINGS := kc_by X G ca_LYINGS cb_LYINGS
  have C_OPPOSITE_SUM : KC K mg "OPPOSITE_SUM" v_OPPOSITE_SUM := kc_by X G ca_OPPOSITE_SUM cb_OPPOSITE_SUM
  have C_LETTERS : KC K mg "LETTERS" v_LETTERS := kc_by X G ca_LETTERS cb_LETTERS
  have C_LAST_CUBE : KC K mg "LAST_CUBE" v_LAST_CUBE := kc_by X G ca_LAST_CUBE cb_LAST_CUBE
  have C_MOST_TURNS : KC K mg "MOST_TURNS" v_MOST_TURNS := kc_by X G ca_MOST_TURNS cb_MOST_TURNS
  have D_STEPS : KD K w mg "STEPS" v_STEPS := kd_mk X G da_STEPS dl_STEPS dk_STEPS db_STEPS
  have A_is_whole : At0 K mg "is_whole" s_is_whole ["thing", "most"] := at0_mk X G a0 l0 c0 k0 fun _ _ _ _ _ _ us hl => match us, hl with | [_, _], _ => rfl
  have A_is_cell : At0 K mg "is_cell" s_is_cell ["thing"] := at0_mk X G a1 l1 c1 k1 fun _ _ _ _ _ _ us hl => match us, hl with | [_], _ => rfl
  have A_is_rising : At0 K mg "is_rising" s_is_rising ["things"] := at0_mk X G a2 l2 c2 k2 fun _ _ _ _ _ _ us hl => match us, hl with | [_], _ => rfl
  have A_is_floor : At0 K mg "is_floor" s_is_floor ["thing"] := at0_mk X G a3 l3 c3 k3 fun _ _ _ _ _ _ us hl => match us, hl with | [_], _ => rfl
  have A_is_cell_of : At0 K mg "is_cell_of" s_is_cell_of ["floor", "thing"] := at0_mk X G a4 l4 c4 k4 fun _ _ _ _ _ _ us hl => match us, hl with | [_, _], _ => rfl
  have A_is_lying : At0 K mg "is_lying" s_is_lying ["thing"] := at0_mk X G a5 l5 c5 k5 fun _ _ _ _ _ _ us hl => match us, hl with | [_], _ => rfl
  have A_is_stand : At0 K mg "is_stand" s_is_stand ["floor", "thing"] := at0_mk X G a6 l6 c6 k6 fun _ _ _ _ _ _ us hl => match us, hl with | [_, _], _ => rfl
  have A_is_letter : At0 K mg "is_letter" s_is_letter ["thing"] := at0_mk X G a7 l7 c7 k7 fun _ _ _ _ _ _ us hl => match us, hl with | [_], _ => rfl
  have A_need_floor : At0 K mg "need_floor" s_need_floor ["floor"] := at0_mk X G a8 l8 c8 k8 fun _ _ _ _ _ _ us hl => match us, hl with | [_], _ => rfl
  have A_rolled_cell : At0 K mg "rolled_cell" s_rolled_cell ["cell", "letter"] := at0_mk X G a9 l9 c9 k9 fun _ _ _ _ _ _ us hl => match us, hl with | [_, _], _ => rfl
  have A_rolled_lying : At0 K mg "rolled_lying" s_rolled_lying ["lying", "letter"] := at0_mk X G a10 l10 c10 k10 fun _ _ _ _ _ _ us hl => match us, hl with | [_, _], _ => rfl
  have A_rolled_stand : At0 K mg "rolled_stand" s_rolled_stand ["stand", "letter"] := at0_mk X G a11 l11 c11 k11 fun _ _ _ _ _ _ us hl => match us, hl with | [_, _], _ => rfl
  have A_is_pair : At0 K mg "is_pair" s_is_pair ["floor", "thing"] := at0_mk X G a12 l12 c12 k12 fun _ _ _ _ _ _ us hl => match us, hl with | [_, _], _ => rfl
  have A_is_turn : At0 K mg "is_turn" s_is_turn ["thing"] := at0_mk X G a13 l13 c13 k13 fun _ _ _ _ _ _ us hl => match us, hl with | [_], _ => rfl
  have A_is_turns : At0 K mg "is_turns" s_is_turns ["thing"] := at0_mk X G a14 l14 c14 k14 fun _ _ _ _ _ _ us hl => match us, hl with | [_], _ => rfl
  have A_need_pair : At0 K mg "need_pair" s_need_pair ["floor", "pair"] := at0_mk X G a15 l15 c15 k15 fun _ _ _ _ _ _ us hl => match us, hl with | [_, _], _ => rfl
  have A_need_turns : At0 K mg "need_turns" s_need_turns ["turns"] := at0_mk X G a16 l16 c16 k16 fun _ _ _ _ _ _ us hl => match us, hl with | [_], _ => rfl
  have A_rolled_pair : At0 K mg "rolled_pair" s_rolled_pair ["pair", "turn"] := at0_mk X G a17 l17 c17 k17 fun _ _ _ _ _ _ us hl => match us, hl with | [_, _], _ => rfl
  have A_pairs_on : At0 K mg "pairs_on" s_pairs_on ["pair", "turns"] := at0_mk X G a18 l18 c18 k18 fun _ _ _ _ _ _ us hl => match us, hl with | [_, _], _ => rfl
  have A_place_stop : At0 K mg "place_stop" s_place_stop ["floor", "pair", "turns"] := at0_mk X G a19 l19 c19 k19 fun _ _ _ _ _ _ us hl => match us, hl with | [_, _, _], _ => rfl
  have A_need_let_turns : At0 K mg "need_let_turns" s_need_let_turns ["floor", "pair", "turns"] := at0_mk X G a20 l20 c20 k20 fun _ _ _ _ _ _ us hl => match us, hl with | [_, _, _], _ => rfl
  have A_need_taken : At0 K mg "need_taken" s_need_taken ["floor", "pair", "turns"] := at0_mk X G a21 l21 c21 k21 fun _ _ _ _ _ _ us hl => match us, hl with | [_, _, _], _ => rfl
  have A_pair_behind : At0 K mg "pair_behind" s_pair_behind ["floor", "pair", "turns"] := at0_mk X G a22 l22 c22 k22 fun _ _ _ _ _ _ us hl => match us, hl with | [_, _, _], _ => rfl
  have A_turns_of : At0 K mg "turns_of" s_turns_of ["turns", "cube"] := at0_mk X G a23 l23 c23 k23 fun _ _ _ _ _ _ us hl => match us, hl with | [_, _], _ => rfl
  have A_cells_of : At0 K mg "cells_of" s_cells_of ["pair", "turns"] := at0_mk X G a24 l24 c24 k24 fun _ _ _ _ _ _ us hl => match us, hl with | [_, _], _ => rfl
  have A_do_meet : At0 K mg "do_meet" s_do_meet ["one", "other"] := at0_mk X G a25 l25 c25 k25 fun _ _ _ _ _ _ us hl => match us, hl with | [_, _], _ => rfl
  have A_waits : At0 K mg "waits" s_waits ["pair", "turns"] := at0_mk X G a26 l26 c26 k26 fun _ _ _ _ _ _ us hl => match us, hl with | [_, _], _ => rfl
  have A_may_go : At0 K mg "may_go" s_may_go ["waited", "done", "cube"] := at0_mk X G a27 l27 c27 k27 fun _ _ _ _ _ _ us hl => match us, hl with | [_, _, _], _ => rfl
  have A_least_order : At0 K mg "least_order" s_least_order ["pair", "turns"] := at0_mk X G a28 l28 c28 k28 fun _ _ _ _ _ _ us hl => match us, hl with | [_, _], _ => rfl
  have A_least_turns : At0 K mg "least_turns" s_least_turns ["floor", "pair", "turns"] := at0_mk X G a29 l29 c29 k29 fun _ _ _ _ _ _ us hl => match us, hl with | [_, _, _], _ => rfl
  have A_how_many : At0 K mg "how_many" s_how_many ["floor", "pair", "turns"] := at0_mk X G a30 l30 c30 k30 fun _ _ _ _ _ _ us hl => match us, hl with | [_, _, _], _ => rfl
  have A__law_cell : At0 K mg "_law_cell" s__law_cell ["_law_script", "_law_k"] := at0_mk X G a31 l31 c31 k31 fun _ _ _ _ _ _ us hl => match us, hl with | [_, _], _ => rfl
  have A__law_pen : At0 K mg "_law_pen" s__law_pen ["_law_cell_here"] := at0_mk X G a32 l32 c32 k32 fun _ _ _ _ _ _ us hl => match us, hl with | [_], _ => rfl
  have A__law_draw : At0 K mg "_law_draw" s__law_draw ["_law_pen_here", "_law_many"] := at0_mk X G a33 l33 c33 k33 fun _ _ _ _ _ _ us hl => match us, hl with | [_, _], _ => rfl
  have A__law_pick : At0 K mg "_law_pick" s__law_pick ["_law_pen_here", "_law_things"] := at0_mk X G a34 l34 c34 k34 fun _ _ _ _ _ _ us hl => match us, hl with | [_, _], _ => rfl
  have A__law_beside : At0 K mg "_law_beside" s__law_beside ["_law_cell_here", "_law_letter"] := at0_mk X G a35 l35 c35 k35 fun _ _ _ _ _ _ us hl => match us, hl with | [_, _], _ => rfl
  have A__law_others : At0 K mg "_law_others" s__law_others ["_law_cells"] := at0_mk X G a36 l36 c36 k36 fun _ _ _ _ _ _ us hl => match us, hl with | [_], _ => rfl
  have A__law_floor : At0 K mg "_law_floor" s__law_floor ["_law_pen_here", "_law_least", "_law_most"] := at0_mk X G a37 l37 c37 k37 fun _ _ _ _ _ _ us hl => match us, hl with | [_, _, _], _ => rfl
  have A__law_rolled : At0 K mg "_law_rolled" s__law_rolled ["_law_lying_here", "_law_letter"] := at0_mk X G a38 l38 c38 k38 fun _ _ _ _ _ _ us hl => match us, hl with | [_, _], _ => rfl
  have A__law_lying : At0 K mg "_law_lying" s__law_lying ["_law_pen_here"] := at0_mk X G a39 l39 c39 k39 fun _ _ _ _ _ _ us hl => match us, hl with | [_], _ => rfl
  have A__law_pair : At0 K mg "_law_pair" s__law_pair ["_law_pen_here", "_law_floor_here"] := at0_mk X G a40 l40 c40 k40 fun _ _ _ _ _ _ us hl => match us, hl with | [_, _], _ => rfl
  have A__law_on : At0 K mg "_law_on" s__law_on ["_law_cells", "_law_turn"] := at0_mk X G a41 l41 c41 k41 fun _ _ _ _ _ _ us hl => match us, hl with | [_, _], _ => rfl
  have A__law_is_let : At0 K mg "_law_is_let" s__law_is_let ["_law_floor_here", "_law_cells", "_law_turn"] := at0_mk X G a42 l42 c42 k42 fun _ _ _ _ _ _ us hl => match us, hl with | [_, _, _], _ => rfl
  have A__law_all_turns : At0 K mg "_law_all_turns" s__law_all_turns [] := at0_mk X G a43 l43 c43 k43 fun _ _ _ _ _ _ us hl => match us, hl with | [], _ => rfl
  have A__law_turns : At0 K mg "_law_turns" s__law_turns ["_law_pen_here", "_law_floor_here", "_law_pair_here", "_law_many"] := at0_mk X G a44 l44 c44 k44 fun _ _ _ _ _ _ us hl => match us, hl with | [_, _, _, _], _ => rfl
  have A__law_named_otherwise : At0 K mg "_law_named_otherwise" s__law_named_otherwise ["_law_turns_here"] := at0_mk X G a45 l45 c45 k45 fun _ _ _ _ _ _ us hl => match us, hl with | [_], _ => rfl
  have A__law_firsts : At0 K mg "_law_firsts" s__law_firsts ["_law_floor_here", "_law_pair_here", "_law_turns_here"] := at0_mk X G a46 l46 c46 k46 fun _ _ _ _ _ _ us hl => match us, hl with | [_, _, _], _ => rfl
  have A__law_sum_right : At0 K mg "_law_sum_right" s__law_sum_right ["_law_floor_here", "_law_pair_here", "_law_turns_here"] := at0_mk X G a47 l47 c47 k47 fun _ _ _ _ _ _ us hl => match us, hl with | [_, _, _], _ => rfl
  have A__law_apart_right : At0 K mg "_law_apart_right" s__law_apart_right ["_law_pen_here"] := at0_mk X G a48 l48 c48 k48 fun _ _ _ _ _ _ us hl => match us, hl with | [_], _ => rfl
  refine ⟨PySem.W.fnOf "law" "law" (defArgs s_law) (defBody s_law) (defScope s_law) .none kV49 dc49 pm49 an49 cd49 ct49, fun s v => .of_eq rfl, fun base _ _ => ?_⟩
  have H_is_whole : Has P w K mg base "is_whole" 2 f_is_whole 1 := p_is_whole A_is_whole Z_isinstance Z_bool Z_int
  have H_is_cell : Has P w K mg base "is_cell" 1 f_is_cell 2 := p_is_cell A_is_cell H_is_whole Z_len Z_isinstance Z_tuple C_LAST_LINE
  have H_is_rising : Has P w K mg base "is_rising" 1 f_is_rising 1 := p_is_rising A_is_rising Z_all Z_zip
  have H_is_floor : Has P w K mg base "is_floor" 1 f_is_floor 3 := p_is_floor A_is_floor H_is_rising H_is_cell Z_len Z_isinstance Z_tuple Z_all C_MOST_CELLS
  have H_is_cell_of : Has P w K mg base "is_cell_of" 2 f_is_cell_of 3 := p_is_cell_of A_is_cell_of H_is_cell
  have H_is_lying : Has P w K mg base "is_lying" 1 f_is_lying 2 := p_is_lying A_is_lying H_is_whole Z_isinstance Z_tuple Z_all C_LYINGS C_OPPOSITE_SUM
  have H_is_stand : Has P w K mg base "is_stand" 2 f_is_stand 4 := p_is_stand A_is_stand H_is_lying H_is_cell_of Z_len Z_isinstance Z_tuple
  have H_is_letter : Has P w K mg base "is_letter" 1 f_is_letter 1 := p_is_letter A_is_letter Z_isinstance Z_str C_LETTERS
  have H_need_floor : Has P w K mg base "need_floor" 1 f_need_floor 4 := p_need_floor A_need_floor H_is_floor
  have H_rolled_cell : Has P w K mg base "rolled_cell" 2 f_rolled_cell 1 := p_rolled_cell A_rolled_cell D_STEPS
  have H_rolled_lying : Has P w K mg base "rolled_lying" 2 f_rolled_lying 1 := p_rolled_lying A_rolled_lying C_OPPOSITE_SUM
  have H_rolled_stand : Has P w K mg base "rolled_stand" 2 f_rolled_stand 2 := p_rolled_stand A_rolled_stand H_rolled_lying H_rolled_cell
  have H_is_pair : Has P w K mg base "is_pair" 2 f_is_pair 5 := p_is_pair A_is_pair H_is_stand Z_len Z_isinstance Z_tuple Z_all
  have H_is_turn : Has P w K mg base "is_turn" 1 f_is_turn 2 := p_is_turn A_is_turn H_is_letter H_is_whole Z_len Z_isinstance Z_tuple C_LAST_CUBE
  have H_is_turns : Has P w K mg base "is_turns" 1 f_is_turns 3 := p_is_turns A_is_turns H_is_turn Z_len Z_isinstance Z_tuple Z_all C_MOST_TURNS
  have H_need_pair : Has P w K mg base "need_pair" 2 f_need_pair 6 := p_need_pair A_need_pair H_is_pair
  have H_need_turns : Has P w K mg base "need_turns" 1 f_need_turns 4 := p_need_turns A_need_turns H_is_turns
  have H_rolled_pair : Has P w K mg base "rolled_pair" 2 f_rolled_pair 3 := p_rolled_pair A_rolled_pair H_rolled_stand Z_list Z_tuple
  have H_pairs_on : Has P w K mg base "pairs_on" 2 f_pairs_on 4 := p_pairs_on A_pairs_on H_rolled_pair
  have H_place_stop : Has P w K mg base "place_stop" 3 f_place_stop 6 := p_place_stop A_place_stop H_pairs_on H_is_pair Z_enumerate
  have H_need_let_turns : Has P w K mg base "need_let_turns" 3 f_need_let_turns 7 := p_need_let_turns A_need_let_turns H_place_stop
  have H_need_taken : Has P w K mg base "need_taken" 3 f_need_taken 8 := p_need_taken A_need_taken H_need_floor H_need_pair H_need_turns H_need_let_turns
  have H_pair_behind : Has P w K mg base "pair_behind" 3 f_pair_behind 9 := p_pair_behind A_pair_behind H_need_taken H_pairs_on
  have H_turns_of : Has P w K mg base "turns_of" 2 f_turns_of 1 := p_turns_of A_turns_of 
  have H_cells_of : Has P w K mg base "cells_of" 2 f_cells_of 5 := p_cells_of A_cells_of H_pairs_on Z_zip
  have H_do_meet : Has P w K mg base "do_meet" 2 f_do_meet 1 := p_do_meet A_do_meet 
  have H_waits : Has P w K mg base "waits" 2 f_waits 6 := p_waits A_waits H_cells_of H_do_meet Z_max Z_enumerate
  have H_may_go : Has P w K mg base "may_go" 3 f_may_go 1 := p_may_go A_may_go Z_len
  have H_least_order : Has P w K mg base "least_order" 2 f_least_order 7 := p_least_order A_least_order H_waits H_turns_of H_may_go Z_len Z_tuple
  have H_least_turns : Has P w K mg base "least_turns" 3 f_least_turns 9 := p_least_turns A_least_turns H_need_taken H_least_order
  have H_how_many : Has P w K mg base "how_many" 3 f_how_many 9 := p_how_many A_how_many H_need_taken H_waits H_may_go Z_range Z_len
  have H__law_cell : Has P w K mg base "_law_cell" 2 f__law_cell 1 := p__law_cell A__law_cell Z_len
  have H__law_pen : Has P w K mg base "_law_pen" 1 f__law_pen 1 := p__law_pen A__law_pen Z_max
  have H__law_draw : Has P w K mg base "_law_draw" 2 f__law_draw 1 := p__law_draw A__law_draw 
  have H__law_pick : Has P w K mg base "_law_pick" 2 f__law_pick 2 := p__law_pick A__law_pick H__law_draw Z_len
  have H__law_beside : Has P w K mg base "_law_beside" 2 f__law_beside 1 := p__law_beside A__law_beside 
  have H__law_others : Has P w K mg base "_law_others" 1 f__law_others 1 := p__law_others A__law_others Z_range
  have H__law_floor : Has P w K mg base "_law_floor" 3 f__law_floor 3 := p__law_floor A__law_floor H__law_draw H__law_others H__law_beside H__law_pick Z_range Z_tuple Z_sorted
  have H__law_rolled : Has P w K mg base "_law_rolled" 2 f__law_rolled 1 := p__law_rolled A__law_rolled 
  have H__law_lying : Has P w K mg base "_law_lying" 1 f__law_lying 2 := p__law_lying A__law_lying H__law_draw H__law_rolled Z_range
  have H__law_pair : Has P w K mg base "_law_pair" 2 f__law_pair 3 := p__law_pair A__law_pair H__law_draw H__law_lying Z_len
  have H__law_on : Has P w K mg base "_law_on" 2 f__law_on 2 := p__law_on A__law_on H__law_beside
  have H__law_is_let : Has P w K mg base "_law_is_let" 3 f__law_is_let 3 := p__law_is_let A__law_is_let H__law_on
  have H__law_all_turns : Has P w K mg base "_law_all_turns" 0 f__law_all_turns 1 := p__law_all_turns A__law_all_turns 
  have H__law_turns : Has P w K mg base "_law_turns" 4 f__law_turns 4 := p__law_turns A__law_turns H__law_all_turns H__law_is_let H__law_pick H__law_on Z_range
  have H__law_named_otherwise : Has P w K mg base "_law_named_otherwise" 1 f__law_named_otherwise 1 := p__law_named_otherwise A__law_named_otherwise Z_tuple
  have H__law_firsts : Has P w K mg base "_law_firsts" 3 f__law_firsts 10 := p__law_firsts A__law_firsts H__law_named_otherwise H_least_turns
  have H__law_sum_right : Has P w K mg base "_law_sum_right" 3 f__law_sum_right 11 := p__law_sum_right A__law_sum_right H_how_many H__law_firsts H_pair_behind Z_range
  have H__law_apart_right : Has P w K mg base "_law_apart_right" 1 f__law_apart_right 10 := p__law_apart_right A__law_apart_right H__law_lying H__law_draw H__law_turns H_least_turns H_how_many Z_tuple Z_sorted Z_range Z_len
  exact q_law (fun_mk (st := s_law) l49 c49 k49) H__law_pen H__law_cell H__law_floor H__law_pair H__law_turns H__law_draw H__law_apart_right H__law_sum_right Z_range Z_max Z_min Z_len
end
end L66
open PySem PySem.W PyProof.Rows
theorem main66 (hmath : ∀ ns : List Int, ns.length ≤ 63 → ∃ as, L66.f_law [.pd (.list (ns.map .int))] = some (.pd (.bool true), as)) : PySem.Challenge.rw_tumblemarks_k66_whole_how_many_add.Holds := by
  refine hd66 ?_
  k_fill
  refine L2.walk_of (l := PySem.Challenge.rw_tumblemarks_k66_whole_how_many_add) (n := 63) (k := 12) (x := "_law_script") (CX := fun _ => L2.CX0) (sp := fun w => T3.spF _ L66.f_law 1) rfl (by decide) rfl ⟨rfl, by decide, by decide⟩ (fun w h Y => PySem.W.kIn_of Y) ?F (fun _ H a ns hl O hS => T3.law_sp (hmath ns hl) O hS) (fun _ _ _ _ _ h => h)
  case F =>
    intro w mg fa h KX G hmg
    refine' L66.fin KX G hmg ?a0 ?l0 ?c0 ?k0 ?a1 ?l1 ?c1 ?k1 ?a2 ?l2 ?c2 ?k2 ?a3 ?l3 ?c3 ?k3 ?a4 ?l4 ?c4 ?k4 ?a5 ?l5 ?c5 ?k5 ?a6 ?l6 ?c6 ?k6 ?a7 ?l7 ?c7 ?k7 ?a8 ?l8 ?c8 ?k8 ?a9 ?l9 ?c9 ?k9 ?a10 ?l10 ?c10 ?k10 ?a11 ?l11 ?c11 ?k11 ?a12 ?l12 ?c12 ?k12 ?a13 ?l13 ?c13 ?k13 ?a14 ?l14 ?c14 ?k14 ?a15 ?l15 ?c15 ?k15 ?a16 ?l16 ?c16 ?k16 ?a17 ?l17 ?c17 ?k17 ?a18 ?l18 ?c18 ?k18 ?a19 ?l19 ?c19 ?k19 ?a20 ?l20 ?c20 ?k20 ?a21 ?l21 ?c21 ?k21 ?a22 ?l22 ?c22 ?k22 ?a23 ?l23 ?c23 ?k23 ?a24 ?l24 ?c24 ?k24 ?a25 ?l25 ?c25 ?k25 ?a26 ?l26 ?c26 ?k26 ?a27 ?l27 ?c27 ?k27 ?a28 ?l28 ?c28 ?k28 ?a29 ?l29 ?c29 ?k29 ?a30 ?l30 ?c30 ?k30 ?a31 ?l31 ?c31 ?k31 ?a32 ?l32 ?c32 ?k32 ?a33 ?l33 ?c33 ?k33 ?a34 ?l34 ?c34 ?k34 ?a35 ?l35 ?c35 ?k35 ?a36 ?l36 ?c36 ?k36 ?a37 ?l37 ?c37 ?k37 ?a38 ?l38 ?c38 ?k38 ?a39 ?l39 ?c39 ?k39 ?a40 ?l40 ?c40 ?k40 ?a41 ?l41 ?c41 ?k41 ?a42 ?l42 ?c42 ?k42 ?a43 ?l43 ?c43 ?k43 ?a44 ?l44 ?c44 ?k44 ?a45 ?l45 ?c45 ?k45 ?a46 ?l46 ?c46 ?k46 ?a47 ?l47 ?c47 ?k47 ?a48 ?l48 ?c48 ?k48 ?a49 ?l49 ?c49 ?k49 ?z_isinstance ?z_bool ?z_int ?z_len ?z_tuple ?z_all ?z_zip ?z_str ?z_list ?z_enumerate ?z_max ?z_range ?z_sorted ?z_min ?ca_LAST_LINE ?cb_LAST_LINE ?ca_MOST_CELLS ?cb_MOST_CELLS ?ca_LYINGS ?cb_LYINGS ?ca_OPPOSITE_SUM ?cb_OPPOSITE_SUM ?ca_LETTERS ?cb_LETTERS ?ca_LAST_CUBE ?cb_LAST_CUBE ?ca_MOST_TURNS ?cb_MOST_TURNS ?da_STEPS ?dl_STEPS ?dk_STEPS ?db_STEPS
    case a0 => k_is
    case l0 => k_is
    case c0 => k_is
    case k0 => k_is
    case a1 => k_is
    case l1 => k_is
    case c1 => k_is
    case k1 => k_is
    case a2 => k_is
    case l2 => k_is
    case c2 => k_is
    case k2 => k_is
    case a3 => k_is
    case l3 => k_is
    case c3 => k_is
    case k3 => k_is
    case a4 => k_is
    case l4 => k_is
    case c4 => k_is
    case k4 => k_is
    case a5 => k_is
    case l5 => k_is
    case c5 => k_is
    case k5 => k_is
    case a6 => k_is
    case l6 => k_is
    case c6 => k_is
    case k6 => k_is
    case a7 => k_is
    case l7 => k_is
    case c7 => k_is
    case k7 => k_is
    case a8 => k_is
    case l8 => k_is
    case c8 => k_is
    case k8 => k_is
    case a9 => k_is
    case l9 => k_is
    case c9 => k_is
    case k9 => k_is
    case a10 => k_is
    case l10 => k_is
    case c10 => k_is
    case k10 => k_is
    case a11 => k_is
    case l11 => k_is
    case c11 => k_is
    case k11 => k_is
    case a12 => k_is
    case l12 => k_is
    case c12 => k_is
    case k12 => k_is
    case a13 => k_is
    case l13 => k_is
    case c13 => k_is
    case k13 => k_is
    case a14 => k_is
    case l14 => k_is
    case c14 => k_is
    case k14 => k_is
    case a15 => k_is
    case l15 => k_is
    case c15 => k_is
    case k15 => k_is
    case a16 => k_is
    case l16 => k_is
    case c16 => k_is
    case k16 => k_is
    case a17 => k_is
    case l17 => k_is
    case c17 => k_is
    case k17 => k_is
    case a18 => k_is
    case l18 => k_is
    case c18 => k_is
    case k18 => k_is
    case a19 => k_is
    case l19 => k_is
    case c19 => k_is
    case k19 => k_is
    case a20 => k_is
    case l20 => k_is
    case c20 => k_is
    case k20 => k_is
    case a21 => k_is
    case l21 => k_is
    case c21 => k_is
    case k21 => k_is
    case a22 => k_is
    case l22 => k_is
    case c22 => k_is
    case k22 => k_is
    case a23 => k_is
    case l23 => k_is
    case c23 => k_is
    case k23 => k_is
    case a24 => k_is
    case l24 => k_is
    case c24 => k_is
    case k24 => k_is
    case a25 => k_is
    case l25 => k_is
    case c25 => k_is
    case k25 => k_is
    case a26 => k_is
    case l26 => k_is
    case c26 => k_is
    case k26 => k_is
    case a27 => k_is
    case l27 => k_is
    case c27 => k_is
    case k27 => k_is
    case a28 => k_is
    case l28 => k_is
    case c28 => k_is
    case k28 => k_is
    case a29 => k_is
    case l29 => k_is
    case c29 => k_is
    case k29 => k_is
    case a30 => k_is
    case l30 => k_is
    case c30 => k_is
    case k30 => k_is
    case a31 => k_is
    case l31 => k_is
    case c31 => k_is
    case k31 => k_is
    case a32 => k_is
    case l32 => k_is
    case c32 => k_is
    case k32 => k_is
    case a33 => k_is
    case l33 => k_is
    case c33 => k_is
    case k33 => k_is
    case a34 => k_is
    case l34 => k_is
    case c34 => k_is
    case k34 => k_is
    case a35 => k_is
    case l35 => k_is
    case c35 => k_is
    case k35 => k_is
    case a36 => k_is
    case l36 => k_is
    case c36 => k_is
    case k36 => k_is
    case a37 => k_is
    case l37 => k_is
    case c37 => k_is
    case k37 => k_is
    case a38 => k_is
    case l38 => k_is
    case c38 => k_is
    case k38 => k_is
    case a39 => k_is
    case l39 => k_is
    case c39 => k_is
    case k39 => k_is
    case a40 => k_is
    case l40 => k_is
    case c40 => k_is
    case k40 => k_is
    case a41 => k_is
    case l41 => k_is
    case c41 => k_is
    case k41 => k_is
    case a42 => k_is
    case l42 => k_is
    case c42 => k_is
    case k42 => k_is
    case a43 => k_is
    case l43 => k_is
    case c43 => k_is
    case k43 => k_is
    case a44 => k_is
    case l44 => k_is
    case c44 => k_is
    case k44 => k_is
    case a45 => k_is
    case l45 => k_is
    case c45 => k_is
    case k45 => k_is
    case a46 => k_is
    case l46 => k_is
    case c46 => k_is
    case k46 => k_is
    case a47 => k_is
    case l47 => k_is
    case c47 => k_is
    case k47 => k_is
    case a48 => k_is
    case l48 => k_is
    case c48 => k_is
    case k48 => k_is
    case a49 => k_is
    case l49 => k_is
    case c49 => k_is
    case k49 => k_is
    case z_isinstance => k_is
    case z_bool => k_is
    case z_int => k_is
    case z_len => k_is
    case z_tuple => k_is
    case z_all => k_is
    case z_zip => k_is
    case z_str => k_is
    case z_list => k_is
    case z_enumerate => k_is
    case z_max => k_is
    case z_range => k_is
    case z_sorted => k_is
    case z_min => k_is
    case ca_LAST_LINE => k_is
    case cb_LAST_LINE => first | k_is | (decide +kernel) | rfl
    case ca_MOST_CELLS => k_is
    case cb_MOST_CELLS => first | k_is | (decide +kernel) | rfl
    case ca_LYINGS => k_is
    case cb_LYINGS => first | k_is | (decide +kernel) | rfl
    case ca_OPPOSITE_SUM => k_is
    case cb_OPPOSITE_SUM => first | k_is | (decide +kernel) | rfl
    case ca_LETTERS => k_is
    case cb_LETTERS => first | k_is | (decide +kernel) | rfl
    case ca_LAST_CUBE => k_is
    case cb_LAST_CUBE => first | k_is | (decide +kernel) | rfl
    case ca_MOST_TURNS => k_is
    case cb_MOST_TURNS => first | k_is | (decide +kernel) | rfl
    case da_STEPS => k_is
    case dl_STEPS => k_is
    case dk_STEPS => k_keys
    case db_STEPS => first | k_is | (decide +kernel) | rfl

end
theorem PySem.Challenge.cw_tumblemarks_k66_whole_how_many_add_holds : PySem.Challenge.rw_tumblemarks_k66_whole_how_many_add.Holds := by
  exact main66 L66.hmath
